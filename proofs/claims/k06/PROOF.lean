import PyProof.Rows.All
import Wide.All
import OpenK.AllK
import Wide.FinOn
import Lean
import PyProof.EqAt
import PyProof.EqKinds
import PyProof.TupleCall
import PySem.Challenge.RW_evenring_k06_written
-- CHANGE: your row's module here, as the last of these rows
set_option Elab.async false
set_option linter.all false
set_option maxRecDepth 100000

namespace L2
open PySem PySem.Spec PyProof.Rows

/-- a key: an int or a str -/
abbrev Key := Sum Int Str
def keyIs : Key → Value → Bool
  | .inl k, v => Value.isInt k v
  | .inr x, v => Value.isStrOf x v
def keyH (w : World) : Key → Int
  | .inl k => hashInt k
  | .inr x => hashStr w x
theorem keyIs_shape : ∀ {k : Key} {v : Value}, keyIs k v = true → (∃ i t, k = Sum.inl i ∧ v = Value.int i t) ∨ (∃ x t, k = Sum.inr x ∧ v = Value.str x t)
  | .inl i, v, h => by
    obtain ⟨t, e⟩ := Value.isInt_shape (k := i) (v := v) h
    exact .inl ⟨i, t, rfl, e⟩
  | .inr x, v, h => by
    obtain ⟨t, e⟩ := Value.isStrOf_shape (x := x) (v := v) h
    exact .inr ⟨x, t, rfl, e⟩
theorem key_ll (a b : Int) : decide ((Sum.inl a : Key) = Sum.inl b) = (a == b) := by
  by_cases e : a = b
  · subst e; simp
  · have h : ¬ (Sum.inl a : Key) = Sum.inl b := fun q => e (Sum.inl.inj q)
    rw [decide_eq_false h]
    exact (beq_eq_false_iff_ne.mpr e).symm
theorem key_rr (a b : Str) : decide ((Sum.inr a : Key) = Sum.inr b) = decide (a = b) := by
  by_cases e : a = b
  · subst e; simp
  · have h : ¬ (Sum.inr a : Key) = Sum.inr b := fun q => e (Sum.inr.inj q)
    rw [decide_eq_false h, decide_eq_false e]
theorem key_lr (a : Int) (b : Str) : decide ((Sum.inl a : Key) = Sum.inr b) = false := decide_eq_false (fun q => nomatch q)
theorem key_rl (a : Str) (b : Int) : decide ((Sum.inr a : Key) = Sum.inl b) = false := decide_eq_false (fun q => nomatch q)

def mixKind (prog : Program) (w : World) : PySem.KeyKind prog w Key where
  is := keyIs
  hash := keyH w
  inj := fun v a b ha hb => by
    rcases keyIs_shape ha with ⟨i, t, rfl, rfl⟩ | ⟨x, t, rfl, rfl⟩
    · rcases keyIs_shape hb with ⟨j, u, rfl, e⟩ | ⟨y, u, rfl, e⟩
      · injection e with e1 _; rw [e1]
      · exact nomatch e
    · rcases keyIs_shape hb with ⟨j, u, rfl, e⟩ | ⟨y, u, rfl, e⟩
      · exact nomatch e
      · injection e with e1 _; rw [e1]
  byValue := fun k v h => by
    rcases keyIs_shape h with ⟨i, t, rfl, rfl⟩ | ⟨x, t, rfl, rfl⟩ <;> rfl
  pyHash := fun hv h => by
    rcases keyIs_shape hv with ⟨i, t, rfl, rfl⟩ | ⟨x, t, rfl, rfl⟩
    · exact wpAny_pyHash_int h
    · exact wpAny_pyHash_str h
  eqBool := fun hu hv h => by
    rcases keyIs_shape hu with ⟨i, t, rfl, rfl⟩ | ⟨x, t, rfl, rfl⟩
    · rcases keyIs_shape hv with ⟨j, u, rfl, rfl⟩ | ⟨y, u, rfl, rfl⟩
      · rw [key_ll] at h; exact wpAny_eqBool_int h
      · rw [key_lr] at h; exact SeqAt.EqAt.int_str i t y u _ _ _ _ h
    · rcases keyIs_shape hv with ⟨j, u, rfl, rfl⟩ | ⟨y, u, rfl, rfl⟩
      · rw [key_rl] at h; exact SeqAt.EqAt.str_int x t j u _ _ _ _ h
      · rw [key_rr] at h; exact wpAny_eqBool_str h
  «strs» := fun k x t v h => by
    rcases keyIs_shape h with ⟨i, u, rfl, e⟩ | ⟨y, u, rfl, e⟩
    · exact nomatch e
    · injection e with e1 _
      subst e1
      cases v <;> rfl

end L2

namespace L2
open PySem PySem.Spec PyProof.Rows

/-- a value, without the heap -/
inductive V where
  | non | bl (b : Bool) | int (i : Int) | str (x : Str) | byt (b : Array UInt8) | flt (b : UInt64) | ref (a : Addr) | ty (n : String)
  deriving DecidableEq

def RelV : V → Value → Prop
  | .non, u => u = Value.none
  | .bl b, u => u = Value.bool b
  | .int i, u => ∃ t, u = Value.int i t
  | .str x, u => ∃ t, u = Value.str x t
  | .byt b, u => ∃ t, u = Value.bytes b t
  | .flt b, u => ∃ t, u = Value.float b t
  | .ref a, u => u = Value.ref a
  | .ty n, u => u = Value.type n

abbrev Vals : List V → List Value → Prop := Paired RelV
theorem Vals.length {xs : List V} {us : List Value} (r : Vals xs us) : xs.length = us.length := Paired.length r
theorem Vals.get : ∀ {xs : List V} {us : List Value} {i : Nat} {x : V}, Vals xs us → xs[i]? = some x → ∃ u, us[i]? = some u ∧ RelV x u
  | _, _, _, _, .nil, e => by simp at e
  | _, _, 0, _, .cons r _, e => by simp at e; subst e; exact ⟨_, rfl, r⟩
  | _, _, i + 1, x, .cons _ t, e => by
    obtain ⟨u, h1, h2⟩ := Vals.get (i := i) (x := x) t (by simpa using e)
    exact ⟨u, by simpa using h1, h2⟩
theorem Vals.set {x : V} {u : Value} (r : RelV x u) : ∀ {xs : List V} {us : List Value} (i : Nat), Vals xs us → Vals (xs.set i x) (us.set i u)
  | _, _, _, .nil => .nil
  | _, _, 0, .cons _ t => .cons r t
  | _, _, i + 1, .cons q t => .cons q (Vals.set r i t)
theorem Vals.append : ∀ {xs ys : List V} {us ws : List Value}, Vals xs us → Vals ys ws → Vals (xs ++ ys) (us ++ ws)
  | _, _, _, _, .nil, s => s
  | _, _, _, _, .cons r t, s => .cons r (Vals.append t s)
theorem Vals.take : ∀ {xs : List V} {us : List Value} (n : Nat), Vals xs us → Vals (xs.take n) (us.take n)
  | _, _, 0, _ => .nil
  | _, _, _ + 1, .nil => .nil
  | _, _, n + 1, .cons r t => .cons r (Vals.take n t)
theorem Vals.drop : ∀ {xs : List V} {us : List Value} (n : Nat), Vals xs us → Vals (xs.drop n) (us.drop n)
  | _, _, 0, r => r
  | _, _, _ + 1, .nil => .nil
  | _, _, n + 1, .cons _ t => Vals.drop n t
theorem Vals.none_of : ∀ {xs : List V} {us : List Value} {i : Nat}, Vals xs us → xs[i]? = none → us[i]? = none := fun {xs us i} r e => by
  have h1 := r.length
  have h2 : xs.length ≤ i := List.getElem?_eq_none_iff.mp e
  exact List.getElem?_eq_none_iff.mpr (by omega)

def RelO : Option V → Option Value → Prop
  | some v, some u => RelV v u
  | none, none => True
  | _, _ => False
def KV {κ : Type} : List (κ × V) → List (κ × Value) → Prop := Paired fun (p : κ × V) (q : κ × Value) => p.1 = q.1 ∧ RelV p.2 q.2

/-- a key of a dict (00_mix): an int or a text -/
def kV : Key → V
  | .inl i => .int i
  | .inr x => .str x

/-- what stands at a tracked address -/
inductive HO where
  /-- a list -/
  | lst (xs : List V)
  /-- a tuple (never changes) -/
  | tup (xs : List V)
  /-- a dict whose keys are ints and texts; one whose keys are tuples of ints and texts (the empty one is both) -/
  | dK (kvs : List (Key × V)) | dT (kvs : List (List Key × V))
  /-- a set of ints: its members, its size -/
  | set (S : Int → Bool) (n : Nat)
  /-- an instance of the class at C, its dict at dx, its attributes -/
  | ins (C dx : Addr) (fs : List (Str × V))
  /-- the dict of the instance at x -/
  | own (x : Addr)
  /-- the dict of an exception -/
  | xd (fs : List (Str × V))
  /-- a bound method, f of x -/
  | met (f x : Addr)
  /-- a range object lo, lo + 1, .. below hi -/
  | rng (lo hi : Int)
  /-- a thing that is known to the object (the script; a dict while a loop walks it): read, never written while it is so -/
  | frz (o : Obj) (u : HO)
  /-- a code object's table -/
  | tbl (ps : Array Value)
  /-- any other thing, by what is true of its one object (a def of one's own: SetO a S n := HO.ext fun h => ..) -/
  | ext (φ : Heap → Prop)

abbrev Hp := Addr → Option HO
def upd (H : Hp) (a : Addr) (o : HO) : Hp := fun b => if b = a then some o else H b
theorem upd_same {H : Hp} {a : Addr} {o : HO} : upd H a o a = some o := by unfold upd; rw [if_pos rfl]
theorem upd_ne {H : Hp} {a b : Addr} {o : HO} (h : b ≠ a) : upd H a o b = H b := by unfold upd; rw [if_neg h]
theorem ne_of_none {H : Hp} {a b : Addr} {o : HO} (h : H a = some o) (h' : H b = none) : a ≠ b := by
  intro e; subst e; rw [h] at h'; cases h'

section
variable (P : Program) (w : World)
def ObjOk (H : Hp) (h : Heap) (a : Addr) : HO → Prop
  | .lst xs => xs.length ≤ sizeLine ∧ ∃ (its : List Value) (n : Nat), Vals xs its ∧ h.get? a = some { cls := .type "list", data := .seq its.toArray n }
  | .tup xs => xs.length ≤ sizeLine ∧ ∃ its : List Value, Vals xs its ∧ IsTup h a its.toArray
  | .dK kvs => kvs.length ≤ sizeLine ∧ (a == sysModules) = false ∧ ∃ vs, KV kvs vs ∧ h.DictOf (mixKind P w) a vs
  | .dT kvs => kvs.length ≤ sizeLine ∧ (a == sysModules) = false ∧ ∃ xs : List (List Key × Addr × Value),
      Paired (fun (p : List Key × V) (q : List Key × Addr × Value) => p.1 = q.1 ∧ H q.2.1 = some (.tup (p.1.map kV)) ∧ RelV p.2 q.2.2) kvs xs ∧
      ∃ o es ep, h.get? a = some o ∧ o.ExactDict ∧ o.data = .dict es ep ∧ es.toList = xs.map (entryOfKey (tupleKind (mixKind P w))) ∧ (xs.map (·.1)).Nodup
  | .set S n => h.SetOf (intKind P w) a S n
  | .ins C dx fs => H dx = some (.own a) ∧ fs.length ≤ 1000 ∧ dx ≠ a ∧ h.get? a = some (PySem.W.instObj C dx) ∧
      ∃ mA, h.Ns1 dx mA ∧ (∀ f, RelO (fs.lookup f) (mA f)) ∧ PySem.Within mA (fs.map (·.1))
  | .own _ => ∃ o, h.get? a = some o
  | .xd fs => ∃ mA, h.Ns1 a mA ∧ ∀ f, RelO (fs.lookup f) (mA f)
  | .rng lo hi => ∃ t u v, h.get? a = some { cls := .type "range", data := .fields #[.int lo t, .int hi u, .int 1 v] }
  | .frz o u => h.get? a = some o ∧ ObjOk H h a u
  | .tbl ps => h.get? a = some { cls := .none, data := .fields ps }
  | .met f x => h.get? a = some (PySem.W.methodObj (.ref f) (.ref x))
  | .ext φ => φ h ∧ (∃ o, h.get? a = some o) ∧ ∀ h1 h2 : Heap, φ h1 → (∀ o, h1.get? a = some o → h2.get? a = some o) → φ h2
/-- the abstract heap is held -/
def HOk (H : Hp) (h : Heap) : Prop := ∀ a o, H a = some o → ObjOk P w H h a o
end

section
variable {P : Program} {w : World} {H H' : Hp} {h h' : Heap} {a : Addr} {o : HO}
theorem ObjOk.lt (x : ObjOk P w H h a o) : a < h.objs.size := by
  cases o with
  | lst xs => obtain ⟨_, _, _, _, e⟩ := x; exact Heap.lt_size e
  | tup xs => obtain ⟨_, _, _, p⟩ := x; exact p.lt
  | dK kvs => obtain ⟨_, _, _, _, o, _, _, e, _⟩ := x; exact Heap.lt_size e
  | dT kvs => obtain ⟨_, _, _, _, o, _, _, e, _⟩ := x; exact Heap.lt_size e
  | set S n => obtain ⟨o, _, _, _, e, _⟩ := x; exact Heap.lt_size e
  | ins C dx fs => obtain ⟨_, _, _, e, _⟩ := x; exact Heap.lt_size e
  | own y => obtain ⟨_, e⟩ := x; exact Heap.lt_size e
  | xd fs => obtain ⟨_, ⟨_, _, _, e, _⟩, _⟩ := x; exact Heap.lt_size e
  | rng lo hi => obtain ⟨_, _, _, e⟩ := x; exact Heap.lt_size e
  | frz ob u => obtain ⟨e, _⟩ := x; exact Heap.lt_size e
  | tbl ps => exact Heap.lt_size (show h.get? a = some _ from x)
  | met f y => exact Heap.lt_size (show h.get? a = some _ from x)
  | ext φ => obtain ⟨_, ⟨_, e⟩, _⟩ := x; exact Heap.lt_size e
theorem Paired.mapP {α β : Type} {F G : α → β → Prop} : ∀ {l₁ : List α} {l₂ : List β}, Paired F l₁ l₂ → (∀ a b, F a b → G a b) → Paired G l₁ l₂
  | _, _, .nil, _ => .nil
  | _, _, .cons r t, f => .cons (f _ _ r) (Paired.mapP t f)
/-- what an object's description leans on: its own object, its own dict, the tuples -/
theorem ObjOk.stay (x : ObjOk P w H h a o) (k : ∀ b u, (b = a ∨ H b = some (.own a)) → h.get? b = some u → h'.get? b = some u)
    (ho : ∀ b, H b = some (.own a) → H' b = some (.own a)) (ht : ∀ b xs, H b = some (.tup xs) → H' b = some (.tup xs)) : ObjOk P w H' h' a o := by
  induction o with
  | lst xs => obtain ⟨z, its, n, r, e⟩ := x; exact ⟨z, its, n, r, k _ _ (.inl rfl) e⟩
  | tup xs => obtain ⟨z, its, r, ob, e, c⟩ := x; exact ⟨z, its, r, ob, k _ _ (.inl rfl) e, c⟩
  | dK kvs => obtain ⟨z, y, vs, r, ob, es, ep, e, c⟩ := x; exact ⟨z, y, vs, r, ob, es, ep, k _ _ (.inl rfl) e, c⟩
  | dT kvs =>
    obtain ⟨z, y, xs, r, ob, es, ep, e, c⟩ := x
    exact ⟨z, y, xs, Paired.mapP r fun p q z => ⟨z.1, ht _ _ z.2.1, z.2.2⟩, ob, es, ep, k _ _ (.inl rfl) e, c⟩
  | set S n => obtain ⟨ob, es, ep, t, e, c⟩ := x; exact ⟨ob, es, ep, t, k _ _ (.inl rfl) e, c⟩
  | ins C dx fs =>
    obtain ⟨d, z, ne, e, mA, ⟨od, es, ep, e2, c⟩, r⟩ := x
    exact ⟨ho _ d, z, ne, k _ _ (.inl rfl) e, mA, ⟨od, es, ep, k _ _ (.inr d) e2, c⟩, r⟩
  | own y => obtain ⟨ob, e⟩ := x; exact ⟨ob, k _ _ (.inl rfl) e⟩
  | xd fs => obtain ⟨mA, ⟨od, es, ep, e, c⟩, r⟩ := x; exact ⟨mA, ⟨od, es, ep, k _ _ (.inl rfl) e, c⟩, r⟩
  | rng lo hi => obtain ⟨t, u, v, e⟩ := x; exact ⟨t, u, v, k _ _ (.inl rfl) e⟩
  | frz ob u ih => obtain ⟨e, q⟩ := x; exact ⟨k _ _ (.inl rfl) e, ih q⟩
  | tbl ps =>
    have e : h.get? a = some { cls := .none, data := .fields ps } := x
    show h'.get? a = some { cls := .none, data := .fields ps }
    exact k a _ (.inl rfl) e
  | met f y =>
    have e : h.get? a = some (PySem.W.methodObj (.ref f) (.ref y)) := x
    show h'.get? a = some (PySem.W.methodObj (.ref f) (.ref y))
    exact k a _ (.inl rfl) e
  | ext φ => obtain ⟨p, ⟨o, e⟩, st⟩ := x; exact ⟨st _ _ p fun o q => k _ _ (.inl rfl) q, ⟨o, k _ _ (.inl rfl) e⟩, st⟩
theorem HOk.lt (x : HOk P w H h) (e : H a = some o) : a < h.objs.size := (x a o e).lt
theorem HOk.fresh (x : HOk P w H h) (e : h.objs.size ≤ a) : H a = none := by
  cases q : H a with
  | none => rfl
  | some u => exact absurd (Nat.lt_of_lt_of_le (x.lt q) e) (Nat.lt_irrefl _)
/-- every object of the heap is kept -/
theorem HOk.kept (x : HOk P w H h) (k : ∀ b u, h.get? b = some u → h'.get? b = some u) : HOk P w H h' := fun a o e =>
  (x a o e).stay (fun b u _ q => k b u q) (fun _ q => q) fun _ _ q => q
/-- a new object is laid and tracked -/
theorem HOk.laid (x : HOk P w H h) (k : ∀ b u, h.get? b = some u → h'.get? b = some u) (hp : h.objs.size ≤ a) (new : ObjOk P w (upd H a o) h' a o) : HOk P w (upd H a o) h' := fun b u e => by
  have hn := x.fresh hp
  by_cases hb : b = a
  · subst hb; rw [upd_same] at e; cases e; exact new
  · rw [upd_ne hb] at e
    exact (x b u e).stay (fun c v _ q => k c v q) (fun c q => by rw [upd_ne (ne_of_none q hn)]; exact q) fun c xs q => by rw [upd_ne (ne_of_none q hn)]; exact q
end

/-- what may be read as u: it is u, or a known u -/
def Rd (H : Hp) (a : Addr) (u : HO) : Prop := H a = some u ∨ ∃ o, H a = some (.frz o u)
theorem Rd.of {H : Hp} {a : Addr} {u : HO} (h : H a = some u) : Rd H a u := .inl h
theorem Rd.ok {P : Program} {w : World} {H : Hp} {h : Heap} {a : Addr} {u : HO} (r : Rd H a u) (x : HOk P w H h) : ObjOk P w H h a u := by
  rcases r with r | ⟨o, r⟩
  · exact x a u r
  · obtain ⟨_, q⟩ := x a _ r
    exact q
/-- what may be written -/
def Mut : Option HO → Prop
  | some (.lst _) => True
  | some (.dK _) => True
  | some (.dT _) => True
  | some (.set _ _) => True
  | some (.ins _ _ _) => True
  | some (.ext _) => True
  | _ => False
section
variable {P : Program} {w : World} {H : Hp} {h h' : Heap} {x e : Addr} {o' : HO}
/-- the object at e is changed: x itself, or the dict of the instance x -/
theorem HOk.write (ok : HOk P w H h) (mu : Mut (H x)) (he : e = x ∨ H e = some (.own x)) (k : ∀ b u, b ≠ e → h.get? b = some u → h'.get? b = some u) (heo : ∃ u, h'.get? e = some u)
    (new : ObjOk P w (upd H x o') h' x o') : HOk P w (upd H x o') h' := fun b u q => by
  have nown : ∀ c y, H c = some (.own y) → c ≠ x := fun c y r z => by subst z; rw [r] at mu; exact mu
  have ntup : ∀ c xs, H c = some (.tup xs) → c ≠ x := fun c xs r z => by subst z; rw [r] at mu; exact mu
  by_cases hb : b = x
  · subst hb; rw [upd_same] at q; cases q; exact new
  · rw [upd_ne hb] at q
    by_cases hbe : b = e
    · have q' : H b = some (.own x) := by
        rcases he with z | z
        · exact absurd (hbe.trans z) hb
        · rw [hbe]; exact z
      rw [q] at q'; cases q'
      obtain ⟨v, hv⟩ := heo
      exact ⟨v, by rw [hbe]; exact hv⟩
    · refine (ok b u q).stay (fun c v hc r => k c v ?_ r) (fun c r => by rw [upd_ne (nown c b r)]; exact r) fun c xs r => by rw [upd_ne (ntup c xs r)]; exact r
      rcases hc with rfl | hc
      · exact hbe
      · rintro rfl
        rcases he with z | z
        · exact nown c b hc z
        · rw [hc] at z; cases z; exact hb rfl
end


structure Un (fs ex : List Addr) (H H' : Hp) (h h' : Heap) : Prop where
  keep : ∀ b o, h.get? b = some o → H b = none → b ∉ fs → b ∉ ex → h'.get? b = some o
  slot : ∀ b o, h.get? b = some o → H b = none → b ∈ fs → b ∉ ex → ∃ sl, h'.get? b = some { o with slots := sl }
  free : ∀ b o, h.get? b = some o → H b = none → b ∉ ex → H' b = none
  there : ∀ b o, h.get? b = some o → b ∉ ex → ∃ o', h'.get? b = some o'
  tups : ∀ b xs, H b = some (.tup xs) → H' b = some (.tup xs)
  frzs : ∀ b o u, H b = some (.frz o u) → H' b = some (.frz o u)
  tbls : ∀ b ps, H b = some (.tbl ps) → ∃ more, H' b = some (.tbl (ps ++ more))
section
variable {fs fs' ex ex' : List Addr} {H H1 H2 : Hp} {h h1 h2 h' : Heap} {a x e : Addr} {o : HO}
theorem Un.any (u : Un fs ex H H1 h h1) {b : Addr} {ob : Obj} (q : h.get? b = some ob) (n : H b = none) (hx : b ∉ ex) : ∃ sl, h1.get? b = some { ob with slots := sl } := by
  by_cases hb : b ∈ fs
  · exact u.slot b ob q n hb hx
  · exact ⟨ob.slots, u.keep b ob q n hb hx⟩
theorem Un.trans (a : Un fs ex H H1 h h1) (b : Un fs ex H1 H2 h1 h2) : Un fs ex H H2 h h2 where
  keep := fun c ob q n hc hx => b.keep c ob (a.keep c ob q n hc hx) (a.free c ob q n hx) hc hx
  slot := fun c ob q n hc hx => by
    obtain ⟨sl, e1⟩ := a.slot c ob q n hc hx
    obtain ⟨sl', e2⟩ := b.slot c _ e1 (a.free c ob q n hx) hc hx
    exact ⟨sl', e2⟩
  free := fun c ob q n hx => by
    obtain ⟨o', e1⟩ := a.there c ob q hx
    exact b.free c o' e1 (a.free c ob q n hx) hx
  there := fun c ob q hx => by
    obtain ⟨o', e1⟩ := a.there c ob q hx
    exact b.there c o' e1 hx
  tups := fun c xs q => b.tups c xs (a.tups c xs q)
  frzs := fun c ob xs q => b.frzs c ob xs (a.frzs c ob xs q)
  tbls := fun c ps q => by
    obtain ⟨m1, e1⟩ := a.tbls c ps q
    obtain ⟨m2, e2⟩ := b.tbls c _ e1
    exact ⟨m1 ++ m2, by rw [e2, Array.append_assoc]⟩
theorem Un.kept (k : ∀ b u, h.get? b = some u → h'.get? b = some u) : Un fs ex H H h h' :=
  ⟨fun b ob q _ _ _ => k b ob q, fun b ob q _ _ _ => ⟨ob.slots, k b ob q⟩, fun _ _ _ n _ => n, fun b ob q _ => ⟨ob, k b ob q⟩, fun _ _ q => q, fun _ _ _ q => q, fun _ ps q => ⟨#[], by rw [q]; simp⟩⟩
theorem Un.refl : Un fs ex H H h h := Un.kept fun _ _ q => q
theorem Un.laid (k : ∀ b u, h.get? b = some u → h'.get? b = some u) (hp : h.objs.size ≤ a) (hn : H a = none) : Un fs ex H (upd H a o) h h' where
  keep := fun b u q _ _ _ => k b u q
  slot := fun b u q _ _ _ => ⟨u.slots, k b u q⟩
  free := fun b u q n _ => by rw [upd_ne (Nat.ne_of_lt (Nat.lt_of_lt_of_le (Heap.lt_size q) hp))]; exact n
  there := fun b u q _ => ⟨u, k b u q⟩
  tups := fun b xs q => by rw [upd_ne (ne_of_none q hn)]; exact q
  frzs := fun b u xs q => by rw [upd_ne (ne_of_none q hn)]; exact q
  tbls := fun b ps q => ⟨#[], by rw [upd_ne (ne_of_none q hn), q]; simp⟩
theorem Un.write (mu : Mut (H x)) (he : e = x ∨ H e = some (.own x)) (k : ∀ b u, b ≠ e → h.get? b = some u → h'.get? b = some u) (heo : ∃ u, h'.get? e = some u) : Un fs ex H (upd H x o) h h' := by
  have hx : ∀ b, H b = none → b ≠ x := fun b n z => by subst z; rw [n] at mu; exact mu
  have hb : ∀ b, H b = none → b ≠ e := fun b n z => by
    subst z
    rcases he with r | r
    · exact hx b n r
    · rw [n] at r; cases r
  have hm : ∀ b u, H b = some u → ¬ Mut (some u) → b ≠ x := fun b u q nm z => by subst z; rw [q] at mu; exact nm mu
  refine ⟨fun b u q n _ _ => k b u (hb b n) q, fun b u q n _ _ => ⟨u.slots, k b u (hb b n) q⟩, fun b u q n _ => by rw [upd_ne (hx b n)]; exact n, fun b u q _ => ?_,
    fun b xs q => by rw [upd_ne (hm b _ q fun z => z)]; exact q, fun b u xs q => by rw [upd_ne (hm b _ q fun z => z)]; exact q, fun b ps q => ⟨#[], by rw [upd_ne (hm b _ q fun z => z), q]; simp⟩⟩
  by_cases hbe : b = e
  · subst hbe; exact heo
  · exact ⟨u, k b u hbe q⟩
theorem Un.mono (u : Un fs ex H H1 h h1) (hs : ∀ b ∈ fs, b ∈ fs') (hx : ∀ b ∈ ex, b ∈ ex') : Un fs' ex' H H1 h h1 :=
  ⟨fun b ob q n hb he => u.keep b ob q n (fun z => hb (hs b z)) fun z => he (hx b z), fun _ _ q n _ he => u.any q n fun z => he (hx _ z), fun b ob q n he => u.free b ob q n fun z => he (hx b z), fun b ob q he => u.there b ob q fun z => he (hx b z), u.tups, u.frzs, u.tbls⟩
end


def trk (h : Heap) (H : Hp) : List Addr := (List.range h.objs.size).filter fun a => (H a).isSome
def hidT (h : Heap) (H : Hp) : Heap := PySem.W.hideAll h (trk h H)
theorem hidT_size (h : Heap) (H : Hp) : (hidT h H).objs.size = h.objs.size := PySem.W.hideAll_size _ _
theorem hidT_get {h : Heap} {H : Hp} {b : Addr} {o : Obj} (e : h.get? b = some o) (n : H b = none) : (hidT h H).get? b = some o :=
  PySem.W.hideAll_get _ e fun hm => by
    have q : (H b).isSome = true := (List.mem_filter.mp hm).2
    rw [n] at q; simp at q
theorem of_hidT {h : Heap} {H : Hp} {b : Addr} {o : Obj} (e : (hidT h H).get? b = some o) : h.get? b = some o ∧ H b = none := by
  have e' : h.get? b = some o := PySem.W.of_hideAll (trk h H) e
  refine ⟨e', ?_⟩
  cases q : H b with
  | none => rfl
  | some x =>
    have hm : b ∈ trk h H := List.mem_filter.mpr ⟨List.mem_range.mpr (Heap.lt_size e'), by simp [q]⟩
    have z : (hidT h H).get? b = none := PySem.W.hideAll_none (trk h H) hm
    rw [z] at e; cases e


def allNews (g h : Heap) (L : Addr) : List (Addr × Obj) := (List.range h.objs.size).filterMap fun a => if a = L ∨ (g.get? a).isSome = true then none else (h.get? a).map fun o => (a, o)
def rest (g h : Heap) (L d : Addr) : List (Addr × Obj) := (allNews g h L).filter fun p => decide (p.1 ≠ d)
end L2

namespace L2
open PySem PySem.Spec PyProof.Rows

/-- the module's facts, over the base: the heap at the law's entry without what is tracked there -/
structure Mod (K : PySem.W.Frag) (mg : Str → Option Value) (base : Heap) : Prop where
  kin : K.In base
  glob : base.Ns mainGlobals mg
  blt : ∃ mb, base.Ns builtinsNs mb ∧ ∀ x : Str, x ≠ "__name__" → mb x = bootBuiltins x
  nolimit : base.NoLimit

/-- the context: a def's body (or a comprehension's block) running. base: fixed through the whole law; s₀, H₀: the entry; outer: the frames whose slots others may change (a def's callers); stack: all frames that run;
   ex: iterators that were made ahead of the entry and are walked here (a comprehension's); fn: the names whose cells were made at the entry (a def: all; a comprehension's block: its own); calm: not within an except suite; pn: pins that every state bears; xe: what is wanted of an exception that leaves the code -/
structure Cx where
  prog : Program
  w : World
  K : PySem.W.Frag
  mg : Str → Option Value
  base : Heap
  A : Around
  N : List Str
  s₀ : Shared
  H₀ : Hp
  env : Env
  outer : List Env
  stack : List Env
  ex : List Addr
  fn : Str → Bool
  calm : Bool
  pn : List (Addr × Obj)
  xe : Value → Shared → Prop
/-- the callers' frames -/
def frs (l : List Env) : List Addr := l.filterMap (·.frame)
abbrev Cx.fs (X : Cx) : List Addr := frs X.outer

def Vis (sc : Scope) (x : Str) : Prop := sc.names.lookup x = some .local ∨ sc.names.lookup x = some .cell ∨ sc.names.lookup x = some .free
def Loc (sc : Scope) (x : Str) : Prop := sc.names.lookup x = some .local ∨ sc.names.lookup x = some .cell
def Look (env : Env) (h : Heap) (m : Str → Option Value) (x : Str) (u : Value) : Prop :=
  (env.kindOf x = some .local ∧ m x = some u) ∨ ((env.kindOf x = some .cell ∨ env.kindOf x = some .free) ∧ ∃ c, env.cells.lookup x = some c ∧ h.IsCell c (some u))

structure Cx.Ok (X : Cx) : Prop where
  mod : Mod X.K X.mg X.base
  kind : X.env.scope.kind = .function
  glob : X.env.globals = mainGlobals
  blt : X.env.builtins = builtinsNs
  above : X.s₀.heap.objs.size ≤ X.env.locals
  inj : ∀ x y c, X.env.cells.lookup x = some c → X.env.cells.lookup y = some c → x = y
  has : ∀ x, (X.env.kindOf x = some .cell ∨ X.env.kindOf x = some .free) → ∃ c, X.env.cells.lookup x = some c
  cab : ∀ x c, X.fn x = true → X.env.cells.lookup x = some c → X.s₀.heap.objs.size ≤ c
  hd : X.calm = true → X.A.handled = none
  frames : X.A.frames = some X.stack
  stk : X.stack = X.outer ∨ (X.stack = X.env :: X.outer ∧ X.env.frame = some X.env.locals)
  exf : ∀ b ∈ X.ex, b ≠ X.env.locals ∧ ∀ x c, X.env.cells.lookup x = some c → c ≠ b
  bs : ∀ b o, X.base.get? b = some o → X.s₀.heap.get? b = some o ∧ X.H₀ b = none
  bsz : X.base.objs.size ≤ X.s₀.heap.objs.size
  noex : ∀ b o, X.base.get? b = some o → b ∉ X.ex
  exfs : ∀ b ∈ X.ex, b ∉ X.fs
  funs : X.s₀.heap.FunFrames X.base X.outer
  frf : ∀ b ∈ X.fs, X.H₀ b = none

structure Inv (X : Cx) (pins : List (Addr × Obj)) (σ : List (Option V)) (H : Hp) (s : Shared) : Prop where
  ok : X.Ok
  os : s.os = X.s₀.os
  bare : AllBare s.gens
  base : Un X.fs X.ex X.H₀ H X.s₀.heap s.heap
  loc : ∃ m, s.heap.Ns X.env.locals m ∧ ∀ (i : Nat) (x : Str) (v : V), X.N[i]? = some x → σ[i]? = some (some v) → Vis X.env.scope x → ∃ u, RelV v u ∧ Look X.env s.heap m x u
  cell : ∀ x c, X.env.cells.lookup x = some c → ∃ v, s.heap.IsCell c v
  free : H X.env.locals = none
  freeC : ∀ x c, X.env.cells.lookup x = some c → H c = none
  pin : ∀ p ∈ X.pn ++ pins, s.heap.get? p.1 = some p.2 ∧ H p.1 = none ∧ p.1 ≠ X.env.locals ∧ p.1 ∉ X.fs ∧ ∀ v, p.2.data ≠ .cell v
  hok : HOk X.prog X.w H s.heap
  len : σ.length = X.N.length

section
variable {X : Cx} {pins : List (Addr × Obj)} {σ : List (Option V)} {H H' : Hp} {s : Shared} {h' : Heap}

theorem Cx.Ok.nofr (ok : X.Ok) {b : Addr} {o : Obj} (e : X.base.get? b = some o) : b ∉ X.fs := fun hb => by
  have := (ok.funs.mem hb).1
  rw [e] at this; cases this
theorem Inv.bs (I : Inv X pins σ H s) : ∀ b o, X.base.get? b = some o → s.heap.get? b = some o ∧ H b = none := fun b o e =>
  ⟨I.base.keep b o (I.ok.bs b o e).1 (I.ok.bs b o e).2 (I.ok.nofr e) (I.ok.noex b o e), I.base.free b o (I.ok.bs b o e).1 (I.ok.bs b o e).2 (I.ok.noex b o e)⟩
theorem Inv.bk (I : Inv X pins σ H s) : ∀ b o, X.base.get? b = some o → s.heap.get? b = some o := fun b o e => (I.bs b o e).1
theorem Inv.mod (I : Inv X pins σ H s) : Mod X.K X.mg X.base := I.ok.mod
theorem Inv.kIn (I : Inv X pins σ H s) : X.K.In s.heap := I.ok.mod.kin.keeps I.bk
theorem Inv.nolimit (I : Inv X pins σ H s) : s.heap.NoLimit := I.ok.mod.nolimit.keeps I.bk
/-- the frame over the base: for OpenK's rules (K.In X.base is I.mod.kin) -/
theorem Inv.fr (I : Inv X pins σ H s) : ∃ m, Fr X.base X.env.locals s.heap m :=
  let ⟨m, hn, _⟩ := I.loc
  ⟨m, hn, I.bk, Nat.le_trans I.ok.bsz I.ok.above⟩
theorem Inv.lt (I : Inv X pins σ H s) : X.env.locals < s.heap.objs.size := let ⟨_, hn, _⟩ := I.loc; hn.lt
theorem Inv.sz (I : Inv X pins σ H s) : X.s₀.heap.objs.size ≤ s.heap.objs.size := Nat.le_trans I.ok.above (Nat.le_of_lt I.lt)
theorem Inv.nofs (I : Inv X pins σ H s) {a : Addr} (h : s.heap.objs.size ≤ a) : a ∉ X.fs := fun hb => by
  obtain ⟨_, o, ho, _⟩ := I.ok.funs.mem hb
  exact absurd (Nat.lt_of_lt_of_le (Heap.lt_size ho) (Nat.le_trans I.sz h)) (Nat.lt_irrefl _)
theorem Inv.cne (I : Inv X pins σ H s) : ∀ x c, X.env.cells.lookup x = some c → c ≠ X.env.locals := fun x c e z => by
  obtain ⟨v, o, ho, hd⟩ := I.cell x c e
  obtain ⟨m, ⟨o', es, ep, ho', hd', _⟩, _⟩ := I.loc
  rw [z, ho'] at ho; cases ho; rw [hd'] at hd; cases hd
theorem Inv.funs (I : Inv X pins σ H s) : s.heap.FunFrames X.base X.outer := by
  have all : ∀ (l : List Env), (∀ b ∈ frs l, b ∈ X.fs) → X.s₀.heap.FunFrames X.base l → s.heap.FunFrames X.base l := by
    intro l
    induction l with
    | nil => intro _ _; trivial
    | cons env r ih =>
      intro hs hl
      obtain ⟨hk, ⟨L, o, hf, hn, ho, hd⟩, hr⟩ := hl
      have hL : L ∈ X.fs := hs L (by unfold frs; rw [List.filterMap_cons, hf]; exact List.mem_cons_self)
      obtain ⟨sl, e⟩ := I.base.slot L o ho (I.ok.frf L hL) hL fun z => I.ok.exfs L z hL
      exact ⟨hk, ⟨L, _, hf, hn, e, hd⟩, ih (fun b hb => hs b (by unfold frs; rw [List.filterMap_cons, hf]; exact List.mem_cons_of_mem _ hb)) hr⟩
  exact all X.outer (fun _ hb => hb) I.ok.funs

/-- the frames that run, for a call -/
theorem Inv.stack (I : Inv X pins σ H s) : s.heap.FunFrames X.base X.stack := by
  rcases I.ok.stk with e | ⟨e, hf⟩
  · rw [e]; exact I.funs
  · rw [e]
    obtain ⟨m, hn, _⟩ := I.loc
    refine .cons (by rw [I.ok.kind]; decide) hf hn ?_ I.funs
    exact Heap.get?_none_of_le (Nat.le_trans I.ok.bsz I.ok.above)
theorem Inv.stkSub (I : Inv X pins σ H s) : ∀ b ∈ frs X.stack, b ∈ X.env.locals :: X.fs := fun b hb => by
  rcases I.ok.stk with e | ⟨e, hf⟩
  · rw [e] at hb; exact List.mem_cons_of_mem _ hb
  · rw [e] at hb
    unfold frs at hb
    rw [List.filterMap_cons, hf] at hb
    exact hb
theorem Inv.stkFree (I : Inv X pins σ H s) : ∀ b ∈ frs X.stack, H b = none := fun b hb => by
  rcases List.mem_cons.mp (I.stkSub b hb) with e | hb
  · rw [e]; exact I.free
  · obtain ⟨_, o, ho, _⟩ := I.ok.funs.mem hb
    exact I.base.free b o ho (I.ok.frf b hb) fun z => I.ok.exfs b z hb

/-- THE STEP: the untracked objects but the frame and the records at ch are kept (the callers' frames up to slots), the frame's map is kept, the new abstract heap is held -/
theorem Inv.step {g' : Array GenState} {t' : Nat} {d' : Drawn} {ch : List Addr} (I : Inv X pins σ H s)
    (hch : ∀ b ∈ ch, (b ∈ X.ex ∨ X.s₀.heap.objs.size ≤ b) ∧ b ≠ X.env.locals ∧ (∀ x c, X.env.cells.lookup x = some c → c ≠ b) ∧ ∀ p ∈ X.pn ++ pins, p.1 ≠ b)
    (keep : ∀ b o, b ≠ X.env.locals → b ∉ X.fs → b ∉ ch → s.heap.get? b = some o → H b = none → h'.get? b = some o)
    (slot : ∀ b o, b ≠ X.env.locals → b ∈ X.fs → b ∉ ch → s.heap.get? b = some o → H b = none → ∃ sl, h'.get? b = some { o with slots := sl }) (free : ∀ b o, b ∉ ch → s.heap.get? b = some o → H b = none → H' b = none)
    (there : ∀ b o, b ∉ ch → s.heap.get? b = some o → ∃ o', h'.get? b = some o')
    (tups : ∀ b xs, H b = some (.tup xs) → H' b = some (.tup xs)) (frzs : ∀ b o u, H b = some (.frz o u) → H' b = some (.frz o u)) (tbls : ∀ b ps, H b = some (.tbl ps) → ∃ more, H' b = some (.tbl (ps ++ more)))
    (ns : ∀ m, s.heap.Ns X.env.locals m → h'.Ns X.env.locals m) (hok : HOk X.prog X.w H' h') (hg : AllBare g') :
    Inv X pins σ H' { s with heap := h', gens := g', drawn := d', toks := t' } := by
  have neL : ∀ b o, X.s₀.heap.get? b = some o → b ≠ X.env.locals := fun b o e => Nat.ne_of_lt (Nat.lt_of_lt_of_le (Heap.lt_size e) I.ok.above)
  have neC : ∀ b o, X.s₀.heap.get? b = some o → b ∉ X.ex → b ∉ ch := fun b o e hx hb => by
    rcases (hch b hb).1 with z | z
    · exact hx z
    · exact absurd (Nat.lt_of_lt_of_le (Heap.lt_size e) z) (Nat.lt_irrefl _)
  have cellK : ∀ x c, X.env.cells.lookup x = some c → ∀ v, s.heap.IsCell c v → h'.IsCell c v := fun x c e v ⟨o, ho, hd⟩ => by
    have nch : c ∉ ch := fun z => (hch c z).2.2.1 x c e rfl
    by_cases hc : c ∈ X.fs
    · obtain ⟨sl, q⟩ := slot c o (I.cne x c e) hc nch ho (I.freeC x c e)
      exact ⟨_, q, hd⟩
    · exact ⟨o, keep c o (I.cne x c e) hc nch ho (I.freeC x c e), hd⟩
  refine ⟨I.ok, I.os, hg, ⟨fun b o e n hb hx => ?_, fun b o e n hb hx => ?_, fun b o e n hx => ?_, fun b o e hx => ?_, fun b xs e => tups b xs (I.base.tups b xs e), fun b o xs e => frzs b o xs (I.base.frzs b o xs e), fun b ps e => ?_⟩, ?_, fun x c e => ?_, ?_, fun x c e => ?_, fun p hp => ?_, hok, I.len⟩
  · exact keep b o (neL b o e) hb (neC b o e hx) (I.base.keep b o e n hb hx) (I.base.free b o e n hx)
  · obtain ⟨sl, e1⟩ := I.base.slot b o e n hb hx
    obtain ⟨sl', e2⟩ := slot b _ (neL b o e) hb (neC b o e hx) e1 (I.base.free b o e n hx)
    exact ⟨sl', e2⟩
  · obtain ⟨o', e1⟩ := I.base.there b o e hx
    exact free b o' (neC b o e hx) e1 (I.base.free b o e n hx)
  · obtain ⟨o', e1⟩ := I.base.there b o e hx
    exact there b o' (neC b o e hx) e1
  · obtain ⟨m1, e1⟩ := I.base.tbls b ps e
    obtain ⟨m2, e2⟩ := tbls b _ e1
    exact ⟨m1 ++ m2, by rw [e2, Array.append_assoc]⟩
  · obtain ⟨m, hn, hl⟩ := I.loc
    refine ⟨m, ns m hn, fun i x v e1 e2 e3 => ?_⟩
    obtain ⟨u, r, l⟩ := hl i x v e1 e2 e3
    refine ⟨u, r, ?_⟩
    rcases l with l | ⟨k, c, e, z⟩
    · exact .inl l
    · exact .inr ⟨k, c, e, cellK x c e _ z⟩
  · obtain ⟨v, z⟩ := I.cell x c e
    exact ⟨v, cellK x c e v z⟩
  · obtain ⟨m, ⟨o, _, _, ho, _⟩, _⟩ := I.loc
    exact free _ o (fun z => (hch _ z).2.1 rfl) ho I.free
  · obtain ⟨v, o, ho, hd⟩ := I.cell x c e
    exact free c o (fun z => (hch c z).2.2.1 x c e rfl) ho (I.freeC x c e)
  · obtain ⟨e, n, ne, nf, d⟩ := I.pin p hp
    have nch : p.1 ∉ ch := fun z => (hch p.1 z).2.2.2 p hp rfl
    exact ⟨keep p.1 p.2 ne nf nch e n, free p.1 p.2 nch e n, ne, nf, d⟩
/-- .. where the frame's own object is kept too -/
theorem Inv.un {t' : Nat} (I : Inv X pins σ H s) (u : Un X.fs [] H H' s.heap h') (hok : HOk X.prog X.w H' h') : Inv X pins σ H' { s with heap := h', toks := t' } := by
  obtain ⟨m, ⟨o, es, ep, ho, r⟩, _⟩ := id I.loc
  obtain ⟨sl, hL⟩ := u.any ho I.free (by simp)
  exact I.step (g' := s.gens) (d' := s.drawn) (ch := []) (fun _ z => nomatch z) (fun b o _ hb _ e n => u.keep b o e n hb (by simp)) (fun b o _ hb _ e n => u.slot b o e n hb (by simp)) (fun b o _ e n => u.free b o e n (by simp)) (fun b o _ e => u.there b o e (by simp)) u.tups u.frzs u.tbls (fun m' hm => by
    obtain ⟨o', es', ep', ho', r'⟩ := hm
    rw [ho] at ho'; cases ho'
    exact ⟨_, es', ep', hL, r'⟩) hok I.bare
/-- behind a call (or a comprehension's block): the slots of this frame may have changed too, the records at ch may have turned -/
theorem Inv.call {g' : Array GenState} {t' : Nat} {d' : Drawn} {ch : List Addr} (I : Inv X pins σ H s) (u : Un (frs X.stack) ch H H' s.heap h') (hok : HOk X.prog X.w H' h') (hg : AllBare g')
    (hch : ∀ b ∈ ch, (b ∈ X.ex ∨ X.s₀.heap.objs.size ≤ b) ∧ b ≠ X.env.locals ∧ (∀ x c, X.env.cells.lookup x = some c → c ≠ b) ∧ ∀ p ∈ X.pn ++ pins, p.1 ≠ b) :
    Inv X pins σ H' { s with heap := h', gens := g', drawn := d', toks := t' } := by
  obtain ⟨m, ⟨o, es, ep, ho, r⟩, _⟩ := id I.loc
  obtain ⟨sl, hL⟩ := u.any ho I.free fun z => (hch _ z).2.1 rfl
  exact I.step (ch := ch) hch (fun b o hL hb hc e n => u.keep b o e n (fun z => (List.mem_cons.mp (I.stkSub b z)).elim hL hb) hc) (fun b o _ _ hc e n => u.any e n hc) (fun b o hc e n => u.free b o e n hc) (fun b o hc e => u.there b o e hc) u.tups u.frzs u.tbls (fun m' hm => by
    obtain ⟨o', es', ep', ho', r'⟩ := hm
    rw [ho] at ho'; cases ho'
    exact ⟨_, es', ep', hL, r'⟩) hok hg
/-- an untracked record of ours (an iterator) has turned -/
theorem Inv.turned {t' : Nat} {it : Addr} (I : Inv X pins σ H s) (k : ∀ b o, b ≠ it → s.heap.get? b = some o → h'.get? b = some o) (hn : H it = none) (hL : it ≠ X.env.locals)
    (h1 : it ∈ X.ex ∨ X.s₀.heap.objs.size ≤ it) (h2 : ∀ x c, X.env.cells.lookup x = some c → c ≠ it) (h3 : ∀ p ∈ X.pn ++ pins, p.1 ≠ it) : Inv X pins σ H { s with heap := h', toks := t' } := by
  have nit : ∀ b u, H b = some u → b ≠ it := fun b u e z => by rw [z, hn] at e; cases e
  refine I.step (g' := s.gens) (d' := s.drawn) (ch := [it]) (fun b hb => ?_) (fun b o _ _ hc e _ => k b o (fun z => hc (by simp [z])) e) (fun b o _ _ hc e _ => ⟨o.slots, k b o (fun z => hc (by simp [z])) e⟩) (fun _ _ _ _ n => n)
    (fun b o hc e => ⟨o, k b o (fun z => hc (by simp [z])) e⟩) (fun _ _ e => e) (fun _ _ _ e => e) (fun b ps e => ⟨#[], by rw [e]; simp⟩) (fun m hm => ?_) (fun b u e => ?_) I.bare
  · have e : b = it := by simpa using hb
    subst e
    exact ⟨h1, hL, h2, h3⟩
  · obtain ⟨o, es, ep, ho, r⟩ := hm
    exact ⟨o, es, ep, k _ o (Ne.symm hL) ho, r⟩
  · refine (I.hok b u e).stay (fun c v hc q => k c v ?_ q) (fun _ q => q) fun _ _ q => q
    rcases hc with z | z
    · rw [z]; exact nit b u e
    · exact nit c _ z
theorem Inv.tok (I : Inv X pins σ H s) (t : Nat) : Inv X pins σ H { s with toks := t } := I.un (h' := s.heap) (t' := t) Un.refl I.hok
/-- all objects kept -/
theorem Inv.kept {t' : Nat} (I : Inv X pins σ H s) (k : ∀ b u, s.heap.get? b = some u → h'.get? b = some u) : Inv X pins σ H { s with heap := h', toks := t' } := I.un (Un.kept k) (I.hok.kept k)
/-- a new object laid and tracked -/
theorem Inv.laid {a : Addr} {o : HO} {t' : Nat} (I : Inv X pins σ H s) (k : ∀ b u, s.heap.get? b = some u → h'.get? b = some u) (hp : s.heap.objs.size ≤ a) (new : ObjOk X.prog X.w (upd H a o) h' a o) :
    Inv X pins σ (upd H a o) { s with heap := h', toks := t' } := I.un (Un.laid k hp (I.hok.fresh hp)) (I.hok.laid k hp new)
/-- an object written -/
theorem Inv.write {x e : Addr} {o : HO} {t' : Nat} (I : Inv X pins σ H s) (mu : Mut (H x)) (he : e = x ∨ H e = some (.own x)) (k : ∀ b u, b ≠ e → s.heap.get? b = some u → h'.get? b = some u) (heo : ∃ u, h'.get? e = some u)
    (new : ObjOk X.prog X.w (upd H x o) h' x o) : Inv X pins σ (upd H x o) { s with heap := h', toks := t' } := I.un (Un.write mu he k heo) (I.hok.write mu he k heo new)
/-- forgetting slots, pins -/
theorem Inv.weak {σ' : List (Option V)} (I : Inv X pins σ H s) (hl : σ'.length = σ.length) (w : ∀ (i : Nat) v, σ'[i]? = some (some v) → σ[i]? = some (some v)) : Inv X pins σ' H s :=
  ⟨I.ok, I.os, I.bare, I.base, let ⟨m, hn, hl'⟩ := I.loc; ⟨m, hn, fun i x v e1 e2 e3 => hl' i x v e1 (w i v e2) e3⟩, I.cell, I.free, I.freeC, I.pin, I.hok, hl.trans I.len⟩
theorem Inv.pins_of {pins' : List (Addr × Obj)} (I : Inv X pins σ H s) (h : ∀ p ∈ pins', s.heap.get? p.1 = some p.2 ∧ H p.1 = none ∧ p.1 ≠ X.env.locals ∧ p.1 ∉ X.fs ∧ ∀ v, p.2.data ≠ .cell v) : Inv X pins' σ H s :=
  ⟨I.ok, I.os, I.bare, I.base, I.loc, I.cell, I.free, I.freeC, fun p hp => (List.mem_append.mp hp).elim (fun z => I.pin p (List.mem_append_left _ z)) (h p), I.hok, I.len⟩

theorem nodup_ix {N : List Str} (hN : N.Nodup) {i j : Nat} {x : Str} (a : N[i]? = some x) (b : N[j]? = some x) : i = j := by
  obtain ⟨h1, e1⟩ := List.getElem?_eq_some_iff.mp a
  obtain ⟨h2, e2⟩ := List.getElem?_eq_some_iff.mp b
  exact (List.getElem_inj hN).mp (e1.trans e2.symm)

/-- a name is stored; what changed -/
theorem store_ok2 {M : Model} {A : Around} {E : Value → Shared → Prop} {i : Nat} {x : Str} {v : V} {u : Value} {Q : Unit → Shared → Prop} (I : Inv X pins σ H s) (hN : X.N.Nodup) (hi : X.N[i]? = some x) (hx : Loc X.env.scope x) (r : RelV v u)
    (h : ∀ s', Inv X pins (σ.set i (some v)) H s' → (∃ a, Heap.SameBut a s.heap s'.heap ∧ (a = X.env.locals ∨ X.env.cells.lookup x = some a)) → Q () s') (hf : X.fn x = true ∨ X.env.scope.names.lookup x = some .local := by first | exact .inl rfl | exact .inr rfl | assumption) : wpAny M A (storeName X.env x u) Q E s := by
  obtain ⟨m, hn, hl⟩ := id I.loc
  have hcls : (X.env.scope.kind == .class || (X.env.scope.kind == .module && X.env.locals != X.env.globals)) = false := by rw [I.ok.kind]; rfl
  have hiσ : i < σ.length := by rw [I.len]; exact (List.getElem?_eq_some_iff.mp hi).1
  have cne := I.cne
  have tracked : ∀ {a : Addr} {h' : Heap}, (∃ o, s.heap.get? a = some o ∧ H a = none) → Heap.SameBut a s.heap h' → HOk X.prog X.w H h' := fun {a h'} ha hs b ob e => by
    obtain ⟨_, _, hfree⟩ := ha
    refine (I.hok b ob e).stay (fun c w' hc q => (hs.2 c ?_).trans q) (fun _ q => q) fun _ _ q => q
    rintro rfl
    rcases hc with rfl | hc
    · rw [hfree] at e; cases e
    · rw [hfree] at hc; cases hc
  rcases hx with hk | hk
  · refine wpAny_storeName_local hk hn (fun h' hn' hs => ?_) hcls
    obtain ⟨oL, _, _, hoL, _⟩ := id hn
    refine h _ ⟨I.ok, I.os, I.bare, ⟨fun b o e n hb hx => ?_, fun b o e n hb hx => ?_, I.base.free, fun b o e hx => ?_, I.base.tups, I.base.frzs, I.base.tbls⟩, ⟨_, hn', fun j y v' e1 e2 e3 => ?_⟩, fun y c e => ?_, I.free, I.freeC, fun p hp => ?_, tracked ⟨oL, hoL, I.free⟩ hs, by simpa using I.len⟩ ⟨_, hs, .inl rfl⟩
    · exact (hs.2 b (Nat.ne_of_lt (Nat.lt_of_lt_of_le (Heap.lt_size e) I.ok.above))).trans (I.base.keep b o e n hb hx)
    · obtain ⟨sl, e1⟩ := I.base.slot b o e n hb hx
      exact ⟨sl, (hs.2 b (Nat.ne_of_lt (Nat.lt_of_lt_of_le (Heap.lt_size e) I.ok.above))).trans e1⟩
    · obtain ⟨o', e1⟩ := I.base.there b o e hx
      exact ⟨o', (hs.2 b (Nat.ne_of_lt (Nat.lt_of_lt_of_le (Heap.lt_size e) I.ok.above))).trans e1⟩
    · by_cases hj : j = i
      · subst hj
        rw [hi] at e1; cases e1
        rw [List.getElem?_set_self hiσ] at e2
        cases e2
        exact ⟨u, r, .inl ⟨hk, by simp⟩⟩
      · rw [List.getElem?_set_ne (Ne.symm hj)] at e2
        obtain ⟨u', r', q⟩ := hl j y v' e1 e2 e3
        refine ⟨u', r', ?_⟩
        rcases q with ⟨k, e⟩ | ⟨k, c, e, z⟩
        · refine .inl ⟨k, ?_⟩
          have : y ≠ x := fun e => hj (nodup_ix hN e1 (e ▸ hi))
          simp [this, e]
        · exact .inr ⟨k, c, e, z.sameBut hs (cne y c e)⟩
    · obtain ⟨w', z⟩ := I.cell y c e
      exact ⟨w', z.sameBut hs (cne y c e)⟩
    · obtain ⟨e, n, ne, nf, d⟩ := I.pin p hp
      exact ⟨(hs.2 p.1 ne).trans e, n, ne, nf, d⟩
  · have hfn : X.fn x = true := by
      rcases hf with z | z
      · exact z
      · rw [z] at hk; cases hk
    obtain ⟨c, hc⟩ := I.ok.has x (.inl hk)
    obtain ⟨w', z⟩ := I.cell x c hc
    refine wpAny_storeName_cell I.ok.kind hk hc z (fun h' hc' hs => ?_)
    obtain ⟨oc, hoc, hocd⟩ := id z
    refine h { s with heap := h' } ⟨I.ok, I.os, I.bare, ⟨fun b o e n hb hx => ?_, fun b o e n hb hx => ?_, I.base.free, fun b o e hx => ?_, I.base.tups, I.base.frzs, I.base.tbls⟩, ⟨m, hn.sameBut hs (Ne.symm (cne x c hc)), fun j y v' e1 e2 e3 => ?_⟩, fun y c' e => ?_, I.free, I.freeC, fun p hp => ?_, tracked ⟨oc, hoc, I.freeC x c hc⟩ hs, by simpa using I.len⟩ ⟨c, hs, .inr hc⟩
    · exact (hs.2 b (Nat.ne_of_lt (Nat.lt_of_lt_of_le (Heap.lt_size e) (I.ok.cab x c hfn hc)))).trans (I.base.keep b o e n hb hx)
    · obtain ⟨sl, e1⟩ := I.base.slot b o e n hb hx
      exact ⟨sl, (hs.2 b (Nat.ne_of_lt (Nat.lt_of_lt_of_le (Heap.lt_size e) (I.ok.cab x c hfn hc)))).trans e1⟩
    · obtain ⟨o', e1⟩ := I.base.there b o e hx
      exact ⟨o', (hs.2 b (Nat.ne_of_lt (Nat.lt_of_lt_of_le (Heap.lt_size e) (I.ok.cab x c hfn hc)))).trans e1⟩
    · by_cases hj : j = i
      · subst hj
        rw [hi] at e1; cases e1
        rw [List.getElem?_set_self hiσ] at e2
        cases e2
        exact ⟨u, r, .inr ⟨.inl hk, c, hc, hc'⟩⟩
      · rw [List.getElem?_set_ne (Ne.symm hj)] at e2
        obtain ⟨u', r', q⟩ := hl j y v' e1 e2 e3
        refine ⟨u', r', ?_⟩
        rcases q with q | ⟨k, c', e, z'⟩
        · exact .inl q
        · refine .inr ⟨k, c', e, z'.sameBut hs ?_⟩
          rintro rfl
          exact hj (nodup_ix hN e1 (I.ok.inj _ _ _ e hc ▸ hi))
    · by_cases hcc : c' = c
      · subst hcc; exact ⟨_, hc'⟩
      · obtain ⟨w2, z2⟩ := I.cell y c' e
        exact ⟨w2, z2.sameBut hs hcc⟩
    · obtain ⟨e, n, ne, nf, d⟩ := I.pin p hp
      refine ⟨(hs.2 p.1 ?_).trans e, n, ne, nf, d⟩
      intro q
      rw [q, hoc] at e
      have q' : oc = p.2 := Option.some.inj e
      exact d w' (by rw [← q']; exact hocd)
theorem store_ok {M : Model} {A : Around} {E : Value → Shared → Prop} {i : Nat} {x : Str} {v : V} {u : Value} {Q : Unit → Shared → Prop} (I : Inv X pins σ H s) (hN : X.N.Nodup) (hi : X.N[i]? = some x) (hx : Loc X.env.scope x) (r : RelV v u)
    (h : ∀ s', Inv X pins (σ.set i (some v)) H s' → Q () s') (hf : X.fn x = true ∨ X.env.scope.names.lookup x = some .local := by first | exact .inl rfl | exact .inr rfl | assumption) : wpAny M A (storeName X.env x u) Q E s :=
  store_ok2 I hN hi hx r (fun s' I' _ => h s' I') hf
/-- behind a call or a block, the state as it is -/
theorem Inv.call' {s' : Shared} {ch : List Addr} (I : Inv X pins σ H s) (ho : s'.os = s.os) (u : Un (frs X.stack) ch H H' s.heap s'.heap) (hok : HOk X.prog X.w H' s'.heap) (hg : AllBare s'.gens)
    (hch : ∀ b ∈ ch, (b ∈ X.ex ∨ X.s₀.heap.objs.size ≤ b) ∧ b ≠ X.env.locals ∧ (∀ x c, X.env.cells.lookup x = some c → c ≠ b) ∧ ∀ p ∈ X.pn ++ pins, p.1 ≠ b) : Inv X pins σ H' s' := by
  obtain ⟨h', g', d', t', o'⟩ := s'
  have e : o' = s.os := ho
  subst e
  exact I.call (g' := g') (t' := t') (d' := d') u hok hg hch
end


/-- an exception: its class, its own dict's address (where it has one), the abstract heap behind it -/
abbrev XK := Value → Option Addr → Hp → Prop
abbrev St := List (Option V)
abbrev VK := V → Hp → Prop
/-- an expression's reading; a test's; an argument list's -/
abbrev TE := St → Hp → VK → Prop
abbrev TT := St → Hp → (Bool → Hp → Prop) → Prop
abbrev TA := St → Hp → (List V → Hp → Prop) → Prop
/-- what is wanted behind a statement -/
structure Ends where
  nx : St → Hp → Prop
  rt : VK
  bk : St → Hp → Prop := fun _ _ => False
  ct : St → Hp → Prop := fun _ _ => False
abbrev TS := Ends → St → Hp → Prop

def EP (X : Cx) (pins : List (Addr × Obj)) (σ : St) (Q : VK) (u : Value) (s' : Shared) : Prop := ∃ v H', Inv X pins σ H' s' ∧ RelV v u ∧ Q v H'
def TP (X : Cx) (pins : List (Addr × Obj)) (σ : St) (Q : Bool → Hp → Prop) (b : Bool) (s' : Shared) : Prop := ∃ H', Inv X pins σ H' s' ∧ Q b H'
def AP (X : Cx) (pins : List (Addr × Obj)) (σ : St) (Q : List V → Hp → Prop) (us : List Value) (s' : Shared) : Prop := ∃ vs H', Inv X pins σ H' s' ∧ Vals vs us ∧ Q vs H'
def SP (X : Cx) (pins : List (Addr × Obj)) (D : Ends) (f : Flow) (s' : Shared) : Prop :=
  match f with
  | .next => ∃ σ' H', Inv X pins σ' H' s' ∧ D.nx σ' H'
  | .brk => ∃ σ' H', Inv X pins σ' H' s' ∧ D.bk σ' H'
  | .cont => ∃ σ' H', Inv X pins σ' H' s' ∧ D.ct σ' H'
  | .ret u => ∃ v σ' H', Inv X pins σ' H' s' ∧ RelV v u ∧ D.rt v H'

def PE (X : Cx) (e : Expr) (t : TE) : Prop :=
  ∀ (pins : List (Addr × Obj)) (s : Shared) (σ : St) (H : Hp) (Q : VK), Inv X pins σ H s → t σ H Q → wpAny (model X.prog X.w) X.A (eval e X.env) (EP X pins σ Q) X.xe s
def PT (X : Cx) (e : Expr) (t : TT) : Prop :=
  ∀ (pins : List (Addr × Obj)) (s : Shared) (σ : St) (H : Hp) (Q : Bool → Hp → Prop), Inv X pins σ H s → t σ H Q → wpAny (model X.prog X.w) X.A (isTrue e X.env (eval e X.env)) (TP X pins σ Q) X.xe s
/-- a test whatever its 'whole' is (and, or) -/
def PW (X : Cx) (e : Expr) (t : TT) : Prop :=
  ∀ (whole : Sem Value) (pins : List (Addr × Obj)) (s : Shared) (σ : St) (H : Hp) (Q : Bool → Hp → Prop), Inv X pins σ H s → t σ H Q → wpAny (model X.prog X.w) X.A (isTrue e X.env whole) (TP X pins σ Q) X.xe s
theorem PW.pt {X : Cx} {e : Expr} {t : TT} (h : PW X e t) : PT X e t := h _
/-- an argument list (no star), from the left -/
def PA (X : Cx) (es : List Expr) (t : TA) : Prop :=
  ∀ (pos : Pos) (pins : List (Addr × Obj)) (s : Shared) (σ : St) (H : Hp) (Q : List V → Hp → Prop), Inv X pins σ H s → t σ H Q → wpAny (model X.prog X.w) X.A (spliced (backTo pos (starEach es X.env))) (AP X pins σ Q) X.xe s
def PS (X : Cx) (st : Stmt) (t : TS) : Prop :=
  ∀ (pins : List (Addr × Obj)) (s : Shared) (σ : St) (H : Hp) (D : Ends), Inv X pins σ H s → t D σ H → wpAny (model X.prog X.w) X.A (exec st X.env) (SP X pins D) X.xe s
def PSs (X : Cx) (st : List Stmt) (t : TS) : Prop :=
  ∀ (pins : List (Addr × Obj)) (s : Shared) (σ : St) (H : Hp) (D : Ends), Inv X pins σ H s → t D σ H → wpAny (model X.prog X.w) X.A (execs st X.env) (SP X pins D) X.xe s
/-- weaken the end -/
theorem thn {α : Type} {t : Sem α} {Q Q' : α → Shared → Prop} {M : Model} {A : Around} {E : Value → Shared → Prop} {s : Shared} (h : wpAny M A t Q E s) (hQ : ∀ a s, Q a s → Q' a s) : wpAny M A t Q' E s := wpAny_mono h hQ fun _ _ x => x
end L2

namespace L2
open PySem PySem.Spec PyProof.Rows
section
variable {X : Cx}

def tVar (i : Nat) : TE := fun σ H Q => ∃ v, σ[i]? = some (some v) ∧ Q v H
def tC (v : V) : TE := fun _ H Q => Q v H
theorem pe_var {i : Nat} {x : Str} {pos : Pos} (hN : X.N[i]? = some x) (hv : Vis X.env.scope x) (hd : (x == ("__debug__" : Str)) = false := by decide) (hcd : (x == ("__classdict__" : Str)) = false := by decide) : PE X (.Name x pos) (tVar i) := by
  intro pins s σ H Q I h
  obtain ⟨v, e, h⟩ := h
  obtain ⟨m, hn, hl⟩ := I.loc
  obtain ⟨u, r, l⟩ := hl i x v hN e hv
  have fin : EP X pins σ Q u s := ⟨v, H, I, r, h⟩
  rcases l with ⟨hk, hm⟩ | ⟨hk, c, hc, hcell⟩
  · exact wpAny_Name (wpAny_loadName_local I.ok.kind hk hn hm fin) hd
  · rcases hk with hk | hk
    · exact wpAny_Name (wpAny_loadName_cell I.ok.kind hk hc hcell fin) hd
    · exact wpAny_Name (wpAny_loadName_free I.ok.kind hk hc hcell fin hcd) hd
theorem pe_int {i j pos} : PE X (.Constant (.int i) j pos) (tC (.int i)) := fun _ _ _ H _ I h => wpAny_Constant_int ⟨.int i, H, I.tok _, ⟨_, rfl⟩, h⟩
theorem pe_bl {b j pos} : PE X (.Constant (.bool b) j pos) (tC (.bl b)) := fun _ _ _ H _ I h => Constant_bool ⟨.bl b, H, I, rfl, h⟩
theorem pe_non {j pos} : PE X (.Constant .none j pos) (tC .non) := fun _ _ _ H _ I h => Constant_none ⟨.non, H, I, rfl, h⟩
theorem pe_str {x j pos} : PE X (.Constant (.str x) j pos) (tC (.str x)) := fun _ _ _ H _ I h => Calls.Constant_str ⟨.str x, H, I.tok _, ⟨_, rfl⟩, h⟩

/-- a global name of the def -/
def Gl (X : Cx) (x : Str) : Prop := X.env.kindOf x = some .globalImplicit
theorem ld_glob {E : Value → Shared → Prop} {pins : List (Addr × Obj)} {s : Shared} {σ : St} {H : Hp} {x : Str} {u : Value} {pos : Pos} {Q : Value → Shared → Prop} (I : Inv X pins σ H s) (hg : Gl X x) (hm : X.mg x = some u) (h : Q u s)
    (hd : (x == ("__debug__" : Str)) = false := by decide) : wpAny (model X.prog X.w) X.A (eval (.Name x pos) X.env) Q E s :=
  Calls.Name_function_global I.ok.kind hg (Calls.loadGlobal_global (by rw [I.ok.glob]; exact I.mod.glob.keeps I.bk) hm h) hd
theorem ld_blt {E : Value → Shared → Prop} {pins : List (Addr × Obj)} {s : Shared} {σ : St} {H : Hp} {x : Str} {u : Value} {pos : Pos} {Q : Value → Shared → Prop} (I : Inv X pins σ H s) (hg : Gl X x) (hm : X.mg x = none) (hv : bootBuiltins x = some u) (h : Q u s)
    (hn : x ≠ "__name__" := by decide) (hd : (x == ("__debug__" : Str)) = false := by decide) : wpAny (model X.prog X.w) X.A (eval (.Name x pos) X.env) Q E s := by
  obtain ⟨mb, h1, h2⟩ := I.mod.blt
  exact Calls.Name_function_global I.ok.kind hg (Calls.loadGlobal_builtin (by rw [I.ok.glob]; exact I.mod.glob.keeps I.bk) hm (by rw [I.ok.blt]; exact h1.keeps I.bk) ((h2 x hn).trans hv) h) hd
/-- a module's constant, a class, a function, as a value -/
theorem pe_glob {x : Str} {v : V} {u : Value} {pos : Pos} (hg : Gl X x) (hm : X.mg x = some u) (r : RelV v u) (hd : (x == ("__debug__" : Str)) = false := by decide) : PE X (.Name x pos) (tC v) :=
  fun _ _ _ H _ I h => ld_glob I hg hm ⟨v, H, I, r, h⟩ hd
theorem pe_bltn {x : Str} {v : V} {u : Value} {pos : Pos} (hg : Gl X x) (hm : X.mg x = none) (hv : bootBuiltins x = some u) (r : RelV v u) (hn : x ≠ "__name__" := by decide) (hd : (x == ("__debug__" : Str)) = false := by decide) : PE X (.Name x pos) (tC v) :=
  fun _ _ _ H _ I h => ld_blt I hg hm hv ⟨v, H, I, r, h⟩ hn hd


variable {a b : Expr} {ta tb : TE} {pos : Pos}
/-- a comparison as a value, as a test -/
def tB (t : TE) : TT := fun σ H Q => t σ H fun x H1 => ∃ c, x = .bl c ∧ Q c H1
/-- an expression whose value is a bool, as a test -/
theorem pt_val {e : Expr} {t : TE} (h : PE X e t) (he : ∀ whole, isTrue e X.env whole = (do let v ← whole; standAt e.pos; holding [v] (truthy v)) := by intro _; rfl) : PT X e (tB t) := by
  intro pins s σ H Q I hw
  refine isTrue_plain (thn (h pins s σ H _ I hw) fun v s1 ⟨x, H1, I1, r1, q1⟩ => ?_) (he _)
  obtain ⟨d, rfl, q⟩ := q1
  cases r1
  exact wpAny_truthy_bool ⟨H1, I1, q⟩


variable {tA tB' : TT} {rest : List Expr}
def tAnd (t u : TT) : TT := fun σ H Q => t σ H fun c H1 => if c = true then u σ H1 Q else Q false H1
def tOr (t u : TT) : TT := fun σ H Q => t σ H fun c H1 => if c = true then Q true H1 else u σ H1 Q
def tNot (t : TT) : TT := fun σ H Q => t σ H fun c H1 => Q (!c) H1
theorem pw_and1 (ha : PT X a tA) : PW X (.BoolOp .And [a] pos) tA := by
  intro wh pins s σ H Q I h
  refine isTrue_and (thn (ha pins s σ H Q I h) fun c s1 e => ?_)
  cases c with
  | true => exact isTrue_and_nil e
  | false => exact e
theorem pw_or1 (ha : PT X a tA) : PW X (.BoolOp .Or [a] pos) tA := by
  intro wh pins s σ H Q I h
  refine isTrue_or (thn (ha pins s σ H Q I h) fun c s1 e => ?_)
  cases c with
  | false => exact isTrue_or_nil e
  | true => exact e
theorem pw_and (ha : PT X a tA) (hb : PW X (.BoolOp .And (b :: rest) pos) tB') : PW X (.BoolOp .And (a :: b :: rest) pos) (tAnd tA tB') := by
  intro wh pins s σ H Q I h
  refine isTrue_and (thn (ha pins s σ H _ I h) fun c s1 ⟨H1, I1, q1⟩ => ?_)
  cases c with
  | true => exact hb wh pins s1 σ H1 Q I1 q1
  | false => exact ⟨H1, I1, q1⟩
theorem pw_or (ha : PT X a tA) (hb : PW X (.BoolOp .Or (b :: rest) pos) tB') : PW X (.BoolOp .Or (a :: b :: rest) pos) (tOr tA tB') := by
  intro wh pins s σ H Q I h
  refine isTrue_or (thn (ha pins s σ H _ I h) fun c s1 ⟨H1, I1, q1⟩ => ?_)
  cases c with
  | true => exact ⟨H1, I1, q1⟩
  | false => exact hb wh pins s1 σ H1 Q I1 q1
theorem pt_not (ha : PT X a tA) : PT X (.UnaryOp .Not a pos) (tNot tA) := by
  intro pins s σ H Q I h
  exact isTrue_not (ha pins s σ H (fun c H1 => Q (!c) H1) I h)
/-- .. as values (bools) -/
def tAndV (ta tb : TE) : TE := fun σ H Q => ta σ H fun x H1 => ∃ c, x = .bl c ∧ if c = true then tb σ H1 Q else Q (.bl false) H1
def tNotV (ta : TE) : TE := fun σ H Q => ta σ H fun x H1 => ∃ c, x = .bl c ∧ Q (.bl (!c)) H1
theorem pe_one {op} {t : TE} (h : PE X a t) : PE X (.BoolOp op [a] pos) t := fun pins s σ H Q I hw => BoolOp_one (h pins s σ H Q I hw)
theorem pe_and (ha : PE X a ta) (hb : PE X (.BoolOp .And (b :: rest) pos) tb) : PE X (.BoolOp .And (a :: b :: rest) pos) (tAndV ta tb) := by
  intro pins s σ H Q I h
  refine BoolOp_and (thn (ha pins s σ H _ I h) fun v s1 ⟨x, H1, I1, r1, q1⟩ => ?_)
  obtain ⟨c, rfl, q1⟩ := q1
  cases r1
  refine wpAny_truthy_bool ?_
  cases c with
  | true => exact hb pins s1 σ H1 Q I1 q1
  | false => exact ⟨.bl false, H1, I1, rfl, q1⟩
theorem pe_not (ha : PE X a ta) : PE X (.UnaryOp .Not a pos) (tNotV ta) := by
  intro pins s σ H Q I h
  refine UnaryOp_ (thn (ha pins s σ H _ I h) fun v s1 ⟨x, H1, I1, r1, q1⟩ => ?_)
  obtain ⟨c, rfl, q1⟩ := q1
  cases r1
  exact not_of (wpAny_truthy_bool ⟨.bl (!c), H1, I1, rfl, q1⟩)
/-- a if t else b -/
def tIf (t : TT) (ta tb : TE) : TE := fun σ H Q => t σ H fun c H1 => if c = true then ta σ H1 Q else tb σ H1 Q
theorem pe_ifExp {c : Expr} (hc : PT X c tA) (ha : PE X a ta) (hb : PE X b tb) : PE X (.IfExp c a b pos) (tIf tA ta tb) := by
  intro pins s σ H Q I h
  refine wpAny_IfExp (thn (hc pins s σ H _ I h) fun d s1 ⟨H1, I1, q1⟩ => ?_)
  cases d with
  | true => exact ha pins s1 σ H1 Q I1 q1
  | false => exact hb pins s1 σ H1 Q I1 q1
end
end L2

namespace L2
open PySem PySem.Spec PyProof.Rows


def SqL (K : PySem.W.Frag) (H : Hp) (a : Addr) (xs : List V) : Prop :=
  Rd H a (.lst xs) ∨
    ∃ (o : Obj) (its : Array Value) (n : Nat), K.lookup a = some o ∧ o.cls = .type "list" ∧ o.dict = none ∧ o.data = .seq its n ∧ its.size ≤ sizeLine ∧ Vals xs its.toList
def SqT (K : PySem.W.Frag) (H : Hp) (a : Addr) (xs : List V) : Prop :=
  Rd H a (.tup xs) ∨
    ∃ (o : Obj) (its : Array Value) (n : Nat), K.lookup a = some o ∧ o.cls = .type "tuple" ∧ o.data = .seq its n ∧ its.size ≤ sizeLine ∧ Vals xs its.toList
def absV : Value → Option V
  | .none => some .non
  | .bool b => some (.bl b)
  | .int i _ => some (.int i)
  | .str x _ => some (.str x)
  | .bytes b _ => some (.byt b)
  | .float b _ => some (.flt b)
  | .ref a => some (.ref a)
  | .type n => some (.ty n)
  | _ => none
theorem RelV.abs {x : V} {u : Value} (r : RelV x u) : absV u = some x := by
  cases x with
  | non => cases r; rfl
  | bl _ => cases r; rfl
  | int _ => obtain ⟨t, rfl⟩ := r; rfl
  | str _ => obtain ⟨t, rfl⟩ := r; rfl
  | byt _ => obtain ⟨t, rfl⟩ := r; rfl
  | flt _ => obtain ⟨t, rfl⟩ := r; rfl
  | ref _ => cases r; rfl
  | ty _ => cases r; rfl
theorem RelV.inj {x y : V} {u : Value} (r : RelV x u) (q : RelV y u) : x = y := Option.some.inj (r.abs.symm.trans q.abs)
theorem Vals.inj : ∀ {xs ys : List V} {us : List Value}, Vals xs us → Vals ys us → xs = ys
  | _, _, _, .nil, .nil => rfl
  | _, _, _, .cons r t, .cons r' t' => by rw [r.inj r', Vals.inj t t']
section
variable {X : Cx} {pins : List (Addr × Obj)} {σ : St} {H : Hp} {s : Shared} {a : Addr} {xs ys : List V}
theorem SqL.of {K : PySem.W.Frag} (h : H a = some (.lst xs)) : SqL K H a xs := .inl (.inl h)
theorem SqT.of {K : PySem.W.Frag} (h : H a = some (.tup xs)) : SqT K H a xs := .inl (.inl h)
theorem Inv.list (I : Inv X pins σ H s) (h : SqL X.K H a xs) : ∃ its : List Value, Vals xs its ∧ PlainL s.heap a its.toArray ∧ xs.length ≤ sizeLine := by
  rcases h with h | ⟨o, its, n, hk, hc, hd, hs, hz, r⟩
  · obtain ⟨z, its, n, r, e⟩ := h.ok I.hok
    exact ⟨its, r, ⟨_, n, e, rfl, rfl, rfl⟩, z⟩
  · refine ⟨its.toList, r, ⟨o, n, I.kIn a o hk, hc, hd, by simpa using hs⟩, ?_⟩
    have e := r.length
    simp only [Array.length_toList] at e
    omega
theorem Inv.tuple (I : Inv X pins σ H s) (h : SqT X.K H a xs) : ∃ its : List Value, Vals xs its ∧ IsTup s.heap a its.toArray ∧ xs.length ≤ sizeLine := by
  rcases h with h | ⟨o, its, n, hk, hc, hs, hz, r⟩
  · obtain ⟨z, its, r, p⟩ := h.ok I.hok
    exact ⟨its, r, p, z⟩
  · refine ⟨its.toList, r, ⟨o, I.kIn a o hk, hc, n, by simpa using hs⟩, ?_⟩
    have e := r.length
    simp only [Array.length_toList] at e
    omega
theorem Inv.list_inj (I : Inv X pins σ H s) (h : SqL X.K H a xs) (h' : SqL X.K H a ys) : xs = ys := by
  obtain ⟨its, r, ⟨o, n, e, _, _, d⟩, _⟩ := I.list h
  obtain ⟨its', r', ⟨o', n', e', _, _, d'⟩, _⟩ := I.list h'
  rw [e] at e'; cases e'
  rw [d] at d'
  injection d' with d1 _
  have : its = its' := by simpa using congrArg Array.toList d1
  subst this
  exact r.inj r'
theorem Inv.tuple_inj (I : Inv X pins σ H s) (h : SqT X.K H a xs) (h' : SqT X.K H a ys) : xs = ys := by
  obtain ⟨its, r, ⟨o, e, _, n, d⟩, _⟩ := I.tuple h
  obtain ⟨its', r', ⟨o', e', _, n', d'⟩, _⟩ := I.tuple h'
  rw [e] at e'; cases e'
  rw [d] at d'
  injection d' with d1 _
  have : its = its' := by simpa using congrArg Array.toList d1
  subst this
  exact r.inj r'
end


abbrev Cx.wish (X : Cx) (E : Value → Shared → Prop) : Cx := { X with xe := E }
/-- no exception leaves -/
abbrev Cx.nox (X : Cx) : Cx := X.wish fun _ _ => False
theorem Cx.Ok.wish {X : Cx} (ok : X.Ok) (E : Value → Shared → Prop) : (X.wish E).Ok :=
  ⟨ok.mod, ok.kind, ok.glob, ok.blt, ok.above, ok.inj, ok.has, ok.cab, ok.hd, ok.frames, ok.stk, ok.exf, ok.bs, ok.bsz, ok.noex, ok.exfs, ok.funs, ok.frf⟩
theorem Cx.Ok.unwish {X : Cx} {E : Value → Shared → Prop} (ok : (X.wish E).Ok) : X.Ok :=
  ⟨ok.mod, ok.kind, ok.glob, ok.blt, ok.above, ok.inj, ok.has, ok.cab, ok.hd, ok.frames, ok.stk, ok.exf, ok.bs, ok.bsz, ok.noex, ok.exfs, ok.funs, ok.frf⟩
section
variable {X : Cx} {pins : List (Addr × Obj)} {σ : St} {H : Hp} {s : Shared} {E : Value → Shared → Prop}
theorem Inv.wish (I : Inv X pins σ H s) (E : Value → Shared → Prop) : Inv (X.wish E) pins σ H s := ⟨I.ok.wish E, I.os, I.bare, I.base, I.loc, I.cell, I.free, I.freeC, I.pin, I.hok, I.len⟩
theorem Inv.unwish (I : Inv (X.wish E) pins σ H s) : Inv X pins σ H s := ⟨I.ok.unwish, I.os, I.bare, I.base, I.loc, I.cell, I.free, I.freeC, I.pin, I.hok, I.len⟩
theorem SP.unwish {D : Ends} {f : Flow} {s' : Shared} (h : SP (X.wish E) pins D f s') : SP X pins D f s' := by
  cases f with
  | next => obtain ⟨σ', H', I, q⟩ := h; exact ⟨σ', H', I.unwish, q⟩
  | brk => obtain ⟨σ', H', I, q⟩ := h; exact ⟨σ', H', I.unwish, q⟩
  | cont => obtain ⟨σ', H', I, q⟩ := h; exact ⟨σ', H', I.unwish, q⟩
  | ret u => obtain ⟨v, σ', H', I, r, q⟩ := h; exact ⟨v, σ', H', I.unwish, r, q⟩
theorem PE.nox {e : Expr} {t : TE} (h : PE X.nox e t) : PE X e t := fun pins s σ H Q I hw =>
  wpAny_mono (h pins s σ H Q (I.wish _) hw) (fun _ _ ⟨v, H', I', r, q⟩ => ⟨v, H', I'.unwish, r, q⟩) fun _ _ z => False.elim z
theorem PT.nox {e : Expr} {t : TT} (h : PT X.nox e t) : PT X e t := fun pins s σ H Q I hw =>
  wpAny_mono (h pins s σ H Q (I.wish _) hw) (fun _ _ ⟨H', I', q⟩ => ⟨H', I'.unwish, q⟩) fun _ _ z => False.elim z
theorem PSs.nox {st : List Stmt} {t : TS} (h : PSs X.nox st t) : PSs X st t := fun pins s σ H D I hw =>
  wpAny_mono (h pins s σ H D (I.wish _) hw) (fun _ _ q => q.unwish) fun _ _ z => False.elim z
end


section
variable {X : Cx} {st : Stmt} {rest : List Stmt} {t u : TS} {e : Expr} {te : TE} {pos : Pos}
def tNext : TS := fun D σ H => D.nx σ H
def tSeq (t u : TS) : TS := fun D σ H => t { D with nx := u D } σ H
theorem pss_nil : PSs X [] tNext := fun _ _ σ H _ I h => wpAny_execs_nil ⟨σ, H, I, h⟩
theorem pss_cons (h1 : PS X st t) (h2 : PSs X rest u) : PSs X (st :: rest) (tSeq t u) := by
  intro pins s σ H D I h
  refine wpAny_execs_cons (thn (h1 pins s σ H { D with nx := u D } I h) fun f s1 q => ?_)
  cases f with
  | next =>
    obtain ⟨σ', H', I', q⟩ := q
    exact h2 pins s1 σ' H' D I' q
  | ret v => exact q
  | brk => exact q
  | cont => exact q
theorem pss_one (h1 : PS X st t) : PSs X [st] t := by
  intro pins s σ H D I h
  refine wpAny_execs_cons (thn (h1 pins s σ H D I h) fun f s1 q => ?_)
  cases f with
  | next => exact wpAny_execs_nil q
  | ret v => exact q
  | brk => exact q
  | cont => exact q
/-- in a def's body nothing is shown -/
theorem Inv.quiet {pins : List (Addr × Obj)} {σ : St} {H : Hp} {s : Shared} (I : Inv X pins σ H s) : interactive X.env = false := by simp [interactive, I.ok.kind]
/-- an expression whose value is dropped -/
def tDrop (te : TE) : TS := fun D σ H => te σ H fun _ H1 => D.nx σ H1
theorem ps_expr (he : PE X e te) (hs : swapsWith e none pos.line X.env = pure false := by rfl) : PS X (.Expr e pos) (tDrop te) := by
  intro pins s σ H D I h
  exact wpAny_Expr_any (thn (he pins s σ H _ I h) fun v s1 ⟨x, H1, I1, r1, q1⟩ => ⟨σ, H1, I1, q1⟩) I.quiet hs
def tRet (te : TE) : TS := fun D σ H => te σ H D.rt
theorem ps_ret (he : PE X e te) : PS X (.Return (some e) pos) (tRet te) := by
  intro pins s σ H D I h
  exact wpAny_Return_some (thn (he pins s σ H _ I h) fun v s1 ⟨x, H1, I1, r1, q1⟩ => ⟨x, σ, H1, I1, r1, q1⟩)
def tIfS (c : TT) (t u : TS) : TS := fun D σ H => c σ H fun b H1 => if b = true then t D σ H1 else u D σ H1
theorem ps_if {c : Expr} {a b : List Stmt} {tc : TT} (hc : PT X c tc) (ha : PSs X a t) (hb : PSs X b u) : PS X (.If c a b pos) (tIfS tc t u) := by
  intro pins s σ H D I h
  refine wpAny_If (thn (hc pins s σ H _ I h) fun d s1 ⟨H1, I1, q1⟩ => ?_)
  cases d with
  | true => exact ha pins s1 σ H1 D I1 q1
  | false => exact hb pins s1 σ H1 D I1 q1
/-- code that the proof never comes to -/
def tNever : TS := fun _ _ _ => False
theorem ps_never : PS X st tNever := fun _ _ _ _ _ _ h => h.elim
end


abbrev TG := V → St → Hp → (St → Hp → Prop) → Prop
abbrev TGs := List V → St → Hp → (St → Hp → Prop) → Prop
def PG (X : Cx) (target : Expr) (t : TG) : Prop :=
  ∀ (pins : List (Addr × Obj)) (s : Shared) (σ : St) (H : Hp) (v : V) (u : Value) (Q : St → Hp → Prop), Inv X pins σ H s → RelV v u → t v σ H Q →
    wpAny (model X.prog X.w) X.A (assign target X.env u) (fun _ s' => ∃ σ' H', Inv X pins σ' H' s' ∧ Q σ' H') X.xe s
/-- several targets, one after another -/
def PGs (X : Cx) (ts : List Expr) (t : TGs) : Prop :=
  ∀ (pins : List (Addr × Obj)) (s : Shared) (σ : St) (H : Hp) (vs : List V) (us : List Value) (Q : St → Hp → Prop), Inv X pins σ H s → Vals vs us → t vs σ H Q →
    wpAny (model X.prog X.w) X.A (assignInOrder ((assignEach ts X.env).map (·.2)) us) (fun _ s' => ∃ σ' H', Inv X pins σ' H' s' ∧ Q σ' H') X.xe s
/-- o[i] = v, by values -/
abbrev TSet := V → V → V → Hp → (Hp → Prop) → Prop
def PSet (X : Cx) (t : TSet) : Prop :=
  ∀ (pins : List (Addr × Obj)) (s : Shared) (σ : St) (H : Hp) (o i v : V) (ov iv u : Value) (Q : Hp → Prop), Inv X pins σ H s → RelV o ov → RelV i iv → RelV v u → t o i v H Q →
    wpAny (model X.prog X.w) X.A (setItem ov iv u) (fun _ s' => ∃ H', Inv X pins σ H' s' ∧ Q H') X.xe s
section
variable {X : Cx} {pos : Pos}
def gName (i : Nat) : TG := fun v σ H Q => Q (σ.set i (some v)) H
theorem pg_name {i : Nat} {x : Str} (hN : X.N.Nodup) (hi : X.N[i]? = some x) (hx : Loc X.env.scope x) (hf : X.fn x = true ∨ X.env.scope.names.lookup x = some .local := by first | exact .inl rfl | exact .inr rfl | assumption) : PG X (.Name x pos) (gName i) := by
  intro pins s σ H v u Q I r h
  exact wpAny_assign_Name (store_ok I hN hi hx r (fun s' I' => ⟨_, H, I', h⟩) hf)
def gNil : TGs := fun vs σ H Q => vs = [] ∧ Q σ H
def gCons (t : TG) (u : TGs) : TGs := fun vs σ H Q => ∃ v r, vs = v :: r ∧ t v σ H fun σ' H' => u r σ' H' Q
/-- (a, b, ..) = a tuple of that length -/
def gTup (K : PySem.W.Frag) (n : Nat) (t : TGs) : TG := fun v σ H Q => ∃ a xs, v = .ref a ∧ SqT K H a xs ∧ xs.length = n ∧ t xs σ H Q
theorem pg_tup {es : List Expr} {k : Nat} {t : TGs} {n : Nat} (hc : X.calm = true) (h : PGs X es t)
    (hn : (assignEach es X.env).length = n := by rfl) (hst : (assignEach es X.env).findIdx? (·.1) = none := by rfl) : PG X (.Tuple es k pos) (gTup X.K n t) := by
  intro pins s σ H v u Q I r hw
  obtain ⟨a, xs, e1, hq, hl, hw⟩ := hw
  subst e1
  cases r
  obtain ⟨its, rv, ht, hz⟩ := I.tuple hq
  refine assign_Tuple_tuple (I.ok.hd hc) ht (by simp [hn, ← hl, rv.length]) hst fun h' hx => ?_
  have I1 : Inv X pins σ H { s with heap := h' } := I.kept (t' := s.toks) fun b o e => hx b o (Nat.ne_of_lt (Heap.lt_size e)) e
  exact h pins _ σ H xs _ Q I1 (by simpa using rv) hw
/-- o[i] = .. -/
def gSub (to ti : TE) (t : TSet) : TG := fun v σ H Q => to σ H fun o H1 => ti σ H1 fun i H2 => t o i v H2 fun H3 => Q σ H3
theorem pg_sub {o i : Expr} {to ti : TE} {t : TSet} (ho : PE X o to) (hi : PE X i ti) (hs : PSet X t)
    (ha : ∀ v, assign (.Subscript o i pos) X.env v = (do
      let ov ← holding [v] (eval o X.env)
      let iv ← holding [v, ov] (eval i X.env)
      standAt pos
      holding [v, ov, iv] (setItem ov iv v)
      release [v, ov, iv] []) := by intro _; rfl) : PG X (.Subscript o i pos) (gSub to ti t) := by
  intro pins s σ H v u Q I r h
  rw [ha]
  refine wpAny_bind (wpAny_holding (thn (ho pins s σ H _ I h) fun ov s1 ⟨x, H1, I1, r1, q1⟩ => ?_))
  refine wpAny_bind (wpAny_holding (thn (hi pins s1 σ H1 _ I1 q1) fun iv s2 ⟨y, H2, I2, r2, q2⟩ => ?_))
  refine wpAny_bind (wpAny_standAt (wpAny_bind (wpAny_holding (thn (hs pins s2 σ H2 x y v ov iv u _ I2 r1 r2 r q2) fun _ s3 ⟨H3, I3, q3⟩ => ?_))))
  exact wpAny_release ⟨σ, H3, I3, q3⟩
/-- target = value -/
def tAsg (te : TE) (g : TG) : TS := fun D σ H => te σ H fun x H1 => g x σ H1 D.nx
theorem ps_asg {tg e : Expr} {te : TE} {g : TG} (he : PE X e te) (hg : PG X tg g) (hs : swapsWithSole [tg] e pos.line X.env = pure false := by rfl) (hw : swappedStores [tg] e X.env = pure none := by rfl)
    (h1 : (assignEach [tg] X.env).map (·.2) = [assign tg X.env] := by rfl) : PS X (.Assign [tg] e pos) (tAsg te g) := by
  intro pins s σ H D I h
  refine wpAny_Assign_stores (thn (he pins s σ H _ I h) fun v s1 ⟨x, H1, I1, r1, q1⟩ => ?_) hs hw
  rw [h1]
  exact thn (hg pins s1 σ H1 x v _ I1 r1 q1) fun _ s2 q => q
/-- name = value -/
theorem ps_set {i : Nat} {x : Str} {e : Expr} {te : TE} {pos' : Pos} (hN : X.N.Nodup) (hi : X.N[i]? = some x) (hx : Loc X.env.scope x) (he : PE X e te) (hs : swapsWith e (some (.Name x pos')) pos.line X.env = pure false := by rfl) (hf : X.fn x = true ∨ X.env.scope.names.lookup x = some .local := by first | exact .inl rfl | exact .inr rfl | assumption) :
    PS X (.Assign [.Name x pos'] e pos) (tAsg te (gName i)) := by
  intro pins s σ H D I h
  refine wpAny_Assign_Name (thn (he pins s σ H _ I h) fun v s1 ⟨y, H1, I1, r1, q1⟩ => ?_) hs
  exact store_ok I1 hN hi hx r1 (fun s2 I2 => ⟨_, H1, I2, q1⟩) hf
end


section
variable {X : Cx} {pos : Pos}
end


/-- at turn i: it yields x (the heap may grow), or it stops -/
structure It where
  go : Nat → Hp → Prop
  yld : Nat → Hp → V → Hp → Prop
  stop : Nat → Hp → Prop
/-- the iterator's own objects may turn: they are not the frame's, not pinned, younger than the entry (or a comprehension's own) -/
def FpOk (X : Cx) (pins : List (Addr × Obj)) (H : Hp) (b : Addr) : Prop :=
  H b = none ∧ b ≠ X.env.locals ∧ b ∉ X.fs ∧ (b ∈ X.ex ∨ X.s₀.heap.objs.size ≤ b) ∧ (∀ x c, X.env.cells.lookup x = some c → c ≠ b) ∧ ∀ p ∈ X.pn ++ pins, p.1 ≠ b
theorem Inv.fpOk {X : Cx} {pins : List (Addr × Obj)} {σ : St} {H H' : Hp} {s : Shared} {b : Addr} (I : Inv X pins σ H s) (hb : s.heap.objs.size ≤ b) (hn : H' b = none) : FpOk X pins H' b := by
  refine ⟨hn, Nat.ne_of_gt (Nat.lt_of_lt_of_le I.lt hb), I.nofs hb, .inr (Nat.le_trans I.sz hb), fun x c e z => ?_, fun p hp z => ?_⟩
  · obtain ⟨v, q⟩ := I.cell x c e
    exact absurd (Nat.lt_of_lt_of_le q.lt (by rw [z]; exact hb)) (Nat.lt_irrefl _)
  · exact absurd (Nat.lt_of_lt_of_le (Heap.lt_size (I.pin p hp).1) (by rw [z]; exact hb)) (Nat.lt_irrefl _)
structure Turn (P : Program) (w : World) (K : PySem.W.Frag) (tg : Expr) (J : It) (fp : List Addr) (it : Addr) (tn : Nat → Heap → Prop) : Prop where
  mem : it ∈ fp
  obj : ∀ i h, tn i h → ∀ b ∈ fp, ∃ o, h.get? b = some o ∧ ∀ v, o.data ≠ .cell v
  keep : ∀ i h h', tn i h → (∀ b ∈ fp, ∀ o, h.get? b = some o → h'.get? b = some o) → tn i h'
  item : ∀ (X : Cx), X.prog = P → X.w = w → X.K = K → X.calm = true → ∀ (i : Nat) (pins : List (Addr × Obj)) (s : Shared) (σ : St) (H : Hp) (E : Value → Shared → Prop), Inv X pins σ H s → (∀ b ∈ fp, FpOk X pins H b) → tn i s.heap → J.go i H →
    wpAny (model P w) X.A (pyNext (.ref it)) (fun r s1 => ∃ u, r = some u ∧
      wpAny (model P w) X.A (letOwnedTupleGo tg (.ref it) u) (fun _ s2 => ∃ x H', Inv X pins σ H' s2 ∧ RelV x u ∧ J.yld i H x H' ∧ tn (i + 1) s2.heap ∧ ∀ b ∈ fp, H' b = none) E s1) E s
  done : ∀ (X : Cx), X.prog = P → X.w = w → X.K = K → X.calm = true → ∀ (i : Nat) (pins : List (Addr × Obj)) (s : Shared) (σ : St) (H : Hp) (E : Value → Shared → Prop), Inv X pins σ H s → (∀ b ∈ fp, FpOk X pins H b) → tn i s.heap → J.stop i H →
    wpAny (model P w) X.A (pyNext (.ref it)) (fun r s1 => r = none ∧ Inv X pins σ H s1) E s
  self : ∀ (A : Around) (i : Nat) (s : Shared) (Q : Value → Shared → Prop) (E : Value → Shared → Prop), tn i s.heap → Q (.ref it) s → wpAny (model P w) A (pyIter (.ref it)) Q E s
abbrev TI := St → Hp → (It → Hp → Prop) → Prop
/-- an iterator has come -/
def PIE (X : Cx) (pins : List (Addr × Obj)) (σ : St) (tg : Expr) (R : It → Hp → Prop) (itv : Value) (s2 : Shared) : Prop :=
  ∃ (it : Addr) (fp : List Addr) (tn : Nat → Heap → Prop) (J : It) (H' : Hp), itv = .ref it ∧ Inv X pins σ H' s2 ∧ Turn X.prog X.w X.K tg J fp it tn ∧ tn 0 s2.heap ∧ (∀ b ∈ fp, FpOk X pins H' b) ∧ R J H'
def PI (X : Cx) (tg iter : Expr) (wi : TI) : Prop :=
  ∀ (pins : List (Addr × Obj)) (s : Shared) (σ : St) (H : Hp) (R : It → Hp → Prop), Inv X pins σ H s → wi σ H R →
    wpAny (model X.prog X.w) X.A (eval iter X.env) (fun v s1 => wpAny (model X.prog X.w) X.A (pyIter v) (PIE X pins σ tg R) X.xe s1) X.xe s

/-- the step ahead of the store is nothing for an iterator that keeps no tuple -/
theorem go_of {M : Model} {A : Around} {E : Value → Shared → Prop} {s : Shared} {tg : Expr} {it : Addr} {u : Value} {o : Obj} {n : String} {vs : Array Value} {Q : Unit → Shared → Prop} (ho : s.heap.get? it = some o) (hc : o.cls = .type n) (hd : o.data = .fields vs)
    (hn : ["enumerate", "zip", "dict_itemiterator", "dict_reverseitemiterator", "odict_iterator", "itertools.zip_longest", "itertools.pairwise"].contains n = false) (hQ : Q () s) : wpAny M A (letOwnedTupleGo tg (.ref it) u) Q E s := by
  unfold letOwnedTupleGo
  cases tg <;> first
    | exact wpAny_pure hQ
    | (cases u <;> first
        | exact wpAny_pure hQ
        | (refine wpAny_bind (wpAny_load ho ?_)
           rw [hc, hd]
           show wpAny M A (if (["enumerate", "zip", "dict_itemiterator", "dict_reverseitemiterator", "odict_iterator", "itertools.zip_longest", "itertools.pairwise"].contains n && vs[0]? == some (rawInt _)) = true then _ else _) Q E s
           rw [if_neg (by intro h; rw [hn, Bool.false_and] at h; cases h)]
           exact wpAny_pure hQ))

/-- the list at a, as it stands at each turn (a loop may append to it) -/
def Itl (K : PySem.W.Frag) (a : Addr) : It :=
  ⟨fun i H => ∃ xs x, SqL K H a xs ∧ xs[i]? = some x, fun i H x H' => H' = H ∧ ∀ xs, SqL K H a xs → xs[i]? = some x, fun i H => ∃ xs, SqL K H a xs ∧ xs.length ≤ i⟩
def Itt (K : PySem.W.Frag) (a : Addr) : It :=
  ⟨fun i H => ∃ xs x, SqT K H a xs ∧ xs[i]? = some x, fun i H x H' => H' = H ∧ ∀ xs, SqT K H a xs → xs[i]? = some x, fun i H => ∃ xs, SqT K H a xs ∧ xs.length ≤ i⟩
/-- lo, lo + 1, .. (n of them) -/
def Itr (lo : Int) (n : Nat) : It := ⟨fun i _ => i < n, fun i H x H' => H' = H ∧ x = .int (lo + i), fun i _ => n ≤ i⟩
theorem turn_list {P : Program} {w : World} {K : PySem.W.Frag} {tg : Expr} (a it : Addr) : Turn P w K tg (Itl K a) [it] it (fun i h => h.IsListIter it a i) where
  mem := by simp
  obj := fun i h st b hb => by
    have e : b = it := by simpa using hb
    subst e
    obtain ⟨o, e, c, d⟩ := st
    exact ⟨o, e, fun v z => by rw [d] at z; cases z⟩
  keep := fun i h h' st k => st.at fun o e => k it (by simp) o e
  item := by
    intro X hP hw hK hc i pins s σ H E I hf st hg
    subst hP hw hK
    obtain ⟨xs, x, hq, hx⟩ := hg
    obtain ⟨its, rv, p, hz⟩ := I.list hq
    obtain ⟨u, hu, ru⟩ := rv.get hx
    obtain ⟨f0, f1, f2, f3, f4, f5⟩ := hf it (by simp)
    refine wpAny_pyNext_list_item st p.isList (x := u) (by simpa using hu) fun h' st' sb => ?_
    have I1 : Inv X pins σ H { s with heap := h' } := I.turned (t' := s.toks) (fun b o hb e => (sb.2 b hb).trans e) f0 f1 f3 f4 f5
    obtain ⟨o, e, c, d⟩ := id st'
    exact ⟨u, rfl, go_of (s := { s with heap := h' }) e c d (by decide) ⟨x, H, I1, ru, ⟨rfl, fun ys hy => by rw [I.list_inj hy hq]; exact hx⟩, st', fun b hb => (hf b hb).1⟩⟩
  done := by
    intro X hP hw hK hc i pins s σ H E I hf st hg
    subst hP hw hK
    obtain ⟨xs, hq, hx⟩ := hg
    obtain ⟨its, rv, p, hz⟩ := I.list hq
    obtain ⟨f0, f1, f2, f3, f4, f5⟩ := hf it (by simp)
    have hl := rv.length
    exact wpAny_pyNext_list_end (I.ok.hd hc) st p.isList (by simp; omega) fun h' eb => ⟨rfl, I.turned (t' := s.toks) (fun b o hb e => eb b o hb e) f0 f1 f3 f4 f5⟩
  self := fun _ _ _ _ _ st h => wpAny_pyIter_listiter st h
theorem turn_tuple {P : Program} {w : World} {K : PySem.W.Frag} {tg : Expr} (a it : Addr) : Turn P w K tg (Itt K a) [it] it (fun i h => h.IsTupleIter it a i) where
  mem := by simp
  obj := fun i h st b hb => by
    have e : b = it := by simpa using hb
    subst e
    obtain ⟨o, e, c, d⟩ := st
    exact ⟨o, e, fun v z => by rw [d] at z; cases z⟩
  keep := fun i h h' st k => st.at fun o e => k it (by simp) o e
  item := by
    intro X hP hw hK hc i pins s σ H E I hf st hg
    subst hP hw hK
    obtain ⟨xs, x, hq, hx⟩ := hg
    obtain ⟨its, rv, p, hz⟩ := I.tuple hq
    obtain ⟨u, hu, ru⟩ := rv.get hx
    obtain ⟨f0, f1, f2, f3, f4, f5⟩ := hf it (by simp)
    refine wpAny_pyNext_tuple_item st (show s.heap.IsTuple a its.toArray from p) (x := u) (by simpa using hu) fun h' st' sb => ?_
    have I1 : Inv X pins σ H { s with heap := h' } := I.turned (t' := s.toks) (fun b o hb e => (sb.2 b hb).trans e) f0 f1 f3 f4 f5
    obtain ⟨o, e, c, d⟩ := id st'
    exact ⟨u, rfl, go_of (s := { s with heap := h' }) e c d (by decide) ⟨x, H, I1, ru, ⟨rfl, fun ys hy => by rw [I.tuple_inj hy hq]; exact hx⟩, st', fun b hb => (hf b hb).1⟩⟩
  done := by
    intro X hP hw hK hc i pins s σ H E I hf st hg
    subst hP hw hK
    obtain ⟨xs, hq, hx⟩ := hg
    obtain ⟨its, rv, p, hz⟩ := I.tuple hq
    obtain ⟨f0, f1, f2, f3, f4, f5⟩ := hf it (by simp)
    have hl := rv.length
    exact wpAny_pyNext_tuple_end (I.ok.hd hc) st (show s.heap.IsTuple a its.toArray from p) (by simp; omega) fun h' eb => ⟨rfl, I.turned (t' := s.toks) (fun b o hb e => eb b o hb e) f0 f1 f3 f4 f5⟩
  self := fun _ _ _ _ _ st h => wpAny_pyIter_tupleiter st h
theorem turn_range {P : Program} {w : World} {K : PySem.W.Frag} {tg : Expr} (it : Addr) (lo : Int) (n : Nat) : Turn P w K tg (Itr lo n) [it] it (fun i h => IsRangeIter h it (lo + (i : Nat) * 1) ((n : Int) - (i : Nat)) 1) where
  mem := by simp
  obj := fun i h st b hb => by
    have e : b = it := by simpa using hb
    subst e
    exact ⟨_, st, fun v z => by
      have z' : Data.fields _ = Data.cell v := z
      cases z'⟩
  keep := fun i h h' st k => k it (by simp) _ st
  item := by
    intro X hP hw hK hc i pins s σ H E I hf st hg
    subst hP hw hK
    obtain ⟨f0, f1, f2, f3, f4, f5⟩ := hf it (by simp)
    have W := Walks.range (prog := X.prog) (w := X.w) (I.ok.hd hc) it lo 1 n
    refine W.item i s _ _ hg st fun v h' tk hv st' kk => ?_
    obtain ⟨t, rfl⟩ := hv
    have I1 : Inv X pins σ H { s with heap := h', toks := tk } := I.turned (fun b o hb e => kk b o (by simpa using hb) e) f0 f1 f3 f4 f5
    refine ⟨_, rfl, go_of (s := { s with heap := h', toks := tk }) (n := "range_iterator") st' rfl rfl (by decide) ⟨.int (lo + i), H, I1, ⟨t, ?_⟩, ⟨rfl, rfl⟩, st', fun b hb => (hf b hb).1⟩⟩
    rw [Int.mul_one]
  done := by
    intro X hP hw hK hc i pins s σ H E I hf st hg
    subst hP hw hK
    obtain ⟨f0, f1, f2, f3, f4, f5⟩ := hf it (by simp)
    exact wpAny_pyNext_range_end (I.ok.hd hc) st (by have : n ≤ i := hg; omega) fun h' eb => ⟨rfl, I.turned (t' := s.toks) (fun b o hb e => eb b o hb e) f0 f1 f3 f4 f5⟩
  self := fun _ _ _ _ _ st h => wpAny_pyIter_rangeiter st h
end L2

namespace L2
open PySem PySem.Spec PyProof.Rows
section
variable {X : Cx} {tg : Expr}
def iList (K : PySem.W.Frag) (tl : TE) : TI := fun σ H R => tl σ H fun x H1 => ∃ a, x = .ref a ∧ (∃ xs, SqL K H1 a xs) ∧ R (Itl K a) H1
def iTup (K : PySem.W.Frag) (tl : TE) : TI := fun σ H R => tl σ H fun x H1 => ∃ a, x = .ref a ∧ (∃ xs, SqT K H1 a xs) ∧ R (Itt K a) H1
theorem pi_list {l : Expr} {tl : TE} (hl : PE X l tl) : PI X tg l (iList X.K tl) := by
  intro pins s σ H R I h
  refine thn (hl pins s σ H _ I h) fun v s1 ⟨x, H1, I1, r1, q1⟩ => ?_
  obtain ⟨a, e, ⟨xs, hq⟩, q⟩ := q1
  subst e
  cases r1
  obtain ⟨its, rv, p, hz⟩ := I1.list hq
  refine wpAny_pyIter_list p.isList ?_
  refine ⟨s1.heap.objs.size, [s1.heap.objs.size], _, _, H1, rfl, I1.kept (t' := s1.toks) fun b o e => Heap.get?_push_of_some _ e, turn_list a _, ⟨_, Heap.get?_push_size _ rfl, rfl, rfl⟩, fun b hb => ?_, q⟩
  have e : b = s1.heap.objs.size := by simpa using hb
  subst e
  exact I1.fpOk (Nat.le_refl _) (I1.hok.fresh (Nat.le_refl _))
theorem pi_tup {l : Expr} {tl : TE} (hl : PE X l tl) : PI X tg l (iTup X.K tl) := by
  intro pins s σ H R I h
  refine thn (hl pins s σ H _ I h) fun v s1 ⟨x, H1, I1, r1, q1⟩ => ?_
  obtain ⟨a, e, ⟨xs, hq⟩, q⟩ := q1
  subst e
  cases r1
  obtain ⟨its, rv, p, hz⟩ := I1.tuple hq
  refine wpAny_pyIter_tuple (show s1.heap.IsTuple a its.toArray from p) ?_
  refine ⟨s1.heap.objs.size, [s1.heap.objs.size], _, _, H1, rfl, I1.kept (t' := s1.toks) fun b o e => Heap.get?_push_of_some _ e, turn_tuple a _, ⟨_, Heap.get?_push_size _ rfl, rfl, rfl⟩, fun b hb => ?_, q⟩
  have e : b = s1.heap.objs.size := by simpa using hb
  subst e
  exact I1.fpOk (Nat.le_refl _) (I1.hok.fresh (Nat.le_refl _))
/-- a range object just made, walked -/
theorem range_it {pins : List (Addr × Obj)} {σ : St} {H : Hp} {s : Shared} {R : It → Hp → Prop} {E : Value → Shared → Prop} {lo hi : Int} {t u v : Tok} {tk : Nat} (I : Inv X pins σ H s) (h1 : -(2 ^ 62) ≤ lo) (h2 : lo < 2 ^ 62) (h3 : -(2 ^ 62) ≤ hi) (h4 : hi < 2 ^ 62)
    (q : R (Itr lo (hi - lo).toNat) H) : wpAny (model X.prog X.w) X.A (pyIter (.ref s.heap.objs.size)) (PIE X pins σ tg R) E { s with heap := s.heap.push { cls := .type "range", data := .fields #[.int lo t, .int hi u, .int 1 v] }, toks := tk } := by
  refine wpAny_pyIter_range (IsRange.new ..) (small_one h1 h2 h3 h4) ?_
  have I1 : Inv X pins σ H { s with heap := s.heap.push { cls := .type "range", data := .fields #[.int lo t, .int hi u, .int 1 v] }, toks := tk } := I.kept fun b o e => Heap.get?_push_of_some _ e
  refine ⟨(s.heap.push { cls := .type "range", data := .fields #[.int lo t, .int hi u, .int 1 v] }).objs.size, [(s.heap.push { cls := .type "range", data := .fields #[.int lo t, .int hi u, .int 1 v] }).objs.size], _, _, H, rfl,
    I1.kept (t' := tk) fun b o e => Heap.get?_push_of_some _ e, turn_range _ lo (hi - lo).toNat, ?_, fun b hb => ?_, q⟩
  · have e1 : lo + ((0 : Nat) : Int) * 1 = lo := by simp
    have e2 : (((hi - lo).toNat : Nat) : Int) - ((0 : Nat) : Int) = Builtin.Range.rangeSize lo hi 1 := by rw [rangeSize_one]; split <;> omega
    show IsRangeIter _ _ (lo + ((0 : Nat) : Int) * 1) ((((hi - lo).toNat : Nat) : Int) - ((0 : Nat) : Int)) 1
    rw [e1, e2]
    exact Heap.get?_push_size _ rfl
  · have e : b = (s.heap.push { cls := .type "range", data := .fields #[.int lo t, .int hi u, .int 1 v] }).objs.size := by simpa using hb
    subst e
    exact I1.fpOk (Nat.le_refl _) (I1.hok.fresh (Nat.le_refl _))
def iRng1 (ta : TA) : TI := fun σ H R => ta σ H fun vs H1 => ∃ j : Int, vs = [.int j] ∧ -(2 ^ 62) ≤ j ∧ j < 2 ^ 62 ∧ R (Itr 0 j.toNat) H1
theorem pi_range1 {a : Expr} {ta : TA} {p pos : Pos} (hg : Gl X "range") (hm : X.mg "range" = none) (ha : PA X [a] ta) (hs : starEach [a] X.env = [(false, eval a X.env)] := by rfl) : PI X tg (.Call (.Name "range" p) [a] [] pos) (iRng1 ta) := by
  intro pins s σ H R I h
  refine Call_ (ld_blt I hg hm boot_range (PyProof.Rows.callWith_type1 (thn (ha pos pins s σ H _ I h) fun us s1 ⟨vs, H1, I1, r1, q1⟩ => ?_) hs rfl))
  obtain ⟨j, e, q1, q2, q⟩ := q1
  subst e
  cases r1 with
  | cons r rr =>
    cases rr
    obtain ⟨t, rfl⟩ := r
    exact call_range_1 (range_it I1 (by omega) (by omega) q1 q2 (by simpa using q))
/-- W: the invariant by the turn and a measure; N: what the body is to reach -/
def tFor (wi : TI) (g : TG) (tb : TS) : TS := fun D σ H => wi σ H fun J H1 => ∃ W : Nat → Nat → St → Hp → Prop, (∃ m, W 0 m σ H1) ∧ ∀ i m σ H, W i m σ H →
  (J.stop i H ∧ D.nx σ H) ∨ (J.go i H ∧ ∃ N : St → Hp → Prop, (∀ σ' H', N σ' H' → ∃ m', m' < m ∧ W (i + 1) m' σ' H') ∧ ∀ x H', J.yld i H x H' → g x σ H' fun σ2 H2 => tb { D with nx := N, ct := N, bk := D.nx } σ2 H2)
/-- the records at fp as they stand -/
def pinsAt (fp : List Addr) (h : Heap) : List (Addr × Obj) := fp.filterMap fun b => (h.get? b).map fun o => (b, o)
theorem mem_pinsAt {fp : List Addr} {h : Heap} {b : Addr} {o : Obj} (hb : b ∈ fp) (e : h.get? b = some o) : (b, o) ∈ pinsAt fp h := List.mem_filterMap.mpr ⟨b, hb, by rw [e]; rfl⟩
theorem of_pinsAt {fp : List Addr} {h : Heap} {p : Addr × Obj} (hp : p ∈ pinsAt fp h) : p.1 ∈ fp ∧ h.get? p.1 = some p.2 := by
  obtain ⟨b, hb, e⟩ := List.mem_filterMap.mp hp
  cases q : h.get? b with
  | none => rw [q] at e; cases e
  | some o =>
    rw [q] at e
    have e' : (b, o) = p := Option.some.inj e
    subst e'
    exact ⟨hb, q⟩
theorem Inv.pinned {pins : List (Addr × Obj)} {σ : St} {H : Hp} {s : Shared} {fp : List Addr} (I : Inv X pins σ H s) (hf : ∀ b ∈ fp, FpOk X pins H b) (ho : ∀ b ∈ fp, ∃ o, s.heap.get? b = some o ∧ ∀ v, o.data ≠ .cell v) : Inv X (pins ++ pinsAt fp s.heap) σ H s :=
  I.pins_of fun p hp => (List.mem_append.mp hp).elim (fun z => I.pin p (List.mem_append_right _ z)) fun z => by
    obtain ⟨hb, e⟩ := of_pinsAt z
    obtain ⟨f0, f1, f2, _⟩ := hf p.1 hb
    obtain ⟨o, e', d⟩ := ho p.1 hb
    rw [e] at e'; cases e'
    exact ⟨e, f0, f1, f2, d⟩
theorem Inv.unpinned {pins pl : List (Addr × Obj)} {σ : St} {H : Hp} {s : Shared} (I : Inv X (pins ++ pl) σ H s) : Inv X pins σ H s := I.pins_of fun p hp => I.pin p (List.mem_append_right _ (List.mem_append_left _ hp))
theorem ps_for {iter : Expr} {body : List Stmt} {wi : TI} {g : TG} {tb : TS} {pos : Pos} (hp : PassesOwn (model X.prog X.w) X.A X.env X.xe) (hc : X.calm = true) (hi : PI X tg iter wi) (hg : PG X tg g) (hb : PSs X body tb)
    (hs : ∀ x, foldedSetIterable iter X.env x = pure x := by intro _; rfl) : PS X (.For tg iter body [] pos) (tFor wi g tb) := by
  intro pins s σ H D I h
  refine wpAny_For (thn (hi pins s σ H _ I h) fun v s1 h1 => thn h1 fun itv s2 h2 => ?_) hs
  obtain ⟨it, fp, tn, J, H2, e, I2, T, st2, f2, W, ⟨m0, w0⟩, turn⟩ := h2
  subst e
  -- what stays true of the iterator's objects through the loop
  have stat : ∀ {H' : Hp}, (∀ b ∈ fp, H' b = none) → ∀ b ∈ fp, FpOk X pins H' b := fun hn b hb => ⟨hn b hb, (f2 b hb).2⟩
  refine codeAny_forLoop_any (fun n s' => ∃ i σ' H', Inv X pins σ' H' s' ∧ tn i s'.heap ∧ (∀ b ∈ fp, H' b = none) ∧ W i n σ' H') ?_ m0 ⟨0, σ, H2, I2, st2, fun b hb => (f2 b hb).1, w0⟩
  rintro n s3 ⟨i, σ3, H3, I3, st3, fr3, w3⟩
  rcases turn i n σ3 H3 w3 with ⟨stop, qn⟩ | ⟨go, N, hN, step⟩
  · refine wpAny_passesOwn hp (thn (T.done X rfl rfl rfl hc i pins s3 σ3 H3 X.xe I3 (stat fr3) st3 stop) fun r s4 ⟨hr, I4⟩ => ?_)
    subst hr
    exact wpAny_execs_nil ⟨σ3, H3, I4, qn⟩
  · refine wpAny_passesOwn hp (thn (T.item X rfl rfl rfl hc i pins s3 σ3 H3 X.xe I3 (stat fr3) st3 go) fun r s4 ⟨u, hr, h4⟩ => ?_)
    subst hr
    refine wpAny_passesOwn hp (thn h4 fun _ s5 ⟨x, H5, I5, r5, y5, st5, fr5⟩ => ?_)
    have I5' := I5.pinned (stat fr5) (T.obj _ _ st5)
    refine wpAny_passesOwn hp (thn (hg _ s5 σ3 H5 x u _ I5' r5 (step x H5 y5)) fun _ s6 ⟨σ6, H6, I6, q6⟩ => ?_)
    refine wpAny_passesOwn hp (thn (hb _ s6 σ6 H6 _ I6 q6) fun f s7 q7 => ?_)
    have again : ∀ {σ7 : St} {H7 : Hp}, Inv X (pins ++ pinsAt fp s5.heap) σ7 H7 s7 → N σ7 H7 → ∃ m, m < n ∧ ∃ i σ' H', Inv X pins σ' H' s7 ∧ tn i s7.heap ∧ (∀ b ∈ fp, H' b = none) ∧ W i m σ' H' := fun {σ7 H7} I7 n7 => by
      obtain ⟨m', hm, w7⟩ := hN σ7 H7 n7
      refine ⟨m', hm, i + 1, σ7, H7, I7.unpinned, T.keep _ _ _ st5 fun b hb o e => (I7.pin (b, o) (List.mem_append_right _ (List.mem_append_right _ (mem_pinsAt hb e)))).1, fun b hb => ?_, w7⟩
      obtain ⟨o, e, d⟩ := T.obj _ _ st5 b hb
      exact (I7.pin (b, o) (List.mem_append_right _ (List.mem_append_right _ (mem_pinsAt hb e)))).2.1
    cases f with
    | next => obtain ⟨σ7, H7, I7, n7⟩ := q7; exact again I7 n7
    | cont => obtain ⟨σ7, H7, I7, n7⟩ := q7; exact again I7 n7
    | brk => obtain ⟨σ7, H7, I7, q7⟩ := q7; exact ⟨σ7, H7, I7.unpinned, q7⟩
    | ret v => obtain ⟨x7, σ7, H7, I7, r7, q7⟩ := q7; exact ⟨x7, σ7, H7, I7.unpinned, r7, q7⟩
end


theorem for_range {lo : Int} {n : Nat} {g : TG} {tb : TS} {D : Ends} {σ : St} {H : Hp} (Pv : Nat → St → Hp → Prop) (h0 : Pv 0 σ H)
    (hs : ∀ i σ H, i < n → Pv i σ H → g (.int (lo + i)) σ H fun σ2 H2 => tb { D with nx := Pv (i + 1), ct := Pv (i + 1), bk := D.nx } σ2 H2) (hd : ∀ σ H, Pv n σ H → D.nx σ H) :
    ∃ W : Nat → Nat → St → Hp → Prop, (∃ m, W 0 m σ H) ∧ ∀ i m σ H, W i m σ H →
      ((Itr lo n).stop i H ∧ D.nx σ H) ∨ ((Itr lo n).go i H ∧ ∃ N : St → Hp → Prop, (∀ σ' H', N σ' H' → ∃ m', m' < m ∧ W (i + 1) m' σ' H') ∧ ∀ x H', (Itr lo n).yld i H x H' → g x σ H' fun σ2 H2 => tb { D with nx := N, ct := N, bk := D.nx } σ2 H2) := by
  refine ⟨fun i m σ H => m = n - i ∧ i ≤ n ∧ Pv i σ H, ⟨n, by simp, Nat.zero_le _, h0⟩, ?_⟩
  rintro i m σ H ⟨rfl, hi, p⟩
  by_cases hlt : i < n
  · refine .inr ⟨hlt, Pv (i + 1), fun σ' H' p' => ⟨n - (i + 1), by omega, rfl, hlt, p'⟩, fun x H' y => ?_⟩
    obtain ⟨e, y⟩ := y
    subst e y
    exact hs i σ _ hlt p
  · have e : i = n := by omega
    subst e
    exact .inl ⟨Nat.le_refl _, hd σ H p⟩
end L2

namespace L2
open PySem PySem.Spec PyProof.Rows

abbrev R2 := V → V → Hp → VK → Prop
/-- a two-place operation on values: f is binaryOp op, inplaceOp op or compareOp op -/
def OpR (X : Cx) (f : Value → Value → Sem Value) (r : R2) : Prop :=
  ∀ (pins : List (Addr × Obj)) (s : Shared) (σ : St) (H : Hp) (x y : V) (v u : Value) (Q : VK), Inv X pins σ H s → RelV x v → RelV y u → r x y H Q →
    wpAny (model X.prog X.w) X.A (f v u) (EP X pins σ Q) X.xe s
/-- a one-place operation -/
def UnR (X : Cx) (f : Value → Sem Value) (r : V → Hp → VK → Prop) : Prop :=
  ∀ (pins : List (Addr × Obj)) (s : Shared) (σ : St) (H : Hp) (x : V) (v : Value) (Q : VK), Inv X pins σ H s → RelV x v → r x H Q →
    wpAny (model X.prog X.w) X.A (f v) (EP X pins σ Q) X.xe s
/-- a call of a value that is known (a builtin, a type) with values -/
def CallR (X : Cx) (f : Value) (r : List V → Hp → VK → Prop) : Prop :=
  ∀ (pins : List (Addr × Obj)) (s : Shared) (σ : St) (H : Hp) (xs : List V) (us : List Value) (Q : VK), Inv X pins σ H s → Vals xs us → r xs H Q →
    wpAny (model X.prog X.w) X.A (call f us) (EP X pins σ Q) X.xe s
def tOp (r : R2) (ta tb : TE) : TE := fun σ H Q => ta σ H fun x H1 => tb σ H1 fun y H2 => r x y H2 Q
def tUn (r : V → Hp → VK → Prop) (ta : TE) : TE := fun σ H Q => ta σ H fun x H1 => r x H1 Q
/-- ints in, under C, and a value out -/
def rI (C : Int → Int → Prop) (g : Int → Int → V) : R2 := fun x y H Q => ∃ i j, x = .int i ∧ y = .int j ∧ C i j ∧ Q (g i j) H
def rI0 (g : Int → Int → V) : R2 := fun x y H Q => ∃ i j, x = .int i ∧ y = .int j ∧ Q (g i j) H
def rU (g : Int → V) : V → Hp → VK → Prop := fun x H Q => ∃ i, x = .int i ∧ Q (g i) H

section
variable {X : Cx} {a b c : Expr} {ta tb tc : TE} {pos : Pos}

theorem binT (ha : PE X a ta) (hb : PE X b tb) {pins : List (Addr × Obj)} {s : Shared} {σ : St} {H : Hp} {R : V → V → Hp → Prop} (I : Inv X pins σ H s)
    (h : ta σ H fun x H1 => tb σ H1 fun y H2 => R x y H2) {Q : Value → Shared → Prop} {f : Value → Value → Sem Value}
    (hf : ∀ v u s2 x y H2, Inv X pins σ H2 s2 → RelV x v → RelV y u → R x y H2 → wpAny (model X.prog X.w) X.A (f v u) Q X.xe s2) :
    wpAny (model X.prog X.w) X.A (eval a X.env) (fun v s₁ => wpAny (model X.prog X.w) X.A (eval b X.env) (fun u s₂ => wpAny (model X.prog X.w) X.A (f v u) Q X.xe s₂) X.xe s₁) X.xe s := by
  refine thn (ha pins s σ H _ I h) fun v s1 ⟨x, H1, I1, r1, q1⟩ => ?_
  refine thn (hb pins s1 σ H1 _ I1 q1) fun u s2 ⟨y, H2, I2, r2, q2⟩ => ?_
  exact hf v u s2 x y H2 I2 r1 r2 q2

theorem pe_op {op : Operator} {r : R2} (ho : OpR X (binaryOp op) r) (ha : PE X a ta) (hb : PE X b tb) : PE X (.BinOp a op b pos) (tOp r ta tb) := by
  intro pins s σ H Q I h
  exact wpAny_BinOp (binT ha hb I h fun v u s2 x y H2 I2 rx ry q => ho pins s2 σ H2 x y v u Q I2 rx ry q)
theorem pe_un {op : UnaryOp} {r : V → Hp → VK → Prop} (ho : UnR X (unaryOp op) r) (ha : PE X a ta) : PE X (.UnaryOp op a pos) (tUn r ta) := by
  intro pins s σ H Q I h
  exact UnaryOp_ (thn (ha pins s σ H _ I h) fun v s1 ⟨x, H1, I1, r1, q1⟩ => ho pins s1 σ H1 x v Q I1 r1 q1)
theorem opI {f : Value → Value → Sem Value} {C : Int → Int → Prop} {g : Int → Int → Int}
    (rule : ∀ (i j : Int) (t u : Tok) (s : Shared) (Q : Value → Shared → Prop) (E : Value → Shared → Prop), C i j → Q (.int (g i j) s.toks) { s with toks := s.toks + 1 } → wpAny (model X.prog X.w) X.A (f (.int i t) (.int j u)) Q E s) :
    OpR X f (rI C fun i j => .int (g i j)) := by
  intro pins s σ H x y v u Q I rx ry h
  obtain ⟨i, j, rfl, rfl, hc, q⟩ := h
  obtain ⟨t, rfl⟩ := rx
  obtain ⟨t', rfl⟩ := ry
  exact rule i j t t' s _ _ hc ⟨.int (g i j), H, I.tok _, ⟨_, rfl⟩, q⟩
theorem opI0 {f : Value → Value → Sem Value} {g : Int → Int → Int}
    (rule : ∀ (i j : Int) (t u : Tok) (s : Shared) (Q : Value → Shared → Prop) (E : Value → Shared → Prop), Q (.int (g i j) s.toks) { s with toks := s.toks + 1 } → wpAny (model X.prog X.w) X.A (f (.int i t) (.int j u)) Q E s) :
    OpR X f (rI0 fun i j => .int (g i j)) := by
  intro pins s σ H x y v u Q I rx ry h
  obtain ⟨i, j, rfl, rfl, q⟩ := h
  obtain ⟨t, rfl⟩ := rx
  obtain ⟨t', rfl⟩ := ry
  exact rule i j t t' s _ _ ⟨.int (g i j), H, I.tok _, ⟨_, rfl⟩, q⟩
theorem opB0 {f : Value → Value → Sem Value} {g : Int → Int → Bool}
    (rule : ∀ (i j : Int) (t u : Tok) (s : Shared) (Q : Value → Shared → Prop) (E : Value → Shared → Prop), Q (.bool (g i j)) s → wpAny (model X.prog X.w) X.A (f (.int i t) (.int j u)) Q E s) :
    OpR X f (rI0 fun i j => .bl (g i j)) := by
  intro pins s σ H x y v u Q I rx ry h
  obtain ⟨i, j, rfl, rfl, q⟩ := h
  obtain ⟨t, rfl⟩ := rx
  obtain ⟨t', rfl⟩ := ry
  exact rule i j t t' s _ _ ⟨.bl (g i j), H, I, rfl, q⟩

def CMul (i j : Int) : Prop := (-(2 ^ 64) < i ∧ i < 2 ^ 64) ∨ (-(2 ^ 64) < j ∧ j < 2 ^ 64)
theorem CMul.ok {i j : Int} (h : CMul i j) : IntMulOk i j := by
  rcases h with ⟨h1, h2⟩ | ⟨h1, h2⟩
  · exact .of_left (intBits_le_64 h1 h2)
  · exact .of_right (intBits_le_64 h1 h2)
theorem op_add : OpR X (binaryOp .Add) (rI0 fun i j => .int (i + j)) := opI0 fun _ _ _ _ _ _ _ q => add_int q
theorem op_sub : OpR X (binaryOp .Sub) (rI0 fun i j => .int (i - j)) := opI0 fun _ _ _ _ _ _ _ q => sub_int q
theorem op_mul : OpR X (binaryOp .Mult) (rI CMul fun i j => .int (i * j)) := opI fun _ _ _ _ _ _ _ hc q => mul_int q hc.ok
/-- % by a positive divisor of any size -/
theorem op_mod : OpR X (binaryOp .Mod) (rI (fun _ j => 0 < j) fun i j => .int (i % j)) := opI fun i j _ _ _ _ _ hc q => by
  have h1 : (0 : Int) < j := hc
  exact mod_int' (by omega) (by rw [Int.fmod_eq_emod_of_nonneg i (by omega)]; exact q)
theorem unI {f : Value → Sem Value} {g : Int → Int}
    (rule : ∀ (i : Int) (t : Tok) (s : Shared) (Q : Value → Shared → Prop) (E : Value → Shared → Prop), Q (.int (g i) s.toks) { s with toks := s.toks + 1 } → wpAny (model X.prog X.w) X.A (f (.int i t)) Q E s) :
    UnR X f (rU fun i => .int (g i)) := by
  intro pins s σ H x v Q I rx h
  obtain ⟨i, rfl, q⟩ := h
  obtain ⟨t, rfl⟩ := rx
  exact rule i t s _ _ ⟨.int (g i), H, I.tok _, ⟨_, rfl⟩, q⟩
theorem un_neg : UnR X (unaryOp .USub) (rU fun i => .int (-i)) := unI fun _ _ _ _ _ q => neg_int q
end


/-- the scalars that == tells apart as data does -/
def scal : V → V → Bool
  | .non, .non => true | .non, .int _ => true | .int _, .non => true | .non, .bl _ => true | .bl _, .non => true | .non, .str _ => true | .str _, .non => true
  | .int _, .int _ => true | .bl _, .bl _ => true | .str _, .str _ => true | .byt _, .byt _ => true
  | .int _, .str _ => true | .str _, .int _ => true | .bl _, .str _ => true | .str _, .bl _ => true
  | _, _ => false
def rEq : R2 := fun x y H Q => scal x y = true ∧ Q (.bl (decide (x = y))) H
def rNe : R2 := fun x y H Q => scal x y = true ∧ Q (.bl (!decide (x = y))) H

theorem dec_int {i j : Int} : decide (V.int i = V.int j) = (i == j) := by
  rw [Bool.eq_iff_iff]
  simp
theorem dec_bl {i j : Bool} : decide (V.bl i = V.bl j) = (i == j) := by
  rw [Bool.eq_iff_iff]
  simp
theorem dec_str {i j : Str} : decide (V.str i = V.str j) = (i == j) := by
  rw [Bool.eq_iff_iff]
  simp
theorem dec_byt {i j : Array UInt8} : decide (V.byt i = V.byt j) = (i.toList == j.toList) := by
  rw [Bool.eq_iff_iff]
  cases i
  cases j
  simp

section
variable {X : Cx} {a b c : Expr} {ta tb tc : TE} {pos : Pos}
theorem fin_bl {pins : List (Addr × Obj)} {σ : St} {H : Hp} {s : Shared} {Q : VK} {k k' : Bool} (I : Inv X pins σ H s) (q : Q (.bl k) H) (e : k = k') : EP X pins σ Q (.bool k') s := by
  subst e
  exact ⟨.bl k, H, I, rfl, q⟩
theorem op_eq : OpR X (compareOp .Eq) rEq := by
  intro pins s σ H x y v u Q I rx ry h
  obtain ⟨hs, q⟩ := h
  cases x with
  | non =>
    cases rx
    cases y with
    | non => cases ry; exact PySem.EqNone.eq_none_none (fin_bl I q (by simp))
    | bl j => cases ry; exact PySem.EqNone.eq_none_bool (fin_bl I q (by simp))
    | int j => obtain ⟨t', rfl⟩ := ry; exact PySem.EqNone.eq_none_int (fin_bl I q (by simp))
    | str j => obtain ⟨t', rfl⟩ := ry; exact PySem.EqNone.eq_none_str (fin_bl I q (by simp))
    | _ => exact absurd (show false = true from hs) Bool.false_ne_true
  | bl i =>
    cases rx
    cases y with
    | non => cases ry; exact PySem.EqNone.eq_bool_none (fin_bl I q (by simp))
    | bl j => cases ry; exact eq_bool (fin_bl I q dec_bl)
    | str j => obtain ⟨t', rfl⟩ := ry; exact PySem.EqMixed.eq_bool_str (fin_bl I q (by simp))
    | _ => exact absurd (show false = true from hs) Bool.false_ne_true
  | int i =>
    obtain ⟨t, rfl⟩ := rx
    cases y with
    | non => cases ry; exact PySem.EqNone.eq_int_none (fin_bl I q (by simp))
    | int j => obtain ⟨t', rfl⟩ := ry; exact eq_int (fin_bl I q dec_int)
    | str j => obtain ⟨t', rfl⟩ := ry; exact PySem.EqMixed.eq_int_str (fin_bl I q (by simp))
    | _ => exact absurd (show false = true from hs) Bool.false_ne_true
  | str i =>
    obtain ⟨t, rfl⟩ := rx
    cases y with
    | non => cases ry; exact PySem.EqNone.eq_str_none (fin_bl I q (by simp))
    | bl j => cases ry; exact PySem.EqMixed.eq_str_bool (fin_bl I q (by simp))
    | int j => obtain ⟨t', rfl⟩ := ry; exact PySem.EqMixed.eq_str_int (fin_bl I q (by simp))
    | str j => obtain ⟨t', rfl⟩ := ry; exact eq_str (fin_bl I q dec_str)
    | _ => exact absurd (show false = true from hs) Bool.false_ne_true
  | byt i =>
    obtain ⟨t, rfl⟩ := rx
    cases y with
    | byt j => obtain ⟨t', rfl⟩ := ry; exact PySem.W.eq_bytes (fin_bl I q dec_byt)
    | _ => exact absurd (show false = true from hs) Bool.false_ne_true
  | _ => cases y <;> exact absurd (show false = true from hs) Bool.false_ne_true
theorem op_ne : OpR X (compareOp .NotEq) rNe := by
  intro pins s σ H x y v u Q I rx ry h
  obtain ⟨hs, q⟩ := h
  cases x with
  | non =>
    cases rx
    cases y with
    | non => cases ry; exact PySem.EqNone.ne_none_none (fin_bl I q (by simp))
    | bl j => cases ry; exact PySem.EqNone.ne_none_bool (fin_bl I q (by simp))
    | int j => obtain ⟨t', rfl⟩ := ry; exact PySem.EqNone.ne_none_int (fin_bl I q (by simp))
    | str j => obtain ⟨t', rfl⟩ := ry; exact PySem.EqNone.ne_none_str (fin_bl I q (by simp))
    | _ => exact absurd (show false = true from hs) Bool.false_ne_true
  | bl i =>
    cases rx
    cases y with
    | non => cases ry; exact PySem.EqNone.ne_bool_none (fin_bl I q (by simp))
    | bl j => cases ry; exact ne_bool (fin_bl I q (congrArg not dec_bl))
    | str j => obtain ⟨t', rfl⟩ := ry; exact PySem.EqMixed.ne_bool_str (fin_bl I q (by simp))
    | _ => exact absurd (show false = true from hs) Bool.false_ne_true
  | int i =>
    obtain ⟨t, rfl⟩ := rx
    cases y with
    | non => cases ry; exact PySem.EqNone.ne_int_none (fin_bl I q (by simp))
    | int j => obtain ⟨t', rfl⟩ := ry; exact ne_int (fin_bl I q (congrArg not dec_int))
    | str j => obtain ⟨t', rfl⟩ := ry; exact PySem.EqMixed.ne_int_str (fin_bl I q (by simp))
    | _ => exact absurd (show false = true from hs) Bool.false_ne_true
  | str i =>
    obtain ⟨t, rfl⟩ := rx
    cases y with
    | non => cases ry; exact PySem.EqNone.ne_str_none (fin_bl I q (by simp))
    | bl j => cases ry; exact PySem.EqMixed.ne_str_bool (fin_bl I q (by simp))
    | int j => obtain ⟨t', rfl⟩ := ry; exact PySem.EqMixed.ne_str_int (fin_bl I q (by simp))
    | str j => obtain ⟨t', rfl⟩ := ry; exact ne_str (fin_bl I q (congrArg not dec_str))
    | _ => exact absurd (show false = true from hs) Bool.false_ne_true
  | byt i =>
    obtain ⟨t, rfl⟩ := rx
    cases y with
    | byt j => obtain ⟨t', rfl⟩ := ry; exact PySem.W.ne_bytes (fin_bl I q (congrArg not dec_byt))
    | _ => exact absurd (show false = true from hs) Bool.false_ne_true
  | _ => cases y <;> exact absurd (show false = true from hs) Bool.false_ne_true

theorem op_lt : OpR X (compareOp .Lt) (rI0 fun i j => .bl (decide (i < j))) := opB0 fun _ _ _ _ _ _ _ q => lt_int q
theorem op_le : OpR X (compareOp .LtE) (rI0 fun i j => .bl (decide (i ≤ j))) := opB0 fun _ _ _ _ _ _ _ q => le_int q
theorem op_gt : OpR X (compareOp .Gt) (rI0 fun i j => .bl (decide (j < i))) := opB0 fun _ _ _ _ _ _ _ q => gt_int q
/-- the one string within the other -/
theorem op_in_str : OpR X (compareOp .In) (fun x y H Q => ∃ i j, x = .str i ∧ y = .str j ∧ Q (.bl (!(Builtin.Str.occurrences j i 0 j.length 1).isEmpty)) H) := by
  intro pins s σ H x y v u Q I rx ry h
  obtain ⟨i, j, rfl, rfl, q⟩ := h
  obtain ⟨t, rfl⟩ := rx
  obtain ⟨t', rfl⟩ := ry
  exact in_str (fin_bl I q rfl)

/-- is None, is not None: the right side a value none -/
theorem op_isN : OpR X (compareOp .Is) (fun x y H Q => y = .non ∧ Q (.bl (decide (x = .non))) H) := by
  intro pins s σ H x y v u Q I rx ry h
  obtain ⟨rfl, q⟩ := h
  cases ry
  refine is_none_gen (fin_bl I q ?_)
  cases x <;> first
    | (cases rx; rfl)
    | (obtain ⟨t, rfl⟩ := rx; rfl)
/-- two rules for one operation: by cases -/
theorem OpR.or {f : Value → Value → Sem Value} {r r' : R2} (h : OpR X f r) (h' : OpR X f r') : OpR X f (fun x y H Q => r x y H Q ∨ r' x y H Q) := by
  intro pins s σ H x y v u Q I rx ry q
  rcases q with q | q
  · exact h pins s σ H x y v u Q I rx ry q
  · exact h' pins s σ H x y v u Q I rx ry q

theorem nomark (b : Expr) {op : CmpOp} (h : op ≠ .In := by decide) (h2 : op ≠ .NotIn := by decide) : behindInMarks op b = false := by
  have e1 : (op == CmpOp.In) = false := by cases op <;> first | rfl | exact absurd rfl h
  have e2 : (op == CmpOp.NotIn) = false := by cases op <;> first | rfl | exact absurd rfl h2
  cases b <;> simp [behindInMarks, e1, e2]
/-- a comparison as a value; hm: nomark b, or (for in, not in) by with_unfolding_all rfl -/
theorem pe_cmpR {op : CmpOp} {r : R2} (ho : OpR X (compareOp op) r) (ha : PE X a ta) (hb : PE X b tb) (hm : behindInMarks op b = false) : PE X (.Compare a [op] [b] pos) (tOp r ta tb) := by
  intro pins s σ H Q I h
  exact wpAny_Compare1 (binT ha hb I h fun v u s2 x y H2 I2 rx ry q => ho pins s2 σ H2 x y v u Q I2 rx ry q) hm
/-- a reading of a value as a test -/
def tTest (t : TE) : TT := fun σ H Q => t σ H fun x H' => ∃ k, x = .bl k ∧ Q k H'
theorem pt_cmpR {op : CmpOp} {r : R2} (ho : OpR X (compareOp op) r) (ha : PE X a ta) (hb : PE X b tb) (hm : behindInMarks op b = false) : PT X (.Compare a [op] [b] pos) (tTest (tOp r ta tb)) := by
  intro pins s σ H Q I h
  refine wpAny_isTrue_Compare1 (thn (ha pins s σ H _ I h) fun v s1 ⟨x, H1, I1, r1, q1⟩ => thn (hb pins s1 σ H1 _ I1 q1) fun u s2 ⟨y, H2, I2, r2, q2⟩ =>
    thn (ho pins s2 σ H2 x y v u _ I2 r1 r2 q2) fun c s3 ⟨z, H3, I3, r3, k, e, q3⟩ => ?_) hm
  subst e
  cases r3
  exact wpAny_truthy_bool ⟨H3, I3, q3⟩
/-- a op1 b op2 c -/
def tChain (r r' : R2) (ta tb tc : TE) : TE := fun σ H Q => ta σ H fun x H1 => tb σ H1 fun y H2 => r x y H2 fun z H3 => ∃ k, z = .bl k ∧
  (if k = true then tc σ H3 fun w' H4 => r' y w' H4 Q else Q (.bl false) H3)
theorem pt_chain {op op' : CmpOp} {r r' : R2} (ho : OpR X (compareOp op) r) (ho' : OpR X (compareOp op') r') (ha : PE X a ta) (hb : PE X b tb) (hc : PE X c tc)
    (hm : lastMarks [op, op'] [b, c] = false := by with_unfolding_all rfl) : PT X (.Compare a [op, op'] [b, c] pos) (tTest (tChain r r' ta tb tc)) := by
  intro pins s σ H Q I h
  refine isTrue_chain (thn (ha pins s σ H _ I h) fun v s1 ⟨x, H1, I1, r1, q1⟩ => test_link (thn (hb pins s1 σ H1 _ I1 q1) fun u s2 ⟨y, H2, I2, r2, q2⟩ =>
    thn (ho pins s2 σ H2 x y v u _ I2 r1 r2 q2) fun d s3 ⟨z, H3, I3, r3, k, e, q3⟩ => ?_)) hm
  subst e
  cases r3
  refine wpAny_truthy_bool ?_
  cases k with
  | false =>
    obtain ⟨k', e', q'⟩ := q3
    cases e'
    exact ite_ff ⟨H3, I3, q'⟩
  | true =>
    refine ite_tt (test_last (thn (hc pins s3 σ H3 _ I3 q3) fun w' s4 ⟨z', H4, I4, r4, q4⟩ => thn (ho' pins s4 σ H4 y z' u w' _ I4 r2 r4 q4) fun d' s5 ⟨z2, H5, I5, r5, k2, e2, q5⟩ => ?_))
    subst e2
    cases r5
    exact wpAny_truthy_bool ⟨H5, I5, q5⟩


theorem line63 : (sizeLine : Nat) < 2 ^ 63 := by rw [sizeLine_eq]; decide
theorem op_add_str : OpR X (binaryOp .Add) (fun x y H Q => ∃ i j, x = .str i ∧ y = .str j ∧ i.length + j.length ≤ sizeLine ∧ Q (.str (i ++ j)) H) := by
  intro pins s σ H x y v u Q I rx ry h
  obtain ⟨i, j, rfl, rfl, hz, q⟩ := h
  obtain ⟨t, rfl⟩ := rx
  obtain ⟨t', rfl⟩ := ry
  exact add_str (fun t' tk => ⟨.str (i ++ j), H, I.tok _, ⟨_, rfl⟩, q⟩) hz
theorem vals1 {x : V} {us : List Value} (r : Vals [x] us) : ∃ u, us = [u] ∧ RelV x u := by
  cases r with
  | cons r1 r2 => cases r2; exact ⟨_, rfl, r1⟩
theorem call_abs : CallR X (.builtin "abs") (fun xs H Q => ∃ i, xs = [.int i] ∧ Q (.int (if i < 0 then -i else i)) H) := by
  intro pins s σ H xs us Q I r h
  obtain ⟨i, rfl, q⟩ := h
  obtain ⟨u, rfl, t, rfl⟩ := vals1 r
  exact call_abs_int fun u tk => ⟨.int (if i < 0 then -i else i), H, I.tok _, ⟨_, rfl⟩, q⟩
theorem call_str_int : CallR X (.type "str") (fun xs H Q => ∃ i, xs = [.int i] ∧ i.natAbs.log2 < 1920 ∧ Q (.str (toString i)) H) := by
  intro pins s σ H xs us Q I r h
  obtain ⟨i, rfl, hz, q⟩ := h
  obtain ⟨u, rfl, t, rfl⟩ := vals1 r
  exact PySem.P.str_of_int hz ⟨.str _, H, I.tok _, ⟨_, rfl⟩, q⟩
end
end L2

namespace L2
open PySem PySem.Spec PyProof.Rows


structure ObjM (h : Heap) (x dx C : Addr) (mA : Str → Option Value) : Prop where
  obj : h.get? x = some (PySem.W.instObj C dx)
  ns : h.Ns1 dx mA
  ne : dx ≠ x

theorem lookIn_ns {h : Heap} {dx : Addr} {mA : Str → Option Value} (n : h.Ns1 dx mA) : ∃ od, h.get? dx = some od ∧ ∀ name, PySem.W.lookIn name od = some (mA name) := by
  obtain ⟨o, es, ep, ho, hd, hk, _, hm⟩ := n
  refine ⟨o, ho, fun name => ?_⟩
  have e := hm name
  unfold nsFind findBy at e
  rw [← Array.find?_toList] at e
  unfold PySem.W.lookIn
  rw [hd]
  dsimp only
  split
  · rename_i y q
    rw [q] at e
    exact congrArg some e
  · rename_i q
    rw [q] at e
    have a : es.toList.any (·.refKey) = false := by
      rw [List.any_eq_false]
      intro y hy
      obtain ⟨z, t, hkey⟩ := hk y (Array.mem_toList_iff.mp hy)
      simp [DictEntry.refKey, hkey]
    have a' : ¬ es.toList.any (·.refKey) = true := by rw [a]; exact Bool.false_ne_true
    rw [if_neg a']
    exact congrArg some e

theorem ObjM.look {h : Heap} {x dx C : Addr} {mA : Str → Option Value} (I : ObjM h x dx C mA) : ∃ od, PySem.W.InstAt h x (PySem.W.instObj C dx) C (some od) ∧ ∀ name, PySem.W.lookIn name od = some (mA name) :=
  let ⟨od, ho, hl⟩ := lookIn_ns I.ns
  ⟨od, ⟨I.obj, rfl, rfl, ho⟩, hl⟩

section
variable {prog : Program} {w : World} {A : Around} {E : Value → Shared → Prop} {s : Shared} {K : PySem.W.Frag} {x dx C f : Addr} {mA : Str → Option Value} {name : Str} {v : Value}

theorem get_map {expr : Bool} {Q : Value → Shared → Prop} (X : K.In s.heap) (I : ObjM s.heap x dx C mA) (hg : PySem.W.plainGet K C name = true) (hh : PySem.W.hasDictIn K C = true)
    (ha : PySem.W.findIn K (.ref C) name = some none) (hv : mA name = some v) (hv' : PySem.W.handedIn v = true) (h : Q v { s with toks := s.toks + 1 }) :
    wpAny (model prog w) A (getAttr (.ref x) name expr) Q E s := by
  obtain ⟨od, J, hl⟩ := I.look
  exact PySem.W.get_value X J (PySem.W.plainGet_of hg).1 (PySem.W.findObj_own hh ha rfl (by rw [hl, hv])) hv' h

theorem get_meth {pl : Sem Bool} {Q : Value × List Value → Shared → Prop} (X : K.In s.heap) (I : ObjM s.heap x dx C mA) (hg : PySem.W.plainGet K C name = true)
    (hf : PySem.W.findIn K (.ref C) name = some (some (.ref f))) (ht : PySem.W.isFn K (.ref f) = true) (hv : mA name = none) (h : Q (.ref f, [.ref x]) s) :
    wpAny (model prog w) A (getMethod (.ref x) name pl) Q E s := by
  obtain ⟨od, J, hl⟩ := I.look
  exact PySem.W.method_fn X J (PySem.W.plainGet_of hg).1 (PySem.W.plainGet_of hg).2 hf (beq_iff_eq.mp ht) (by show (PySem.W.lookIn name od).map (·.isSome) = some false; rw [hl, hv]; rfl) h

theorem set_map {ns : List Str} {Q : Unit → Shared → Prop} (X : K.In s.heap) (I : ObjM s.heap x dx C mA)
    (hs : PySem.W.findIn K (.ref C) "__setattr__" = some (some (.builtin "object.__setattr__"))) (hp : PySem.W.plainOver K C = true) (ht : PySem.W.takerIn K C name = some none) (hh : PySem.W.hasDictIn K C = true)
    (hw : PySem.Within mA ns) (hsz : ns.length ≤ sizeLine)
    (h : ∀ h', ObjM h' x dx C (fun y => if y = name then some v else mA y) → Heap.SameBut dx s.heap h' → Q () { s with heap := h', toks := s.toks + 2 }) :
    wpAny (model prog w) A (setAttr (.ref x) name v) Q E s := by
  obtain ⟨od, J, hl⟩ := I.look
  refine PySem.W.set_plain X J hs (PySem.W.osa_open (s := { s with toks := s.toks + 1 }) (r := none) X J hp ht fun b => ?_)
  obtain ⟨cd, hc, hd'⟩ := PySem.W.any_some hh
  have hx : s.heap.get? x = some ⟨.ref C, some dx, .plain, #[]⟩ := I.obj
  refine wpAny_bind (wpAny_pure (wpAny_bind (wpAny_bind (wpAny_loadPart hx (wpAny_bind (PySem.W.Looks.here (s := { s with toks := s.toks + 1 }) (PySem.W.looks_clsIn X hc) ?_))))))
  rw [hd']
  refine wpAny_pure (a := some dx) (wpAny_bind (wpAny_pure (wpAny_bind ?_)))
  refine wpAny_nsSet1 (s := { s with toks := s.toks + 1 }) I.ns fun h' hn2 hs2 => ?_
  obtain ⟨oD, esD, epD, hoD, hdD, hcD⟩ := hn2.count (PySem.Within.cons name v hw)
  refine wpAny_bind (wpAny_lookBehind hoD (by rw [hdD]; exact pastItsLine_dict (Nat.le_trans hcD (by rw [List.length_cons]; omega))) ?_)
  exact wpAny_pure (h _ ⟨(hs2.2 _ (Ne.symm I.ne)).trans I.obj, hn2, I.ne⟩ hs2)

/-- C(..): the dict at the heap's end, the instance behind it; then its __init__ -/
theorem make_map {R : Result → Shared → Prop} {vs : List Value} {kw : List (Str × Value)} (X : K.In s.heap) (hm : PySem.W.makesIn K C = true)
    (hi : PySem.W.findIn K (.ref C) "__init__" = some (some (.ref f))) (hf : PySem.W.typeIn K (.ref f) = some (.type "function"))
    (h : codeAny (model prog w) (A.under (.builtin "type.__call__" ⟨.ref C :: vs, kw⟩)) (.call (.ref f) ⟨.ref (s.heap.objs.size + 1) :: vs, kw⟩) (PySem.W.InitBack (s.heap.objs.size + 1) R)
      { s with heap := (s.heap.push PySem.W.emptyDict).push (PySem.W.instObj C s.heap.objs.size) }) :
    codeAny (model prog w) A (.call (.ref C) ⟨vs, kw⟩) R s := by
  obtain ⟨hh, g, d, t, os⟩ := s
  exact PySem.W.make_core (PySem.W.makes_of X hm) (PySem.W.looks_findIn X hi) (fun self => PySem.W.bind_fn X self hf) (.inl rfl) h
end


def putF (f : Str) (v : V) : List (Str × V) → List (Str × V)
  | [] => [(f, v)]
  | (g, x) :: r => if g = f then (g, v) :: r else (g, x) :: putF f v r
theorem lookup_putF (f g : Str) (v : V) : ∀ fs : List (Str × V), (putF f v fs).lookup g = if g = f then some v else fs.lookup g
  | [] => by
    show List.lookup g [(f, v)] = _
    by_cases h : g = f
    · have hb : (g == f) = true := beq_iff_eq.mpr h
      simp only [List.lookup, hb, if_pos h]
    · have hb : (g == f) = false := beq_eq_false_iff_ne.mpr h
      simp only [List.lookup, hb, if_neg h]
  | (k, x) :: r => by
    have ih := lookup_putF f g v r
    rw [show putF f v ((k, x) :: r) = (if k = f then (k, v) :: r else (k, x) :: putF f v r) from rfl]
    by_cases hk : k = f
    · rw [if_pos hk]
      by_cases h : g = k
      · have hb : (g == k) = true := beq_iff_eq.mpr h
        simp only [List.lookup, hb, if_pos (h.trans hk)]
      · have hb : (g == k) = false := beq_eq_false_iff_ne.mpr h
        simp only [List.lookup, hb, if_neg (fun e : g = f => h (e.trans hk.symm))]
    · rw [if_neg hk]
      by_cases h : g = k
      · have hb : (g == k) = true := beq_iff_eq.mpr h
        simp only [List.lookup, hb, if_neg (fun e : g = f => hk (h.symm.trans e))]
      · have hb : (g == k) = false := beq_eq_false_iff_ne.mpr h
        simp only [List.lookup, hb]
        exact ih
theorem keys_putF (f : Str) (v : V) : ∀ fs : List (Str × V), f ∈ (putF f v fs).map (·.1) ∧ ∀ g, g ∈ fs.map (·.1) → g ∈ (putF f v fs).map (·.1)
  | [] => ⟨by simp [putF], fun g h => by simp at h⟩
  | (k, x) :: r => by
    obtain ⟨i1, i2⟩ := keys_putF f v r
    rw [show putF f v ((k, x) :: r) = (if k = f then (k, v) :: r else (k, x) :: putF f v r) from rfl]
    by_cases hk : k = f
    · rw [if_pos hk]
      subst hk
      exact ⟨by simp, fun g h => by simpa using h⟩
    · rw [if_neg hk]
      refine ⟨?_, fun g h => ?_⟩
      · rw [List.map_cons]
        exact List.mem_cons_of_mem _ i1
      · rw [List.map_cons] at h ⊢
        rcases List.mem_cons.mp h with e | e
        · exact List.mem_cons.mpr (.inl e)
        · exact List.mem_cons_of_mem _ (i2 g e)
theorem length_putF (f : Str) (v : V) : ∀ fs : List (Str × V), (putF f v fs).length ≤ fs.length + 1
  | [] => by simp [putF]
  | (k, x) :: r => by
    have ih := length_putF f v r
    rw [show putF f v ((k, x) :: r) = (if k = f then (k, v) :: r else (k, x) :: putF f v r) from rfl]
    by_cases hk : k = f
    · rw [if_pos hk, List.length_cons, List.length_cons]; omega
    · rw [if_neg hk, List.length_cons, List.length_cons]; omega

theorem RelO.some_of {v : V} {o : Option Value} (r : RelO (some v) o) : ∃ u, o = some u ∧ RelV v u := by
  cases o with
  | none => exact (show False from r).elim
  | some u => exact ⟨u, rfl, r⟩
theorem RelO.none_of {o : Option Value} (r : RelO none o) : o = none := by
  cases o with
  | none => rfl
  | some u => exact (show False from r).elim
theorem handed_of {v : V} {u : Value} (r : RelV v u) : PySem.W.handedIn u = true := by
  cases v with
  | non => cases (show u = Value.none from r); rfl
  | bl b => cases (show u = Value.bool b from r); rfl
  | int i => obtain ⟨t, e⟩ := (show ∃ t, u = Value.int i t from r); cases e; rfl
  | str x => obtain ⟨t, e⟩ := (show ∃ t, u = Value.str x t from r); cases e; rfl
  | byt b => obtain ⟨t, e⟩ := (show ∃ t, u = Value.bytes b t from r); cases e; rfl
  | flt b => obtain ⟨t, e⟩ := (show ∃ t, u = Value.float b t from r); cases e; rfl
  | ref a => cases (show u = Value.ref a from r); rfl
  | ty n => cases (show u = Value.type n from r); rfl

section
variable {P : Program} {w : World} {H H' : Hp} {h h' : Heap} {a C dx : Addr} {fs fs' : List (Str × V)}
theorem ins_get (hok : HOk P w H h) (e : H a = some (.ins C dx fs)) : ∃ mA, ObjM h a dx C mA ∧ (∀ f, RelO (fs.lookup f) (mA f)) ∧ PySem.Within mA (fs.map (·.1)) ∧ fs.length ≤ 1000 ∧ H dx = some (.own a) := by
  obtain ⟨d, z, ne, ob, mA, n, r, q⟩ := (show ObjOk P w H h a (.ins C dx fs) from hok a _ e)
  exact ⟨mA, ⟨ob, n, ne⟩, r, q, z, d⟩
end


structure Cls (K : PySem.W.Frag) (C : Addr) : Prop where
  pg : PySem.W.plainGet K C Str.empty = true
  hd : PySem.W.hasDictIn K C = true
  po : PySem.W.plainOver K C = true
  sa : PySem.W.findIn K (.ref C) "__setattr__" = some (some (.builtin "object.__setattr__"))
theorem Cls.get {K : PySem.W.Frag} {C : Addr} (c : Cls K C) (f : Str) : PySem.W.plainGet K C f = true := c.pg
/-- no class of it has the name -/
def NoAttr (K : PySem.W.Frag) (C : Addr) (f : Str) : Prop := PySem.W.findIn K (.ref C) f = some none
theorem NoAttr.taker {K : PySem.W.Frag} {C : Addr} {f : Str} (n : NoAttr K C f) : PySem.W.takerIn K C f = some none := by
  unfold PySem.W.takerIn
  rw [show PySem.W.findIn K (.ref C) f = some none from n]
  rfl
/-- a method: a plain def of the class or of one above it -/
structure Meth (K : PySem.W.Frag) (C : Addr) (m : Str) (f : Addr) : Prop where
  at_ : PySem.W.findIn K (.ref C) m = some (some (.ref f))
  fn : PySem.W.isFn K (.ref f) = true
  kp : PySem.W.keepIn K (.ref f) = true

section
variable {X : Cx} {pins : List (Addr × Obj)} {σ : St} {H : Hp} {s : Shared} {a C dx : Addr} {fs : List (Str × V)} {f : Str} {v : V} {A : Around} {E : Value → Shared → Prop}

theorem getattr_ok {b : Bool} {Q : Value → Shared → Prop} (I : Inv X pins σ H s) (e : H a = some (.ins C dx fs)) (c : Cls X.K C) (n : NoAttr X.K C f) (l : fs.lookup f = some v)
    (h : ∀ u s', Inv X pins σ H s' → RelV v u → Q u s') : wpAny (model X.prog X.w) A (getAttr (.ref a) f b) Q E s := by
  obtain ⟨mA, O, r, _, _, _⟩ := ins_get I.hok e
  obtain ⟨u, hu, ru⟩ := RelO.some_of (v := v) (o := mA f) (by rw [← l]; exact r f)
  exact get_map I.kIn O (c.get f) c.hd n hu (handed_of ru) (h u _ (I.tok _) ru)

theorem getmeth_ok {m : Str} {g : Addr} {pl : Sem Bool} {Q : Value × List Value → Shared → Prop} (I : Inv X pins σ H s) (e : H a = some (.ins C dx fs)) (c : Cls X.K C) (k : Meth X.K C m g) (l : fs.lookup m = none)
    (h : Q (.ref g, [.ref a]) s) : wpAny (model X.prog X.w) A (getMethod (.ref a) m pl) Q E s := by
  obtain ⟨mA, O, r, _, _, _⟩ := ins_get I.hok e
  have hn : mA m = none := RelO.none_of (by rw [← l]; exact r m)
  exact get_meth I.kIn O (c.get m) k.at_ k.fn hn h

theorem setattr_ok {y : V} {u : Value} {Q : Unit → Shared → Prop} (I : Inv X pins σ H s) (e : H a = some (.ins C dx fs)) (c : Cls X.K C) (n : NoAttr X.K C f) (hl : fs.length < 1000) (ry : RelV y u)
    (h : ∀ s', Inv X pins σ (upd H a (.ins C dx (putF f y fs))) s' → Q () s') : wpAny (model X.prog X.w) A (setAttr (.ref a) f u) Q E s := by
  obtain ⟨mA, O, r, wi, _, ho⟩ := ins_get I.hok e
  have hz : (fs.map (·.1)).length ≤ sizeLine := by rw [List.length_map, sizeLine_eq]; omega
  refine set_map I.kIn O c.sa c.po n.taker c.hd wi hz fun h' O' sb => h _ ?_
  have hd : ∃ o, h'.get? dx = some o := let ⟨o, _, _, e', _⟩ := O'.ns; ⟨o, e'⟩
  refine I.write (x := a) (e := dx) (by rw [e]; exact True.intro) (.inr ho) (fun b q hb z => (sb.2 b hb).trans z) hd ?_
  refine ⟨by rw [upd_ne O.ne]; exact ho, ?_, O.ne, O'.obj, _, O'.ns, fun g => ?_, fun g hg => ?_⟩
  · have := length_putF f y fs; omega
  · show RelO ((putF f y fs).lookup g) (if g = f then some u else mA g)
    rw [lookup_putF]
    by_cases q : g = f
    · rw [if_pos q, if_pos q]; exact ry
    · rw [if_neg q, if_neg q]; exact r g
  · by_cases q : g = f
    · rw [q]; exact (keys_putF f y fs).1
    · refine (keys_putF f y fs).2 g (wi g fun z => hg ?_)
      show (if g = f then some u else mA g) = none
      rw [if_neg q]; exact z

/-- a new instance, tracked, without attributes -/
theorem Inv.made (I : Inv X pins σ H s) : Inv X pins σ (upd (upd H s.heap.objs.size (.own (s.heap.objs.size + 1))) (s.heap.objs.size + 1) (.ins C s.heap.objs.size []))
    { s with heap := (s.heap.push PySem.W.emptyDict).push (PySem.W.instObj C s.heap.objs.size) } := by
  have e1 : (s.heap.push PySem.W.emptyDict).get? s.heap.objs.size = some PySem.W.emptyDict := Heap.get?_push_size s.heap rfl
  have e2 : ((s.heap.push PySem.W.emptyDict).push (PySem.W.instObj C s.heap.objs.size)).get? (s.heap.objs.size + 1) = some (PySem.W.instObj C s.heap.objs.size) := by
    have := Heap.get?_push_size (s.heap.push PySem.W.emptyDict) (o := PySem.W.instObj C s.heap.objs.size) rfl
    rwa [Heap.size_push] at this
  have e3 : (s.heap.push PySem.W.emptyDict).Ns s.heap.objs.size (fun _ => none) := ⟨PySem.W.emptyDict, #[], _, e1, rfl, (fun e he => absurd he (by simp)), fun _ => rfl⟩
  have I1 := I.laid (a := s.heap.objs.size) (o := .own (s.heap.objs.size + 1)) (h' := s.heap.push PySem.W.emptyDict) (t' := s.toks) (fun b u q => Heap.get?_push_of_some _ q) (Nat.le_refl _) ⟨_, e1⟩
  refine I1.laid (a := s.heap.objs.size + 1) (o := .ins C s.heap.objs.size []) (t' := s.toks) (fun b u q => Heap.get?_push_of_some _ q) (Nat.le_of_eq (Heap.size_push _ _)) ?_
  have ne : s.heap.objs.size ≠ s.heap.objs.size + 1 := Nat.ne_of_lt (Nat.lt_succ_self _)
  refine ⟨by rw [upd_ne ne, upd_same], Nat.zero_le _, ne, e2, fun _ => none, (Heap.Ns1.of_empty e3).at fun o q => Heap.get?_push_of_some _ q, fun _ => True.intro, fun y hy => absurd rfl hy⟩

/-- e.f where nothing but the object is asked: through attributeBase (super) and the last hold -/
theorem attr_of {prog : Program} {w : World} {env : Env} {e : Expr} {f : Str} {pos : Pos} {s : Shared} {Q : Value → Shared → Prop} (hb : attributeBase e f env (eval e env) = eval e env)
    (h : wpAny (model prog w) A (eval e env) (fun o s₁ => wpAny (model prog w) A (getAttr o f true) Q E s₁) E s) : wpAny (model prog w) A (eval (.Attribute e f pos) env) Q E s :=
  Attribute_any_ h (by rw [arm_eval_Attribute, hb])
end


/-- e.f, an attribute of the instance -/
def tFld (K : PySem.W.Frag) (ta : TE) (f : Str) : TE := fun σ H Q => ta σ H fun x H1 => ∃ a C dx fs v, x = .ref a ∧ H1 a = some (.ins C dx fs) ∧ Cls K C ∧ NoAttr K C f ∧ fs.lookup f = some v ∧ Q v H1
/-- e.f = value -/
def sFld (K : PySem.W.Frag) (ta tv : TE) (f : Str) : TS := fun D σ H => tv σ H fun y H1 => ta σ H1 fun x H2 => ∃ a C dx fs, x = .ref a ∧ H2 a = some (.ins C dx fs) ∧ Cls K C ∧ NoAttr K C f ∧ fs.length < 1000 ∧
  D.nx σ (upd H2 a (.ins C dx (putF f y fs)))
section
variable {X : Cx} {o e value : Expr} {f : Str} {pos pos' tpos : Pos} {ta tv : TE}
theorem pe_fld (he : PE X e ta) (hb : attributeBase e f X.env (eval e X.env) = eval e X.env) : PE X (.Attribute e f pos) (tFld X.K ta f) := by
  intro pins s σ H Q I h
  refine attr_of hb (thn (he pins s σ H _ I h) fun u s1 ⟨x, H1, I1, rx, a, C, dx, fs, v, ex, ea, c, n, l, q⟩ => ?_)
  subst ex
  obtain rfl : u = Value.ref a := rx
  exact getattr_ok I1 ea c n l fun u' s2 I2 ru => ⟨v, H1, I2, ru, q⟩
theorem ps_fld (ha : PE X o ta) (hv : PE X value tv) (hs : swapsWith value (some (.Attribute o f pos')) pos.line X.env = pure false) : PS X (.Assign [.Attribute o f pos'] value pos) (sFld X.K ta tv f) := by
  intro pins s σ H D I h
  refine plainObj_wpAny_Assign_Attribute (thn (hv pins s σ H _ I h) fun u s1 ⟨y, H1, I1, ry, q⟩ => thn (ha pins s1 σ H1 _ I1 q) fun ov s2 ⟨x, H2, I2, rx, a, C, dx, fs, ex, ea, c, n, l, q2⟩ => ?_) hs
  subst ex
  obtain rfl : ov = Value.ref a := rx
  exact setattr_ok I2 ea c n l ry fun s3 I3 => ⟨σ, _, I3, q2⟩
end


section
variable {X : Cx} {pins : List (Addr × Obj)} {σ : St} {H : Hp} {s : Shared} {A : Around} {E : Value → Shared → Prop} {Q : Value → Shared → Prop} {c : Value} {b : Bool}
/-- the type of a value, as the fragment's deciders take it; for an instance its class -/
inductive TyOf (K : PySem.W.Frag) (H : Hp) : V → Value → Prop where
  | non : TyOf K H .non (.type "NoneType")
  | bl (x : Bool) : TyOf K H (.bl x) (.type "bool")
  | int (i : Int) : TyOf K H (.int i) (.type "int")
  | str (x : Str) : TyOf K H (.str x) (.type "str")
  | flt (x : UInt64) : TyOf K H (.flt x) (.type "float")
  | lst {a : Addr} {xs : List V} (e : H a = some (.lst xs)) : TyOf K H (.ref a) (.type "list")
  | frz {a : Addr} {o : Obj} {xs : List V} (e : H a = some (.frz o (.lst xs))) : TyOf K H (.ref a) (.type "list")
  | tup {a : Addr} {xs : List V} (e : H a = some (.tup xs)) : TyOf K H (.ref a) (.type "tuple")
  | dK {a : Addr} {kvs : List (Key × V)} (e : H a = some (.dK kvs)) : TyOf K H (.ref a) (.type "dict")
  | dT {a : Addr} {kvs : List (List Key × V)} (e : H a = some (.dT kvs)) : TyOf K H (.ref a) (.type "dict")
  | ins {a C dx : Addr} {fs : List (Str × V)} (e : H a = some (.ins C dx fs)) (cl : Cls K C) (ha : PySem.W.findIn K (.ref C) "__class__" = some (some (.builtin "object.__class__")))
      (hn : PySem.W.specialIn K (.builtin "object.__class__") "__get__" = some (some (.builtin "getset_descriptor.__get__"))) (htk : PySem.W.takesIn K (.builtin "object.__class__") = some true)
      (hm : PySem.W.mroIn K C (.type "object") = some true) : TyOf K H (.ref a) (.ref C)
/-- isinstance(x, c) for one class c, a built-in or an own one: kitOne's answer -/
theorem isinst_ok {x : V} {u t : Value} (I : Inv X pins σ H s) (rx : RelV x u) (ty : TyOf X.K H x t) (e : PySem.W.kitOne X.K t c = some b) (h : ∀ tk, Q (.bool b) { s with toks := tk }) :
    wpAny (model X.prog X.w) A (call (.builtin "isinstance") [u, c]) Q E s := by
  cases ty with
  | non => cases (show u = Value.none from rx); exact PySem.W.kia_one PySem.W.kitx_none I.kIn True.intro e (fun z => nomatch z) h
  | bl y => cases (show u = Value.bool y from rx); exact PySem.W.kia_one PySem.W.kitx_bool I.kIn True.intro e (fun z => nomatch z) h
  | int i => obtain ⟨t, q⟩ := (show ∃ t, u = Value.int i t from rx); cases q; exact PySem.W.kia_one PySem.W.kitx_int I.kIn True.intro e (fun z => nomatch z) h
  | str y => obtain ⟨t, q⟩ := (show ∃ t, u = Value.str y t from rx); cases q; exact PySem.W.kia_one PySem.W.kitx_str I.kIn True.intro e (fun z => nomatch z) h
  | flt y => obtain ⟨t, q⟩ := (show ∃ t, u = Value.float y t from rx); cases q; exact PySem.W.kia_one PySem.W.kitx_float I.kIn True.intro e (fun z => nomatch z) h
  | @lst a xs ea =>
    cases (show u = Value.ref a from rx)
    obtain ⟨_, _, n, _, h1⟩ := (show ObjOk X.prog X.w H s.heap a (.lst xs) from I.hok a _ ea)
    exact PySem.W.kia_one PySem.W.kitx_list I.kIn ⟨_, h1, rfl⟩ e (fun z => nomatch z) h
  | @frz a ob xs ea =>
    cases (show u = Value.ref a from rx)
    obtain ⟨_, _, _, n, _, h1⟩ := (show ObjOk X.prog X.w H s.heap a (.frz ob (.lst xs)) from I.hok a _ ea)
    exact PySem.W.kia_one PySem.W.kitx_list I.kIn ⟨_, h1, rfl⟩ e (fun z => nomatch z) h
  | @tup a xs ea =>
    cases (show u = Value.ref a from rx)
    obtain ⟨_, _, _, p⟩ := (show ObjOk X.prog X.w H s.heap a (.tup xs) from I.hok a _ ea)
    obtain ⟨o, h1, h2, _⟩ := p
    exact PySem.W.kia_one PySem.W.kitx_tuple I.kIn ⟨o, h1, h2⟩ e (fun z => nomatch z) h
  | @dK a kvs ea =>
    cases (show u = Value.ref a from rx)
    obtain ⟨_, _, vs, _, p⟩ := (show ObjOk X.prog X.w H s.heap a (.dK kvs) from I.hok a _ ea)
    obtain ⟨o, es, ep, h1, h2, _⟩ := p
    exact PySem.W.kia_one PySem.W.kitx_dict I.kIn ⟨o, h1, h2.1⟩ e (fun z => nomatch z) h
  | @dT a kvs ea =>
    cases (show u = Value.ref a from rx)
    obtain ⟨_, _, xs, _, o, es, ep, h1, h2, _⟩ := (show ObjOk X.prog X.w H s.heap a (.dT kvs) from I.hok a _ ea)
    exact PySem.W.kia_one PySem.W.kitx_dict I.kIn ⟨o, h1, h2.1⟩ e (fun z => nomatch z) h
  | @ins a C dx fs ea cl ha hn htk hm =>
    cases (show u = Value.ref a from rx)
    obtain ⟨mA, O, _⟩ := ins_get I.hok ea
    obtain ⟨od, J, _⟩ := O.look
    exact PySem.W.kia_one (PySem.W.kitx_own (cl.get _) cl.hd ha hn htk hm) I.kIn J e (fun z => nomatch z) h
end
end L2

namespace L2
open PySem PySem.Spec PyProof.Rows


structure Room (k : Nat) (A : Around) : Prop where
  hd : A.handled = none
  dp : A.depth + 3 * k + 5 < recursionLimit
  un : A.units + 16 * k + 200 < cLine
theorem Room.mono {j k : Nat} {A : Around} (r : Room k A) (h : j ≤ k) : Room j A := ⟨r.hd, by have := r.dp; omega, by have := r.un; omega⟩
theorem Room.deeper {k : Nat} {A : Around} (r : Room (k + 1) A) (env : Env) : Room k (A.deeper env) :=
  ⟨r.hd, by have := r.dp; show A.depth + 1 + 3 * k + 5 < _; omega, by have := r.un; show A.units + 3 + 16 * k + 200 < _; omega⟩
theorem Room.in1 {k : Nat} {A : Around} (r : Room (k + 1) A) : Room k A.in1 :=
  ⟨r.hd, by have := r.dp; show A.depth + 3 * k + 5 < _; omega, by have := r.un; show A.units + 1 + 16 * k + 200 < _; omega⟩
theorem make_depth {A : Around} {C : Addr} {us : List Value} {kw : List (Str × Value)} : (A.under (.builtin "type.__call__" ⟨.ref C :: us, kw⟩)).depth = A.depth + 1 := by
  first | rfl | simp [Around.under, Code.weight, Code.isCreation, Code.isGuard, Code.isCaller, Code.frames, Code.isFrame, guardIds]
theorem make_units {A : Around} {C : Addr} {us : List Value} {kw : List (Str × Value)} : (A.under (.builtin "type.__call__" ⟨.ref C :: us, kw⟩)).units = A.units + 1 := by
  first | rfl | simp [Around.under, Code.cUnits, Code.frames, Code.isFrame]
theorem Room.make {k : Nat} {A : Around} (r : Room (k + 1) A) (C : Addr) (us : List Value) (kw : List (Str × Value)) : Room k (A.under (.builtin "type.__call__" ⟨.ref C :: us, kw⟩)) :=
  ⟨r.hd, by have := r.dp; rw [make_depth]; omega, by have := r.un; rw [make_units]; omega⟩
theorem Room.depth {k : Nat} {A : Around} (r : Room k A) : A.depth < recursionLimit := by have := r.dp; omega
theorem Room.units {k : Nat} {A : Around} (r : Room k A) : A.units + 64 < cLine := by have := r.un; omega
theorem Room.units0 {k : Nat} {A : Around} (r : Room k A) : A.units < cLine := by have := r.un; omega


def tNil : TA := fun _ H Q => Q [] H
def tCons (ta : TE) (tr : TA) : TA := fun σ H Q => ta σ H fun x H1 => tr σ H1 fun xs H2 => Q (x :: xs) H2
section
variable {X : Cx} {e : Expr} {es : List Expr} {te : TE} {t : TA} {pos : Pos}
theorem pa_nil : PA X [] tNil := fun _ _ _ _ H Q I h => Calls.spliced_nil ⟨[], H, I, .nil, h⟩
theorem pa_cons (ha : PE X e te) (hr : PA X es t) (hs : starEach (e :: es) X.env = (false, eval e X.env) :: starEach es X.env := by rfl) : PA X (e :: es) (tCons te t) := by
  intro pos pins s σ H Q I h
  rw [hs]
  show wpAny _ _ (spliced ((false, eval e X.env) :: backTo pos (starEach es X.env))) _ _ s
  refine Calls.spliced_cons (thn (ha pins s σ H _ I h) fun u s1 ⟨x, H1, I1, r1, q1⟩ => ?_)
  exact thn (hr pos pins s1 σ H1 _ I1 q1) fun us s2 ⟨xs, H2, I2, r2, q2⟩ => ⟨x :: xs, H2, I2, .cons r1 r2, q2⟩

/-- a tuple, a list of written items -/
def tTup (t : TA) : TE := fun σ H Q => t σ H fun xs H1 => xs.length ≤ sizeLine ∧ ∀ p, H1 p = none → Q (.ref p) (upd H1 p (.tup xs))
def tLst (t : TA) : TE := fun σ H Q => t σ H fun xs H1 => xs.length ≤ sizeLine ∧ ∀ p, H1 p = none → Q (.ref p) (upd H1 p (.lst xs))
theorem pe_tup {x1} (h : PA X es t) : PE X (.Tuple es x1 pos) (tTup t) := by
  intro pins s σ H Q I hq
  refine wpAny_Tuple_spliced (thn (h pos pins s σ H _ I hq) fun us s1 ⟨xs, H1, I1, r, z, q⟩ => ⟨by rw [← r.length]; exact z, ?_⟩)
  have hf : H1 s1.heap.objs.size = none := I1.hok.fresh (Nat.le_refl _)
  refine ⟨.ref s1.heap.objs.size, upd H1 s1.heap.objs.size (.tup xs), I1.laid (t' := s1.toks) (fun b u e => Heap.get?_push_of_some _ e) (Nat.le_refl _) ?_, rfl, q _ hf⟩
  exact ⟨z, us, r, ⟨_, Heap.get?_push_size _ rfl, rfl, _, rfl⟩⟩
theorem pe_lst (h : PA X es t) : PE X (.List es pos) (tLst t) := by
  intro pins s σ H Q I hq
  refine wpAny_List_spliced (thn (h pos pins s σ H _ I hq) fun us s1 ⟨xs, H1, I1, r, z, q⟩ => ⟨by rw [← r.length]; exact z, ?_⟩)
  have hf : H1 s1.heap.objs.size = none := I1.hok.fresh (Nat.le_refl _)
  refine ⟨.ref s1.heap.objs.size, upd H1 s1.heap.objs.size (.lst xs), I1.laid (t' := s1.toks) (fun b u e => Heap.get?_push_of_some _ e) (Nat.le_refl _) ?_, rfl, q _ hf⟩
  exact ⟨z, us, 0, r, Heap.get?_push_size _ rfl⟩
end


/-- a def's promise: the bound arguments in the parameters' order, the heap, the wanted end, the wanted exception -/
abbrev Sp := List V → Hp → VK → XK → Prop
/-- how an exception lies behind a call (file 08 gives it): the callers' frames, abstract heap and state ahead of the call, the wish, the exception, the state -/
abbrev CXT := List Env → Hp → Shared → XK → Value → Shared → Prop

/-- the state at a call -/
structure Env0 (P : Program) (w : World) (K : PySem.W.Frag) (mg : Str → Option Value) (base : Heap) (A : Around) (outer : List Env) (s : Shared) (H : Hp) : Prop where
  frames : A.frames = some outer
  mod : Mod K mg base
  bs : ∀ b o, base.get? b = some o → s.heap.get? b = some o ∧ H b = none
  bsz : base.objs.size ≤ s.heap.objs.size
  funs : s.heap.FunFrames base outer
  frf : ∀ b ∈ frs outer, H b = none
  hok : HOk P w H s.heap
  bare : AllBare s.gens
/-- a call's end -/
def CE (outer : List Env) (P : Program) (w : World) (H : Hp) (s : Shared) (Q : VK) (u : Value) (s' : Shared) : Prop :=
  ∃ v H', s'.os = s.os ∧ AllBare s'.gens ∧ Un (frs outer) [] H H' s.heap s'.heap ∧ HOk P w H' s'.heap ∧ RelV v u ∧ Q v H'
def CR (CX : CXT) (outer : List Env) (P : Program) (w : World) (H : Hp) (s : Shared) (Q : VK) (E : XK) (r : Result) (s' : Shared) : Prop :=
  match r with
  | .ok (.ret u) => CE outer P w H s Q u s'
  | .ok _ => False
  | .error e => CX outer H s E e s'
structure FnOk (P : Program) (w : World) (K : PySem.W.Frag) (mg : Str → Option Value) (base : Heap) (CX : CXT) (k : Nat) (f : Addr) (fd : FuncData) (ps : List Str) (sp : Sp) : Prop where
  len : ∀ vs H Q E, sp vs H Q E → vs.length = ps.length
  run : ∀ (A : Around) (outer : List Env) (s : Shared) (H : Hp) (args : Args) (us : List Value) (vs : List V) (Q : VK) (E : XK), Room k A → Env0 P w K mg base A outer s H → BindsTo s fd args (ps.zip us) → Vals vs us → sp vs H Q E →
    codeAny (model P w) A (.call (.ref f) args) (CR CX outer P w H s Q E) s
theorem FnOk.mono {P : Program} {w : World} {K : PySem.W.Frag} {mg : Str → Option Value} {base : Heap} {CX : CXT} {j k : Nat} {f : Addr} {fd : FuncData} {ps : List Str} {sp : Sp} (F : FnOk P w K mg base CX j f fd ps sp) (h : j ≤ k) :
    FnOk P w K mg base CX k f fd ps sp := ⟨F.len, fun A outer s H args us vs Q E hr => F.run A outer s H args us vs Q E (hr.mono h)⟩
theorem Env0.make {P : Program} {w : World} {K : PySem.W.Frag} {mg : Str → Option Value} {base : Heap} {A : Around} {outer : List Env} {s : Shared} {H : Hp} (e : Env0 P w K mg base A outer s H) (C : Addr) (us : List Value) (kw : List (Str × Value)) :
    Env0 P w K mg base (A.under (.builtin "type.__call__" ⟨.ref C :: us, kw⟩)) outer s H := ⟨by first | exact e.frames | (simpa [Around.under, Code.envs, Code.isFrame, pushEnvs] using e.frames), e.mod, e.bs, e.bsz, e.funs, e.frf, e.hok, e.bare⟩
theorem Env0.in1 {P : Program} {w : World} {K : PySem.W.Frag} {mg : Str → Option Value} {base : Heap} {A : Around} {outer : List Env} {s : Shared} {H : Hp} (e : Env0 P w K mg base A outer s H) :
    Env0 P w K mg base A.in1 outer s H := ⟨e.frames, e.mod, e.bs, e.bsz, e.funs, e.frf, e.hok, e.bare⟩

section
variable {X : Cx} {pins : List (Addr × Obj)} {σ : St} {H : Hp} {s s' : Shared}
/-- from a body: what a callee wants -/
theorem Inv.env0 (I : Inv X pins σ H s) : Env0 X.prog X.w X.K X.mg X.base X.A X.stack s H :=
  ⟨I.ok.frames, I.ok.mod, I.bs, Nat.le_trans I.ok.bsz I.sz, I.stack, I.stkFree, I.hok, I.bare⟩
/-- behind a call -/
theorem Inv.after {Q : VK} {u : Value} (I : Inv X pins σ H s) (h : CE X.stack X.prog X.w H s Q u s') : EP X pins σ Q u s' := by
  obtain ⟨v, H', os, bare, un, hok, r, q⟩ := h
  obtain ⟨hh, g, d, t, os'⟩ := s'
  obtain rfl : os' = s.os := os
  exact ⟨v, H', I.call (h' := hh) (g' := g) (d' := d) (t' := t) (ch := []) un hok bare (fun b z => absurd z (by simp)), r, q⟩
end


/-- f(..): the written arguments, then the defaults dvs; E: what is wanted of an exception -/
def tCall (sp : Sp) (dvs : List V) (E : XK) (t : TA) : TE := fun σ H Q => t σ H fun vs H1 => sp (vs ++ dvs) H1 Q E
/-- o.m(..) of an instance of the class at C -/
def tMeth (C : Addr) (m : Str) (sp : Sp) (dvs : List V) (E : XK) (ta : TE) (t : TA) : TE := fun σ H Q => ta σ H fun x H1 => ∃ a dx fs, x = .ref a ∧ H1 a = some (.ins C dx fs) ∧ fs.lookup m = none ∧
  t σ H1 fun vs H2 => sp (x :: (vs ++ dvs)) H2 Q E
/-- C(..): a new instance and its dict, then __init__ -/
def tMake (C : Addr) (sp : Sp) (dvs : List V) (E : XK) (t : TA) : TE := fun σ H Q => t σ H fun vs H1 => ∀ x dx, H1 x = none → H1 dx = none → dx ≠ x →
  sp (.ref x :: (vs ++ dvs)) (upd (upd H1 dx (.own x)) x (.ins C dx [])) (fun v H2 => v = .non ∧ Q (.ref x) H2) E

/-- how the parameters are bound: us the positional arguments, kw the keywords' values by name, ds the defaults that fill up -/
def Binds (K : PySem.W.Frag) (fd : FuncData) (ps : List Str) (ds : List Value) : Prop :=
  ∀ (s : Shared) (us : List Value), K.In s.heap → (us ++ ds).length = ps.length → BindsTo s fd ⟨us, []⟩ (ps.zip (us ++ ds))
/-- every parameter is given -/
theorem Binds.all {K : PySem.W.Frag} {fd : FuncData} {ps : List Str} (h : ∀ us : List Value, us.length = ps.length → bindArgs fd ⟨us, []⟩ = pure (ps.zip us)) : Binds K fd ps [] := fun s us _ hl => by
  rw [List.append_nil] at hl ⊢
  exact .of_eq (h us hl)

/-- an exception of a callee reaches what this body wants of exceptions -/
def Passes (CX : CXT) (X : Cx) (E : XK) : Prop := ∀ (pins : List (Addr × Obj)) (σ : St) (H : Hp) (s : Shared) (e : Value) (s' : Shared), Inv X pins σ H s → CX X.stack H s E e s' → X.xe e s'

section
variable {X : Cx} {CX : CXT} {k : Nat} {f C : Addr} {fd : FuncData} {ps : List Str} {sp : Sp} {dvs : List V} {ds : List Value} {E : XK} {x m : Str} {p pos apos : Pos} {e o : Expr} {es : List Expr} {ta : TE} {t : TA}

/-- the callee runs -/
theorem run_fn {pins : List (Addr × Obj)} {σ : St} {H : Hp} {s : Shared} {Q : VK} {us : List Value} {vs : List V} (F : FnOk X.prog X.w X.K X.mg X.base CX k f fd ps sp) (hr : Room k X.A) (hb : Binds X.K fd ps ds) (hd : Vals dvs ds) (hx : Passes CX X E)
    (I : Inv X pins σ H s) (r : Vals vs us) (h : sp (vs ++ dvs) H Q E) : wpAny (model X.prog X.w) X.A (call (.ref f) us) (EP X pins σ Q) X.xe s := by
  have r2 : Vals (vs ++ dvs) (us ++ ds) := r.append hd
  have hl : (us ++ ds).length = ps.length := by rw [← r2.length]; exact F.len _ _ _ _ h
  refine wpAny_call (codeAny_mono (F.run X.A X.stack s H ⟨us, []⟩ (us ++ ds) (vs ++ dvs) Q E hr I.env0 (hb s us I.kIn hl) r2 h) fun r s' hq => ?_)
  cases r with
  | error e => exact hx pins σ H s e s' I hq
  | ok fl =>
    cases fl with
    | ret u => exact I.after hq
    | next => exact False.elim hq
    | brk => exact False.elim hq
    | cont => exact False.elim hq

theorem pe_call (F : FnOk X.prog X.w X.K X.mg X.base CX k f fd ps sp) (hr : Room k X.A) (hg : Gl X x) (hm : X.mg x = some (.ref f)) (hk : PySem.W.keepIn X.K (.ref f) = true) (hb : Binds X.K fd ps ds) (hd : Vals dvs ds) (hx : Passes CX X E)
    (ha : PA X (e :: es) t) (hdb : (x == ("__debug__" : Str)) = false := by decide) (he : starEach (e :: es) X.env = (false, eval e X.env) :: starEach es X.env := by rfl) (hpl : (backTo pos (starEach es X.env)).any (·.1) = false := by rfl) :
    PE X (.Call (.Name x p) (e :: es) [] pos) (tCall sp dvs E t) := by
  intro pins s σ H Q I h
  refine wpAny_Call_Name_kw (ld_glob I hg hm ?_ hdb)
  refine PySem.W.callWith_K (h₀ := X.base) I.ok.mod.kin hk (thn (ha pos pins s σ H _ I h) fun us s1 ⟨vs, H1, I1, r, q⟩ => ⟨I1.kIn, ?_⟩) he hpl
  exact run_fn F hr hb hd hx I1 r q
theorem pe_call0 (F : FnOk X.prog X.w X.K X.mg X.base CX k f fd ps sp) (hr : Room k X.A) (hg : Gl X x) (hm : X.mg x = some (.ref f)) (hk : PySem.W.keepIn X.K (.ref f) = true) (hb : Binds X.K fd ps ds) (hd : Vals dvs ds) (hx : Passes CX X E)
    (hdb : (x == ("__debug__" : Str)) = false := by decide) : PE X (.Call (.Name x p) [] [] pos) (tCall sp dvs E tNil) := by
  intro pins s σ H Q I h
  refine wpAny_Call_Name_kw (ld_glob I hg hm ?_ hdb)
  exact PySem.W.callWith_K0 I.kIn hk (run_fn (us := []) F hr hb hd hx I .nil h)

/-- o.m() -/
theorem pe_meth0 {pl : Sem Bool} (he : PE X o ta) (c : Cls X.K C) (hm : Meth X.K C m f) (F : FnOk X.prog X.w X.K X.mg X.base CX k f fd ps sp) (hr : Room k X.A) (hb : Binds X.K fd ps ds) (hd : Vals dvs ds) (hx : Passes CX X E)
    (ht : eval (.Call (.Attribute o m apos) [] [] pos) X.env = (do
      let ov ← eval o X.env
      standAt apos.atName
      let (f, first) ← holding [ov] (getMethod ov m pl)
      callWith pos f first (backTo pos (starEach [] X.env)) (backToKw pos (keywordEach [] X.env))) := by rfl) :
    PE X (.Call (.Attribute o m apos) [] [] pos) (tMeth C m sp dvs E ta tNil) := by
  intro pins s σ H Q I h
  refine PySem.W.methodCall_KW (pl := pl) (thn (he pins s σ H _ I h) fun u s1 ⟨x, H1, I1, rx, a, dx, fs, ex, ea, l, q⟩ => ?_) ht
  subst ex
  obtain rfl : u = Value.ref a := rx
  refine getmeth_ok I1 ea c hm l ?_
  exact PySem.W.callWith_K0 (first := [.ref a]) I1.kIn hm.kp (run_fn (us := [.ref a]) (vs := [.ref a]) F hr hb hd hx I1 (.cons rfl .nil) q)

/-- what a class must have to be made -/
structure Mk (K : PySem.W.Frag) (C f : Addr) : Prop where
  makes : PySem.W.makesIn K C = true
  init : PySem.W.findIn K (.ref C) "__init__" = some (some (.ref f))
  fn : PySem.W.isFn K (.ref f) = true
  kp : PySem.W.keepIn K (.ref C) = true

theorem run_make {pins : List (Addr × Obj)} {σ : St} {H : Hp} {s : Shared} {Q : VK} {us : List Value} {vs : List V} (M : Mk X.K C f) (F : FnOk X.prog X.w X.K X.mg X.base CX k f fd ps sp) (hr : Room (k + 1) X.A) (hb : Binds X.K fd ps ds) (hd : Vals dvs ds)
    (hx : Passes CX X E) (I : Inv X pins σ H s) (r : Vals vs us)
    (h : ∀ x dx, H x = none → H dx = none → dx ≠ x → sp (.ref x :: (vs ++ dvs)) (upd (upd H dx (.own x)) x (.ins C dx [])) (fun v H2 => v = .non ∧ Q (.ref x) H2) E) :
    wpAny (model X.prog X.w) X.A (call (.ref C) us) (EP X pins σ Q) X.xe s := by
  have hq := h (s.heap.objs.size + 1) s.heap.objs.size (I.hok.fresh (Nat.le_succ _)) (I.hok.fresh (Nat.le_refl _)) (Nat.ne_of_lt (Nat.lt_succ_self _))
  have I2 := Inv.made (C := C) I
  have r2 : Vals (V.ref (s.heap.objs.size + 1) :: (vs ++ dvs)) (Value.ref (s.heap.objs.size + 1) :: (us ++ ds)) := .cons rfl (r.append hd)
  have hl : (Value.ref (s.heap.objs.size + 1) :: us ++ ds).length = ps.length := by
    have e := r2.length
    rw [F.len _ _ _ _ hq] at e
    exact e.symm
  refine wpAny_call (make_map (f := f) I.kIn M.makes M.init (beq_iff_eq.mp M.fn) (codeAny_mono (F.run _ X.stack _ _ ⟨Value.ref (s.heap.objs.size + 1) :: us, []⟩ (Value.ref (s.heap.objs.size + 1) :: (us ++ ds)) _ _ E (hr.make C us [])
    (I2.env0.make C us []) (hb _ (Value.ref (s.heap.objs.size + 1) :: us) I2.kIn hl) r2 hq) fun r s' hq' => ?_))
  cases r with
  | error e => exact hx pins σ _ _ e s' I2 hq'
  | ok fl =>
    cases fl with
    | ret u =>
      obtain ⟨v, H', I3, rv, ev, q3⟩ := I2.after hq'
      subst ev
      exact ⟨rv, ⟨V.ref (s.heap.objs.size + 1), H', I3, rfl, q3⟩⟩
    | next => exact False.elim hq'
    | brk => exact False.elim hq'
    | cont => exact False.elim hq'
theorem pe_make (M : Mk X.K C f) (F : FnOk X.prog X.w X.K X.mg X.base CX k f fd ps sp) (hr : Room (k + 1) X.A) (hg : Gl X x) (hm : X.mg x = some (.ref C)) (hb : Binds X.K fd ps ds) (hd : Vals dvs ds) (hx : Passes CX X E)
    (ha : PA X (e :: es) t) (hdb : (x == ("__debug__" : Str)) = false := by decide) (he : starEach (e :: es) X.env = (false, eval e X.env) :: starEach es X.env := by rfl) (hpl : (backTo pos (starEach es X.env)).any (·.1) = false := by rfl) :
    PE X (.Call (.Name x p) (e :: es) [] pos) (tMake C sp dvs E t) := by
  intro pins s σ H Q I h
  refine wpAny_Call_Name_kw (ld_glob I hg hm ?_ hdb)
  refine PySem.W.callWith_K (h₀ := X.base) I.ok.mod.kin M.kp (thn (ha pos pins s σ H _ I h) fun us s1 ⟨vs, H1, I1, r, q⟩ => ⟨I1.kIn, ?_⟩) he hpl
  exact run_make M F hr hb hd hx I1 r q
end


section
variable {X : Cx} {CX : CXT} {k : Nat} {f C : Addr} {fd : FuncData} {ps ks : List Str} {sp : Sp} {E : XK} {x m : Str} {p pos apos kpos : Pos} {e o : Expr} {es : List Expr} {kws : List Keyword} {te ta : TE} {t tk : TA} {nm : Option Str}
variable {g : List Value → List Value → List Value} {gV : List V → List V → List V}
end


/-- names: the parameters first -/
structure FnScope (N P : List Str) (sc : Scope) : Prop where
  kind : sc.kind = .function
  co : sc.isCoroutine = false
  gen : sc.isGenerator = false
  nd : N.Nodup
  pre : N.take P.length = P
  par : ∀ x ∈ P, sc.names.lookup x = some .local ∨ sc.names.lookup x = some .cell
  nofree : ∀ y ∈ sc.names, y.2 ≠ .free

theorem bindL_out {kindOf : Str → Option NameKind} {x : Str} : ∀ {binds : List (Str × Value)} {m : Str → Option Value}, (∀ v, (x, v) ∉ binds) → bindL kindOf binds m x = m x
  | [], _, _ => rfl
  | (n, v) :: r, m, h => by
    unfold bindL
    rw [bindL_out fun w hw => h w (List.mem_cons_of_mem _ hw)]
    split
    · have : x ≠ n := by rintro rfl; exact h v List.mem_cons_self
      simp [this]
    · rfl
theorem bindC_out {kindOf : Str → Option NameKind} {x : Str} : ∀ {binds : List (Str × Value)} {m : Str → Option Value}, (∀ v, (x, v) ∉ binds) → bindC kindOf binds m x = m x
  | [], _, _ => rfl
  | (n, v) :: r, m, h => by
    unfold bindC
    rw [bindC_out fun w hw => h w (List.mem_cons_of_mem _ hw)]
    split
    · rfl
    · have : x ≠ n := by rintro rfl; exact h v List.mem_cons_self
      simp [this]
theorem bindL_get {kindOf : Str → Option NameKind} {x : Str} {v : Value} : ∀ {P : List Str} {vs : List Value} {i : Nat} {m : Str → Option Value}, P.Nodup → P[i]? = some x → vs[i]? = some v → kindOf x = some .local →
    bindL kindOf (P.zip vs) m x = some v
  | [], _, _, _, _, h, _, _ => by simp at h
  | _ :: _, [], _, _, _, _, h, _ => by simp at h
  | p :: P, w :: vs, 0, m, nd, h1, h2, hk => by
    simp at h1 h2; subst h1; subst h2
    show bindL kindOf ((p, w) :: P.zip vs) m p = _
    unfold bindL
    rw [bindL_out fun v hv => (List.nodup_cons.mp nd).1 (List.of_mem_zip hv).1, if_pos hk]
    simp
  | p :: P, w :: vs, i + 1, m, nd, h1, h2, hk => by
    show bindL kindOf ((p, w) :: P.zip vs) m x = _
    unfold bindL
    exact bindL_get (i := i) (List.nodup_cons.mp nd).2 (by simpa using h1) (by simpa using h2) hk
theorem bindC_get {kindOf : Str → Option NameKind} {x : Str} {v : Value} : ∀ {P : List Str} {vs : List Value} {i : Nat} {m : Str → Option Value}, P.Nodup → P[i]? = some x → vs[i]? = some v → kindOf x ≠ some .local →
    bindC kindOf (P.zip vs) m x = some v
  | [], _, _, _, _, h, _, _ => by simp at h
  | _ :: _, [], _, _, _, _, h, _ => by simp at h
  | p :: P, w :: vs, 0, m, nd, h1, h2, hk => by
    simp at h1 h2; subst h1; subst h2
    show bindC kindOf ((p, w) :: P.zip vs) m p = _
    unfold bindC
    rw [bindC_out fun v hv => (List.nodup_cons.mp nd).1 (List.of_mem_zip hv).1, if_neg hk]
    simp
  | p :: P, w :: vs, i + 1, m, nd, h1, h2, hk => by
    show bindC kindOf ((p, w) :: P.zip vs) m x = _
    unfold bindC
    exact bindC_get (i := i) (List.nodup_cons.mp nd).2 (by simpa using h1) (by simpa using h2) hk

/-- the names' values at the entry -/
def start (N : List Str) (vs : List V) : St := vs.map some ++ List.replicate (N.length - vs.length) none

/-- the context of a def's body, at its entry; an exception leaves the frame, then lies as CX says -/
def cxOf (CX : CXT) (P : Program) (w : World) (K : PySem.W.Frag) (mg : Str → Option Value) (base : Heap) (N : List Str) (qual : Str) (scope : Scope) (f : Addr) (cd : Value) (A : Around) (outer : List Env) (s : Shared) (H : Hp) (E : XK) : Cx where
  prog := P
  w := w
  K := K
  mg := mg
  base := base
  A := A.deeper (envOfC qual scope s.heap.objs.size f cd)
  N := N
  s₀ := s
  H₀ := H
  env := envOfC qual scope s.heap.objs.size f cd
  outer := outer
  stack := envOfC qual scope s.heap.objs.size f cd :: outer
  ex := []
  calm := true
  fn := fun _ => true
  pn := []
  xe := fun e s' => wpAny (model P w) (A.deeper (envOfC qual scope s.heap.objs.size f cd)) (leaving (envOfC qual scope s.heap.objs.size f cd) e) (fun _ s'' => CX outer H s E e s'') (fun e' s'' => CX outer H s E e' s'') s'

theorem cell_has {sc : Scope} {n : Nat} {x : Str} (h : sc.names.lookup x = some .cell) : ∃ c, (cellsFrom n sc.names []).lookup x = some c := by
  have q := PySem.W.cellsFrom_some sc.names n [] (.inl h)
  exact Option.isSome_iff_exists.mp q

theorem inv_start {CX : CXT} {P : Program} {w : World} {K : PySem.W.Frag} {mg : Str → Option Value} {base : Heap} {N ps : List Str} {qual : Str} {scope : Scope} {f : Addr} {cd : Value} {A : Around} {outer : List Env} {s s1 : Shared} {H : Hp} {E : XK} {us : List Value} {vs : List V}
    (S : FnScope N ps scope) (hd : A.handled = none) (e0 : Env0 P w K mg base A outer s H) (hl : vs.length = ps.length) (r : Vals vs us)
    (x : InCallC s s.heap.objs.size (bindL (envOfC qual scope s.heap.objs.size f cd).kindOf (ps.zip us) fun _ => none) (cellsFrom (s.heap.objs.size + 1) scope.names []) (bindC (envOfC qual scope s.heap.objs.size f cd).kindOf (ps.zip us) fun _ => none) s1) :
    Inv (cxOf CX P w K mg base N qual scope f cd A outer s H E) [] (start N vs) H s1 := by
  have hpl : ps.length ≤ N.length := by have := congrArg List.length S.pre; rw [List.length_take] at this; omega
  obtain ⟨h1, tk, rfl, hk⟩ := x.done
  have noA : ∀ b : Addr, b ∉ (cxOf CX P w K mg base N qual scope f cd A outer s H E).ex := fun b z => absurd (show b ∈ ([] : List Addr) from z) (by simp)
  refine ⟨⟨e0.mod, S.kind, rfl, rfl, Nat.le_refl _, fun y z c h1 h2 => ?_, fun y hy => ?_, fun y c _ h => ?_, fun _ => hd, Around.frames_deeper e0.frames, .inr ⟨rfl, rfl⟩, fun b z => absurd z (noA b), e0.bs, e0.bsz, fun b _ _ => noA b, fun b z => absurd z (noA b), e0.funs, e0.frf⟩,
    rfl, e0.bare, Un.kept hk, ⟨_, x.toInCall.ns, fun i y v h1 h2 h3 => ?_⟩, fun y c h => ⟨_, x.cell y c h⟩, e0.hok.fresh (Nat.le_refl _), fun y c h => ?_, fun p hp => absurd (show p ∈ ([] : List (Addr × Obj)) from hp) (by simp), e0.hok.kept hk, ?_⟩
  · exact name_of_addr x.apart (PySem.mem_of_lookup h1) (PySem.mem_of_lookup h2)
  · have hy : scope.names.lookup y = some .cell ∨ scope.names.lookup y = some .free := hy
    rcases hy with hy | hy
    · exact cell_has hy
    · exact absurd rfl (S.nofree _ (PySem.mem_of_lookup hy))
  · exact Nat.le_of_lt (x.above y c (PySem.mem_of_lookup h))
  · have hi : i < vs.length := by
      unfold start at h2
      by_cases hi : i < vs.length
      · exact hi
      · rw [List.getElem?_append_right (by simpa using hi)] at h2
        rw [List.getElem?_replicate] at h2
        split at h2 <;> cases h2
    have ha : vs[i]? = some v := by
      unfold start at h2
      rw [List.getElem?_append_left (by simpa using hi), List.getElem?_map] at h2
      cases e : vs[i]? with
      | none => rw [e] at h2; cases h2
      | some a => rw [e] at h2; cases h2; rfl
    obtain ⟨u, hu, rv⟩ := r.get ha
    have hp : ps[i]? = some y := by
      rw [← S.pre, List.getElem?_take_of_lt (by omega)]; exact h1
    have ndP : ps.Nodup := by rw [← S.pre]; exact S.nd.sublist (List.take_sublist _ _)
    refine ⟨u, rv, ?_⟩
    rcases S.par y (List.mem_of_getElem? hp) with k | k
    · exact .inl ⟨k, bindL_get ndP hp hu k⟩
    · obtain ⟨c, e⟩ := cell_has (n := s.heap.objs.size + 1) k
      refine .inr ⟨.inl k, c, e, ?_⟩
      have q := x.cell y c e
      rw [bindC_get ndP hp hu (by show scope.names.lookup y ≠ _; rw [k]; decide)] at q
      exact q
  · exact e0.hok.fresh (Nat.le_of_lt (x.above y c (PySem.mem_of_lookup h)))
  · unfold start
    show _ = N.length
    rw [List.length_append, List.length_map, List.length_replicate]
    omega

/-- THE RULE: a def (or a method) of the text, by its body. The body's reading t is chosen for each entry; it is run at the parameters' values -/
theorem fn_of {CX : CXT} {P : Program} {w : World} {K : PySem.W.Frag} {mg : Str → Option Value} {base : Heap} {k : Nat} {f : Addr} {name qual : Str} {params : Arguments} {body : List Stmt} {scope : Scope} {dV kV doc pm cdv ct oc : Value} {an od : Option Addr}
    {osl : Array (Option Value)} {N ps : List Str} {sp : Sp} (lk : K.lookup f = some ⟨oc, od, .func (PySem.W.fnOf name qual params body scope dV kV doc pm an cdv ct), osl⟩) (hcd : PySem.W.codeIn K cdv qual = true) (S : FnScope N ps scope)
    (len : ∀ vs H Q E, sp vs H Q E → vs.length = ps.length)
    (hbody : ∀ (A : Around) (outer : List Env) (s : Shared) (H : Hp) (vs : List V) (Q : VK) (E : XK), Room k (A.deeper (envOfC qual scope s.heap.objs.size f cdv)) → sp vs H Q E →
      ∃ t, PSs (cxOf CX P w K mg base N qual scope f cdv A outer s H E) body t ∧ t { nx := fun _ H' => Q .non H', rt := Q } (start N vs) H) :
    FnOk P w K mg base CX (k + 1) f (PySem.W.fnOf name qual params body scope dV kV doc pm an cdv ct) ps sp := by
  refine ⟨len, fun A outer s H args us vs Q E hr e0 hb r hsp => ?_⟩
  have hl := len _ _ _ _ hsp
  have KX : K.In s.heap := e0.mod.kin.keeps fun b o e => (e0.bs b o e).1
  have lim : s.heap.NoLimit := e0.mod.nolimit.keeps fun b o e => (e0.bs b o e).1
  have hkind : ∀ y ∈ ps.zip us, scope.names.lookup y.1 = some .local ∨ (scope.names.lookup y.1 = some .cell ∧ ((cellsFrom (s.heap.objs.size + 1) scope.names []).lookup y.1).isSome = true) := fun ⟨n, v⟩ hy => by
    rcases S.par n (List.of_mem_zip hy).1 with q | q
    · exact .inl q
    · exact .inr ⟨q, PySem.W.cellsFrom_some _ _ _ (.inl q)⟩
  refine codeAny_call_function hr.depth (KX _ _ lk) rfl S.co S.gen rfl (PySem.W.codeRec_of KX hcd) (hb _ _ _ _ ?_)
  refine wpAny_newFunctionEnv_cells S.kind hkind fun env he s1 x => ?_
  subst he
  refine ⟨lim.keeps x.toInCall.keep, codeAny_func ?_⟩
  obtain ⟨t, ht, hq⟩ := hbody A outer s H vs Q E (hr.deeper _) hsp
  have I : Inv (cxOf CX P w K mg base N qual scope f cdv A outer s H E) [] (start N vs) H s1 := inv_start S hr.hd e0 hl r x
  refine wpAny_mono (ht [] s1 (start N vs) H _ I hq) (fun fl s' hs => ?_) fun e s' hs => hs
  have fin : ∀ {σ' : St} {H' : Hp} {v : V} {u : Value}, Inv (cxOf CX P w K mg base N qual scope f cdv A outer s H E) [] σ' H' s' → RelV v u → Q v H' → CE outer P w H s Q u s' :=
    fun {σ' H' v u} J rv q => ⟨v, H', J.os, J.bare, J.base, J.hok, rv, q⟩
  cases fl with
  | ret u =>
    obtain ⟨v, σ', H', J, rv, q⟩ := hs
    exact fin J rv q
  | next =>
    obtain ⟨σ', H', J, q⟩ := hs
    exact fin (v := V.non) (u := Value.none) J rfl q
  | brk =>
    obtain ⟨_, _, _, q⟩ := hs
    exact False.elim q
  | cont =>
    obtain ⟨_, _, _, q⟩ := hs
    exact False.elim q
end L2

namespace L2
open PySem PySem.Spec PyProof.Rows
section
variable {X : Cx} {x : Str} {p pos : Pos} {e : Expr} {es : List Expr} {t : TA} {id T : String} {r : List V → Hp → VK → Prop}

def tCB (r : List V → Hp → VK → Prop) (t : TA) : TE := fun σ H Q => t σ H fun vs H1 => r vs H1 Q
/-- f(e, ..), f a built-in function -/
theorem pe_callB (hc : CallR X (.builtin id) r) (hg : Gl X x) (hm : X.mg x = none) (hv : bootBuiltins x = some (.builtin id)) (ha : PA X (e :: es) t) (hn : x ≠ "__name__" := by decide) (hdb : (x == ("__debug__" : Str)) = false := by decide)
    (he : starEach (e :: es) X.env = (false, eval e X.env) :: starEach es X.env := by rfl) (hpl : (backTo pos (starEach es X.env)).any (·.1) = false := by rfl) : PE X (.Call (.Name x p) (e :: es) [] pos) (tCB r t) := by
  intro pins s σ H Q I h
  refine wpAny_Call_Name_kw (ld_blt I hg hm hv ?_ hn hdb)
  exact PyProof.Rows.callWith_builtin1 (thn (ha pos pins s σ H _ I h) fun us s1 ⟨vs, H1, I1, r1, q1⟩ => hc pins s1 σ H1 vs us Q I1 r1 q1) he hpl
/-- T(e, ..), T a built-in type -/
theorem pe_callTy (hc : CallR X (.type T) r) (hg : Gl X x) (hm : X.mg x = none) (hv : bootBuiltins x = some (.type T)) (ha : PA X (e :: es) t) (hn : x ≠ "__name__" := by decide) (hdb : (x == ("__debug__" : Str)) = false := by decide)
    (he : starEach (e :: es) X.env = (false, eval e X.env) :: starEach es X.env := by rfl) (hpl : (backTo pos (starEach es X.env)).any (·.1) = false := by rfl) : PE X (.Call (.Name x p) (e :: es) [] pos) (tCB r t) := by
  intro pins s σ H Q I h
  refine wpAny_Call_Name_kw (ld_blt I hg hm hv ?_ hn hdb)
  exact PyProof.Rows.callWith_type1 (thn (ha pos pins s σ H _ I h) fun us s1 ⟨vs, H1, I1, r1, q1⟩ => hc pins s1 σ H1 vs us Q I1 r1 q1) he hpl
end
end L2

namespace HT
open PySem PyProof.Rows

section
open PySem.SeqAt
open PySem.AutoSeq1 (wpAny_loadPart')
open PySem.MeetsSeq PySem.MeetsSeq2 PySem.MeetsSeq3

end

section
variable {prog : Program} {w : World} {A : Around} {E : Value → Shared → Prop} {s : Shared}

/-- a slice's bound as a place among n (d where it is left out) -/
def sIx (n d : Nat) : Option Int → Nat
  | none => d
  | some v => if v < 0 then (v + (n : Int)).toNat else min v.toNat n
end
end HT

namespace L2
open PySem PySem.Spec PyProof.Rows


abbrev TO := St → Hp → (Option Int → Hp → Prop) → Prop
/-- a slice's part (left out, or an int) -/
def PO (X : Cx) (e : Option Expr) (t : TO) : Prop :=
  ∀ (pins : List (Addr × Obj)) (s : Shared) (σ : St) (H : Hp) (Q : Option Int → Hp → Prop), Inv X pins σ H s → t σ H Q →
    wpAny (model X.prog X.w) X.A (evalPart e X.env) (fun u s' => ∃ o H', Inv X pins σ H' s' ∧ IsPart u o ∧ Q o H') X.xe s
def tNoPart : TO := fun _ H Q => Q none H
def tPart (t : TE) : TO := fun σ H Q => t σ H fun x H1 => ∃ i, x = .int i ∧ Q (some i) H1

section
variable {X : Cx} {e : Expr} {te : TE} {lo hi : Option Expr} {tl th : TO} {pos p2 : Pos}

theorem po_none : PO X none tNoPart := by
  intro pins s σ H Q I h
  rw [evalPart_none]
  exact wpAny_pure ⟨none, H, I, .none, h⟩
theorem po_some (h : PE X e te) : PO X (some e) (tPart te) := by
  intro pins s σ H Q I hw
  rw [evalPart_some]
  refine thn (h pins s σ H _ I hw) fun u s1 ⟨x, H1, I1, r1, q1⟩ => ?_
  obtain ⟨i, rfl, q⟩ := q1
  obtain ⟨t, rfl⟩ := r1
  exact ⟨some i, H1, I1, .int i t, q⟩

/-- what a slice of a value is, by values: the slice object stands at sl -/
def SlR (X : Cx) (r : V → Option Int → Option Int → Hp → VK → Prop) : Prop :=
  ∀ (pins : List (Addr × Obj)) (s : Shared) (σ : St) (H : Hp) (x : V) (v vl vu : Value) (lo hi : Option Int) (sl : Addr) (Q : VK), Inv X pins σ H s → RelV x v → s.heap.IsSliceOf sl vl vu .none → IsPart vl lo → IsPart vu hi → r x lo hi H Q →
    ∃ T id, typeLookup (.type T) "__getitem__" = pure (some (.builtin id)) ∧ s.TypeIs v T ∧ wpAny (model X.prog X.w) X.A (getItem v (.ref sl)) (EP X pins σ Q) X.xe s
theorem SlR.or {r r' : V → Option Int → Option Int → Hp → VK → Prop} (h : SlR X r) (h' : SlR X r') : SlR X (fun x lo hi H Q => r x lo hi H Q ∨ r' x lo hi H Q) := by
  intro pins s σ H x v vl vu lo hi sl Q I rx hs pl pu q
  rcases q with q | q
  · exact h pins s σ H x v vl vu lo hi sl Q I rx hs pl pu q
  · exact h' pins s σ H x v vl vu lo hi sl Q I rx hs pl pu q
def tSl (r : V → Option Int → Option Int → Hp → VK → Prop) (te : TE) (tl th : TO) : TE := fun σ H Q => te σ H fun x H1 => tl σ H1 fun l H2 => th σ H2 fun u H3 => r x l u H3 Q
/-- a[lo:hi], any a -/
theorem pe_slice {r : V → Option Int → Option Int → Hp → VK → Prop} (hr : SlR X r) (he : PE X e te) (hl : PO X lo tl) (hu : PO X hi th) : PE X (.Subscript e (.Slice lo hi none p2) pos) (tSl r te tl th) := by
  intro pins s σ H Q I h
  refine Subscript_ (thn (he pins s σ H _ I h) fun v s1 ⟨x, H1, I1, r1, q1⟩ => ?_)
  refine wpAny_Slice (thn (hl pins s1 σ H1 _ I1 q1) fun vl s2 ⟨l, H2, I2, pl, q2⟩ => thn (hu pins s2 σ H2 _ I2 q2) fun vu s3 ⟨u, H3, I3, pu, q3⟩ => ?_)
  rw [evalPart_none]
  refine wpAny_pure ?_
  have I4 : Inv X pins σ H3 { s3 with heap := s3.heap.push { cls := .type "slice", data := .fields #[vl, vu, .none] } } := I3.kept (t' := s3.toks) fun b ob q => Heap.get?_push_of_some _ q
  obtain ⟨T, id, hT, ht, hg⟩ := hr pins { s3 with heap := s3.heap.push { cls := .type "slice", data := .fields #[vl, vu, .none] } } σ H3 x v vl vu l u s3.heap.objs.size Q I4 r1 (Heap.IsSliceOf.new ..) pl pu q3
  show wpAny (model X.prog X.w) X.A (subscriptTail e (.Slice lo hi none p2) v (.ref s3.heap.objs.size)) (EP X pins σ Q) X.xe { s3 with heap := s3.heap.push { cls := .type "slice", data := .fields #[vl, vu, .none] } }
  exact tail_any (ops := [.ref s3.heap.objs.size, v]) ht hT hg (by with_unfolding_all rfl)

/-- the items of xs[lo:hi] -/
def cutV (xs : List V) (lo hi : Option Int) : List V := (xs.drop (HT.sIx xs.length 0 lo)).take (HT.sIx xs.length xs.length hi - HT.sIx xs.length 0 lo)
theorem cutV_length (xs : List V) (lo hi : Option Int) : (cutV xs lo hi).length ≤ xs.length := by
  unfold cutV
  rw [List.length_take, List.length_drop]
  omega
end
end L2

namespace L2
open PySem PySem.Spec PyProof.Rows


/-- the place that an index of any sign means -/
def ixN (n : Nat) (i : Int) : Option Nat := if 0 ≤ i then (if i < n then some i.toNat else none) else if -(n : Int) ≤ i then some (i + n).toNat else none
def atI {α : Type} (xs : List α) (i : Int) : Option α := (ixN xs.length i).bind fun j => xs[j]?
theorem ixN_seq {n : Nat} {i : Int} {j : Nat} (h : ixN n i = some j) : seqIndex? i n = some j ∧ j < n ∧ -(n : Int) ≤ i ∧ i < n := by
  unfold ixN at h
  by_cases h0 : 0 ≤ i
  · rw [if_pos h0] at h
    by_cases h1 : i < n
    · rw [if_pos h1] at h
      have e : i.toNat = j := Option.some.inj h
      exact ⟨by rw [seqIndex_of h0 h1, e], by omega, by omega, h1⟩
    · rw [if_neg h1] at h; cases h
  · rw [if_neg h0] at h
    by_cases h1 : -(n : Int) ≤ i
    · rw [if_pos h1] at h
      have e : (i + n).toNat = j := Option.some.inj h
      exact ⟨by rw [seqIndex_neg (by omega) h1, e], by omega, h1, by omega⟩
    · rw [if_neg h1] at h; cases h
theorem atI_get {α : Type} {xs : List α} {i : Int} {v : α} (h : atI xs i = some v) : ∃ j, seqIndex? i xs.length = some j ∧ xs[j]? = some v ∧ j < xs.length ∧ -(xs.length : Int) ≤ i ∧ i < xs.length := by
  unfold atI at h
  cases e : ixN xs.length i with
  | none => rw [e] at h; cases h
  | some j =>
    rw [e] at h
    obtain ⟨h1, h2, h3, h4⟩ := ixN_seq e
    exact ⟨j, h1, h, h2, h3, h4⟩
theorem atI_nat {α : Type} {xs : List α} {j : Nat} {v : α} (h : xs[j]? = some v) : atI xs (j : Int) = some v := by
  have hj : j < xs.length := (List.getElem?_eq_some_iff.mp h).1
  have e : ixN xs.length (j : Int) = some j := by
    unfold ixN
    rw [if_pos (by omega), if_pos (by omega)]; simp
  unfold atI; rw [e]; exact h
/-- what stands as an index of a plain subscript -/
def PlainIx (b : Expr) : Prop := ∀ o i, subscripted b false o i = operate [o, i] (getItem o i)
/-- a subscript by values -/
def IxR (X : Cx) (r : R2) : Prop :=
  ∀ (value slice : Expr) (pins : List (Addr × Obj)) (s : Shared) (σ : St) (H : Hp) (x y : V) (v u : Value) (Q : VK), Inv X pins σ H s → RelV x v → RelV y u → r x y H Q →
    subscripted slice false v u = operate [v, u] (getItem v u) → wpAny (model X.prog X.w) X.A (subscriptTail value slice v u) (EP X pins σ Q) X.xe s
/-- a call of a builtin's method by values: the receiver, the arguments -/
def MtR (X : Cx) (id : String) (r : V → List V → Hp → VK → Prop) : Prop :=
  ∀ (pins : List (Addr × Obj)) (s : Shared) (σ : St) (H : Hp) (x : V) (xs : List V) (v : Value) (us : List Value) (Q : VK), Inv X pins σ H s → RelV x v → Vals xs us → r x xs H Q →
    wpAny (model X.prog X.w) X.A (call (.builtin id) (v :: us)) (EP X pins σ Q) X.xe s
section
variable {X : Cx} {a b : Expr} {ta tb : TE} {pos : Pos}
theorem IxR.or {r r' : R2} (h : IxR X r) (h' : IxR X r') : IxR X (fun x y H Q => r x y H Q ∨ r' x y H Q) := by
  intro value slice pins s σ H x y v u Q I rx ry q hs
  rcases q with q | q
  · exact h value slice pins s σ H x y v u Q I rx ry q hs
  · exact h' value slice pins s σ H x y v u Q I rx ry q hs
theorem MtR.or {id : String} {r r' : V → List V → Hp → VK → Prop} (h : MtR X id r) (h' : MtR X id r') : MtR X id (fun x xs H Q => r x xs H Q ∨ r' x xs H Q) := by
  intro pins s σ H x xs v us Q I rx rs q
  rcases q with q | q
  · exact h pins s σ H x xs v us Q I rx rs q
  · exact h' pins s σ H x xs v us Q I rx rs q
/-- a[b] -/
theorem pe_ix {r : R2} (hr : IxR X r) (ha : PE X a ta) (hb : PE X b tb) (hs : PlainIx b) : PE X (.Subscript a b pos) (tOp r ta tb) := by
  intro pins s σ H Q I h
  exact Subscript_ (binT ha hb I h fun v u s2 x y H2 I2 rx ry q => hr a b pins s2 σ H2 x y v u Q I2 rx ry q (hs _ _))

def rIxL (K : PySem.W.Frag) : R2 := fun x y H Q => ∃ p xs i v, x = .ref p ∧ y = .int i ∧ SqL K H p xs ∧ atI xs i = some v ∧ Q v H
def rIxT (K : PySem.W.Frag) : R2 := fun x y H Q => ∃ p xs i v, x = .ref p ∧ y = .int i ∧ SqT K H p xs ∧ atI xs i = some v ∧ Q v H
def rIxS : R2 := fun x y H Q => ∃ z i c, x = .str z ∧ y = .int i ∧ z.length ≤ sizeLine ∧ atI z.cps.toList i = some c ∧ Q (.str ⟨#[c]⟩) H
theorem ix_list : IxR X (rIxL X.K) := by
  intro value slice pins s σ H x y v u Q I rx ry h hs
  obtain ⟨p, xs, i, z, rfl, rfl, hq, he, q⟩ := h
  cases rx
  obtain ⟨t, rfl⟩ := ry
  obtain ⟨its, r, pl, hz⟩ := I.list hq
  obtain ⟨j, h1, h2, h3, h4, h5⟩ := atI_get he
  obtain ⟨w, ew, rw'⟩ := r.get h2
  have hl := r.length
  have hn := line63
  have fin : EP X pins σ Q w s := ⟨z, H, I, rw', q⟩
  by_cases h0 : 0 ≤ i
  · have hj : i.toNat = j := by
      rw [seqIndex_of h0 h5] at h1
      exact Option.some.inj h1
    exact item_listR pl.isList h0 (by omega) (by rw [hj]; simpa using ew) fin hs
  · have hj : (i + (its.toArray.size : Int)).toNat = j := by
      rw [seqIndex_neg (by omega) h4] at h1
      rw [List.size_toArray, ← hl]
      exact Option.some.inj h1
    exact subscriptTail_builtinR (x := w) pl.isList.typeIs slot_list_getitem.lookup
      (wpAny_getItem_list_neg (Q := fun r s' => r = w ∧ EP X pins σ Q r s') pl.isList (by omega) (by rw [List.size_toArray] <;> omega) (by omega) (by rw [hj]; simpa using ew) ⟨rfl, fin⟩) hs
theorem ix_tup : IxR X (rIxT X.K) := by
  intro value slice pins s σ H x y v u Q I rx ry h hs
  obtain ⟨p, xs, i, z, rfl, rfl, hq, he, q⟩ := h
  cases rx
  obtain ⟨t, rfl⟩ := ry
  obtain ⟨its, r, pl, hz⟩ := I.tuple hq
  obtain ⟨j, h1, h2, h3, h4, h5⟩ := atI_get he
  obtain ⟨w, ew, rw'⟩ := r.get h2
  have hl := r.length
  have hn := line63
  have fin : EP X pins σ Q w s := ⟨z, H, I, rw', q⟩
  exact subscriptTail_builtinR (x := w) pl.typeIs slot_tuple_getitem.lookup
    (getItem_tuple (j := j) (Q := fun r s' => r = w ∧ EP X pins σ Q r s') pl (by omega) (by omega) (by rw [List.size_toArray, ← hl]; exact h1) (by simpa using ew) ⟨rfl, fin⟩) hs
theorem ix_str : IxR X rIxS := by
  intro value slice pins s σ H x y v u Q I rx ry h hs
  obtain ⟨z, i, c, rfl, rfl, hz, he, q⟩ := h
  obtain ⟨t, rfl⟩ := rx
  obtain ⟨t', rfl⟩ := ry
  obtain ⟨j, h1, h2, h3, h4, h5⟩ := atI_get he
  have hl : z.cps.toList.length = z.length := by simp [Str.length]
  rw [hl] at h1 h4 h5
  have hn := line63
  exact tail_any (typeIs_str s z t) slot_str_getitem.lookup (getItem_str (c := c) (by
    have e1 : decide (i < -(2 ^ 63 : Int)) = false := decide_eq_false (by omega)
    have e2 : decide (i ≥ 2 ^ 63) = false := decide_eq_false (by omega)
    rw [e1, e2, Bool.or_false]) (by rw [h1]; simpa using h2) ⟨.str ⟨#[c]⟩, H, I.tok _, ⟨_, rfl⟩, q⟩) hs
/-- the list's object behind a store -/
theorem mapSeq_set (its : List Value) (n j : Nat) (u : Value) : Obj.mapSeq (·.setIfInBounds j u) { cls := .type "list", data := .seq its.toArray n } = { cls := .type "list", data := .seq (its.set j u).toArray n } := by
  simp [Obj.mapSeq]
theorem Inv.lst {pins : List (Addr × Obj)} {σ : St} {H : Hp} {s : Shared} {p : Addr} {xs : List V} (I : Inv X pins σ H s) (h : H p = some (.lst xs)) :
    ∃ (its : List Value) (n : Nat), Vals xs its ∧ s.heap.get? p = some { cls := .type "list", data := .seq its.toArray n } ∧ xs.length ≤ sizeLine := by
  obtain ⟨z, its, n, r, e⟩ := I.hok p _ h
  exact ⟨its, n, r, e, z⟩
/-- the list at p is written by an update of its object -/
theorem Inv.lstUpd {pins : List (Addr × Obj)} {σ : St} {H : Hp} {s : Shared} {p : Addr} {xs ys : List V} {its its' : List Value} {n n' : Nat} {f : Obj → Obj} (I : Inv X pins σ H s) (h : H p = some (.lst xs))
    (ho : s.heap.get? p = some { cls := .type "list", data := .seq its.toArray n }) (hf : f { cls := .type "list", data := .seq its.toArray n } = { cls := .type "list", data := .seq its'.toArray n' }) (r : Vals ys its') (hz : ys.length ≤ sizeLine) (t : Nat) :
    Inv X pins σ (upd H p (.lst ys)) { s with heap := s.heap.update p f, toks := t } := by
  have e : (s.heap.update p f).get? p = some { cls := .type "list", data := .seq its'.toArray n' } := by
    rw [Heap.get?_update_self f ho (by rw [hf] <;> rfl), hf]
  refine I.write (x := p) (e := p) (by rw [h]; trivial) (.inl rfl) (fun b u hb q => (Heap.get?_update_other _ _ (Ne.symm hb)).trans q) ⟨_, e⟩ ?_
  exact ⟨hz, its', n', r, e⟩
def rSetL : V → V → V → Hp → (Hp → Prop) → Prop := fun o i v H Q => ∃ p xs k j, o = .ref p ∧ i = .int k ∧ H p = some (.lst xs) ∧ ixN xs.length k = some j ∧ Q (upd H p (.lst (xs.set j v)))
theorem set_list : PSet X rSetL := by
  intro pins s σ H o i v ov iv u Q I ro ri rv h
  obtain ⟨p, xs, k, j, rfl, rfl, hp, hj, q⟩ := h
  cases ro
  obtain ⟨t, rfl⟩ := ri
  obtain ⟨its, n, r, ho, hz⟩ := I.lst hp
  obtain ⟨h1, h2, h3, h4⟩ := ixN_seq hj
  have hl := r.length
  have hn := line63
  have I' : Inv X pins σ (upd H p (.lst (xs.set j v))) { s with heap := s.heap.update p (Obj.mapSeq (·.setIfInBounds j u)) } :=
    I.lstUpd hp ho (mapSeq_set its n j u) (r.set rv j) (by rw [List.length_set]; exact hz) s.toks
  by_cases h0 : 0 ≤ k
  · have hk : k.toNat = j := by
      rw [seqIndex_of h0 h4] at h1
      exact Option.some.inj h1
    exact PySem.W.ki_setAt ho h0 (by omega) (by rw [List.size_toArray, ← hl]; exact h4) (by rw [hk]; exact ⟨_, I', q⟩)
  · have hk : (k + (its.toArray.size : Int)).toNat = j := by
      rw [seqIndex_neg (by omega) h3] at h1
      rw [List.size_toArray, ← hl]
      exact Option.some.inj h1
    exact PySem.W.ki_setBack ho (by omega) (by rw [List.size_toArray, ← hl]; exact h3) (by omega) (by rw [hk]; exact ⟨_, I', q⟩)


theorem slice_bounds (lo hi : Option Int) (n : Nat) : (sliceBounds lo hi none n).1 = ((HT.sIx n 0 lo : Nat) : Int) ∧ (sliceBounds lo hi none n).2.1 = ((HT.sIx n n hi : Nat) : Int) ∧ (sliceBounds lo hi none n).2.2 = 1 := by
  refine ⟨?_, ?_, rfl⟩
  · cases lo with
    | none => simp [sliceBounds, HT.sIx]
    | some i =>
      simp only [sliceBounds, HT.sIx, Option.getD_none, show (1 : Int) > 0 by decide, if_true]
      by_cases h : i < 0
      · simp only [h, if_true] <;> omega
      · simp only [h, if_false] <;> omega
  · cases hi with
    | none => simp [sliceBounds, HT.sIx]
    | some i =>
      simp only [sliceBounds, HT.sIx, Option.getD_none, show (1 : Int) > 0 by decide, if_true]
      by_cases h : i < 0
      · simp only [h, if_true] <;> omega
      · simp only [h, if_false] <;> omega
theorem slicePick_cut (its : List Value) (lo hi : Option Int) : slicePick its.toArray lo hi none = ((its.drop (HT.sIx its.length 0 lo)).take (HT.sIx its.length its.length hi - HT.sIx its.length 0 lo)).toArray := by
  obtain ⟨h1, h2, h3⟩ := slice_bounds lo hi its.toArray.size
  unfold slicePick
  rw [h1, h2, h3]
  simp only [sliceRange_one, pick_run, List.size_toArray] <;> rfl
/-- xs[lo:hi] of a list: a new list -/
def rSlL (K : PySem.W.Frag) : V → Option Int → Option Int → Hp → VK → Prop := fun x lo hi H Q => ∃ a xs, x = .ref a ∧ SqL K H a xs ∧ ∀ p, H p = none → Q (.ref p) (upd H p (.lst (cutV xs lo hi)))
theorem sl_list : SlR X (rSlL X.K) := by
  intro pins s σ H x v vl vu lo hi sl Q I rx hs pl pu h
  obtain ⟨a, xs, rfl, hx, q⟩ := h
  cases rx
  obtain ⟨its, r, ht, hz⟩ := I.list hx
  have hlen := r.length
  refine ⟨"list", _, slot_list_getitem.lookup, ht.isList.typeIs, ?_⟩
  refine wpAny_getItem_list_slice ht.isList hs pl pu .none (by simp) ?_ (by rw [List.size_toArray] <;> omega)
  rw [slicePick_cut, ← hlen]
  refine ⟨.ref s.heap.objs.size, _, I.laid (t' := s.toks) (o := .lst (cutV xs lo hi)) (fun b ob q => Heap.get?_push_of_some _ q) (Nat.le_refl _) ?_, rfl, q _ (I.hok.fresh (Nat.le_refl _))⟩
  exact ⟨Nat.le_trans (cutV_length xs lo hi) hz, _, 0, (r.drop (HT.sIx xs.length 0 lo)).take (HT.sIx xs.length xs.length hi - HT.sIx xs.length 0 lo), Heap.get?_push_size _ rfl⟩


def flatV : V → Bool
  | .non => true
  | .bl _ => true
  | .int _ => true
  | .str _ => true
  | _ => false
/-- == of flat values -/
def eqV : V → V → Bool
  | .non, .non => true
  | .bl a, .bl b => a == b
  | .bl a, .int b => (if a then 1 else 0) == b
  | .int a, .bl b => a == (if b then 1 else 0)
  | .int a, .int b => a == b
  | .str a, .str b => a == b
  | _, _ => false
theorem eqAt_V {A : Around} {s : Shared} {y x : V} {u v : Value} (ry : RelV y u) (rx : RelV x v) (fy : flatV y = true) (fx : flatV x = true) : SeqAt.EqAt A s u v (eqV y x) := by
  cases y with
  | non =>
    cases ry
    cases x with
    | non => cases rx; exact SeqAt.EqAt.same _
    | bl b => cases rx; exact SeqAt.EqAt.none_bool b
    | int b => obtain ⟨t, rfl⟩ := rx; exact SeqAt.EqAt.none_int b t
    | str b => obtain ⟨t, rfl⟩ := rx; exact SeqAt.EqAt.none_str b t
    | _ => exact absurd (show false = true from fx) Bool.false_ne_true
  | bl a =>
    cases ry
    cases x with
    | non => cases rx; exact SeqAt.EqAt.bool_none a
    | bl b => cases rx; exact SeqAt.EqAt.bool_bool a b
    | int b => obtain ⟨t, rfl⟩ := rx; exact SeqAt.EqAt.bool_int a b t
    | str b => obtain ⟨t, rfl⟩ := rx; exact SeqAt.EqAt.bool_str a b t
    | _ => exact absurd (show false = true from fx) Bool.false_ne_true
  | int a =>
    obtain ⟨t', rfl⟩ := ry
    cases x with
    | non => cases rx; exact SeqAt.EqAt.int_none a t'
    | bl b => cases rx; exact SeqAt.EqAt.int_bool a t' b
    | int b => obtain ⟨t, rfl⟩ := rx; exact SeqAt.EqAt.int_int a t' b t
    | str b => obtain ⟨t, rfl⟩ := rx; exact SeqAt.EqAt.int_str a t' b t
    | _ => exact absurd (show false = true from fx) Bool.false_ne_true
  | str a =>
    obtain ⟨t', rfl⟩ := ry
    cases x with
    | non => cases rx; exact SeqAt.EqAt.str_none a t'
    | bl b => cases rx; exact SeqAt.EqAt.str_bool a t' b
    | int b => obtain ⟨t, rfl⟩ := rx; exact SeqAt.EqAt.str_int a t' b t
    | str b => obtain ⟨t, rfl⟩ := rx; exact SeqAt.EqAt.str_str a t' b t
    | _ => exact absurd (show false = true from fx) Bool.false_ne_true
  | _ => exact absurd (show false = true from fy) Bool.false_ne_true
/-- the items' answers, read off the values (a value's own answer does not lean on its token) -/
def eqU (x : V) (u : Value) : Bool := match u with
  | .none => eqV .non x
  | .bool b => eqV (.bl b) x
  | .int i _ => eqV (.int i) x
  | .str z _ => eqV (.str z) x
  | _ => false
theorem eqU_of {x y : V} {u : Value} (r : RelV y u) (f : flatV y = true) : eqU x u = eqV y x := by
  cases y with
  | non => cases r; rfl
  | bl b => cases r; rfl
  | int i => obtain ⟨t, rfl⟩ := r; rfl
  | str z => obtain ⟨t, rfl⟩ := r; rfl
  | _ => exact absurd (show false = true from f) Bool.false_ne_true
theorem any_eqU {x : V} : ∀ {xs : List V} {us : List Value}, Vals xs us → xs.all flatV = true → us.any (eqU x) = xs.any fun y => eqV y x
  | _, _, .nil, _ => rfl
  | y :: xs, u :: us, .cons r t, f => by
    rw [List.all_cons, Bool.and_eq_true] at f
    rw [List.any_cons, List.any_cons, eqU_of r f.1, any_eqU t f.2]
theorem mem_eqAt {A : Around} {s : Shared} {x : V} {v : Value} (rx : RelV x v) (fx : flatV x = true) : ∀ {xs : List V} {us : List Value}, Vals xs us → xs.all flatV = true → ∀ u ∈ us, SeqAt.EqAt A s u v (eqU x u)
  | _, _, .nil, _ => fun u hu => by cases hu
  | y :: xs, u :: us, .cons r t, f => fun u' hu => by
    rw [List.all_cons, Bool.and_eq_true] at f
    rcases List.mem_cons.mp hu with rfl | hu
    · rw [eqU_of r f.1]; exact eqAt_V r rx f.1 fx
    · exact mem_eqAt rx fx t f.2 u' hu
def inV (x : V) (xs : List V) : Bool := xs.any fun y => eqV y x
/-- x in a list or tuple of flat items -/
def rIn (K : PySem.W.Frag) (neg : Bool) : R2 := fun x y H Q => ∃ p xs, y = .ref p ∧ (SqL K H p xs ∨ SqT K H p xs) ∧ flatV x = true ∧ xs.all flatV = true ∧ Q (.bl (if neg then !inV x xs else inV x xs)) H
theorem op_in_seq : OpR X (compareOp .In) (rIn X.K false) := by
  intro pins s σ H x y v u Q I rx ry h
  obtain ⟨p, xs, rfl, hq, fx, fs, q⟩ := h
  cases ry
  rcases hq with hq | hq
  · obtain ⟨its, r, pl, hz⟩ := I.list hq
    refine SeqAt.in_listAt (eqU x) pl.isList (fun w hw => mem_eqAt rx fx r fs w (by simpa using hw)) ⟨.bl _, H, I, rfl, ?_⟩
    rw [show its.toArray.any (eqU x) = its.any (eqU x) by simp, any_eqU r fs]
    exact q
  · obtain ⟨its, r, pl, hz⟩ := I.tuple hq
    refine SeqAt.in_tupleAt (eqU x) pl (fun w hw => mem_eqAt rx fx r fs w (by simpa using hw)) ⟨.bl _, H, I, rfl, ?_⟩
    rw [show its.toArray.any (eqU x) = its.any (eqU x) by simp, any_eqU r fs]
    exact q
theorem op_notIn_seq : OpR X (compareOp .NotIn) (rIn X.K true) := by
  intro pins s σ H x y v u Q I rx ry h
  obtain ⟨p, xs, rfl, hq, fx, fs, q⟩ := h
  cases ry
  rcases hq with hq | hq
  · obtain ⟨its, r, pl, hz⟩ := I.list hq
    refine SeqAt.notIn_listAt (eqU x) pl.isList (fun w hw => mem_eqAt rx fx r fs w (by simpa using hw)) ⟨.bl _, H, I, rfl, ?_⟩
    rw [show its.toArray.any (eqU x) = its.any (eqU x) by simp, any_eqU r fs]
    exact q
  · obtain ⟨its, r, pl, hz⟩ := I.tuple hq
    refine SeqAt.notIn_tupleAt (eqU x) pl (fun w hw => mem_eqAt rx fx r fs w (by simpa using hw)) ⟨.bl _, H, I, rfl, ?_⟩
    rw [show its.toArray.any (eqU x) = its.any (eqU x) by simp, any_eqU r fs]
    exact q
theorem call_len_seq : CallR X (.builtin "len") (fun xs H Q => ∃ p ys, xs = [.ref p] ∧ (SqL X.K H p ys ∨ SqT X.K H p ys) ∧ Q (.int ys.length) H) := by
  intro pins s σ H xs us Q I r h
  obtain ⟨p, ys, rfl, hq, q⟩ := h
  obtain ⟨u, rfl, rx⟩ := vals1 r
  cases rx
  have hn := line63
  rcases hq with hq | hq
  · obtain ⟨its, r', pl, hz⟩ := I.list hq
    have hlen := r'.length
    exact Calls.call_len_list pl.isList (by simp only [List.size_toArray] <;> omega) ⟨.int ys.length, H, I.tok _, ⟨s.toks + 1, by rw [List.size_toArray, hlen]⟩, q⟩
  · obtain ⟨its, r', pl, hz⟩ := I.tuple hq
    have hlen := r'.length
    exact len_tuple pl (by simp only [List.size_toArray] <;> omega) ⟨.int ys.length, H, I.tok _, ⟨s.toks + 1, by rw [List.size_toArray, hlen]⟩, q⟩
theorem call_len_str : CallR X (.builtin "len") (fun xs H Q => ∃ z, xs = [.str z] ∧ z.length ≤ sizeLine ∧ Q (.int z.length) H) := by
  intro pins s σ H xs us Q I r h
  obtain ⟨z, rfl, hz, q⟩ := h
  obtain ⟨u, rfl, t, rfl⟩ := vals1 r
  have hn := line63
  exact len_str (by omega) ⟨.int z.length, H, I.tok _, ⟨_, rfl⟩, q⟩
theorem CallR.or {f : Value} {r r' : List V → Hp → VK → Prop} (h : CallR X f r) (h' : CallR X f r') : CallR X f (fun xs H Q => r xs H Q ∨ r' xs H Q) := by
  intro pins s σ H xs us Q I rs q
  rcases q with q | q
  · exact h pins s σ H xs us Q I rs q
  · exact h' pins s σ H xs us Q I rs q
theorem call_list_of : CallR X (.type "list") (fun xs H Q => ∃ p ys, xs = [.ref p] ∧ (SqL X.K H p ys ∨ SqT X.K H p ys) ∧ ∀ l, H l = none → Q (.ref l) (upd H l (.lst ys))) := by
  intro pins s σ H xs us Q I r h
  obtain ⟨p, ys, rfl, hq, q⟩ := h
  obtain ⟨u, rfl, rx⟩ := vals1 r
  cases rx
  have fin : ∀ (its : List Value), Vals ys its → ys.length ≤ sizeLine → ∀ (h' : Heap) (c' : Nat), (∀ b o', s.heap.get? b = some o' → h'.get? b = some o') →
      h'.get? s.heap.objs.size = some { cls := .type "list", dict := none, data := .seq its.toArray c', slots := #[] } → EP X pins σ Q (.ref s.heap.objs.size) { s with heap := h' } := fun its r' hz h' c' kp e =>
    ⟨.ref s.heap.objs.size, _, I.laid (t' := s.toks) kp (Nat.le_refl _) (show ObjOk X.prog X.w _ h' _ (.lst ys) from ⟨hz, its, c', r', e⟩), rfl, q _ (I.hok.fresh (Nat.le_refl _))⟩
  rcases hq with hq | hq
  · obtain ⟨its, r', pl, hz⟩ := I.list hq
    have hlen := r'.length
    obtain ⟨o, ho, hc, n, hd⟩ := pl.isList
    exact call_list_seq p (.inl rfl) ho hc hd (fun h' c' kp e => fin its r' hz h' c' kp e) (by simp only [List.size_toArray] <;> omega)
  · obtain ⟨its, r', pl, hz⟩ := I.tuple hq
    have hlen := r'.length
    obtain ⟨o, ho, hc, n, hd⟩ := pl
    exact call_list_seq p (.inr rfl) ho hc hd (fun h' c' kp e => fin its r' hz h' c' kp e) (by simp only [List.size_toArray] <;> omega)
/-- the value is of that builtin type -/
def tyV (K : PySem.W.Frag) (T : String) (x : V) (H : Hp) : Prop := match x with
  | .str _ => T = "str"
  | .int _ => T = "int"
  | .ref p => (T = "list" ∧ ∃ xs, SqL K H p xs) ∨ (T = "tuple" ∧ ∃ o, K.lookup p = some o ∧ o.cls = .type "tuple" ∧ o.dict = none) ∨
      (T = "dict" ∧ ((∃ kvs, H p = some (.dK kvs)) ∨ ∃ kvs, H p = some (.dT kvs))) ∨ (T = "set" ∧ ∃ S n, H p = some (.set S n))
  | _ => False
theorem tyV_is {pins : List (Addr × Obj)} {σ : St} {H : Hp} {s : Shared} {T : String} {x : V} {v : Value} (I : Inv X pins σ H s) (r : RelV x v) (ty : tyV X.K T x H) :
    s.TypeIs v T ∧ ∀ a, v = .ref a → ∃ ob, s.heap.get? a = some ob ∧ ob.dict = none := by
  cases x with
  | str z =>
    obtain ⟨t, rfl⟩ := r
    cases (show T = "str" from ty)
    exact ⟨typeIs_str s z t, fun _ e => nomatch e⟩
  | int i =>
    obtain ⟨t, rfl⟩ := r
    cases (show T = "int" from ty)
    exact ⟨typeIs_int s i t, fun _ e => nomatch e⟩
  | ref p =>
    cases r
    rcases ty with ⟨rfl, xs, hq⟩ | ⟨rfl, o, hk, hc, hd⟩ | ⟨rfl, hk⟩ | ⟨rfl, S, n, hk⟩
    · obtain ⟨its, _, pl, _⟩ := I.list hq
      refine ⟨pl.isList.typeIs, fun a e => ?_⟩
      cases e
      obtain ⟨o, n, e, c, hd, _⟩ := pl
      exact ⟨o, e, hd⟩
    · refine ⟨⟨o, I.kIn p o hk, hc⟩, fun a e => ?_⟩
      cases e
      exact ⟨o, I.kIn _ o hk, hd⟩
    · have z : ∃ o, s.heap.get? p = some o ∧ o.ExactDict := by
        rcases hk with ⟨kvs, hk⟩ | ⟨kvs, hk⟩
        · obtain ⟨_, _, _, _, o, _, _, e, ex, _⟩ := I.hok p _ hk
          exact ⟨o, e, ex⟩
        · obtain ⟨_, _, _, _, o, _, _, e, ex, _⟩ := I.hok p _ hk
          exact ⟨o, e, ex⟩
      obtain ⟨o, e, ex⟩ := z
      refine ⟨⟨o, e, ex.1⟩, fun a e2 => ?_⟩
      cases e2
      exact ⟨o, e, ex.2.1⟩
    · obtain ⟨o, _, _, _, e, ex, _⟩ := I.hok p _ hk
      refine ⟨⟨o, e, ex.1⟩, fun a e2 => ?_⟩
      cases e2
      exact ⟨o, e, ex.2.1⟩
  | _ => exact False.elim ty
def tBM0 (K : PySem.W.Frag) (T : String) (r : V → List V → Hp → VK → Prop) (to : TE) : TE := fun σ H Q => to σ H fun x H1 => tyV K T x H1 ∧ r x [] H1 Q
def tBM (K : PySem.W.Frag) (T : String) (r : V → List V → Hp → VK → Prop) (to : TE) (t : TA) : TE := fun σ H Q => to σ H fun x H1 => tyV K T x H1 ∧ t σ H1 fun xs H2 => r x xs H2 Q
variable {o e : Expr} {es : List Expr} {to : TE} {t : TA} {name : Str} {apos cpos : Pos} {T id : String} {r : V → List V → Hp → VK → Prop}
theorem pe_bm0 (pa : PlainAttrs T) (slot : Slot T name id) (hty : typeOf (.builtin id) = pure (.type "method_descriptor")) (hm : MtR X id r) (ho : PE X o to)
    (hbase : attributeBase o name X.env (eval o X.env) = eval o X.env := by rfl) (hline : (apos.endLine == cpos.line) = true := by rfl) : PE X (.Call (.Attribute o name apos) [] [] cpos) (tBM0 X.K T r to) := by
  intro pins s σ H Q I h
  refine wpAny_Call_method0_late hbase hline (thn (ho pins s σ H _ I h) fun v s1 ⟨x, H1, I1, r1, ty, q1⟩ => ?_)
  obtain ⟨h1, h2⟩ := tyV_is I1 r1 ty
  exact ⟨T, id, pa, slot, hty, h1, h2, Calls.callWith_builtin rfl (PySem.evalArgs_none (hm pins s1 σ H1 x [] v [] Q I1 r1 .nil q1))⟩
theorem pe_bm (pa : PlainAttrs T) (slot : Slot T name id) (hty : typeOf (.builtin id) = pure (.type "method_descriptor")) (hm : MtR X id r) (ho : PE X o to) (ha : PA X (e :: es) t)
    (hbase : attributeBase o name X.env (eval o X.env) = eval o X.env := by rfl)
    (hfew : ((backTo cpos (starEach (e :: es) X.env)).all (fun x => !x.1) && (backToKw cpos (keywordEach [] X.env)).all (fun x => x.1.isSome)
      && decide ((e :: es).length + ([] : List Keyword).length + (if ([] : List Keyword).isEmpty then 0 else 1) < 30)) = true := by rfl)
    (hline : (apos.endLine == cpos.line) = true := by rfl) (hs : starEach (e :: es) X.env = (false, eval e X.env) :: starEach es X.env := by rfl) (hplain : (backTo cpos (starEach es X.env)).any (·.1) = false := by rfl) :
    PE X (.Call (.Attribute o name apos) (e :: es) [] cpos) (tBM X.K T r to t) := by
  intro pins s σ H Q I h
  refine wpAny_Call_method_late hbase hfew hline rfl (thn (ho pins s σ H _ I h) fun v s1 ⟨x, H1, I1, r1, ty, q1⟩ => ?_)
  obtain ⟨h1, h2⟩ := tyV_is I1 r1 ty
  refine ⟨T, id, pa, slot, hty, h1, h2, ?_⟩
  have hA := ha cpos pins s1 σ H1 _ I1 q1
  rw [hs] at hA ⊢
  refine Calls.callWith_builtin (by show (false || (backTo cpos (starEach es X.env)).any (·.1)) = false; rw [hplain] <;> rfl) (Calls.evalArgs_plain ?_)
  exact thn hA fun us s2 ⟨vs, H2, I2, r2, q2⟩ => hm pins s2 σ H2 x vs v us Q I2 r1 r2 q2

end
end L2

namespace L2
open PySem PySem.Spec PyProof.Rows

def MtM (X : Cx) (id : String) (r : V → List V → Hp → VK → Prop) : Prop :=
  ∀ (pins : List (Addr × Obj)) (s : Shared) (σ : St) (H : Hp) (x : V) (xs : List V) (v : Value) (us : List Value) (Q : VK), Inv X pins σ H s → RelV x v → Vals xs us → r x xs H Q →
    wpAny (model X.prog X.w) X.A (call (.builtin id) (v :: us)) (EP X pins σ Q) X.xe s


theorem Vals.one : ∀ {x : V} {us : List Value}, Vals [x] us → ∃ u, us = [u] ∧ RelV x u
  | _, _, .cons r .nil => ⟨_, rfl, r⟩
theorem Vals.two : ∀ {x y : V} {us : List Value}, Vals [x, y] us → ∃ u v, us = [u, v] ∧ RelV x u ∧ RelV y v
  | _, _, _, .cons r (.cons q .nil) => ⟨_, _, rfl, r, q⟩
theorem Vals.zero : ∀ {us : List Value}, Vals [] us → us = []
  | _, .nil => rfl
theorem Vals.dropLast {xs : List V} {us : List Value} (h : Vals xs us) : Vals xs.dropLast us.dropLast := by
  induction h with
  | nil => exact .nil
  | cons r t ih =>
    cases t with
    | nil => exact .nil
    | cons q t' => exact .cons r ih
theorem Vals.eraseIdx : ∀ {xs : List V} {us : List Value} (i : Nat), Vals xs us → Vals (xs.eraseIdx i) (us.eraseIdx i)
  | _, _, _, .nil => .nil
  | _, _, 0, .cons _ t => t
  | _, _, i + 1, .cons r t => .cons r (Vals.eraseIdx i t)
theorem Vals.reverse {xs : List V} {us : List Value} (h : Vals xs us) : Vals xs.reverse us.reverse := by
  induction h with
  | nil => exact .nil
  | cons r t ih => rw [List.reverse_cons, List.reverse_cons]; exact Vals.append ih (.cons r .nil)
theorem Vals.rep {xs : List V} {us : List Value} (h : Vals xs us) : ∀ k : Nat, Vals (List.replicate k xs).flatten (List.replicate k us).flatten
  | 0 => .nil
  | k + 1 => by
    rw [List.replicate_succ, List.replicate_succ, List.flatten_cons, List.flatten_cons]
    exact Vals.append h (Vals.rep h k)
theorem erase_last {α : Type} (l : List α) : l.eraseIdx (l.length - 1) = l.dropLast := by
  induction l with
  | nil => rfl
  | cons a r ih =>
    cases r with
    | nil => rfl
    | cons b r =>
      have e : (a :: b :: r).length - 1 = ((b :: r).length - 1) + 1 := by
        have h1 : (a :: b :: r).length = r.length + 2 := rfl
        have h2 : (b :: r).length = r.length + 1 := rfl
        omega
      rw [e, List.eraseIdx_cons_succ, ih]
      all_goals rfl
theorem foldl_rep (its : List Value) : ∀ (k : Nat) (acc : List Value),
    List.foldl (fun x1 x2 => x1 ++ x2) acc.toArray (List.replicate k its.toArray) = (acc ++ (List.replicate k its).flatten).toArray
  | 0, acc => by simp
  | k + 1, acc => by
    have e : acc.toArray ++ its.toArray = (acc ++ its).toArray := by simp
    have e2 : (acc ++ its) ++ (List.replicate k its).flatten = acc ++ (List.replicate (k + 1) its).flatten := by
      rw [List.replicate_succ, List.flatten_cons, List.append_assoc]
    rw [← e2, ← foldl_rep its k (acc ++ its), ← e, List.replicate_succ, List.foldl_cons]

section
variable {X : Cx} {pins : List (Addr × Obj)} {σ : St} {H : Hp} {s : Shared} {l b : Addr} {xs ys zs : List V}


theorem Inv.lset {its its' : List Value} {n : Nat} {f : Array Value → Array Value} {t' : Nat} (I : Inv X pins σ H s) (hH : H l = some (.lst xs))
    (e : s.heap.get? l = some { cls := .type "list", data := .seq its.toArray n }) (hf : f its.toArray = its'.toArray) (hv : Vals ys its') (hz : ys.length ≤ sizeLine) :
    Inv X pins σ (upd H l (.lst ys)) { s with heap := s.heap.update l (Obj.mapSeq f), toks := t' } := by
  have q := PySem.IsL.update e f
  rw [hf] at q
  refine I.write (x := l) (e := l) (by rw [hH]; exact trivial) (.inl rfl) (fun b' u hb hu => (Heap.get?_update_other s.heap (Obj.mapSeq f) (Ne.symm hb)).trans hu) ⟨_, q⟩ ?_
  exact ⟨hz, its', _, hv, q⟩
theorem Inv.lnew {its : List Value} {t' : Nat} (I : Inv X pins σ H s) (hv : Vals ys its) (hz : ys.length ≤ sizeLine) :
    Inv X pins σ (upd H s.heap.objs.size (.lst ys)) { s with heap := s.heap.push { cls := .type "list", data := .seq its.toArray }, toks := t' } :=
  I.laid (fun _ _ q => Heap.get?_push_of_some _ q) (Nat.le_refl _) ⟨hz, its, 0, hv, Heap.get?_push_size _ rfl⟩
theorem Inv.fresh (I : Inv X pins σ H s) : H s.heap.objs.size = none := I.hok.fresh (Nat.le_refl _)
theorem Inv.lstM (I : Inv X pins σ H s) (hH : H l = some (.lst xs)) : xs.length ≤ sizeLine ∧ ∃ (its : List Value) (n : Nat), Vals xs its ∧ xs.length = its.length ∧ s.heap.get? l = some { cls := .type "list", data := .seq its.toArray n } := by
  obtain ⟨z, its, n, r, e⟩ := I.hok l _ hH
  exact ⟨z, its, n, r, r.length, e⟩

theorem notLongL {n : Nat} (h : n ≤ sizeLine) : Builtin.List.listTooLong n = false := by
  unfold Builtin.List.listTooLong
  exact decide_eq_false (by omega)
end

section
variable {X : Cx}


def rAppend : V → List V → Hp → VK → Prop := fun x vs H Q => ∃ l xs y, x = .ref l ∧ vs = [y] ∧ H l = some (.lst xs) ∧ xs.length < sizeLine ∧ Q .non (upd H l (.lst (xs ++ [y])))
theorem mt_append : MtM X "list.append" rAppend := by
  intro pins s σ H x vs v us Q I rx rv h
  obtain ⟨l, xs, y, rfl, rfl, hH, hz, q⟩ := h
  cases rx
  obtain ⟨u, rfl, ru⟩ := rv.one
  obtain ⟨z, its, n, r, hl, e⟩ := I.lstM hH
  refine call_meets F.slot_list_append ⟨_, e, rfl⟩ F.entry_list_append (F.args_list_append_2 _ _) (PySem.list_append l its.toArray n u (by rw [List.size_toArray]; omega)) ⟨e, ?_⟩
  refine ⟨.non, _, I.lset (its' := its ++ [u]) hH e (by simp) (r.append (.cons ru .nil)) ?_, rfl, q⟩
  rw [List.length_append, List.length_singleton]
  omega

def rExtend : V → List V → Hp → VK → Prop := fun x vs H Q => ∃ l b xs zs, x = .ref l ∧ vs = [.ref b] ∧ H l = some (.lst xs) ∧ H b = some (.lst zs) ∧ xs.length + zs.length ≤ sizeLine ∧ Q .non (upd H l (.lst (xs ++ zs)))
theorem mt_extend : MtM X "list.extend" rExtend := by
  intro pins s σ H x vs v us Q I rx rv h
  obtain ⟨l, b, xs, zs, rfl, rfl, hH, hB, hz, q⟩ := h
  cases rx
  obtain ⟨u, rfl, ru⟩ := rv.one
  cases ru
  obtain ⟨z, its, n, r, hl, e⟩ := I.lstM hH
  obtain ⟨z2, its2, n2, r2, hl2, e2⟩ := I.lstM hB
  have hsz : its.toArray.size + its2.toArray.size ≤ sizeLine := by rw [List.size_toArray, List.size_toArray]; omega
  have hlong : ¬ (!its.toArray.isEmpty && Builtin.List.listTooLong (its.toArray.size + its2.toArray.size)) = true := by
    rw [notLongL hsz, Bool.and_false]
    exact Bool.false_ne_true
  refine call_meets F.slot_list_extend ⟨_, e, rfl⟩ F.entry_list_extend (F.args_list_extend_2 _ _)
    (AutoSeq1.list_extend_list_list_0 l its.toArray n b its2.toArray n2 hlong (by rw [List.size_toArray]; omega) (by omega)) ⟨e, e2, ?_⟩
  refine ⟨.non, _, I.lset (its' := its ++ its2) hH e (by simp) (r.append r2) ?_, rfl, q⟩
  rw [List.length_append]
  omega

def rPop : V → List V → Hp → VK → Prop := fun x vs H Q => ∃ l xs y, x = .ref l ∧ vs = [] ∧ H l = some (.lst xs) ∧ xs[xs.length - 1]? = some y ∧ Q y (upd H l (.lst xs.dropLast))
theorem mt_pop : MtM X "list.pop" rPop := by
  intro pins s σ H x vs v us Q I rx rv h
  obtain ⟨l, xs, y, rfl, rfl, hH, hy, q⟩ := h
  cases rx
  have hus := rv.zero
  subst hus
  obtain ⟨z, its, n, r, hl, e⟩ := I.lstM hH
  obtain ⟨u, hu, ru⟩ := r.get hy
  have hy' : its.toArray[its.toArray.size - 1]? = some u := by
    show its.toArray[its.length - 1]? = some u
    rw [← Array.getElem?_toList, ← hl]
    exact hu
  refine call_meets F.slot_list_pop ⟨_, e, rfl⟩ F.entry_list_pop (F.args_list_pop_1 _) (MeetsSeq.list_pop_last l its.toArray n u hy' (by rw [List.size_toArray]; omega)) ⟨e, ?_⟩
  refine ⟨y, _, I.lset (its' := its.dropLast) hH e ?_ r.dropLast ?_, ru, q⟩
  · show its.toArray.eraseIdxIfInBounds (its.toArray.size - 1) = its.dropLast.toArray
    rw [List.size_toArray, List.eraseIdxIfInBounds_toArray, erase_last]
  · rw [List.length_dropLast]
    omega

def rReverse : V → List V → Hp → VK → Prop := fun x vs H Q => ∃ l xs, x = .ref l ∧ vs = [] ∧ H l = some (.lst xs) ∧ Q .non (upd H l (.lst xs.reverse))
theorem mt_reverse : MtM X "list.reverse" rReverse := by
  intro pins s σ H x vs v us Q I rx rv h
  obtain ⟨l, xs, rfl, rfl, hH, q⟩ := h
  cases rx
  have hus := rv.zero
  subst hus
  obtain ⟨z, its, n, r, hl, e⟩ := I.lstM hH
  refine call_meets F.slot_list_reverse ⟨_, e, rfl⟩ F.entry_list_reverse (F.args_list_reverse_1 _) (AutoSeq1.list_reverse_list_0 l its.toArray n (by rw [List.size_toArray]; omega)) ⟨e, ?_⟩
  refine ⟨.non, _, I.lset (its' := its.reverse) hH e (by simp) r.reverse ?_, rfl, q⟩
  rw [List.length_reverse]
  omega

def rClear : V → List V → Hp → VK → Prop := fun x vs H Q => ∃ l xs, x = .ref l ∧ vs = [] ∧ H l = some (.lst xs) ∧ Q .non (upd H l (.lst []))
theorem mt_clear : MtM X "list.clear" rClear := by
  intro pins s σ H x vs v us Q I rx rv h
  obtain ⟨l, xs, rfl, rfl, hH, q⟩ := h
  cases rx
  have hus := rv.zero
  subst hus
  obtain ⟨z, its, n, r, hl, e⟩ := I.lstM hH
  refine call_meets F.slot_list_clear ⟨_, e, rfl⟩ F.entry_list_clear (F.args_list_clear_1 _) (AutoSeq1.list_clear_list_0 l its.toArray n (by rw [List.size_toArray]; omega)) ⟨e, ?_⟩
  exact ⟨.non, _, I.lset (its' := []) (ys := []) hH e rfl .nil (Nat.zero_le _), rfl, q⟩


def rCat : R2 := fun x y H Q => ∃ l b xs zs, x = .ref l ∧ y = .ref b ∧ H l = some (.lst xs) ∧ H b = some (.lst zs) ∧ xs.length + zs.length ≤ sizeLine ∧ ∀ p, H p = none → Q (.ref p) (upd H p (.lst (xs ++ zs)))
theorem op_cat : OpR X (binaryOp .Add) rCat := by
  intro pins s σ H x y v u Q I rx ry h
  obtain ⟨l, b, xs, zs, rfl, rfl, hH, hB, hz, q⟩ := h
  cases rx
  cases ry
  obtain ⟨z, its, n, r, hl, e⟩ := I.lstM hH
  obtain ⟨z2, its2, n2, r2, hl2, e2⟩ := I.lstM hB
  refine PySem.P.add_list e e2 ?_ (by rw [List.size_toArray, List.size_toArray]; omega)
  have ea : its.toArray ++ its2.toArray = (its ++ its2).toArray := by simp
  rw [ea]
  exact ⟨.ref _, _, I.lnew (t' := s.toks) (r.append r2) (by rw [List.length_append]; omega), rfl, q _ I.fresh⟩
/-- a list times an int (a negative one is nothing) -/
def rRep : R2 := fun x y H Q => ∃ l k xs, x = .ref l ∧ y = .int k ∧ H l = some (.lst xs) ∧ -(2 ^ 63) ≤ k ∧ k < 2 ^ 63 ∧ xs.length * k.toNat ≤ sizeLine ∧
  ∀ p, H p = none → Q (.ref p) (upd H p (.lst (List.replicate k.toNat xs).flatten))
theorem len_rep {α : Type} (xs : List α) (k : Nat) : (List.replicate k xs).flatten.length = k * xs.length := by
  induction k with
  | zero => simp
  | succ k ih => rw [List.replicate_succ, List.flatten_cons, List.length_append, ih, Nat.succ_mul, Nat.add_comm]
theorem op_rep : OpR X (binaryOp .Mult) rRep := by
  intro pins s σ H x y v u Q I rx ry h
  obtain ⟨l, k, xs, rfl, rfl, hH, h1, h2, hz, q⟩ := h
  cases rx
  obtain ⟨t, rfl⟩ := ry
  obtain ⟨z, its, n, r, hl, e⟩ := I.lstM hH
  have hlen : its.toArray.size * k.toNat ≤ sizeLine := by rw [List.size_toArray, ← hl]; exact hz
  have hcap : ¬ its.toArray.size * k.toNat > (2 ^ 63 - 1) / 8 := by
    have : (sizeLine : Nat) ≤ (2 ^ 63 - 1) / 8 := by decide
    omega
  have hfit : ¬ (!Builtin.List.listFitsIndex k) = true := by
    rw [fitsIndex_both h1 h2]
    exact Bool.false_ne_true
  have hlong : ¬ Builtin.List.listTooLong (its.toArray.size * k.toNat) = true := by
    rw [notLongL hlen]
    exact Bool.false_ne_true
  have hnew : List.foldl (fun x1 x2 => x1 ++ x2) #[] (List.replicate (if its.toArray.isEmpty = true then 0 else k.toNat) its.toArray) = (List.replicate k.toNat its).flatten.toArray := by
    have f0 : ∀ m : Nat, List.foldl (fun x1 x2 => x1 ++ x2) #[] (List.replicate m its.toArray) = (List.replicate m its).flatten.toArray := fun m => by
      have := foldl_rep its m []
      rw [List.nil_append] at this
      exact this
    rw [f0]
    cases its with
    | nil => simp
    | cons a r' => rw [if_neg (by simp)]
  refine wpAny_binaryOp_repeat_ref (T := "list") (U := "int") (by decide) ⟨_, e, rfl⟩ (fun s' => typeIs_int s' k t) noFill_list_mul F.fills_int_mul F.slot_int_rmul repeat_list F.slot_int_index.lookup
    (call_meets F.slot_int_rmul (typeIs_int s k t) F.entry_int_rmul (F.args_int_rmul_2 _ _) (int___rmul___int_list k t l its.toArray n)
      ⟨e, rfl, ⟨_, e, rfl⟩, call_meets F.slot_list_mul ⟨_, e, rfl⟩ F.entry_list_mul (F.args_list_mul_2 _ _) (AutoListH.list___mul___list_int_3 l its.toArray n k t hfit hcap hlong) ⟨e, ?_⟩⟩)
  rw [hnew]
  exact ⟨.ref _, _, I.lnew (t' := s.toks) (r.rep k.toNat) (by rw [len_rep, Nat.mul_comm]; exact hz), rfl, q _ I.fresh⟩


end


section
variable {prog : Program} {w : World} {A : Around} {E : Value → Shared → Prop} {s : Shared}
set_option maxRecDepth 100000 in
end

section
variable {X : Cx}
end
end L2

namespace Att
open PySem PySem.W PySem.Calls PyProof.Rows


theorem ints_of_wellAll {P : Params} {h : Heap} : ∀ (ns : List Int) (vs : List Value), WellAll P h vs (ns.map WData.int) → IntsAre vs ns := by
  intro ns
  induction ns with
  | nil =>
    intro vs w
    rw [List.map_nil] at w
    cases w
    exact .nil
  | cons n ns ih =>
    intro vs w
    rw [List.map_cons] at w
    cases w with
    | cons a b =>
      cases a
      exact .cons _ _ (ih _ b)

theorem script_of {l : OpenLaw} {n : Nat} (hn : l.most = some n) {P : Params} {h : Heap} {args : List WData} {vals : List Value}
    (hpre : l.row.toRowW.claim.pre args = true) (hwl : WellAll P h vals args) :
    ∃ a vs ns, vals = [Value.ref a] ∧ args = [WData.list (ns.map WData.int)] ∧ h.get? a = some { cls := .type "list", data := .seq vs.toArray } ∧ IntsAre vs ns ∧ ns.length ≤ n := by
  have hsh : WShape.hasAll [] args [.list .int] = true := (pre_splitW hpre).1
  have hc : l.pre.holds [] { args := args } = true := (pre_splitW hpre).2
  obtain ⟨d, r, rfl, h1, h2⟩ := hasAllW_cons hsh
  obtain rfl := hasAllW_nil h2
  obtain ⟨xs, rfl, h3⟩ := hasW_list h1
  obtain ⟨ns, rfl⟩ := items_int h3
  have hlen : ns.length ≤ n := by
    unfold OpenLaw.pre at hc
    have h4 : (WTm.not (.lt (.lit (.int (n : Int))) (.len (.arg 0)))).holds [] { args := [.list (ns.map .int)] } = true := by
      have h4 := (holds_andW hc).1
      rw [hn] at h4
      exact h4
    have h5 := condW_of h4 (w_not (w_lt w_lit (w_len_list (w_arg rfl))))
    rw [List.length_map] at h5
    refine Nat.le_of_not_lt fun q => ?_
    have q' : (n : Int) < ((ns.length : Nat) : Int) := by omega
    first
      | (rw [decide_eq_true q'] at h5; exact absurd h5 (by decide))
      | (simp at h5; omega)
  cases hwl with
  | cons w1 w2 =>
    cases w2
    cases w1 with
    | list ho hall => exact ⟨_, _, ns, rfl, rfl, ho, ints_of_wellAll ns _ hall, hlen⟩

theorem post_true (l : OpenLaw) (args : List WData) : l.row.toRowW.claim.post args (.bool true) args = true :=
  postW_of (r := l.row.toRowW) (X := (true == true))
    (show WShape.has [] (.bool true) .bool = true by first | rfl | decide | simp [WShape.has, WShape.arms, WShape.armsAll])
    (show (WTm.eq .res (.lit (.bool true))).value [] { args := args, res := some (.bool true), after := args } = some (.bool (true == true)) from w_eq_bool (w_res rfl) w_lit) rfl


/-- the same from a codeAny of the CALL (for a layer whose function contracts speak of calls) -/
theorem attach_call {l : OpenLaw} {n : Nat} {q : Program} {loose : List Str} {XP : (Str → Option Value) → Heap → Prop} {YP : World → Heap → Prop} {d : DefRec}
    (hn : l.most = some n) (hdf : d.params.defaults = [])
    (call : ∀ (w : World) (s₀ s₁ : Shared) (mg mb : Str → Option Value) (fa : Addr) (o : Obj) (pm cd doc : Value) (a : Addr) (vs : List Value) (ns : List Int),
      Ground q loose [] XP w s₀ mg mb s₁.heap → YP w s₁.heap →
      s₁.heap.get? fa = some o → o.data = .func (docDef d.name d.params d.body d.scope pm cd doc) → s₁.heap.CodeRec cd d.name → mg d.name = some (.ref fa) →
      s₁.heap.get? a = some { cls := .type "list", data := .seq vs.toArray } → IntsAre vs ns → ns.length ≤ n → s₁.gens = #[] →
      codeAny (model l.prog w) callerA (.call (.ref fa) ⟨[.ref a], []⟩) (fun r s' => r = .ok (.ret (.bool true)) ∧ OldK s₁.heap s'.heap ∧ s'.os = s₁.os ∧ AllBare s'.gens) s₁) :
    WalkO q loose XP YP l.row.toRowW d [] (fun f vs => PySem.call f vs) := by
  intro w s₀ s₁ mg mb G Y fa o pm cd doc dV kV ho hd hcd hD hmg hg args vals as hpre hlay hrd hwl hlo
  obtain rfl : dV = .none := Dflts.none hD hdf
  obtain rfl : kV = .none := Dflts.noKw hD
  obtain ⟨a, vs, ns, rfl, rfl, hobj, hints, hlen⟩ := script_of hn hpre hwl
  refine enter_call (codeAny_mono (call w s₀ s₁ mg mb fa o pm cd doc a vs ns G Y ho (fd_plain hd) hcd hmg hobj hints hlen hg) fun r s' hq => ?_)
  obtain ⟨rfl, h2, h3, h4⟩ := hq
  exact ⟨.inl ⟨.bool true, .bool true, [], rfl, fun _ => rfl, .bool true, post_true l _, fun _ => ⟨List.Pairwise.nil, fun _ hm => (nomatch hm)⟩⟩, h2, h3, h4⟩

section
variable {prog : Program} {w : World} {A : Around} {E : Value → Shared → Prop} {s : Shared} {K : Frag}

end
end Att

namespace L2
open PySem PySem.Spec PyProof.Rows

theorem vals_ints : ∀ {vs : List Value} {ns : List Int}, IntsAre vs ns → Vals (ns.map V.int) vs
  | _, _, .nil => .nil
  | _, _, .cons n t h => .cons ⟨t, rfl⟩ (vals_ints h)

/-- nothing is tracked but the script, known to the object (or it is an object of the module) -/
def Only (H : Hp) : Prop := ∀ b, H b = none ∨ ∃ o xs, H b = some (.frz o (.lst xs))

/-- THE HEAD: the law's promise, at the heap behind the top. F, the promise of the law's def, may use that base is part of the heap (so K.In base, base.Ns mainGlobals mg stand in Mod) -/
theorem law_call {P : Program} {w : World} {K : PySem.W.Frag} {mg mb : Str → Option Value} {CX : CXT} {k : Nat} {fa a : Addr} {fd : FuncData} {x : Str} {sp : Sp} {s₁ : Shared} {vs : List Value} {ns : List Int}
    (KX : K.In s₁.heap) (hns : s₁.heap.Ns mainGlobals mg) (hb : s₁.heap.Ns builtinsNs mb) (hbb : ∀ x : Str, x ≠ "__name__" → mb x = bootBuiltins x) (hlim : s₁.heap.NoLimit) (hg : s₁.gens = #[])
    (ha : s₁.heap.get? a = some { cls := .type "list", data := .seq vs.toArray }) (hi : IntsAre vs ns) (hl : ns.length ≤ sizeLine) (hr : Room k callerA)
    (F : ∀ base : Heap, K.In base → base.Ns mainGlobals mg → FnOk P w K mg base CX k fa fd [x] sp) (hbind : ∀ (s : Shared) (u : Value), BindsTo s fd ⟨[u], []⟩ [(x, u)])
    (hsp : ∀ H : Hp, Only H → SqL K H a (ns.map V.int) → sp [.ref a] H (fun v _ => v = .bl true) fun _ _ _ => False)
    (hCX : ∀ H e s', CX [] H s₁ (fun _ _ _ => False) e s' → False) :
    codeAny (model P w) callerA (.call (.ref fa) ⟨[.ref a], []⟩) (fun r s' => r = .ok (.ret (.bool true)) ∧ OldK s₁.heap s'.heap ∧ s'.os = s₁.os ∧ AllBare s'.gens) s₁ := by
  have rv := vals_ints hi
  have lenV := hi.length
  -- from an abstract heap in which nothing but the script may be tracked
  have core : ∀ H : Hp, Only H → SqL K H a (ns.map V.int) → HOk P w H s₁.heap → (∀ b, H b ≠ none → b = a) → (H a ≠ none → K.lookup a = none) →
      codeAny (model P w) callerA (.call (.ref fa) ⟨[.ref a], []⟩) (fun r s' => r = .ok (.ret (.bool true)) ∧ OldK s₁.heap s'.heap ∧ s'.os = s₁.os ∧ AllBare s'.gens) s₁ := by
    intro H hO hS hok hA hK
    have base_of : ∀ {b : Addr} {o : Obj}, s₁.heap.get? b = some o → H b = none → (hidT s₁.heap H).get? b = some o := fun e n => hidT_get e n
    have noA : ∀ {b : Addr} {o : Obj} {es : Array DictEntry} {ep : Nat}, s₁.heap.get? b = some o → o.data = .dict es ep → H b = none := fun {b o es ep} e d => by
      cases q : H b with
      | none => rfl
      | some u =>
        have e' : b = a := hA b (by rw [q]; simp)
        subst e'
        rw [ha] at e; cases e
        have d' : Data.seq vs.toArray _ = Data.dict es ep := d
        cases d'
    have nsK : ∀ {b : Addr} {m : Str → Option Value}, s₁.heap.Ns b m → (hidT s₁.heap H).Ns b m := fun {b m} ⟨o, es, ep, e, d, r⟩ => ⟨o, es, ep, base_of e (noA e d), d, r⟩
    have hKb : K.In (hidT s₁.heap H) := fun b o e => base_of (KX b o e) (by
      cases q : H b with
      | none => rfl
      | some u =>
        have e' : b = a := hA b (by rw [q]; simp)
        subst e'
        rw [hK (by rw [q]; simp)] at e; cases e)
    have hM : Mod K mg (hidT s₁.heap H) := ⟨hKb, nsK hns, ⟨mb, nsK hb, hbb⟩, let ⟨mc, h1, h2⟩ := hlim; ⟨mc, nsK h1, h2⟩⟩
    have e0 : Env0 P w K mg (hidT s₁.heap H) callerA [] s₁ H := ⟨rfl, hM, fun b o e => of_hidT e, Nat.le_of_eq (hidT_size _ _), trivial, fun b hb => absurd (show b ∈ ([] : List Addr) from hb) (by simp), hok, .of_eq hg⟩
    refine codeAny_mono ((F _ hKb (nsK hns)).run callerA [] s₁ H ⟨[.ref a], []⟩ [.ref a] [.ref a] _ _ hr e0 (hbind s₁ (.ref a)) (.cons rfl .nil) (hsp H hO hS)) fun r s' h => ?_
    cases r with
    | error e => exact (hCX H e s' h).elim
    | ok fl =>
      cases fl with
      | next => exact False.elim h
      | brk => exact False.elim h
      | cont => exact False.elim h
      | ret u =>
        obtain ⟨v, H', os, bare, un, hok', r', q⟩ := h
        have q' : v = .bl true := q
        subst q'
        obtain rfl : u = Value.bool true := r'
        refine ⟨rfl, OldK.of_keep fun b o e => ?_, os, bare⟩
        cases q : H b with
        | none => exact un.keep b o e q (by intro z; exact absurd (show b ∈ ([] : List Addr) from z) (by simp)) (by simp)
        | some u =>
          rcases hO b with z | ⟨ob, xs, z⟩
          · rw [q] at z; cases z
          · have z2 := un.frzs b ob _ z
            obtain ⟨e1, _⟩ := hok b _ z
            obtain ⟨e2, _⟩ := hok' b _ z2
            rw [e] at e1; cases e1
            exact e2
  cases hk : K.lookup a with
  | some o =>
    -- the script is one of the module's own objects
    have e := KX a o hk
    rw [ha] at e
    cases e
    refine core (fun _ => none) (fun _ => .inl rfl) (.inr ⟨_, vs.toArray, _, hk, rfl, rfl, rfl, by rw [List.size_toArray, lenV]; exact hl, by simpa using rv⟩) (fun b u z => by have z' : (none : Option HO) = some u := z; cases z') (fun b z => absurd rfl z) fun z => absurd rfl z
  | none =>
    refine core (fun b => if b = a then some (.frz { cls := .type "list", data := .seq vs.toArray } (.lst (ns.map V.int))) else none) (fun b => ?_) (.inl (.inr ⟨{ cls := .type "list", data := .seq vs.toArray }, if_pos rfl⟩)) (fun b u z => ?_) (fun b z => ?_) fun _ => hk
    · by_cases hb : b = a
      · exact .inr ⟨_, _, if_pos hb⟩
      · exact .inl (if_neg hb)
    · by_cases hb : b = a
      · have z' := (if_pos hb).symm.trans z
        cases z'
        subst hb
        exact ⟨ha, by rw [List.length_map]; exact hl, vs, _, rv, ha⟩
      · have z' := (if_neg hb).symm.trans z
        cases z'
    · by_cases hb : b = a
      · exact hb
      · exact absurd (if_neg hb) z
end L2

namespace L2
open PySem PySem.Spec PyProof.Rows

/-- the goal that k_head leaves (case hc), from the law's promise. F gives the function object fd (K's own) once, then the promise over every base -/
theorem walk_of {l : PySem.W.OpenLaw} {n k : Nat} {q : Program} {loose : List Str} {XP : (Str → Option Value) → Heap → Prop} {YP : World → Heap → Prop} {d : DefRec} {K : Params → PySem.W.Frag} {CX : World → CXT} {sp : World → Sp} {x : Str}
    (hn : l.most = some n) (hn2 : n ≤ sizeLine) (hdf : d.params.defaults = []) (hr : Room k callerA)
    (hY : ∀ (w : World) (h : Heap), YP w h → (K w.params).In h)
    (F : ∀ (w : World) (mg : Str → Option Value) (fa : Addr) (h : Heap), (K w.params).In h → h.Ns mainGlobals mg → mg d.name = some (.ref fa) →
      ∃ fd : FuncData, (∀ (s : Shared) (u : Value), BindsTo s fd ⟨[u], []⟩ [(x, u)]) ∧
        ∀ base : Heap, (K w.params).In base → base.Ns mainGlobals mg → FnOk l.prog w (K w.params) mg base (CX w) k fa fd [x] (sp w))
    (hsp : ∀ (w : World) (H : Hp) (a : Addr) (ns : List Int), ns.length ≤ n → Only H → SqL (K w.params) H a (ns.map V.int) → sp w [.ref a] H (fun v _ => v = .bl true) fun _ _ _ => False)
    (hCX : ∀ (w : World) (H : Hp) (s : Shared) (e : Value) (s' : Shared), CX w [] H s (fun _ _ _ => False) e s' → False) :
    PySem.W.WalkO q loose XP YP l.row.toRowW d [] (fun f vs => PySem.call f vs) := by
  refine Att.attach_call hn hdf fun w s₀ s₁ mg mb fa o pm cd doc a vs ns G Y ho hd hcd hmg hobj hints hlen hg => ?_
  have KX := hY w _ Y
  obtain ⟨fd, hb, hF⟩ := F w mg fa _ KX G.T.g hmg
  exact law_call KX G.T.g G.T.b G.T.builtins G.T.nolimit hg hobj hints (Nat.le_trans hlen hn2) hr hF hb (fun H hO hS => hsp w H a ns hlen hO hS) fun H e s' => hCX w H s₁ e s'
end L2




namespace L2
open PySem PySem.Spec PyProof.Rows


/-- the j-th statement of a class's body -/
def inClass (s : Stmt) (j : Nat) : Stmt := match s with
  | .ClassDef _ _ _ body _ _ _ _ _ _ _ => body.getD j (.Pass ⟨0, 0, 0, 0⟩)
  | _ => .Pass ⟨0, 0, 0, 0⟩
def defArgs (s : Stmt) : Arguments := match s with
  | .FunctionDef _ a _ _ _ _ _ _ _ _ => a
  | _ => { posonlyargs := [], args := [], vararg := none, kwonlyargs := [], kw_defaults := [], kwarg := none, defaults := [] }
def defBody (s : Stmt) : List Stmt := match s with
  | .FunctionDef _ _ b _ _ _ _ _ _ _ => b
  | _ => []
def defScope (s : Stmt) : Scope := match s with
  | .FunctionDef _ _ _ _ _ _ sc _ _ _ => sc
  | _ => { kind := .function, names := [], isGenerator := false, isCoroutine := false }


abbrev CX0 : CXT := fun _ _ _ _ _ _ => False
abbrev E0 : XK := fun _ _ _ => False
theorem pass0 {X : Cx} : Passes CX0 X E0 := fun _ _ _ _ _ _ _ h => h.elim


structure Fun (K : PySem.W.Frag) (x qual : Str) (st : Stmt) (f : Addr) (fd : FuncData) : Prop where
  ex : ∃ (oc : Value) (od : Option Addr) (kV doc pm : Value) (an : Option Addr) (cdv ct : Value) (osl : Array (Option Value)),
    fd = PySem.W.fnOf x qual (defArgs st) (defBody st) (defScope st) .none kV doc pm an cdv ct ∧ K.lookup f = some ⟨oc, od, .func fd, osl⟩ ∧ PySem.W.codeIn K cdv qual = true
  kp : PySem.W.keepIn K (.ref f) = true
section
variable {P : Program} {w : World} {K : PySem.W.Frag} {mg : Str → Option Value} {base : Heap}
/-- THE RULE for a def: its body as a term of rules, and the reading of that term -/
theorem Fun.ok {x qual : Str} {st : Stmt} {f : Addr} {fd : FuncData} {N ps : List Str} {k : Nat} {sp : Sp} (F : Fun K x qual st f fd) (S : FnScope N ps (defScope st)) (len : ∀ vs H Q E, sp vs H Q E → vs.length = ps.length)
    (hbody : ∀ (cdv : Value) (A : Around) (outer : List Env) (s : Shared) (H : Hp) (vs : List V) (Q : VK) (E : XK), Room k (A.deeper (envOfC qual (defScope st) s.heap.objs.size f cdv)) → sp vs H Q E →
      ∃ t, PSs (cxOf CX0 P w K mg base N qual (defScope st) f cdv A outer s H E).nox (defBody st) t ∧ t { nx := fun _ H' => Q .non H', rt := Q } (start N vs) H) : FnOk P w K mg base CX0 (k + 1) f fd ps sp := by
  obtain ⟨oc, od, kV, doc, pm, an, cdv, ct, osl, rfl, lk, hcd⟩ := F.ex
  refine fn_of lk hcd S len fun A outer s H vs Q E hr hsp => ?_
  obtain ⟨t, h, q⟩ := hbody cdv A outer s H vs Q E hr hsp
  exact ⟨t, h.nox, q⟩
/-- how its arguments bind (no defaults): h is «fun _ _ _ _ _ _ us hl => match us, hl with | [_, _], _ => rfl», one _ a parameter -/
theorem Fun.binds {x qual : Str} {st : Stmt} {f : Addr} {fd : FuncData} {ps : List Str} (F : Fun K x qual st f fd)
    (h : ∀ (kV doc pm : Value) (an : Option Addr) (cdv ct : Value) (us : List Value), us.length = ps.length → bindArgs (PySem.W.fnOf x qual (defArgs st) (defBody st) (defScope st) .none kV doc pm an cdv ct) ⟨us, []⟩ = pure (ps.zip us)) : Binds K fd ps [] := by
  obtain ⟨oc, od, kV, doc, pm, an, cdv, ct, osl, rfl, lk, hcd⟩ := F.ex
  exact .all (h kV doc pm an cdv ct)
theorem fun_mk {x qual : Str} {st : Stmt} {f : Addr} {oc : Value} {od an : Option Addr} {osl : Array (Option Value)} {kV doc pm cdv ct : Value} (l : K.lookup f = some ⟨oc, od, .func (PySem.W.fnOf x qual (defArgs st) (defBody st) (defScope st) .none kV doc pm an cdv ct), osl⟩)
    (c : PySem.W.codeIn K cdv qual = true) (k : PySem.W.keepIn K (.ref f) = true) : Fun K x qual st f (PySem.W.fnOf x qual (defArgs st) (defBody st) (defScope st) .none kV doc pm an cdv ct) := ⟨⟨oc, od, kV, doc, pm, an, cdv, ct, osl, rfl, l, c⟩, k⟩
end
section
variable {X : Cx}
theorem pv (i : Nat) {x : Str} {pos : Pos} (hN : X.N[i]? = some x := by rfl) (hv : Vis X.env.scope x := by first | exact Or.inl rfl | exact Or.inr (Or.inl rfl) | exact Or.inr (Or.inr rfl)) (hd : (x == ("__debug__" : Str)) = false := by decide)
    (hcd : (x == ("__classdict__" : Str)) = false := by decide) : PE X (.Name x pos) (tVar i) := pe_var hN hv hd hcd
end


theorem iteF {A B : Prop} (h : B) : if false = true then A else B := by
  rw [if_neg Bool.false_ne_true]
  exact h
theorem iteT {A B : Prop} (h : A) : if true = true then A else B := by
  rw [if_pos rfl]
  exact h
theorem ite2 {c A B : Prop} [Decidable c] (h1 : c → A) (h2 : ¬ c → B) : if c then A else B := by
  by_cases h : c
  · rw [if_pos h]
    exact h1 h
  · rw [if_neg h]
    exact h2 h
/-- all that was tracked is as it was -/
def Same (H H' : Hp) : Prop := ∀ b o, H b = some o → H' b = some o
theorem Same.refl (H : Hp) : Same H H := fun _ _ h => h
theorem Same.trans {H H1 H2 : Hp} (a : Same H H1) (b : Same H1 H2) : Same H H2 := fun c o h => b c o (a c o h)
theorem Same.free {H H' : Hp} (e : Same H H') {l : Addr} (h : H' l = Option.none) : H l = Option.none := by
  cases q : H l with
  | none => rfl
  | some o =>
    rw [e l o q] at h
    cases h
theorem Same.seq {K : PySem.W.Frag} {H H' : Hp} {a : Addr} {xs : List V} (e : Same H H') (h : SqL K H a xs) : SqL K H' a xs := by
  rcases h with (h | ⟨o, h⟩) | h
  · exact .inl (.inl (e _ _ h))
  · exact .inl (.inr ⟨o, e _ _ h⟩)
  · exact .inr h

end L2

set_option Elab.async false
set_option linter.all false
set_option maxRecDepth 100000
noncomputable section
/-! Comprehensions over the hand layer: a block of its own, its iterator, its list. -/
namespace L2
open PySem PySem.Spec PyProof.Rows

/-! ### the cells that a block takes along -/
def closL (cells : List (Str × Addr)) : List (Str × NameKind) → List (Str × Addr) → List (Str × Addr)
  | [], acc => acc
  | (n, k) :: r, acc => if (k == NameKind.free) = true then closL cells r ((n, (cells.lookup n).getD 0) :: acc) else closL cells r acc

theorem closure_go {env : Env} : ∀ (names : List (Str × NameKind)) (acc : List (Str × Addr)), (∀ x ∈ names, x.2 = .free → ∃ c, env.cells.lookup x.1 = some c) →
    (forIn names acc fun (x : Str × NameKind) cs => (do
      if (x.2 == NameKind.free) = true then do
        let c ← cellOf env x.1
        pure (ForInStep.yield ((x.1, c) :: cs))
      else pure (ForInStep.yield cs) : Sem (ForInStep (List (Str × Addr))))) = pure (closL env.cells names acc) := by
  intro names
  induction names with
  | nil => intro acc _; rfl
  | cons x r ih =>
    intro acc h
    obtain ⟨n, k⟩ := x
    rw [List.forIn_cons]
    by_cases hk : k = .free
    · subst hk
      obtain ⟨c, hc⟩ := h (n, .free) List.mem_cons_self rfl
      have hc' : env.cells.lookup n = some c := hc
      have e1 : cellOf env n = pure c := by unfold cellOf; rw [hc']
      have e2 : closL env.cells ((n, NameKind.free) :: r) acc = closL env.cells r ((n, c) :: acc) := by
        show (if (NameKind.free == NameKind.free) = true then _ else _) = _
        rw [if_pos (by decide), hc']; rfl
      rw [e2, ← ih ((n, c) :: acc) fun y hy => h y (List.mem_cons_of_mem _ hy)]
      simp only [beq_self_eq_true, if_true, e1]
      rfl
    · have hb : (k == NameKind.free) = false := by simpa using hk
      have e2 : closL env.cells ((n, k) :: r) acc = closL env.cells r acc := by
        show (if (k == NameKind.free) = true then _ else _) = _
        rw [hb]; rfl
      rw [e2, ← ih acc fun y hy => h y (List.mem_cons_of_mem _ hy)]
      simp only [hb, Bool.false_eq_true, if_false]
      rfl
theorem closureFor_eq {scope : Scope} {env : Env} (h : ∀ x ∈ scope.names, x.2 = .free → ∃ c, env.cells.lookup x.1 = some c) : closureFor scope env = pure (closL env.cells scope.names []) := by
  have e := closure_go (env := env) scope.names [] h
  simp only [closureFor]
  first
    | exact e
    | (rw [← e]; rfl)
    | (have e' := congrArg (fun m => m >>= pure) e; simpa using e')
theorem closL_of {cells : List (Str × Addr)} : ∀ {names : List (Str × NameKind)} {acc : List (Str × Addr)} {x : Str} {c : Addr}, (closL cells names acc).lookup x = some c → (∀ y ∈ names, y.2 = .free → ∃ c, cells.lookup y.1 = some c) →
    (∀ d, acc.lookup x = some d → cells.lookup x = some d) → cells.lookup x = some c
  | [], _, _, _, e, _, ha => ha _ e
  | (n, k) :: r, acc, x, c, e, h, ha => by
    have e' : (if (k == NameKind.free) = true then closL cells r ((n, (cells.lookup n).getD 0) :: acc) else closL cells r acc).lookup x = some c := e
    by_cases hk : k = .free
    · subst hk
      rw [if_pos (by decide)] at e'
      refine closL_of e' (fun y hy => h y (List.mem_cons_of_mem _ hy)) fun d hd => ?_
      obtain ⟨c0, hc0⟩ := h (n, .free) List.mem_cons_self rfl
      have hc1 : cells.lookup n = some c0 := hc0
      rw [List.lookup_cons] at hd
      cases hx : x == n with
      | true =>
        rw [hx] at hd
        have hxn : x = n := by simpa using hx
        subst hxn
        rw [hc1] at hd ⊢
        exact hd
      | false =>
        rw [hx] at hd
        exact ha d hd
    · have hb : (k == NameKind.free) = false := by simpa using hk
      rw [hb, if_neg Bool.false_ne_true] at e'
      exact closL_of e' (fun y hy => h y (List.mem_cons_of_mem _ hy)) ha
theorem closL_has {cells : List (Str × Addr)} : ∀ {names : List (Str × NameKind)} {acc : List (Str × Addr)} {x : Str}, ((∃ d, acc.lookup x = some d) ∨ ∃ y ∈ names, y.1 = x ∧ y.2 = .free) → ∃ c, (closL cells names acc).lookup x = some c
  | [], _, _, h => by
    rcases h with h | ⟨y, hy, _⟩
    · exact h
    · cases hy
  | (n, k) :: r, acc, x, h => by
    show ∃ c, (if (k == NameKind.free) = true then closL cells r ((n, (cells.lookup n).getD 0) :: acc) else closL cells r acc).lookup x = some c
    by_cases hk : k = .free
    · subst hk
      rw [if_pos (by decide)]
      refine closL_has ?_
      by_cases hx : x = n
      · exact .inl ⟨_, by rw [hx, List.lookup_cons]; simp; rfl⟩
      · rcases h with ⟨d, hd⟩ | ⟨y, hy, e1, e2⟩
        · refine .inl ⟨d, ?_⟩
          rw [List.lookup_cons]
          have : (x == n) = false := by simpa using hx
          rw [this]; exact hd
        · rcases List.mem_cons.mp hy with z | z
          · subst z; exact absurd e1.symm hx
          · exact .inr ⟨y, z, e1, e2⟩
    · have hb : (k == NameKind.free) = false := by simpa using hk
      rw [hb, if_neg Bool.false_ne_true]
      refine closL_has ?_
      rcases h with h | ⟨y, hy, e1, e2⟩
      · exact .inl h
      · rcases List.mem_cons.mp hy with z | z
        · subst z; exact absurd e2 hk
        · exact .inr ⟨y, z, e1, e2⟩

/-! ### names of the block -/
/-- at a turn's start: the block's own names (t of them) forgotten, then those of around that it reads, by their places there -/
def capt (t : Nat) (ix : List Nat) (σ : St) : St := List.replicate t none ++ ix.map fun j => (σ[j]?).join

/-- the block's names from place t on are those of around at the places ix -/
def compAt (XN : List Str) (scope : Scope) (N' : List Str) (t : Nat) (ix : List Nat) : Bool :=
  (List.range ix.length).all fun k => match ix[k]?, N'[t + k]? with
    | some j, some x => decide (XN[j]? = some x) && decide (scope.names.lookup x = some .free)
    | _, _ => false
theorem compAt_get {XN : List Str} {scope : Scope} {N' : List Str} {t : Nat} {ix : List Nat} (h : compAt XN scope N' t ix = true) {k : Nat} (hk : k < ix.length) :
    ∃ j x, ix[k]? = some j ∧ N'[t + k]? = some x ∧ XN[j]? = some x ∧ scope.names.lookup x = some .free := by
  have q := List.all_eq_true.mp h k (List.mem_range.mpr hk)
  cases e1 : ix[k]? with
  | none => rw [e1] at q; simp at q
  | some j =>
    cases e2 : N'[t + k]? with
    | none => rw [e1, e2] at q; simp at q
    | some x =>
      rw [e1, e2] at q
      have q' : (decide (XN[j]? = some x) && decide (scope.names.lookup x = some .free)) = true := q
      rw [Bool.and_eq_true] at q'
      exact ⟨j, x, rfl, rfl, of_decide_eq_true q'.1, of_decide_eq_true q'.2⟩
structure CompScope (sc : Scope) (XN : List Str) (scope : Scope) (N' : List Str) (t : Nat) (ix : List Nat) : Prop where
  kind : scope.kind = .function
  nocell : ∀ y ∈ scope.names, y.2 ≠ .cell
  names : ∀ y ∈ scope.names, y.2 = .local → scope.names.lookup y.1 = some .local
  fr : ∀ y ∈ scope.names, y.2 = .free → sc.names.lookup y.1 = some .cell ∨ sc.names.lookup y.1 = some .free
  nd : N'.Nodup
  len : N'.length = t + ix.length
  at_ : compAt XN scope N' t ix = true

/-- the context of a block: no exception leaves it -/
def cxComp (X : Cx) (N' : List Str) (scope : Scope) (cl : List (Str × Addr)) (C : Addr) (s₀ : Shared) (H₀ : Hp) (fp : List Addr) : Cx where
  prog := X.prog
  w := X.w
  K := X.K
  mg := X.mg
  base := X.base
  A := X.A
  N := N'
  s₀ := s₀
  H₀ := H₀
  env := compEnvC scope cl C X.env
  outer := X.stack
  stack := X.stack
  ex := fp
  fn := fun _ => false
  calm := X.calm
  pn := []
  xe := fun _ _ => False

theorem lookup_relabel_kind {env : Env} : ∀ {names : List (Str × NameKind)} {x : Str} {k : NameKind},
    (names.map fun (n, k) => if (k == NameKind.free && env.scope.kind == .function && env.kindOf n == some .cell) = true then (n, NameKind.cell) else (n, k)).lookup x = some k → k = .cell ∨ k = .free →
    (∀ y ∈ names, y.2 ≠ .cell) → ∃ y ∈ names, y.1 = x ∧ y.2 = .free
  | [], _, _, h, _, _ => by simp at h
  | (n, k0) :: r, x, k, h, hk, hc => by
    have h' : List.lookup x ((if (k0 == NameKind.free && env.scope.kind == .function && env.kindOf n == some .cell) = true then (n, NameKind.cell) else (n, k0)) ::
      (r.map fun (n, k) => if (k == NameKind.free && env.scope.kind == .function && env.kindOf n == some .cell) = true then (n, NameKind.cell) else (n, k))) = some k := h
    have hcr : ∀ y ∈ r, y.2 ≠ .cell := fun y hy => hc y (List.mem_cons_of_mem _ hy)
    by_cases hq : (k0 == NameKind.free && env.scope.kind == .function && env.kindOf n == some .cell) = true
    · have hk0 : k0 = .free := by
        have := (Bool.and_eq_true_iff.mp (Bool.and_eq_true_iff.mp hq).1).1
        simpa using this
      rw [if_pos hq, List.lookup_cons] at h'
      cases hx : x == n with
      | true =>
        have hxn : x = n := by simpa using hx
        exact ⟨(n, k0), List.mem_cons_self, hxn.symm, hk0⟩
      | false =>
        rw [hx] at h'
        obtain ⟨y, hy, e1, e2⟩ := lookup_relabel_kind h' hk hcr
        exact ⟨y, List.mem_cons_of_mem _ hy, e1, e2⟩
    · rw [if_neg hq, List.lookup_cons] at h'
      cases hx : x == n with
      | true =>
        rw [hx] at h'
        have hxn : x = n := by simpa using hx
        have e : k0 = k := by simpa using h'
        subst e
        rcases hk with e | e
        · exact absurd e (hc (n, k0) List.mem_cons_self)
        · exact ⟨(n, k0), List.mem_cons_self, hxn.symm, e⟩
      | false =>
        rw [hx] at h'
        obtain ⟨y, hy, e1, e2⟩ := lookup_relabel_kind h' hk hcr
        exact ⟨y, List.mem_cons_of_mem _ hy, e1, e2⟩
theorem lookup_relabel_free {env : Env} : ∀ {names : List (Str × NameKind)} {x : Str}, names.lookup x = some .free →
    (names.map fun (n, k) => if (k == NameKind.free && env.scope.kind == .function && env.kindOf n == some .cell) = true then (n, NameKind.cell) else (n, k)).lookup x = some .cell ∨
    (names.map fun (n, k) => if (k == NameKind.free && env.scope.kind == .function && env.kindOf n == some .cell) = true then (n, NameKind.cell) else (n, k)).lookup x = some .free
  | [], _, h => by simp at h
  | (n, k0) :: r, x, h => by
    show List.lookup x ((if (k0 == NameKind.free && env.scope.kind == .function && env.kindOf n == some .cell) = true then (n, NameKind.cell) else (n, k0)) :: _) = _ ∨
      List.lookup x ((if (k0 == NameKind.free && env.scope.kind == .function && env.kindOf n == some .cell) = true then (n, NameKind.cell) else (n, k0)) :: _) = _
    rw [List.lookup_cons] at h
    by_cases hq : (k0 == NameKind.free && env.scope.kind == .function && env.kindOf n == some .cell) = true
    · rw [if_pos hq, List.lookup_cons]
      cases hx : x == n with
      | true => exact .inl rfl
      | false => rw [hx] at h; exact lookup_relabel_free h
    · rw [if_neg hq, List.lookup_cons]
      cases hx : x == n with
      | true => rw [hx] at h; exact .inr h
      | false => rw [hx] at h; exact lookup_relabel_free h

section
variable {X : Cx} {pins : List (Addr × Obj)} {σ : St} {H : Hp} {s : Shared} {sc scope : Scope} {XN N' : List Str} {t : Nat} {ix : List Nat} {fp : List Addr} {C : Addr}

theorem CompScope.cells (S : CompScope sc XN scope N' t ix) (hsc : X.env.scope.names = sc.names) (I : Inv X pins σ H s) : ∀ y ∈ scope.names, y.2 = .free → ∃ c, X.env.cells.lookup y.1 = some c := fun y hy hf => by
  have := S.fr y hy hf
  rw [← hsc] at this
  exact I.ok.has y.1 this
theorem cells_up (S : CompScope sc XN scope N' t ix) (hsc : X.env.scope.names = sc.names) (I : Inv X pins σ H s) {x : Str} {c : Addr} (e : (closL X.env.cells scope.names []).lookup x = some c) : X.env.cells.lookup x = some c :=
  closL_of e (S.cells hsc I) fun d hd => by simp at hd

/-- the block's context stands -/
theorem comp_ok (S : CompScope sc XN scope N' t ix) (hsc : X.env.scope.names = sc.names) (I : Inv X pins σ H s) (hf : ∀ b ∈ fp, FpOk X pins H b) (ho : ∀ b ∈ fp, b < s.heap.objs.size) (hC : s.heap.objs.size ≤ C) :
    (cxComp X N' scope (closL X.env.cells scope.names []) C s H fp).Ok where
  mod := I.ok.mod
  kind := S.kind
  glob := I.ok.glob
  blt := I.ok.blt
  above := hC
  inj := fun x y c h1 h2 => I.ok.inj x y c (cells_up S hsc I h1) (cells_up S hsc I h2)
  has := fun x hx => by
    have hk : ∃ k, (k = NameKind.cell ∨ k = .free) ∧ (relabel scope X.env).names.lookup x = some k := by
      rcases hx with z | z
      · exact ⟨_, .inl rfl, z⟩
      · exact ⟨_, .inr rfl, z⟩
    obtain ⟨k, hk, e⟩ := hk
    exact closL_has (.inr (lookup_relabel_kind e hk S.nocell))
  cab := fun x c h => by cases h
  hd := I.ok.hd
  frames := I.ok.frames
  stk := .inl rfl
  exf := fun b hb => ⟨Nat.ne_of_lt (Nat.lt_of_lt_of_le (ho b hb) hC), fun x c e => (hf b hb).2.2.2.2.1 x c (cells_up S hsc I e)⟩
  bs := I.bs
  bsz := Nat.le_trans I.ok.bsz I.sz
  noex := fun b o e hb => by
    rcases (hf b hb).2.2.2.1 with z | z
    · exact I.ok.noex b o e z
    · exact absurd (Nat.lt_of_lt_of_le (Heap.lt_size (I.ok.bs b o e).1) z) (Nat.lt_irrefl _)
  exfs := fun b hb z => by
    rcases List.mem_cons.mp (I.stkSub b z) with e | e
    · exact (hf b hb).2.1 e
    · exact (hf b hb).2.2.1 e
  funs := I.stack
  frf := I.stkFree

/-- the block's state at its entry -/
theorem comp_inv {h₁ : Heap} {m : Str → Option Value} {D : Addr} {tk : Nat} (S : CompScope sc XN scope N' t ix) (hsc : X.env.scope.names = sc.names) (hXN : X.N = XN) (I : Inv X pins σ H s) (hf : ∀ b ∈ fp, FpOk X pins H b) (ho : ∀ b ∈ fp, b < s.heap.objs.size)
    (hD : s.heap.objs.size ≤ D) (hC : s.heap.objs.size ≤ C) (hDC : C ≠ D) (keep : ∀ b o, s.heap.get? b = some o → h₁.get? b = some o) (hn : h₁.Ns C m) (hl : ∃ n, h₁.get? D = some { cls := .type "list", data := .seq ([] : List Value).toArray n }) :
    Inv (cxComp X N' scope (closL X.env.cells scope.names []) C s H fp) [] (capt t ix σ) (upd H D (.lst [])) { s with heap := h₁, toks := tk } := by
  have fD : H D = none := I.hok.fresh hD
  refine ⟨comp_ok S hsc I hf ho hC, rfl, I.bare, Un.laid keep hD fD, ⟨m, hn, fun i x v e1 e2 e3 => ?_⟩, fun x c e => ?_, ?_, fun x c e => ?_, fun p hp => absurd (show p ∈ ([] : List (Addr × Obj)) from hp) (by simp), ?_, ?_⟩
  · have e1' : N'[i]? = some x := e1
    unfold capt at e2
    by_cases hi : i < t
    · rw [List.getElem?_append_left (by simpa using hi), List.getElem?_replicate] at e2
      rw [if_pos hi] at e2
      cases e2
    · rw [List.getElem?_append_right (by simpa using hi), List.getElem?_map, List.length_replicate] at e2
      have hk : i - t < ix.length := by
        rcases Nat.lt_or_ge (i - t) ix.length with q | q
        · exact q
        · rw [List.getElem?_eq_none q] at e2; cases e2
      obtain ⟨j, y, hj, ey, hNj, hx⟩ := compAt_get S.at_ hk
      have hti : t + (i - t) = i := by omega
      rw [hti, e1'] at ey
      obtain rfl : x = y := Option.some.inj ey
      rw [hj] at e2
      have e2' : (σ[j]?).join = some v := by simpa using e2
      have e2'' : σ[j]? = some (some v) := by
        cases q : σ[j]? with
        | none => rw [q] at e2'; cases e2'
        | some o => rw [q] at e2'; simpa using e2'
      have hN : X.N[j]? = some x := by rw [hXN]; exact hNj
      have hmem : (x, NameKind.free) ∈ scope.names := PySem.mem_of_lookup hx
      have hvis0 := S.fr (x, .free) hmem rfl
      rw [← hsc] at hvis0
      have hvis : Vis X.env.scope x := .inr hvis0
      obtain ⟨mX, hnX, hlX⟩ := I.loc
      obtain ⟨u, ru, l⟩ := hlX j x v hN e2'' hvis
      refine ⟨u, ru, ?_⟩
      rcases l with ⟨lk, _⟩ | ⟨_, c, hc, z⟩
      · have lk' : X.env.scope.names.lookup x = some .local := lk
        rcases hvis0 with q | q <;> · have q' : X.env.scope.names.lookup x = _ := q; rw [lk'] at q'; cases q'
      · obtain ⟨c', hc'⟩ := closL_has (cells := X.env.cells) (names := scope.names) (acc := []) (x := x) (.inr ⟨(x, .free), hmem, rfl, rfl⟩)
        have hcc : c' = c := by
          have := cells_up S hsc I hc'
          rw [hc] at this
          exact (Option.some.inj this).symm
        subst hcc
        obtain ⟨o, eo, ed⟩ := z
        exact .inr ⟨lookup_relabel_free hx, c', hc', o, keep c' o eo, ed⟩
  · obtain ⟨v, o, eo, ed⟩ := I.cell x c (cells_up S hsc I e)
    exact ⟨v, o, keep c o eo, ed⟩
  · show upd H D (.lst []) C = none
    rw [upd_ne hDC]
    exact I.hok.fresh hC
  · have hc := cells_up S hsc I e
    obtain ⟨v, o, eo, ed⟩ := I.cell x c hc
    show upd H D (.lst []) c = none
    rw [upd_ne (Nat.ne_of_lt (Nat.lt_of_lt_of_le (Heap.lt_size eo) hD))]
    exact I.freeC x c hc
  · obtain ⟨n, el⟩ := hl
    exact I.hok.laid keep hD ⟨by simp, [], n, .nil, el⟩
  · show (capt t ix σ).length = N'.length
    unfold capt
    rw [List.length_append, List.length_replicate, List.length_map, S.len]
end

theorem codeAny_compLoop_go {prog : Program} {w : World} {A : Around} {R : Result → Shared → Prop} {s : Shared} {elt target iter : Expr} {scope : Scope} {pos : Pos} {it acc : Value} {env : Env} (I : Nat → Shared → Prop)
    (turn : ∀ n s, I n s → wpAny (model prog w) A (pyNext it) (fun r s₁ => match r with
      | none => R (.ok .next) s₁
      | some v => wpAny (model prog w) A (letOwnedTupleGo target it v) (fun _ s₂ => wpAny (model prog w) A (assign target env v) (fun _ s₃ => wpAny (model prog w) A (eval elt env) (fun x s₄ =>
          wpAny (model prog w) A (call (.builtin "list.append") [acc, x]) (fun _ s₅ => ∃ m, m < n ∧ I m s₅) (fun _ _ => False) s₄) (fun _ _ => False) s₃) (fun _ _ => False) s₂) (fun _ _ => False) s₁) (fun _ _ => False) s)
    (n : Nat) (h : I n s) : codeAny (model prog w) A (.compLoop (.ListComp elt [⟨target, iter, [], 0⟩] scope pos) 0 it acc env) R s := by
  refine codeAny_loop rfl I (fun n s hI => ?_) n h
  show wpAny _ _ ((compTurn (.ListComp elt [⟨target, iter, [], 0⟩] scope pos) 0 it acc env).onRaise (fun x => do noteFrame x env; theTreesLotGoes x)) _ _ s
  refine wpAny_noted ?_
  rw [compTurn_list1]
  refine wpAny_bind (wpAny_standAt (wpAny_bind (wpAny_mono (turn n s hI) (fun r s₁ h₁ => ?_) fun _ _ h' => False.elim h')))
  cases r with
  | none => exact wpAny_pure h₁
  | some v =>
    refine wpAny_bind (wpAny_mono h₁ (fun _ s₂ h₂ => ?_) fun _ _ h' => False.elim h')
    exact wpAny_bind (wpAny_mono h₂ (fun _ s₃ h₃ => wpAny_bind (wpAny_bind (wpAny_mono h₃ (fun x s₄ h₄ => wpAny_bind (wpAny_mono h₄
      (fun _ s₅ h₅ => wpAny_pure (wpAny_pure ⟨rfl, h₅⟩)) fun _ _ h' => False.elim h')) fun _ _ h' => False.elim h'))) fun _ _ h' => False.elim h')

/-- W: the invariant by the turn, a measure and what the list holds -/
def CompIt (J : It) (g : TG) (te : TE) (τ : St) (H1 : Hp) (Q : VK) (D : Addr) : Prop :=
  ∃ W : Nat → Nat → List V → Hp → Prop, (∃ m, W 0 m [] (upd H1 D (.lst []))) ∧ ∀ i m ys H2, W i m ys H2 → H2 D = some (.lst ys) →
    (J.stop i H2 ∧ Q (.ref D) H2) ∨ (J.go i H2 ∧ ys.length < sizeLine ∧ ∀ x H', J.yld i H2 x H' → g x τ H' fun σ3 H3 => (∀ (j : Nat) v, τ[j]? = some (some v) → σ3[j]? = some (some v)) ∧ te σ3 H3 fun y H4 => H4 D = some (.lst ys) ∧ ∃ m', m' < m ∧ W (i + 1) m' (ys ++ [y]) (upd H4 D (.lst (ys ++ [y]))))
def tComp (wi : TI) (g : TG) (te : TE) (cp : St → St) : TE := fun σ H Q => wi σ H fun J H1 => ∀ D, H1 D = none → CompIt J g te (cp σ) H1 Q D

section
variable {X : Cx} {pins : List (Addr × Obj)} {σ : St} {H : Hp} {s : Shared} {sc scope : Scope} {XN N' : List Str} {t : Nat} {ix : List Nat} {elt iter tg : Expr} {pos pc : Pos} {wi : TI} {g : TG} {te : TE}

theorem comp_run {use : Option (Value → Sem Unit)} {Q : Value → Shared → Prop} {Z : VK} (hc : X.calm = true) (S : CompScope sc XN scope N' t ix) (hsc : X.env.scope.names = sc.names) (hXN : X.N = XN)
    (hi : PI X tg iter wi) (hg : ∀ cl C s₀ H₀ fp, PG (cxComp X N' scope cl C s₀ H₀ fp) tg g) (he : ∀ cl C s₀ H₀ fp, PE (cxComp X N' scope cl C s₀ H₀ fp) elt te)
    (I : Inv X pins σ H s) (h : tComp wi g te (capt t ix) σ H Z)
    (fin : ∀ D C s' H', Inv X pins σ H' s' → Z (.ref D) H' → (∃ m, s'.heap.Ns C m) → H' C = none → C ≠ X.env.locals → X.s₀.heap.objs.size ≤ C → (∀ x c, X.env.cells.lookup x = some c → c ≠ C) → (∀ p ∈ X.pn ++ pins, p.1 ≠ C) →
      compPost (model X.prog X.w) X.A X.xe use Q (.ref D) C (.ok .next) s')
    (hs : ∀ x, foldedSetIterable iter X.env x = pure x := by intro _; rfl) :
    wpAny (model X.prog X.w) X.A (comprehension (.ListComp elt [⟨tg, iter, [], 0⟩] scope pos) scope X.env pc (newList []) false (eval iter X.env) use) Q X.xe s := by
  refine wpAny_comprehension_free (use := use) rfl hs (closureFor_eq (S.cells hsc I)) S.kind S.names ?_
  refine thn (hi pins s σ H _ I h) fun v s1 h1 => thn h1 fun itv s2 h2 => ?_
  obtain ⟨it, fp, tn, J, H2, e, I2, T, st2, f2, hD⟩ := h2
  subst e
  have ho : ∀ b ∈ fp, b < s2.heap.objs.size := fun b hb => by
    obtain ⟨o, e, _⟩ := T.obj _ _ st2 b hb
    exact Heap.lt_size e
  refine wpAny_newObj_type (wpAny_newFunctionEnv S.nocell (by intro y hy; simp at hy) (fun h₁ hns₁ hsb₁ => ?_) S.kind)
  dsimp only at hns₁ hsb₁ ⊢
  generalize hH2 : s2.heap.push { cls := .type "list", dict := none, data := .seq ([] : List Value).toArray } = HH at hns₁ hsb₁ ⊢
  have hC : HH.objs.size = s2.heap.objs.size + 1 := by rw [← hH2, Heap.size_push]
  have hDC : HH.objs.size ≠ s2.heap.objs.size := by rw [hC]; exact Nat.succ_ne_self _
  have hCle : s2.heap.objs.size ≤ HH.objs.size := by rw [hC]; exact Nat.le_succ _
  have old : ∀ b o, s2.heap.get? b = some o → h₁.get? b = some o := fun b o e =>
    hsb₁.extBut b o (by rw [hC]; exact Nat.ne_of_lt (Nat.lt_succ_of_lt (Heap.lt_size e))) (Heap.get?_push_of_some _ (hH2 ▸ Heap.get?_push_of_some _ e))
  have hacc : ∃ n, h₁.get? s2.heap.objs.size = some { cls := .type "list", data := .seq ([] : List Value).toArray n } := ⟨_, hsb₁.extBut _ _ (Ne.symm hDC) (Heap.get?_push_of_some _ (hH2 ▸ Heap.get?_push_size _ rfl))⟩
  obtain ⟨W, ⟨m0, w0⟩, turn⟩ := hD s2.heap.objs.size (I2.hok.fresh (Nat.le_refl _))
  have I4 := comp_inv (tk := s2.toks + ([] : List (Str × Value)).length) S hsc hXN I2 f2 ho (Nat.le_refl _) hCle hDC old hns₁ hacc
  have fpX : ∀ {H' : Hp}, (∀ b ∈ fp, H' b = none) → ∀ b ∈ fp, FpOk (cxComp X N' scope (closL X.env.cells scope.names []) HH.objs.size s2 H2 fp) [] H' b := fun hn b hb =>
    ⟨hn b hb, (I4.ok.exf b hb).1, I4.ok.exfs b hb, .inl hb, fun x c e => (I4.ok.exf b hb).2 x c e, fun p hp => absurd (show p ∈ ([] : List (Addr × Obj)) from hp) (by simp)⟩
  have loop : ∀ s3 : Shared, s3 = { s2 with heap := h₁, toks := s2.toks + ([] : List (Str × Value)).length } →
      codeAny (model X.prog X.w) X.A (.compLoop (.ListComp elt [⟨tg, iter, [], 0⟩] scope pos) 0 (.ref it) (.ref s2.heap.objs.size) (compEnvC scope (closL X.env.cells scope.names []) HH.objs.size X.env))
        (compPost (model X.prog X.w) X.A X.xe use Q (.ref s2.heap.objs.size) HH.objs.size) s3 := by
    rintro s3 rfl
    refine codeAny_compLoop_go (fun n s' => ∃ i ys H', Inv (cxComp X N' scope (closL X.env.cells scope.names []) HH.objs.size s2 H2 fp) [] (capt t ix σ) H' s' ∧ tn i s'.heap ∧ (∀ b ∈ fp, H' b = none) ∧ H' s2.heap.objs.size = some (.lst ys) ∧ W i n ys H') ?_ m0
      ⟨0, [], _, I4, T.keep _ _ _ st2 fun b _ o e => old b o e, fun b hb => ?_, upd_same, w0⟩
    · rintro n s3 ⟨i, ys, H3, I3, st3, fr3, hl3, w3⟩
      rcases turn i n ys H3 w3 hl3 with ⟨stop, qn⟩ | ⟨go, hsz, step⟩
      · refine thn (T.done (cxComp X N' scope (closL X.env.cells scope.names []) HH.objs.size s2 H2 fp) rfl rfl rfl hc i [] s3 (capt t ix σ) H3 _ I3 (fpX fr3) st3 stop) fun r s4 ⟨hr, I4'⟩ => ?_
        subst hr
        have IX : Inv X pins σ H3 s4 := I2.call' (ch := fp) I4'.os I4'.base I4'.hok I4'.bare fun b hb => ⟨(f2 b hb).2.2.2.1, (f2 b hb).2.1, (f2 b hb).2.2.2.2.1, (f2 b hb).2.2.2.2.2⟩
        obtain ⟨mC, hnC, _⟩ := I4'.loc
        refine fin _ _ _ _ IX qn ⟨mC, hnC⟩ I4'.free (Nat.ne_of_gt (Nat.lt_of_lt_of_le I2.lt hCle)) (Nat.le_trans I2.sz hCle) (fun x c e z => ?_) fun p hp z => ?_
        · obtain ⟨vc, oc, eo, _⟩ := I2.cell x c e
          exact absurd (Nat.lt_of_lt_of_le (Heap.lt_size eo) hCle) (by rw [z]; exact Nat.lt_irrefl _)
        · exact absurd (Nat.lt_of_lt_of_le (Heap.lt_size (I2.pin p hp).1) hCle) (by rw [z]; exact Nat.lt_irrefl _)
      · refine thn (T.item (cxComp X N' scope (closL X.env.cells scope.names []) HH.objs.size s2 H2 fp) rfl rfl rfl hc i [] s3 (capt t ix σ) H3 _ I3 (fpX fr3) st3 go) fun r s4 ⟨u, hr, h4⟩ => ?_
        subst hr
        refine thn h4 fun _ s5 ⟨x, H5, I5, r5, y5, st5, fr5⟩ => ?_
        have I5' := I5.pinned (fpX fr5) (T.obj _ _ st5)
        refine thn (hg _ _ _ _ _ _ s5 (capt t ix σ) H5 x u _ I5' r5 (step x H5 y5)) fun _ s6 ⟨σ6, H6, I6, k6, q6⟩ => ?_
        refine thn (he _ _ _ _ _ _ s6 σ6 H6 _ I6 q6) fun yv s7 ⟨y, H7, I7, r7, q7⟩ => ?_
        obtain ⟨hl7, m', hm, w7⟩ := q7
        have app := mt_append (X := cxComp X N' scope (closL X.env.cells scope.names []) HH.objs.size s2 H2 fp) _ s7 σ6 H7 (.ref s2.heap.objs.size) [y] (.ref s2.heap.objs.size) [yv]
          (fun _ H8 => H8 = upd H7 s2.heap.objs.size (.lst (ys ++ [y]))) I7 rfl (.cons r7 .nil) ⟨_, ys, y, rfl, rfl, hl7, hsz, rfl⟩
        refine thn app fun _ s8 ⟨v8, H8, I8, _, e8⟩ => ?_
        subst e8
        have I9 := I8.weak (σ' := capt t ix σ) (by rw [I8.len, I4.len]) k6
        · refine ⟨m', hm, i + 1, ys ++ [y], _, I9.unpinned, T.keep _ _ _ st5 fun b hb o e => (I9.pin (b, o) (List.mem_append_right _ (List.mem_append_right _ (mem_pinsAt hb e)))).1, fun b hb => ?_, upd_same, w7⟩
          obtain ⟨o, e, d⟩ := T.obj _ _ st5 b hb
          exact (I9.pin (b, o) (List.mem_append_right _ (List.mem_append_right _ (mem_pinsAt hb e)))).2.1
    · rw [upd_ne (Nat.ne_of_lt (ho b hb))]
      exact (f2 b hb).1
  exact codeAny_compStart_list (loop _ rfl) (T.self _ 0 _ _ _ (T.keep _ _ _ st2 fun b _ o e => old b o e) (loop _ rfl))
end
end L2

end
noncomputable section
namespace L2
open PySem PySem.Spec PyProof.Rows
section
variable {X : Cx} {sc scope : Scope} {XN N' : List Str} {t : Nat} {ix : List Nat} {elt iter tg : Expr} {pos pc : Pos} {wi : TI} {g : TG} {te : TE}

/-- [elt for tg in iter] -/
theorem pe_comp (hc : X.calm = true) (S : CompScope sc XN scope N' t ix) (hsc : X.env.scope.names = sc.names) (hXN : X.N = XN)
    (hi : PI X tg iter wi) (hg : ∀ cl C s₀ H₀ fp, PG (cxComp X N' scope cl C s₀ H₀ fp) tg g) (he : ∀ cl C s₀ H₀ fp, PE (cxComp X N' scope cl C s₀ H₀ fp) elt te)
    (hs : ∀ x, foldedSetIterable iter X.env x = pure x := by intro _; rfl) : PE X (.ListComp elt [⟨tg, iter, [], 0⟩] scope pos) (tComp wi g te (capt t ix)) := by
  intro pins s σ H Q I h
  rw [eval_ListComp]
  refine comp_run (use := none) (Z := Q) hc S hsc hXN hi hg he I h (fun D C s' H' I' q hn hf hL hz hcl hp => ?_) hs
  obtain ⟨m, hn⟩ := hn
  refine ⟨m, hn, fun h' hb => ⟨.ref D, H', ?_, rfl, q⟩⟩
  exact I'.turned (it := C) (t' := s'.toks) (fun b o hbc e => (hb.2 b hbc).trans e) hf hL (.inr hz) hcl hp

/-- name = [elt for tg in iter], the name a plain local: the store comes ahead of the block's end -/
def tSetComp (i : Nat) (tc : TE) : TS := fun D σ H => tc σ H fun v H1 => D.nx (σ.set i (some v)) H1
theorem ps_setComp {i : Nat} {x : Str} {px : Pos} (hc : X.calm = true) (S : CompScope sc XN scope N' t ix) (hsc : X.env.scope.names = sc.names) (hXN : X.N = XN) (hN : X.N.Nodup) (hi' : X.N[i]? = some x) (hx : X.env.scope.names.lookup x = some .local)
    (hi : PI X tg iter wi) (hg : ∀ cl C s₀ H₀ fp, PG (cxComp X N' scope cl C s₀ H₀ fp) tg g) (he : ∀ cl C s₀ H₀ fp, PE (cxComp X N' scope cl C s₀ H₀ fp) elt te)
    (hsw : swapsWith (.ListComp elt [⟨tg, iter, [], 0⟩] scope pos) (some (.Name x px)) pc.line X.env = pure true)
    (hs : ∀ x, foldedSetIterable iter X.env x = pure x := by intro _; rfl) : PS X (.Assign [.Name x px] (.ListComp elt [⟨tg, iter, [], 0⟩] scope pos) pc) (tSetComp i (tComp wi g te (capt t ix))) := by
  intro pins s σ H D I h
  rw [exec_Assign_Name_used _ _ _ _ hsw]
  refine wpAny_bind (wpAny_standAt (wpAny_bind ?_))
  show wpAny _ X.A (do let _ ← comprehension (.ListComp elt [⟨tg, iter, [], 0⟩] scope pos) scope X.env _ (newList []) false (eval iter X.env) (some (assign (.Name x px) X.env))) _ _ s
  refine wpAny_bind (wpAny_mono (comp_run (use := some (assign (.Name x px) X.env)) (Q := fun _ s' => SP X pins D .next s') (Z := fun v H1 => D.nx (σ.set i (some v)) H1) hc S hsc hXN hi hg he I h (fun Dd C s' H' I' q hn hf hL hz hcl hp => ?_) hs)
    (fun _ s' hq => wpAny_pure (wpAny_pure hq)) fun _ _ e => e)
  obtain ⟨m, hn⟩ := hn
  show wpAny _ X.A (assign (.Name x px) X.env (.ref Dd)) _ _ _
  refine wpAny_assign_Name (store_ok2 I' hN hi' (.inl hx) (v := .ref Dd) rfl (fun s'' I'' ⟨a, sb, ha⟩ => ?_) (.inr hx))
  have hne : C ≠ a := by
    rcases ha with z | z
    · rw [z]; exact hL
    · exact fun e => hcl x a z e.symm
  refine ⟨m, hn.sameBut sb hne, fun h' hb => ⟨_, H', ?_, q⟩⟩
  exact I''.turned (it := C) (t' := s''.toks) (fun b o hbc e => (hb.2 b hbc).trans e) hf hL (.inr hz) hcl hp
end

/-! ### the forms one uses: the elements change nothing that was tracked -/
theorem Same.upd {H H' : Hp} {a : Addr} {o : HO} (e : Same H H') (h : H a = none) : Same H (upd H' a o) := fun b u q => by
  rw [upd_ne (ne_of_none q h)]; exact e b u q
theorem same_upd {H : Hp} {a : Addr} {o : HO} (h : H a = none) : Same H (L2.upd H a o) := Same.upd (Same.refl H) h
theorem Same.sqT {K : PySem.W.Frag} {H H' : Hp} {a : Addr} {xs : List V} (e : Same H H') (h : SqT K H a xs) : SqT K H' a xs := by
  rcases h with (h | ⟨o, h⟩) | h
  · exact .inl (.inl (e _ _ h))
  · exact .inl (.inr ⟨o, e _ _ h⟩)
  · exact .inr h
theorem capt_set {t : Nat} {ix : List Nat} {σ : St} {i : Nat} {v : V} (hi : i < t) : ∀ (j : Nat) w, (capt t ix σ)[j]? = some (some w) → ((capt t ix σ).set i (some v))[j]? = some (some w) := fun j w e => by
  by_cases hj : j < t
  · unfold capt at e
    rw [List.getElem?_append_left (by simpa using hj), List.getElem?_replicate, if_pos hj] at e
    cases e
  · rw [List.getElem?_set_ne (by omega)]; exact e
theorem capt_set2 {t : Nat} {ix : List Nat} {σ : St} {i k : Nat} {v u : V} (hi : i < t) (hk : k < t) : ∀ (j : Nat) w, (capt t ix σ)[j]? = some (some w) → (((capt t ix σ).set i (some v)).set k (some u))[j]? = some (some w) := fun j w e => by
  by_cases hj : j < t
  · unfold capt at e
    rw [List.getElem?_append_left (by simpa using hj), List.getElem?_replicate, if_pos hj] at e
    cases e
  · rw [List.getElem?_set_ne (by omega), List.getElem?_set_ne (by omega)]; exact e

section
variable {te : TE} {t : Nat} {ix : List Nat} {σ : St} {H1 : Hp} {Q : VK} {D : Addr}
/-- over a range: the k-th element is f k -/
theorem comp_range {lo : Int} {n : Nat} (f : Nat → V) (hn : n ≤ sizeLine) (ht : 0 < t) (hD : H1 D = none)
    (hs : ∀ (k : Nat) (H2 : Hp) (Z : VK), k < n → Same H1 H2 → (∀ H3, Same H2 H3 → Z (f k) H3) → te ((capt t ix σ).set 0 (some (.int (lo + k)))) H2 Z)
    (hq : ∀ H', Same H1 H' → H' D = some (.lst ((List.range n).map f)) → Q (.ref D) H') :
    CompIt (Itr lo n) (gName 0) te (capt t ix σ) H1 Q D := by
  refine ⟨fun i m ys H2 => m = n - i ∧ i ≤ n ∧ ys = (List.range i).map f ∧ Same H1 H2, ⟨n, by simp, Nat.zero_le _, rfl, same_upd hD⟩, ?_⟩
  rintro i m ys H2 ⟨rfl, hi, rfl, sm⟩ hl
  by_cases hlt : i < n
  · refine .inr ⟨hlt, by simp; omega, fun x H' y => ?_⟩
    obtain ⟨e, y⟩ := y
    subst e y
    refine ⟨capt_set ht, hs i _ _ hlt sm fun H4 s4 => ⟨s4 _ _ hl, n - (i + 1), by omega, rfl, hlt, ?_, (sm.trans s4).upd hD⟩⟩
    rw [List.range_succ, List.map_append]; rfl
  · have e : i = n := by omega
    subst e
    exact .inl ⟨Nat.le_refl _, hq _ sm hl⟩
/-- over a list that stays: the element of x is f x -/
theorem comp_list {K : PySem.W.Frag} {a : Addr} {xs : List V} (f : V → V) (hn : xs.length ≤ sizeLine) (ht : 0 < t) (hD : H1 D = none) (ha : SqL K H1 a xs)
    (hs : ∀ (k : Nat) (x : V) (H2 : Hp) (Z : VK), xs[k]? = some x → Same H1 H2 → (∀ H3, Same H2 H3 → Z (f x) H3) → te ((capt t ix σ).set 0 (some x)) H2 Z)
    (hq : ∀ H', Same H1 H' → H' D = some (.lst (xs.map f)) → Q (.ref D) H') :
    CompIt (Itl K a) (gName 0) te (capt t ix σ) H1 Q D := by
  refine ⟨fun i m ys H2 => m = xs.length - i ∧ i ≤ xs.length ∧ ys = (xs.take i).map f ∧ Same H1 H2, ⟨xs.length, by simp, Nat.zero_le _, by simp, same_upd hD⟩, ?_⟩
  rintro i m ys H2 ⟨rfl, hi, rfl, sm⟩ hl
  have q := sm.seq ha
  by_cases hlt : i < xs.length
  · refine .inr ⟨⟨xs, xs[i], q, by simp [hlt]⟩, by simp; omega, fun x H' y => ?_⟩
    obtain ⟨e, y⟩ := y
    subst e
    have hx := y xs q
    refine ⟨capt_set ht, hs i x _ _ hx sm fun H4 s4 => ⟨s4 _ _ hl, xs.length - (i + 1), by omega, rfl, hlt, ?_, (sm.trans s4).upd hD⟩⟩
    rw [List.take_add_one, List.map_append, hx]; rfl
  · have e : i = xs.length := by omega
    subst e
    exact .inl ⟨⟨xs, q, Nat.le_refl _⟩, hq _ sm (by rw [hl]; simp)⟩
/-- over a tuple that stays -/
theorem comp_tup {K : PySem.W.Frag} {a : Addr} {xs : List V} (f : V → V) (hn : xs.length ≤ sizeLine) (ht : 0 < t) (hD : H1 D = none) (ha : SqT K H1 a xs)
    (hs : ∀ (k : Nat) (x : V) (H2 : Hp) (Z : VK), xs[k]? = some x → Same H1 H2 → (∀ H3, Same H2 H3 → Z (f x) H3) → te ((capt t ix σ).set 0 (some x)) H2 Z)
    (hq : ∀ H', Same H1 H' → H' D = some (.lst (xs.map f)) → Q (.ref D) H') :
    CompIt (Itt K a) (gName 0) te (capt t ix σ) H1 Q D := by
  refine ⟨fun i m ys H2 => m = xs.length - i ∧ i ≤ xs.length ∧ ys = (xs.take i).map f ∧ Same H1 H2, ⟨xs.length, by simp, Nat.zero_le _, by simp, same_upd hD⟩, ?_⟩
  rintro i m ys H2 ⟨rfl, hi, rfl, sm⟩ hl
  have q := sm.sqT ha
  by_cases hlt : i < xs.length
  · refine .inr ⟨⟨xs, xs[i], q, by simp [hlt]⟩, by simp; omega, fun x H' y => ?_⟩
    obtain ⟨e, y⟩ := y
    subst e
    have hx := y xs q
    refine ⟨capt_set ht, hs i x _ _ hx sm fun H4 s4 => ⟨s4 _ _ hl, xs.length - (i + 1), by omega, rfl, hlt, ?_, (sm.trans s4).upd hD⟩⟩
    rw [List.take_add_one, List.map_append, hx]; rfl
  · have e : i = xs.length := by omega
    subst e
    exact .inl ⟨⟨xs, q, Nat.le_refl _⟩, hq _ sm (by rw [hl]; simp)⟩
end
end L2

end
noncomputable section
namespace L2
open PySem PySem.Spec PyProof.Rows

/-! ### several records of ours have turned; one new thing is tracked -/
section
variable {X : Cx} {pins : List (Addr × Obj)} {σ : St} {H : Hp} {s : Shared} {h' : Heap} {ch : List Addr}
theorem Inv.turnedL {t' : Nat} (I : Inv X pins σ H s) (k : ∀ b o, b ∉ ch → s.heap.get? b = some o → h'.get? b = some o) (hf : ∀ b ∈ ch, FpOk X pins H b) : Inv X pins σ H { s with heap := h', toks := t' } := by
  have nit : ∀ b u, H b = some u → b ∉ ch := fun b u e z => by rw [(hf b z).1] at e; cases e
  refine I.step (g' := s.gens) (d' := s.drawn) (ch := ch) (fun b hb => ⟨(hf b hb).2.2.2.1, (hf b hb).2.1, (hf b hb).2.2.2.2.1, (hf b hb).2.2.2.2.2⟩) (fun b o _ _ hc e _ => k b o hc e) (fun b o _ _ hc e _ => ⟨o.slots, k b o hc e⟩) (fun _ _ _ _ n => n)
    (fun b o hc e => ⟨o, k b o hc e⟩) (fun _ _ e => e) (fun _ _ _ e => e) (fun b ps e => ⟨#[], by rw [e]; simp⟩) (fun m hm => ?_) (fun b u e => ?_) I.bare
  · obtain ⟨o, es, ep, ho, r⟩ := hm
    exact ⟨o, es, ep, k _ o (fun z => (hf _ z).2.1 rfl) ho, r⟩
  · refine (I.hok b u e).stay (fun c v hc q => k c v ?_ q) (fun _ q => q) fun _ _ q => q
    rcases hc with z | z
    · rw [z]; exact nit b u e
    · exact nit c _ z
theorem Inv.turnedNew {t' : Nat} {a : Addr} {ob : HO} (I : Inv X pins σ H s) (k : ∀ b o, b ∉ ch → s.heap.get? b = some o → h'.get? b = some o) (hf : ∀ b ∈ ch, FpOk X pins H b) (ha : s.heap.objs.size ≤ a) (new : ObjOk X.prog X.w (upd H a ob) h' a ob) :
    Inv X pins σ (upd H a ob) { s with heap := h', toks := t' } := by
  have hn : H a = none := I.hok.fresh ha
  have nit : ∀ b u, H b = some u → b ∉ ch := fun b u e z => by rw [(hf b z).1] at e; cases e
  refine I.step (g' := s.gens) (d' := s.drawn) (ch := ch) (fun b hb => ⟨(hf b hb).2.2.2.1, (hf b hb).2.1, (hf b hb).2.2.2.2.1, (hf b hb).2.2.2.2.2⟩) (fun b o _ _ hc e _ => k b o hc e) (fun b o _ _ hc e _ => ⟨o.slots, k b o hc e⟩)
    (fun b o _ e n => by rw [upd_ne (Nat.ne_of_lt (Nat.lt_of_lt_of_le (Heap.lt_size e) ha))]; exact n)
    (fun b o hc e => ⟨o, k b o hc e⟩) (fun b xs e => by rw [upd_ne (ne_of_none e hn)]; exact e) (fun b o u e => by rw [upd_ne (ne_of_none e hn)]; exact e) (fun b ps e => ⟨#[], by rw [upd_ne (ne_of_none e hn), e]; simp⟩) (fun m hm => ?_) (fun b u e => ?_) I.bare
  · obtain ⟨o, es, ep, ho, r⟩ := hm
    exact ⟨o, es, ep, k _ o (fun z => (hf _ z).2.1 rfl) ho, r⟩
  · by_cases hb : b = a
    · subst hb; rw [upd_same] at e; cases e; exact new
    · rw [upd_ne hb] at e
      refine (I.hok b u e).stay (fun c v hc q => k c v ?_ q) (fun c q => by rw [upd_ne (ne_of_none q hn)]; exact q) fun c xs q => by rw [upd_ne (ne_of_none q hn)]; exact q
      rcases hc with z | z
      · rw [z]; exact nit b u e
      · exact nit c _ z
end

/-! ### zip of two lists -/
def Itz (K : PySem.W.Frag) (a b : Addr) : It :=
  ⟨fun i H => ∃ xs ys x y, SqL K H a xs ∧ SqL K H b ys ∧ xs[i]? = some x ∧ ys[i]? = some y,
   fun i H v H' => ∃ T x y, v = .ref T ∧ H T = none ∧ H' = upd H T (.tup [x, y]) ∧ (∀ xs, SqL K H a xs → xs[i]? = some x) ∧ ∀ ys, SqL K H b ys → ys[i]? = some y,
   fun i H => ∃ xs ys, SqL K H a xs ∧ SqL K H b ys ∧ (xs.length ≤ i ∨ ys.length ≤ i)⟩
theorem tyne {a b : String} (h : a ≠ b) : Value.type a ≠ Value.type b := fun e => h (by injection e)
theorem zip_apart {h : Heap} {z TI TO i1 i2 l1 l2 : Addr} {f0 a b : Value} {k1 k2 : Nat} {xs ys : Array Value} (hz : IsZip h z TI TO f0) (hTI : IsPair h TI (.ref i1) (.ref i2)) (hTO : IsPair h TO a b) (h1 : h.IsListIter i1 l1 k1) (h2 : h.IsListIter i2 l2 k2)
    (p1 : h.IsList l1 xs) (p2 : h.IsList l2 ys) (n1 : TI ≠ TO) (n2 : i1 ≠ i2) : ZipApart z TI TO i1 i2 l1 l2 := by
  have cls : ∀ {b c : Addr} {o u : Obj}, h.get? b = some o → h.get? c = some u → o.cls ≠ u.cls → b ≠ c := fun {b c o u} e e' d z => by
    subst z; rw [e] at e'; cases e'; exact d rfl
  obtain ⟨o1, e1, c1, _⟩ := h1
  obtain ⟨o2, e2, c2, _⟩ := h2
  obtain ⟨q1, f1, d1, _⟩ := p1
  obtain ⟨q2, f2, d2, _⟩ := p2
  have ne1 : Value.type "tuple" ≠ Value.type "zip" := tyne (by decide)
  have ne2 : Value.type "list_iterator" ≠ Value.type "zip" := tyne (by decide)
  have ne3 : Value.type "tuple" ≠ Value.type "list_iterator" := tyne (by decide)
  have ne4 : Value.type "list" ≠ Value.type "zip" := tyne (by decide)
  have ne5 : Value.type "list" ≠ Value.type "tuple" := tyne (by decide)
  have ne6 : Value.type "list" ≠ Value.type "list_iterator" := tyne (by decide)
  refine ⟨cls hTI hz ne1, cls hTO hz ne1, cls e1 hz (by rw [c1]; exact ne2), cls e2 hz (by rw [c2]; exact ne2), n1, cls hTI e1 (by rw [c1]; exact ne3), cls hTI e2 (by rw [c2]; exact ne3), cls hTO e1 (by rw [c1]; exact ne3), cls hTO e2 (by rw [c2]; exact ne3), n2,
    cls f1 hz (by rw [d1]; exact ne4), cls f1 hTO (by rw [d1]; exact ne5), cls f1 e1 (by rw [d1, c1]; exact ne6), cls f1 e2 (by rw [d1, c2]; exact ne6), cls f2 hz (by rw [d2]; exact ne4), cls f2 hTO (by rw [d2]; exact ne5), cls f2 e1 (by rw [d2, c1]; exact ne6), cls f2 e2 (by rw [d2, c2]; exact ne6)⟩
theorem turn_zip {P : Program} {w : World} {K : PySem.W.Frag} {elts : List Expr} {kt : Nat} {pt : Pos} (a b z TI TO i1 i2 : Addr) (n1 : TI ≠ TO) (n2 : i1 ≠ i2) : Turn P w K (.Tuple elts kt pt) (Itz K a b) [z, TI, TO, i1, i2] z
    (fun i h => IsZip h z TI TO .none ∧ IsPair h TI (.ref i1) (.ref i2) ∧ (∃ u v, IsPair h TO u v) ∧ h.IsListIter i1 a i ∧ h.IsListIter i2 b i) where
  mem := by simp
  obj := fun i h st c hc => by
    obtain ⟨hz, hTI, ⟨u, v, hTO⟩, ⟨o1, e1, _, d1⟩, ⟨o2, e2, _, d2⟩⟩ := st
    simp only [List.mem_cons, List.not_mem_nil, or_false] at hc
    rcases hc with rfl | rfl | rfl | rfl | rfl
    · exact ⟨_, hz, fun v z => by cases z⟩
    · exact ⟨_, hTI, fun v z => by cases z⟩
    · exact ⟨_, hTO, fun v z => by cases z⟩
    · exact ⟨_, e1, fun v z => by rw [d1] at z; cases z⟩
    · exact ⟨_, e2, fun v z => by rw [d2] at z; cases z⟩
  keep := fun i h h' st k => by
    obtain ⟨hz, hTI, ⟨u, v, hTO⟩, h1, h2⟩ := st
    exact ⟨k z (by simp) _ hz, k TI (by simp) _ hTI, ⟨u, v, k TO (by simp) _ hTO⟩, h1.at fun o e => k i1 (by simp) o e, h2.at fun o e => k i2 (by simp) o e⟩
  item := by
    intro X hP hw hK hc i pins s σ H E I hf st hg
    subst hP hw hK
    obtain ⟨hz, hTI, ⟨u, v, hTO⟩, h1, h2⟩ := st
    obtain ⟨xs, ys, x, y, hq1, hq2, hx, hy⟩ := hg
    obtain ⟨its1, r1, p1, _⟩ := I.list hq1
    obtain ⟨its2, r2, p2, _⟩ := I.list hq2
    obtain ⟨u1, e1, ru1⟩ := r1.get hx
    obtain ⟨u2, e2, ru2⟩ := r2.get hy
    have D := zip_apart hz hTI hTO h1 h2 p1.isList p2.isList n1 n2
    refine wpAny_pyNext_zip_item D hz hTI hTO h1 h2 p1.isList p2.isList (x := u1) (y := u2) (by simpa using e1) (by simpa using e2) fun h' b1 b2 b3 b4 b5 b6 hk => ?_
    refine ⟨_, rfl, wpAny_letOwnedTupleGo_zip b1 fun h'' hz'' hs'' => ?_⟩
    have zT : s.heap.objs.size ≠ z := Nat.ne_of_gt (Heap.lt_size hz)
    have T2 : h''.get? s.heap.objs.size = some { cls := .type "tuple", data := .seq #[u1, u2] } := hs''.extBut _ _ zT b5
    have kk : ∀ c o, c ∉ [z, TI, TO, i1, i2] → s.heap.get? c = some o → h''.get? c = some o := fun c o hc e =>
      hs''.extBut _ _ (fun q => hc (by simp [q])) (hk c o (fun q => hc (by simp [q])) (fun q => hc (by simp [q])) (fun q => hc (by simp [q])) (fun q => hc (by simp [q])) e)
    have I' : Inv X pins σ (upd H s.heap.objs.size (.tup [x, y])) { s with heap := h'' } := I.turnedNew (t' := s.toks) (ch := [z, TI, TO, i1, i2]) kk hf (Nat.le_refl _)
      ⟨by show 2 ≤ sizeLine; decide, [u1, u2], .cons ru1 (.cons ru2 .nil), _, T2, rfl, _, rfl⟩
    have fT : H s.heap.objs.size = none := I.hok.fresh (Nat.le_refl _)
    refine ⟨.ref s.heap.objs.size, _, I', rfl, ⟨_, x, y, rfl, fT, rfl, fun xs' q => by rw [I.list_inj q hq1]; exact hx, fun ys' q => by rw [I.list_inj q hq2]; exact hy⟩,
      ⟨hz'', hs''.extBut _ _ D.TIz (hk _ _ D.TIz D.TITO D.TIi1 D.TIi2 hTI), ⟨_, _, hs''.extBut _ _ D.TOz b2⟩, b3.extBut hs''.extBut D.i1z, b4.extBut hs''.extBut D.i2z⟩, fun c hc' => ?_⟩
    rw [upd_ne (fun q => ?_)]
    · exact (hf c hc').1
    · subst q
      obtain ⟨o1, g1, _⟩ := h1
      obtain ⟨o2, g2, _⟩ := h2
      simp only [List.mem_cons, List.not_mem_nil, or_false] at hc'
      rcases hc' with q | q | q | q | q
      · exact absurd (Heap.lt_size hz) (by rw [← q]; exact Nat.lt_irrefl _)
      · exact absurd (Heap.lt_size hTI) (by rw [← q]; exact Nat.lt_irrefl _)
      · exact absurd (Heap.lt_size hTO) (by rw [← q]; exact Nat.lt_irrefl _)
      · exact absurd (Heap.lt_size g1) (by rw [← q]; exact Nat.lt_irrefl _)
      · exact absurd (Heap.lt_size g2) (by rw [← q]; exact Nat.lt_irrefl _)
  done := by
    intro X hP hw hK hc i pins s σ H E I hf st hg
    subst hP hw hK
    obtain ⟨hz, hTI, ⟨u, v, hTO⟩, h1, h2⟩ := st
    obtain ⟨xs, ys, hq1, hq2, hend⟩ := hg
    obtain ⟨its1, r1, p1, _⟩ := I.list hq1
    obtain ⟨its2, r2, p2, _⟩ := I.list hq2
    have D := zip_apart hz hTI hTO h1 h2 p1.isList p2.isList n1 n2
    have l1 := r1.length
    have l2 := r2.length
    refine wpAny_pyNext_zip_end (I.ok.hd hc) D hz hTI hTO h1 h2 p1.isList p2.isList ?_ fun h' hk => ⟨rfl, I.turnedL (t' := s.toks) (ch := [z, TI, TO, i1, i2]) (fun c o hc e => hk c o (fun q => hc (by simp [q])) (fun q => hc (by simp [q])) (fun q => hc (by simp [q])) (fun q => hc (by simp [q])) e) hf⟩
    rcases hend with q | q
    · exact .inl (by simp; omega)
    · exact .inr (by simp; omega)
  self := fun _ _ _ _ _ st h => wpAny_pyIter_zip st.1 h
def iZip (K : PySem.W.Frag) (ta : TA) : TI := fun σ H R => ta σ H fun vs H1 => ∃ a b, vs = [.ref a, .ref b] ∧ (∃ xs, SqL K H1 a xs) ∧ (∃ ys, SqL K H1 b ys) ∧ R (Itz K a b) H1
theorem boot_zip : bootBuiltins "zip" = some (.type "zip") := by decide +kernel
theorem pi_zip {X : Cx} {elts : List Expr} {kt : Nat} {pt p pos : Pos} {a b : Expr} {ta : TA} (hg : Gl X "zip") (hm : X.mg "zip" = none) (ha : PA X [a, b] ta)
    (hs : starEach [a, b] X.env = [(false, eval a X.env), (false, eval b X.env)] := by rfl) (hs2 : starEach [b] X.env = [(false, eval b X.env)] := by rfl) :
    PI X (.Tuple elts kt pt) (.Call (.Name "zip" p) [a, b] [] pos) (iZip X.K ta) := by
  intro pins s σ H R I h
  refine Call_ (ld_blt I hg hm boot_zip (PyProof.Rows.callWith_type1 (thn (ha pos pins s σ H _ I h) fun us s1 ⟨vs, H1, I1, r1, q1⟩ => ?_) (by rw [hs, hs2]) (by rw [hs2]; rfl)))
  obtain ⟨a, b, e, ⟨xs, hx⟩, ⟨ys, hy⟩, q⟩ := q1
  subst e
  obtain ⟨u, v, rfl, ru, rv⟩ := r1.two
  cases ru
  cases rv
  obtain ⟨its1, _, p1, _⟩ := I1.list hx
  obtain ⟨its2, _, p2, _⟩ := I1.list hy
  refine call_zip_2 p1.isList p2.isList fun h' b1 b2 b3 b4 b5 b6 hk => ?_
  refine wpAny_pyIter_zip b1 ?_
  have I2 : Inv X pins σ H1 { s1 with heap := h' } := I1.kept (t' := s1.toks) hk
  refine ⟨_, _, _, _, H1, rfl, I2, turn_zip a b (s1.heap.objs.size + 4) (s1.heap.objs.size + 2) (s1.heap.objs.size + 3) s1.heap.objs.size (s1.heap.objs.size + 1) (Nat.ne_of_lt (Nat.lt_succ_self _)) (Nat.ne_of_lt (Nat.lt_succ_self _)), ⟨b1, b2, ⟨_, _, b3⟩, b4, b5⟩, fun c hc => ?_, q⟩
  have hle : s1.heap.objs.size ≤ c := by
    simp only [List.mem_cons, List.not_mem_nil, or_false] at hc
    rcases hc with rfl | rfl | rfl | rfl | rfl
    · exact Nat.le_add_right _ _
    · exact Nat.le_add_right _ _
    · exact Nat.le_add_right _ _
    · exact Nat.le_refl _
    · exact Nat.le_add_right _ _
  exact I1.fpOk hle (I1.hok.fresh hle)
theorem comp_zip {te : TE} {t : Nat} {ix : List Nat} {σ : St} {H1 : Hp} {Q : VK} {D : Addr} {K : PySem.W.Frag} {a b : Addr} {xs ys : List V} (f : V → V → V) (hn : xs.length ≤ sizeLine) (ht : 1 < t) (hD : H1 D = none) (ha : SqL K H1 a xs) (hb : SqL K H1 b ys)
    (hs : ∀ (k : Nat) (x y : V) (H2 : Hp) (Z : VK), xs[k]? = some x → ys[k]? = some y → Same H1 H2 → (∀ H3, Same H2 H3 → Z (f x y) H3) → te (((capt t ix σ).set 0 (some x)).set 1 (some y)) H2 Z)
    (hq : ∀ H', Same H1 H' → H' D = some (.lst (List.zipWith f xs ys)) → Q (.ref D) H') :
    CompIt (Itz K a b) (gTup K 2 (gCons (gName 0) (gCons (gName 1) gNil))) te (capt t ix σ) H1 Q D := by
  refine ⟨fun i m zs H2 => m = min xs.length ys.length - i ∧ i ≤ min xs.length ys.length ∧ zs = (List.zipWith f xs ys).take i ∧ Same H1 H2, ⟨_, rfl, Nat.zero_le _, by simp, same_upd hD⟩, ?_⟩
  rintro i m zs H2 ⟨rfl, hi, rfl, sm⟩ hl
  have qa := sm.seq ha
  have qb := sm.seq hb
  by_cases hlt : i < min xs.length ys.length
  · have hx : xs[i]? = some (xs[i]'(by omega)) := by rw [List.getElem?_eq_getElem]
    have hy : ys[i]? = some (ys[i]'(by omega)) := by rw [List.getElem?_eq_getElem]
    refine .inr ⟨⟨xs, ys, _, _, qa, qb, hx, hy⟩, by simp; omega, fun v H' y => ?_⟩
    obtain ⟨T, x, y, e1, e2, e3, y1, y2⟩ := y
    subst e1 e3
    have hx' := y1 xs qa
    have hy' := y2 ys qb
    refine ⟨T, [x, y], rfl, SqT.of upd_same, rfl, x, [y], rfl, y, [], rfl, rfl, ?_⟩
    refine ⟨capt_set2 (by omega) ht, hs i x y _ _ hx' hy' (sm.upd (sm.free e2)) fun H4 s4 => ⟨s4 _ _ ?_, min xs.length ys.length - (i + 1), by omega, rfl, hlt, ?_, ?_⟩⟩
    · rw [upd_ne (ne_of_none hl e2)]; exact hl
    · rw [List.take_add_one, List.getElem?_zipWith, hx', hy']; rfl
    · exact ((sm.upd (sm.free e2)).trans s4).upd hD
  · have e : i = min xs.length ys.length := by omega
    subst e
    refine .inl ⟨⟨xs, ys, qa, qb, by omega⟩, hq _ sm ?_⟩
    rw [hl, List.take_of_length_le (by simp)]

/-! ### sum, all, any, max, min of a list -/
theorem preSum_list (ns : List Int) : ∀ k, preSum (fun i => ns.getD i 0) k = (ns.take k).sum
  | 0 => by simp [preSum]
  | k + 1 => by rw [preSum, preSum_list ns k, PySem.sum_take_succ]
theorem vals_int_at {ns : List Int} {us : List Value} (r : Vals (ns.map V.int) us) {i : Nat} {v : Value} (e : us[i]? = some v) : ∃ t, v = .int (ns.getD i 0) t := by
  have hl := r.length
  rw [List.length_map] at hl
  have hi : i < ns.length := by
    have := (List.getElem?_eq_some_iff.mp e).1
    omega
  obtain ⟨u, e', ru⟩ := r.get (i := i) (x := .int (ns[i])) (by simp [hi])
  rw [e] at e'; cases e'
  obtain ⟨t, rfl⟩ := ru
  exact ⟨t, by simp [List.getD, hi]⟩
theorem vals_bool_at {bs : List Bool} {us : List Value} (r : Vals (bs.map V.bl) us) {i : Nat} {v : Value} (e : us[i]? = some v) : v = .bool (bs.getD i false) := by
  have hl := r.length
  rw [List.length_map] at hl
  have hi : i < bs.length := by
    have := (List.getElem?_eq_some_iff.mp e).1
    omega
  obtain ⟨u, e', ru⟩ := r.get (i := i) (x := .bl (bs[i])) (by simp [hi])
  rw [e] at e'; cases e'
  have ru' : v = Value.bool bs[i] := ru
  rw [ru']; simp [List.getD, hi]
theorem range_all (bs : List Bool) : (List.range bs.length).all (fun i => bs.getD i false) = bs.all id := by
  rw [Bool.eq_iff_iff, List.all_eq_true, List.all_eq_true]
  constructor
  · intro h b hb
    obtain ⟨i, hi, e⟩ := List.mem_iff_getElem.mp hb
    have := h i (List.mem_range.mpr hi)
    simp [List.getD, hi, e] at this
    exact this
  · intro h i hi
    have hi' := List.mem_range.mp hi
    have := h bs[i] (List.getElem_mem hi')
    simp [List.getD, hi']
    exact this
theorem range_any (bs : List Bool) : (List.range bs.length).any (fun i => bs.getD i false) = bs.any id := by
  rw [Bool.eq_iff_iff, List.any_eq_true, List.any_eq_true]
  constructor
  · rintro ⟨i, hi, e⟩
    have hi' := List.mem_range.mp hi
    exact ⟨bs[i], List.getElem_mem hi', by simpa [List.getD, hi'] using e⟩
  · rintro ⟨b, hb, e⟩
    obtain ⟨i, hi, e'⟩ := List.mem_iff_getElem.mp hb
    exact ⟨i, List.mem_range.mpr hi, by simp [List.getD, hi, e']; exact e⟩
section
variable {X : Cx}
/-- the iterator that a built-in makes of a list -/
theorem list_walk {pins : List (Addr × Obj)} {σ : St} {H : Hp} {s : Shared} {a : Addr} {xs : List V} (hc : X.calm = true) (I : Inv X pins σ H s) (hq : SqL X.K H a xs) :
    ∃ its : List Value, Vals xs its ∧ its.length = xs.length ∧ s.heap.IsList a its.toArray ∧ a ≠ s.heap.objs.size ∧
      Walks X.prog X.w X.A.in1 s.heap.objs.size [s.heap.objs.size, a] [s.heap.objs.size] its.toArray.size (fun i v => its.toArray[i]? = some v) (fun i h => h.IsListIter s.heap.objs.size a i ∧ h.IsList a its.toArray) ∧
      (let h₂ := s.heap.push { cls := .type "list_iterator", data := .fields #[.ref a, .int 0 0] }
       (h₂.IsListIter s.heap.objs.size a 0 ∧ h₂.IsList a its.toArray) ∧ (∀ b ∈ [s.heap.objs.size, a], b < h₂.objs.size) ∧
       ∀ h' tk, (∀ b o, b ∉ [s.heap.objs.size] → h₂.get? b = some o → h'.get? b = some o) → Inv X pins σ H { s with heap := h', toks := tk }) := by
  obtain ⟨its, r, p, _⟩ := I.list hq
  obtain ⟨o, n, eo, hcl, hdt, hsq⟩ := id p
  have hlt : a < s.heap.objs.size := Heap.lt_size eo
  refine ⟨its, r, r.length.symm, p.isList, Nat.ne_of_lt hlt, Walks.list (A := X.A.in1) (I.ok.hd hc) _ a (Nat.ne_of_lt hlt) its.toArray, ⟨⟨_, Heap.get?_push_size _ rfl, rfl, rfl⟩, p.isList.push _⟩, fun b hb => ?_, fun h' tk k => ?_⟩
  · rw [Heap.size_push]
    simp only [List.mem_cons, List.not_mem_nil, or_false] at hb
    rcases hb with rfl | rfl
    · exact Nat.lt_succ_self _
    · exact Nat.lt_succ_of_lt hlt
  · exact I.kept fun b u e => k b u (by simp; exact Nat.ne_of_lt (Heap.lt_size e)) (Heap.get?_push_of_some _ e)
theorem call_sumL (hc : X.calm = true) : CallR X (.builtin "sum") (fun xs H Q => ∃ (a : Addr) (ns : List Int), xs = [.ref a] ∧ SqL X.K H a (ns.map V.int) ∧ Q (.int ns.sum) H) := by
  intro pins s σ H xs us Q I r h
  obtain ⟨a, ns, rfl, hq, q⟩ := h
  obtain ⟨u, rfl, ru⟩ := r.one
  cases ru
  obtain ⟨its, rv, hl, p, hne, W, st, hfp, fin⟩ := list_walk hc I hq
  refine call_sum_walkG (wpAny_pyIter_list p ⟨_, _, _, _, _, _, fun i => ns.getD i 0, rfl, W, st, hfp, fun i v e => vals_int_at rv (by simpa using e), fun h' tk t' k => ⟨.int ns.sum, H, fin h' tk k, ⟨t', ?_⟩, q⟩⟩)
  rw [preSum_list, List.take_of_length_le (by rw [List.size_toArray, hl, List.length_map]; exact Nat.le_refl _)]
theorem call_allL (hc : X.calm = true) : CallR X (.builtin "all") (fun xs H Q => ∃ (a : Addr) (bs : List Bool), xs = [.ref a] ∧ SqL X.K H a (bs.map V.bl) ∧ Q (.bl (bs.all id)) H) := by
  intro pins s σ H xs us Q I r h
  obtain ⟨a, bs, rfl, hq, q⟩ := h
  obtain ⟨u, rfl, ru⟩ := r.one
  cases ru
  obtain ⟨its, rv, hl, p, hne, W, st, hfp, fin⟩ := list_walk hc I hq
  refine call_all_walk (wpAny_pyIter_list p ⟨_, _, _, _, _, _, fun i => bs.getD i false, rfl, W, st, fun i v s' Q' E' e hQ => ?_, fun h' tk k => ⟨.bl (bs.all id), H, fin h' tk k, ?_, q⟩⟩)
  · have ev := vals_bool_at rv (i := i) (v := v) (by simpa using e)
    rw [ev]
    exact wpAny_truthy_bool hQ
  · rw [List.size_toArray, hl, List.length_map, range_all]; rfl
theorem call_anyL (hc : X.calm = true) : CallR X (.builtin "any") (fun xs H Q => ∃ (a : Addr) (bs : List Bool), xs = [.ref a] ∧ SqL X.K H a (bs.map V.bl) ∧ Q (.bl (bs.any id)) H) := by
  intro pins s σ H xs us Q I r h
  obtain ⟨a, bs, rfl, hq, q⟩ := h
  obtain ⟨u, rfl, ru⟩ := r.one
  cases ru
  obtain ⟨its, rv, hl, p, hne, W, st, hfp, fin⟩ := list_walk hc I hq
  refine call_any_walk (wpAny_pyIter_list p ⟨_, _, _, _, _, _, fun i => bs.getD i false, rfl, W, st, fun i v s' Q' E' e hQ => ?_, fun h' tk k => ⟨.bl (bs.any id), H, fin h' tk k, ?_, q⟩⟩)
  · have ev := vals_bool_at rv (i := i) (v := v) (by simpa using e)
    rw [ev]
    exact wpAny_truthy_bool hQ
  · rw [List.size_toArray, hl, List.length_map, range_any]; rfl
theorem getD_mem {ns : List Int} {i : Nat} (h : i < ns.length) : ns.getD i 0 ∈ ns := by
  have : ns.getD i 0 = ns[i] := by simp [List.getD, h]
  rw [this]; exact List.getElem_mem h
theorem mem_getD {ns : List Int} {a : Int} (h : a ∈ ns) : ∃ i, i < ns.length ∧ ns.getD i 0 = a := by
  obtain ⟨i, hi, e⟩ := List.mem_iff_getElem.mp h
  exact ⟨i, hi, by simp [List.getD, hi, e]⟩
theorem call_maxL (hc : X.calm = true) : CallR X (.builtin "max") (fun xs H Q => ∃ (a : Addr) (ns : List Int), xs = [.ref a] ∧ SqL X.K H a (ns.map V.int) ∧ ns ≠ [] ∧ ∀ M, M ∈ ns → (∀ b ∈ ns, b ≤ M) → Q (.int M) H) := by
  intro pins s σ H xs us Q I r h
  obtain ⟨a, ns, rfl, hq, hne0, q⟩ := h
  obtain ⟨u, rfl, ru⟩ := r.one
  cases ru
  obtain ⟨its, rv, hl, p, hne, W, st, hfp, fin⟩ := list_walk hc I hq
  rw [List.length_map] at hl
  have hpos : 0 < ns.length := List.length_pos_iff.mpr hne0
  obtain ⟨b1, b2⟩ := argBest_gt (fun i => ns.getD i 0) (ns.length - 1)
  refine call_max_walk (wpAny_pyIter_list p ⟨_, _, _, _, _, _, fun i j => decide (ns.getD i 0 > ns.getD j 0), rfl, W, st, hfp, by rw [List.size_toArray, hl]; exact hpos, fun i j vi vj s' Q' E' ei ej hQ => ?_, fun v h' tk e k => ?_⟩)
  · obtain ⟨t1, rfl⟩ := vals_int_at rv (i := i) (v := vi) (by simpa using ei)
    obtain ⟨t2, rfl⟩ := vals_int_at rv (i := j) (v := vj) (by simpa using ej)
    exact (PyProof.Rows.gt_int hQ : wpAny _ _ (compareOp .Gt _ _) _ _ _)
  · rw [List.size_toArray, hl, List.getElem?_toArray] at e
    obtain ⟨t1, rfl⟩ := vals_int_at rv e
    refine ⟨.int _, H, fin h' tk k, ⟨t1, rfl⟩, q _ (getD_mem (by omega)) fun b hb => ?_⟩
    obtain ⟨i, hi, e'⟩ := mem_getD hb
    rw [← e']
    exact b2 i (by omega)
theorem call_minL (hc : X.calm = true) : CallR X (.builtin "min") (fun xs H Q => ∃ (a : Addr) (ns : List Int), xs = [.ref a] ∧ SqL X.K H a (ns.map V.int) ∧ ns ≠ [] ∧ ∀ M, M ∈ ns → (∀ b ∈ ns, M ≤ b) → Q (.int M) H) := by
  intro pins s σ H xs us Q I r h
  obtain ⟨a, ns, rfl, hq, hne0, q⟩ := h
  obtain ⟨u, rfl, ru⟩ := r.one
  cases ru
  obtain ⟨its, rv, hl, p, hne, W, st, hfp, fin⟩ := list_walk hc I hq
  rw [List.length_map] at hl
  have hpos : 0 < ns.length := List.length_pos_iff.mpr hne0
  obtain ⟨b1, b2⟩ := argBest_lt (fun i => ns.getD i 0) (ns.length - 1)
  refine call_min_walk (wpAny_pyIter_list p ⟨_, _, _, _, _, _, fun i j => decide (ns.getD i 0 < ns.getD j 0), rfl, W, st, hfp, by rw [List.size_toArray, hl]; exact hpos, fun i j vi vj s' Q' E' ei ej hQ => ?_, fun v h' tk e k => ?_⟩)
  · obtain ⟨t1, rfl⟩ := vals_int_at rv (i := i) (v := vi) (by simpa using ei)
    obtain ⟨t2, rfl⟩ := vals_int_at rv (i := j) (v := vj) (by simpa using ej)
    exact (PyProof.Rows.lt_int hQ : wpAny _ _ (compareOp .Lt _ _) _ _ _)
  · rw [List.size_toArray, hl, List.getElem?_toArray] at e
    obtain ⟨t1, rfl⟩ := vals_int_at rv e
    refine ⟨.int _, H, fin h' tk k, ⟨t1, rfl⟩, q _ (getD_mem (by omega)) fun b hb => ?_⟩
    obtain ⟨i, hi, e'⟩ := mem_getD hb
    rw [← e']
    exact b2 i (by omega)

/-! ### == and != of two lists of flat values -/
def eqVs : List V → List V → Bool
  | [], [] => true
  | x :: xs, y :: ys => eqV x y && eqVs xs ys
  | _, _ => false
theorem eqVs_len : ∀ {xs ys : List V}, xs.length ≠ ys.length → eqVs xs ys = false
  | [], [], h => absurd rfl h
  | [], _ :: _, _ => rfl
  | _ :: _, [], _ => rfl
  | x :: xs, y :: ys, h => by
    show (eqV x y && eqVs xs ys) = false
    rw [eqVs_len (xs := xs) (ys := ys) (fun e => h (by simp [e])), Bool.and_false]
theorem eqVs_all : ∀ {xs ys : List V}, xs.length = ys.length → eqVs xs ys = (List.range xs.length).all fun i => match xs[i]?, ys[i]? with | some x, some y => eqV x y | _, _ => false
  | [], [], _ => rfl
  | [], _ :: _, h => by simp at h
  | _ :: _, [], h => by simp at h
  | x :: xs, y :: ys, h => by
    show (eqV x y && eqVs xs ys) = _
    rw [eqVs_all (xs := xs) (ys := ys) (by simpa using h), List.length_cons, List.range_succ_eq_map, List.all_cons, List.all_map]
    rfl
theorem eqVs_ints (ns ms : List Int) : eqVs (ns.map V.int) (ms.map V.int) = decide (ns = ms) := by
  induction ns generalizing ms with
  | nil => cases ms <;> simp [eqVs]
  | cons n ns ih =>
    cases ms with
    | nil => simp [eqVs]
    | cons m ms =>
      show (eqV (.int n) (.int m) && eqVs (ns.map V.int) (ms.map V.int)) = _
      rw [ih]
      show ((n == m) && decide (ns = ms)) = _
      by_cases h : n = m <;> simp [h]
theorem eqVs_bools (ns ms : List Bool) : eqVs (ns.map V.bl) (ms.map V.bl) = decide (ns = ms) := by
  induction ns generalizing ms with
  | nil => cases ms <;> simp [eqVs]
  | cons n ns ih =>
    cases ms with
    | nil => simp [eqVs]
    | cons m ms =>
      show (eqV (.bl n) (.bl m) && eqVs (ns.map V.bl) (ms.map V.bl)) = _
      rw [ih]
      show ((n == m) && decide (ns = ms)) = _
      by_cases h : n = m <;> simp [h]
def rEqL (K : PySem.W.Frag) (neg : Bool) : R2 := fun x y H Q => ∃ a b xs ys, x = .ref a ∧ y = .ref b ∧ SqL K H a xs ∧ SqL K H b ys ∧ xs.all flatV = true ∧ ys.all flatV = true ∧ Q (.bl (neg ^^ eqVs xs ys)) H
theorem op_eqL (hu : X.A.units < cLine) : OpR X (compareOp .Eq) (rEqL X.K false) := by
  intro pins s σ H x y v u Q I rx ry h
  obtain ⟨a, b, xs, ys, rfl, rfl, ha, hb, fx, fy, q⟩ := h
  cases rx
  cases ry
  obtain ⟨its, r1, p1, _⟩ := I.list ha
  obtain ⟨its2, r2, p2, _⟩ := I.list hb
  have l1 := r1.length
  have l2 := r2.length
  rw [Bool.false_xor] at q
  by_cases hl : xs.length = ys.length
  · refine SeqAt.eq_listAt (e := fun i => match xs[i]?, ys[i]? with | some x, some y => eqV x y | _, _ => false) p1.isList p2.isList (by simp; omega) hu (fun j h1 h2 => ?_) ?_
    · rw [List.size_toArray] at h1 h2
      have ex : xs[j]? = some (xs[j]'(by omega)) := by rw [List.getElem?_eq_getElem]
      have ey : ys[j]? = some (ys[j]'(by omega)) := by rw [List.getElem?_eq_getElem]
      obtain ⟨u1, e1, ru1⟩ := r1.get ex
      obtain ⟨u2, e2, ru2⟩ := r2.get ey
      have q1 : its.toArray[j] = u1 := by
        have := (List.getElem?_eq_some_iff.mp e1).2
        simpa using this
      have q2 : its2.toArray[j] = u2 := by
        have := (List.getElem?_eq_some_iff.mp e2).2
        simpa using this
      rw [q1, q2]
      simp only [ex, ey]
      exact eqAt_V ru1 ru2 (List.all_eq_true.mp fx _ (List.getElem_mem _)) (List.all_eq_true.mp fy _ (List.getElem_mem _))
    · rw [eqVs_all hl] at q
      rw [List.size_toArray, ← l1]
      exact ⟨.bl _, H, I, rfl, q⟩
  · rw [eqVs_len hl] at q
    exact SeqAt.eq_list_lengthsAt p1.isList p2.isList (by simp; omega) hu ⟨.bl _, H, I, rfl, q⟩
theorem op_neL (hu : X.A.units < cLine) : OpR X (compareOp .NotEq) (rEqL X.K true) := by
  intro pins s σ H x y v u Q I rx ry h
  obtain ⟨a, b, xs, ys, rfl, rfl, ha, hb, fx, fy, q⟩ := h
  cases rx
  cases ry
  obtain ⟨its, r1, p1, _⟩ := I.list ha
  obtain ⟨its2, r2, p2, _⟩ := I.list hb
  have l1 := r1.length
  have l2 := r2.length
  rw [Bool.true_xor] at q
  by_cases hl : xs.length = ys.length
  · refine SeqAt.RcNeAt.lists (e := fun i => match xs[i]?, ys[i]? with | some x, some y => eqV x y | _, _ => false) p1.isList p2.isList (by simp; omega) hu (fun j h1 h2 => ?_) _ _ _ _ ?_
    · rw [List.size_toArray] at h1 h2
      have ex : xs[j]? = some (xs[j]'(by omega)) := by rw [List.getElem?_eq_getElem]
      have ey : ys[j]? = some (ys[j]'(by omega)) := by rw [List.getElem?_eq_getElem]
      obtain ⟨u1, e1, ru1⟩ := r1.get ex
      obtain ⟨u2, e2, ru2⟩ := r2.get ey
      have q1 : its.toArray[j] = u1 := by
        have := (List.getElem?_eq_some_iff.mp e1).2
        simpa using this
      have q2 : its2.toArray[j] = u2 := by
        have := (List.getElem?_eq_some_iff.mp e2).2
        simpa using this
      rw [q1, q2]
      simp only [ex, ey]
      exact eqAt_V ru1 ru2 (List.all_eq_true.mp fx _ (List.getElem_mem _)) (List.all_eq_true.mp fy _ (List.getElem_mem _))
    · rw [eqVs_all hl] at q
      rw [List.size_toArray, ← l1]
      exact ⟨.bl _, H, I, rfl, q⟩
  · rw [eqVs_len hl] at q
    exact SeqAt.RcNeAt.lists_lengths p1.isList p2.isList (by simp; omega) hu _ _ _ _ ⟨.bl _, H, I, rfl, q⟩

/-! ### is, is not of bools -/
theorem op_isB : OpR X (compareOp .Is) (fun x y H Q => ∃ c d, x = .bl c ∧ y = .bl d ∧ Q (.bl (c == d)) H) := by
  intro pins s σ H x y v u Q I rx ry h
  obtain ⟨c, d, rfl, rfl, q⟩ := h
  cases rx
  cases ry
  exact is_bool ⟨.bl _, H, I, rfl, q⟩
theorem op_isnotB : OpR X (compareOp .IsNot) (fun x y H Q => ∃ c d, x = .bl c ∧ y = .bl d ∧ Q (.bl (c != d)) H) := by
  intro pins s σ H x y v u Q I rx ry h
  obtain ⟨c, d, rfl, rfl, q⟩ := h
  cases rx
  cases ry
  exact isnot_bool ⟨.bl _, H, I, rfl, q⟩

/-! ### isinstance(x, C) -/
def clsV : V → Option Value
  | .ty n => some (.type n)
  | .ref a => some (.ref a)
  | _ => none
theorem call_isinst : CallR X (.builtin "isinstance") (fun xs H Q => ∃ x c t cv b, xs = [x, c] ∧ clsV c = some cv ∧ TyOf X.K H x t ∧ PySem.W.kitOne X.K t cv = some b ∧ Q (.bl b) H) := by
  intro pins s σ H xs us Q I r h
  obtain ⟨x, c, t, cv, b, rfl, hc, ty, e, q⟩ := h
  obtain ⟨u, v, rfl, ru, rv⟩ := r.two
  have hv : v = cv := by
    cases c with
    | ty n => cases rv; exact Option.some.inj hc
    | ref a => cases rv; exact Option.some.inj hc
    | _ => cases hc
  subst hv
  exact isinst_ok I ru ty e fun tk => ⟨.bl b, H, I.tok tk, rfl, q⟩
end
end L2

end
noncomputable section
namespace L2
open PySem PySem.Spec PyProof.Rows
/-! ### small things -/
theorem PE.or {X : Cx} {e : Expr} {t u : TE} (h : PE X e t) (h' : PE X e u) : PE X e (fun σ H Q => t σ H Q ∨ u σ H Q) := by
  intro pins s σ H Q I q
  rcases q with q | q
  · exact h pins s σ H Q I q
  · exact h' pins s σ H Q I q
theorem bt_len : bootBuiltins "len" = some (.builtin "len") := by decide +kernel
theorem bt_abs : bootBuiltins "abs" = some (.builtin "abs") := by decide +kernel
theorem bt_sum : bootBuiltins "sum" = some (.builtin "sum") := by decide +kernel
theorem bt_all : bootBuiltins "all" = some (.builtin "all") := by decide +kernel
theorem bt_any : bootBuiltins "any" = some (.builtin "any") := by decide +kernel
theorem bt_max : bootBuiltins "max" = some (.builtin "max") := by decide +kernel
theorem bt_min : bootBuiltins "min" = some (.builtin "min") := by decide +kernel
theorem bt_isinstance : bootBuiltins "isinstance" = some (.builtin "isinstance") := by decide +kernel
theorem bt_list : bootBuiltins "list" = some (.type "list") := by decide +kernel
theorem bt_tuple : bootBuiltins "tuple" = some (.type "tuple") := by decide +kernel
theorem bt_int : bootBuiltins "int" = some (.type "int") := by decide +kernel
theorem bt_bool : bootBuiltins "bool" = some (.type "bool") := by decide +kernel
theorem bt_str : bootBuiltins "str" = some (.type "str") := by decide +kernel
theorem Binds.one {K : PySem.W.Frag} {fd : FuncData} {x : Str} (b : Binds K fd [x] []) (s : Shared) (v : Value) (h : K.In s.heap) : BindsTo s fd ⟨[v], []⟩ [(x, v)] := b s [v] h rfl
theorem atI_ints {ns : List Int} {i : Int} (h0 : 0 ≤ i) (h1 : i < ns.length) : atI (ns.map V.int) i = some (.int (ns.getD i.toNat 0)) := by
  have hj : i.toNat < ns.length := by omega
  have e : (ns.map V.int)[i.toNat]? = some (.int (ns.getD i.toNat 0)) := by simp [hj]
  have := atI_nat e
  rwa [Int.toNat_of_nonneg h0] at this
/-- xs[k - 1] with k = 0 the last one -/
theorem atI_back {ns : List Int} {k : Nat} (h1 : k < ns.length) : atI (ns.map V.int) ((k : Int) - 1) = some (.int (ns.getD ((k + ns.length - 1) % ns.length) 0)) := by
  unfold atI
  have hl : (ns.map V.int).length = ns.length := List.length_map ..
  rw [hl]
  cases k with
  | zero =>
    have e : ixN ns.length (((0 : Nat) : Int) - 1) = some (ns.length - 1) := by
      unfold ixN
      rw [if_neg (by decide), if_pos (by omega)]
      congr 1
      omega
    rw [e]
    have hm : (0 + ns.length - 1) % ns.length = ns.length - 1 := by rw [Nat.zero_add]; exact Nat.mod_eq_of_lt (by omega)
    rw [hm]
    show (ns.map V.int)[ns.length - 1]? = _
    simp [show ns.length - 1 < ns.length by omega]
  | succ k =>
    have e : ixN ns.length (((k + 1 : Nat) : Int) - 1) = some k := by
      unfold ixN
      rw [if_pos (by omega), if_pos (by omega)]
      congr 1
      omega
    rw [e]
    have hm : (k + 1 + ns.length - 1) % ns.length = k := by
      have : k + 1 + ns.length - 1 = k + ns.length := by omega
      rw [this, Nat.add_mod_right]; exact Nat.mod_eq_of_lt (by omega)
    rw [hm]
    show (ns.map V.int)[k]? = _
    simp [show k < ns.length by omega]
end L2

end
noncomputable section
namespace L2
open PySem PySem.Spec PyProof.Rows
/-! ### the rules with the written part K by name (a block's context must not stand in a reading) -/
section
variable {X : Cx} (K : PySem.W.Frag)
theorem ixK (h : X.K = K := by rfl) : IxR X (fun x y H Q => rIxL K x y H Q ∨ rIxT K x y H Q) := by subst h; exact ix_list.or ix_tup
theorem slK (h : X.K = K := by rfl) : SlR X (rSlL K) := by subst h; exact sl_list
theorem lenK (h : X.K = K := by rfl) : CallR X (.builtin "len") (fun xs H Q => ∃ p ys, xs = [.ref p] ∧ (SqL K H p ys ∨ SqT K H p ys) ∧ Q (.int ys.length) H) := by subst h; exact call_len_seq
theorem listK (h : X.K = K := by rfl) : CallR X (.type "list") (fun xs H Q => ∃ p ys, xs = [.ref p] ∧ (SqL K H p ys ∨ SqT K H p ys) ∧ ∀ l, H l = none → Q (.ref l) (upd H l (.lst ys))) := by subst h; exact call_list_of
theorem sumK (hc : X.calm = true) (h : X.K = K := by rfl) : CallR X (.builtin "sum") (fun xs H Q => ∃ (a : Addr) (ns : List Int), xs = [.ref a] ∧ SqL K H a (ns.map V.int) ∧ Q (.int ns.sum) H) := by subst h; exact call_sumL hc
theorem allK (hc : X.calm = true) (h : X.K = K := by rfl) : CallR X (.builtin "all") (fun xs H Q => ∃ (a : Addr) (bs : List Bool), xs = [.ref a] ∧ SqL K H a (bs.map V.bl) ∧ Q (.bl (bs.all id)) H) := by subst h; exact call_allL hc
theorem anyK (hc : X.calm = true) (h : X.K = K := by rfl) : CallR X (.builtin "any") (fun xs H Q => ∃ (a : Addr) (bs : List Bool), xs = [.ref a] ∧ SqL K H a (bs.map V.bl) ∧ Q (.bl (bs.any id)) H) := by subst h; exact call_anyL hc
theorem maxK (hc : X.calm = true) (h : X.K = K := by rfl) : CallR X (.builtin "max") (fun xs H Q => ∃ (a : Addr) (ns : List Int), xs = [.ref a] ∧ SqL K H a (ns.map V.int) ∧ ns ≠ [] ∧ ∀ M, M ∈ ns → (∀ b ∈ ns, b ≤ M) → Q (.int M) H) := by subst h; exact call_maxL hc
theorem minK (hc : X.calm = true) (h : X.K = K := by rfl) : CallR X (.builtin "min") (fun xs H Q => ∃ (a : Addr) (ns : List Int), xs = [.ref a] ∧ SqL K H a (ns.map V.int) ∧ ns ≠ [] ∧ ∀ M, M ∈ ns → (∀ b ∈ ns, M ≤ b) → Q (.int M) H) := by subst h; exact call_minL hc
theorem eqK (hu : X.A.units < cLine) (h : X.K = K := by rfl) : OpR X (compareOp .Eq) (fun x y H Q => rEq x y H Q ∨ rEqL K false x y H Q) := by subst h; exact op_eq.or (op_eqL hu)
theorem neK (hu : X.A.units < cLine) (h : X.K = K := by rfl) : OpR X (compareOp .NotEq) (fun x y H Q => rNe x y H Q ∨ rEqL K true x y H Q) := by subst h; exact op_ne.or (op_neL hu)
theorem inK (h : X.K = K := by rfl) : OpR X (compareOp .In) (rIn K false) := by subst h; exact op_in_seq
theorem notInK (h : X.K = K := by rfl) : OpR X (compareOp .NotIn) (rIn K true) := by subst h; exact op_notIn_seq
theorem isiK (h : X.K = K := by rfl) : CallR X (.builtin "isinstance") (fun xs H Q => ∃ x c t cv b, xs = [x, c] ∧ clsV c = some cv ∧ TyOf K H x t ∧ PySem.W.kitOne K t cv = some b ∧ Q (.bl b) H) := by subst h; exact call_isinst
theorem fldK {e : Expr} {f : Str} {pos : Pos} {ta : TE} (he : PE X e ta) (hb : attributeBase e f X.env (eval e X.env) = eval e X.env := by rfl) (h : X.K = K := by rfl) : PE X (.Attribute e f pos) (tFld K ta f) := by subst h; exact pe_fld he hb
theorem piL {tg l : Expr} {tl : TE} (hl : PE X l tl) (h : X.K = K := by rfl) : PI X tg l (iList K tl) := by subst h; exact pi_list hl
theorem piT {tg l : Expr} {tl : TE} (hl : PE X l tl) (h : X.K = K := by rfl) : PI X tg l (iTup K tl) := by subst h; exact pi_tup hl
theorem piZ {elts : List Expr} {kt : Nat} {pt p pos : Pos} {a b : Expr} {ta : TA} (hg : Gl X "zip") (hm : X.mg "zip" = none) (ha : PA X [a, b] ta)
    (hs : starEach [a, b] X.env = [(false, eval a X.env), (false, eval b X.env)] := by rfl) (hs2 : starEach [b] X.env = [(false, eval b X.env)] := by rfl) (h : X.K = K := by rfl) :
    PI X (.Tuple elts kt pt) (.Call (.Name "zip" p) [a, b] [] pos) (iZip K ta) := by subst h; exact pi_zip hg hm ha hs hs2
theorem pgT {es : List Expr} {k : Nat} {t : TGs} {n : Nat} {pos : Pos} (hc : X.calm = true) (h : PGs X es t)
    (hn : (assignEach es X.env).length = n := by rfl) (hst : (assignEach es X.env).findIdx? (·.1) = none := by rfl) (hk : X.K = K := by rfl) : PG X (.Tuple es k pos) (gTup K n t) := by subst hk; exact pg_tup hc h hn hst
theorem bmK {o e : Expr} {es : List Expr} {to : TE} {t : TA} {name : Str} {apos cpos : Pos} {T id : String} {r : V → List V → Hp → VK → Prop} (pa : PlainAttrs T) (slot : Slot T name id) (hty : typeOf (.builtin id) = pure (.type "method_descriptor")) (hm : MtR X id r) (ho : PE X o to) (ha : PA X (e :: es) t)
    (hbase : attributeBase o name X.env (eval o X.env) = eval o X.env := by rfl)
    (hfew : ((backTo cpos (starEach (e :: es) X.env)).all (fun x => !x.1) && (backToKw cpos (keywordEach [] X.env)).all (fun x => x.1.isSome)
      && decide ((e :: es).length + ([] : List Keyword).length + (if ([] : List Keyword).isEmpty then 0 else 1) < 30)) = true := by rfl)
    (hline : (apos.endLine == cpos.line) = true := by rfl) (hs : starEach (e :: es) X.env = (false, eval e X.env) :: starEach es X.env := by rfl) (hplain : (backTo cpos (starEach es X.env)).any (·.1) = false := by rfl) (h : X.K = K := by rfl) :
    PE X (.Call (.Attribute o name apos) (e :: es) [] cpos) (tBM K T r to t) := by subst h; exact pe_bm pa slot hty hm ho ha hbase hfew hline hs hplain
theorem bm0K {o : Expr} {to : TE} {name : Str} {apos cpos : Pos} {T id : String} {r : V → List V → Hp → VK → Prop} (pa : PlainAttrs T) (slot : Slot T name id) (hty : typeOf (.builtin id) = pure (.type "method_descriptor")) (hm : MtR X id r) (ho : PE X o to)
    (hbase : attributeBase o name X.env (eval o X.env) = eval o X.env := by rfl) (hline : (apos.endLine == cpos.line) = true := by rfl) (h : X.K = K := by rfl) : PE X (.Call (.Attribute o name apos) [] [] cpos) (tBM0 K T r to) := by subst h; exact pe_bm0 pa slot hty hm ho hbase hline
end
end L2

end
noncomputable section
namespace L2
open PySem PySem.Spec PyProof.Rows
/-! ### an argument that is no star, by its kind -/
section
variable {es : List Expr} {env : Env} {pos : Pos}
theorem se_Name {x : Str} : starEach (.Name x pos :: es) env = (false, eval (.Name x pos) env) :: starEach es env := rfl
theorem se_Constant {c j} : starEach (.Constant c j pos :: es) env = (false, eval (.Constant c j pos) env) :: starEach es env := rfl
theorem se_BinOp {a op b} : starEach (.BinOp a op b pos :: es) env = (false, eval (.BinOp a op b pos) env) :: starEach es env := rfl
theorem se_UnaryOp {op b} : starEach (.UnaryOp op b pos :: es) env = (false, eval (.UnaryOp op b pos) env) :: starEach es env := rfl
theorem se_Call {f a k} : starEach (.Call f a k pos :: es) env = (false, eval (.Call f a k pos) env) :: starEach es env := rfl
theorem se_Subscript {a b} : starEach (.Subscript a b pos :: es) env = (false, eval (.Subscript a b pos) env) :: starEach es env := rfl
theorem se_Attribute {a b} : starEach (.Attribute a b pos :: es) env = (false, eval (.Attribute a b pos) env) :: starEach es env := rfl
theorem se_List {a} : starEach (.List a pos :: es) env = (false, eval (.List a pos) env) :: starEach es env := rfl
theorem se_Tuple {a k} : starEach (.Tuple a k pos :: es) env = (false, eval (.Tuple a k pos) env) :: starEach es env := rfl
theorem se_ListComp {a b c} : starEach (.ListComp a b c pos :: es) env = (false, eval (.ListComp a b c pos) env) :: starEach es env := rfl
theorem se_IfExp {a b c} : starEach (.IfExp a b c pos :: es) env = (false, eval (.IfExp a b c pos) env) :: starEach es env := rfl
theorem se_Compare {a b c} : starEach (.Compare a b c pos :: es) env = (false, eval (.Compare a b c pos) env) :: starEach es env := rfl
theorem se_BoolOp {a b} : starEach (.BoolOp a b pos :: es) env = (false, eval (.BoolOp a b pos) env) :: starEach es env := rfl
theorem se_JoinedStr {a} : starEach (.JoinedStr a pos :: es) env = (false, eval (.JoinedStr a pos) env) :: starEach es env := rfl
end
section
variable {X : Cx}
theorem mtr_append : MtR X "list.append" rAppend := mt_append
theorem mtr_clear : MtR X "list.clear" rClear := mt_clear
theorem mtr_extend : MtR X "list.extend" rExtend := mt_extend
theorem mtr_pop : MtR X "list.pop" rPop := mt_pop
theorem mtr_reverse : MtR X "list.reverse" rReverse := mt_reverse
end
theorem big : 100000 ≤ sizeLine := by decide
/-! ### ranges from 0 -/
theorem comp_range0 {te : TE} {t : Nat} {ix : List Nat} {σ : St} {H1 : Hp} {Q : VK} {D : Addr} {n : Nat} (f : Nat → V) (hn : n ≤ sizeLine) (ht : 0 < t) (hD : H1 D = none)
    (hs : ∀ (k : Nat) (H2 : Hp) (Z : VK), k < n → Same H1 H2 → (∀ H3, Same H2 H3 → Z (f k) H3) → te ((capt t ix σ).set 0 (some (.int (k : Int)))) H2 Z)
    (hq : ∀ H', Same H1 H' → H' D = some (.lst ((List.range n).map f)) → Q (.ref D) H') :
    CompIt (Itr 0 n) (gName 0) te (capt t ix σ) H1 Q D :=
  comp_range f hn ht hD (fun k H2 Z h1 h2 h3 => by rw [Int.zero_add]; exact hs k H2 Z h1 h2 h3) hq
theorem for_range0 {n : Nat} {g : TG} {tb : TS} {D : Ends} {σ : St} {H : Hp} (Pv : Nat → St → Hp → Prop) (h0 : Pv 0 σ H)
    (hs : ∀ i σ H, i < n → Pv i σ H → g (.int (i : Int)) σ H fun σ2 H2 => tb { D with nx := Pv (i + 1), ct := Pv (i + 1), bk := D.nx } σ2 H2) (hd : ∀ σ H, Pv n σ H → D.nx σ H) :
    ∃ W : Nat → Nat → St → Hp → Prop, (∃ m, W 0 m σ H) ∧ ∀ i m σ H, W i m σ H →
      ((Itr 0 n).stop i H ∧ D.nx σ H) ∨ ((Itr 0 n).go i H ∧ ∃ N : St → Hp → Prop, (∀ σ' H', N σ' H' → ∃ m', m' < m ∧ W (i + 1) m' σ' H') ∧ ∀ x H', (Itr 0 n).yld i H x H' → g x σ H' fun σ2 H2 => tb { D with nx := N, ct := N, bk := D.nx } σ2 H2) :=
  for_range Pv h0 (fun i σ H h1 h2 => by rw [Int.zero_add]; exact hs i σ H h1 h2) hd
theorem kit_b (K : PySem.W.Frag) (a b : String) (r : Bool) (h : (if (Value.type a == Value.type b) = true then some true else if PySem.W.kitMeta b = true then Option.map (fun x => x.contains (.type b)) (fastBuiltinMro a) else none) = some r) : PySem.W.kitOne K (.type a) (.type b) = some r := h
/-! ### xs[::-1] -/
def tRev (K : PySem.W.Frag) (te : TE) : TE := fun σ H Q => te σ H fun x H1 => ∃ a xs, x = .ref a ∧ SqL K H1 a xs ∧ ∀ p, H1 p = none → Q (.ref p) (upd H1 p (.lst xs.reverse))
theorem pe_rev {X : Cx} (K : PySem.W.Frag) {e : Expr} {te : TE} {j : Nat} {p1 p2 p3 pos : Pos} (he : PE X e te) (h : X.K = K := by rfl) :
    PE X (.Subscript e (.Slice none none (some (.UnaryOp .USub (.Constant (.int 1) j p1) p3)) p2) pos) (tRev K te) := by
  subst h
  intro pins s σ H Q I hw
  refine Subscript_ (thn (he pins s σ H _ I hw) fun v s1 ⟨x, H1, I1, r1, a, xs, ex, hx, q⟩ => ?_)
  subst ex
  cases r1
  refine wpAny_Slice ?_
  rw [evalPart_none]
  refine wpAny_pure ?_
  refine wpAny_pure ?_
  rw [evalPart_some]
  refine thn (pe_un un_neg pe_int pins s1 σ H1 (fun x H' => x = .int (-1) ∧ H' = H1) I1 ⟨_, rfl, rfl, rfl⟩) fun u s2 ⟨y, H2, I2, r2, ey, eH⟩ => ?_
  subst ey eH
  obtain ⟨t, rfl⟩ := r2
  have I4 : Inv X pins σ H2 { s2 with heap := s2.heap.push { cls := .type "slice", data := .fields #[.none, .none, .int (-1) t] } } := I2.kept (t' := s2.toks) fun b ob q => Heap.get?_push_of_some _ q
  obtain ⟨its, r, ht, hz⟩ := I4.list hx
  have hlen := r.length
  show wpAny (model X.prog X.w) X.A (subscriptTail e (.Slice none none (some (.UnaryOp .USub (.Constant (.int 1) j p1) p3)) p2) (.ref a) (.ref s2.heap.objs.size)) (EP X pins σ Q) X.xe { s2 with heap := s2.heap.push { cls := .type "slice", data := .fields #[.none, .none, .int (-1) t] } }
  refine tail_any (ops := [.ref a, .ref s2.heap.objs.size]) ht.isList.typeIs slot_list_getitem.lookup ?_ (by with_unfolding_all rfl)
  refine wpAny_getItem_list_slice ht.isList (Heap.IsSliceOf.new ..) .none .none (.int (-1) t) (by simp) ?_ (by rw [List.size_toArray] <;> omega)
  rw [PySem.W.krv_pick]
  refine ⟨.ref _, _, I4.laid (t' := s2.toks) (o := .lst xs.reverse) (fun b ob q => Heap.get?_push_of_some _ q) (Nat.le_refl _) ?_, rfl, q _ (I4.hok.fresh (Nat.le_refl _))⟩
  exact ⟨by rw [List.length_reverse]; exact hz, _, 0, r.reverse, Heap.get?_push_size _ rfl⟩
end L2

end
noncomputable section
namespace L2
open PySem PySem.Spec PyProof.Rows
/-! ### enumerate of a list -/
def Ite (K : PySem.W.Frag) (a : Addr) : It :=
  ⟨fun i H => ∃ xs x, SqL K H a xs ∧ xs[i]? = some x, fun i H v H' => ∃ T x, v = .ref T ∧ H T = none ∧ H' = upd H T (.tup [.int (i : Int), x]) ∧ ∀ xs, SqL K H a xs → xs[i]? = some x, fun i H => ∃ xs, SqL K H a xs ∧ xs.length ≤ i⟩
theorem turn_enum {P : Program} {w : World} {K : PySem.W.Frag} {elts : List Expr} {kt : Nat} {pt : Pos} (a e it : Addr) (n1 : e ≠ it) : Turn P w K (.Tuple elts kt pt) (Ite K a) [e, it] e
    (fun i h => (∃ old, IsEnum h e it i old) ∧ h.IsListIter it a i) where
  mem := by simp
  obj := fun i h st c hc => by
    obtain ⟨⟨old, he⟩, ⟨o1, e1, _, d1⟩⟩ := st
    simp only [List.mem_cons, List.not_mem_nil, or_false] at hc
    rcases hc with rfl | rfl
    · exact ⟨_, he, fun v z => by cases z⟩
    · exact ⟨_, e1, fun v z => by rw [d1] at z; cases z⟩
  keep := fun i h h' st k => by
    obtain ⟨⟨old, he⟩, h1⟩ := st
    exact ⟨⟨old, k e (by simp) _ he⟩, h1.at fun o q => k it (by simp) o q⟩
  item := by
    intro X hP hw hK hc i pins s σ H E I hf st hg
    subst hP hw hK
    obtain ⟨⟨old, he⟩, h1⟩ := st
    obtain ⟨xs, x, hq1, hx⟩ := hg
    obtain ⟨its1, r1, p1, _⟩ := I.list hq1
    obtain ⟨u1, e1, ru1⟩ := r1.get hx
    refine wpAny_pyNext_enum_item he h1 p1.isList (x := u1) (by simpa using e1) n1 fun h' b1 b3 b5 b6 hk => ?_
    refine ⟨_, rfl, wpAny_letOwnedTupleGo_enum b1 fun h'' hz'' hs'' => ?_⟩
    have zT : s.heap.objs.size ≠ e := Nat.ne_of_gt (Heap.lt_size he)
    have T2 : h''.get? s.heap.objs.size = some { cls := .type "tuple", data := .seq #[.int i s.toks, u1] } := hs''.extBut _ _ zT b5
    have kk : ∀ c o, c ∉ [e, it] → s.heap.get? c = some o → h''.get? c = some o := fun c o hc q =>
      hs''.extBut _ _ (fun q => hc (by simp [q])) (hk c o (fun q => hc (by simp [q])) (fun q => hc (by simp [q])) q)
    have I' : Inv X pins σ (upd H s.heap.objs.size (.tup [.int (i : Int), x])) { s with heap := h'', toks := s.toks + 1 } := I.turnedNew (t' := s.toks + 1) (ch := [e, it]) kk hf (Nat.le_refl _)
      ⟨by show 2 ≤ sizeLine; decide, [.int i s.toks, u1], .cons ⟨_, rfl⟩ (.cons ru1 .nil), _, T2, rfl, _, rfl⟩
    have fT : H s.heap.objs.size = none := I.hok.fresh (Nat.le_refl _)
    refine ⟨.ref s.heap.objs.size, _, I', rfl, ⟨_, x, rfl, fT, rfl, fun xs' q => by rw [I.list_inj q hq1]; exact hx⟩, ⟨⟨_, by have := hz''; rw [show ((i : Int) + 1) = ((i + 1 : Nat) : Int) by omega] at this; exact this⟩, b3.extBut hs''.extBut n1.symm⟩, fun c hc' => ?_⟩
    rw [upd_ne (fun q => ?_)]
    · exact (hf c hc').1
    · subst q
      obtain ⟨o1, g1, _⟩ := h1
      simp only [List.mem_cons, List.not_mem_nil, or_false] at hc'
      rcases hc' with q | q
      · exact absurd (Heap.lt_size he) (by rw [← q]; exact Nat.lt_irrefl _)
      · exact absurd (Heap.lt_size g1) (by rw [← q]; exact Nat.lt_irrefl _)
  done := by
    intro X hP hw hK hc i pins s σ H E I hf st hg
    subst hP hw hK
    obtain ⟨⟨old, he⟩, h1⟩ := st
    obtain ⟨xs, hq1, hend⟩ := hg
    obtain ⟨its1, r1, p1, _⟩ := I.list hq1
    have l1 := r1.length
    exact wpAny_pyNext_enum_end (I.ok.hd hc) he h1 p1.isList (by simp; omega) fun h' hk => ⟨rfl, I.turnedL (t' := s.toks) (ch := [e, it]) (fun c o hc q => hk c o (fun q => hc (by simp [q])) q) hf⟩
  self := fun _ _ _ _ _ st h => let ⟨⟨_, he⟩, _⟩ := st; wpAny_pyIter_enum he h
def iEnum (K : PySem.W.Frag) (ta : TA) : TI := fun σ H R => ta σ H fun vs H1 => ∃ a, vs = [.ref a] ∧ (∃ xs, SqL K H1 a xs) ∧ R (Ite K a) H1
theorem boot_enumerate : bootBuiltins "enumerate" = some (.type "enumerate") := by decide +kernel
theorem piE {X : Cx} (K : PySem.W.Frag) {elts : List Expr} {kt : Nat} {pt p pos : Pos} {a : Expr} {ta : TA} (hg : Gl X "enumerate") (hm : X.mg "enumerate" = none) (ha : PA X [a] ta)
    (hs : starEach [a] X.env = [(false, eval a X.env)] := by rfl) (h : X.K = K := by rfl) :
    PI X (.Tuple elts kt pt) (.Call (.Name "enumerate" p) [a] [] pos) (iEnum K ta) := by
  subst h
  intro pins s σ H R I h
  refine Call_ (ld_blt I hg hm boot_enumerate (PyProof.Rows.callWith_type1 (thn (ha pos pins s σ H _ I h) fun us s1 ⟨vs, H1, I1, r1, q1⟩ => ?_) (by rw [hs]; rfl) rfl))
  obtain ⟨a, e, ⟨xs, hx⟩, q⟩ := q1
  subst e
  obtain ⟨u, rfl, ru⟩ := r1.one
  cases ru
  obtain ⟨its1, _, p1, _⟩ := I1.list hx
  refine call_enumerate_list p1.isList fun h' b1 b4 b6 hk => ?_
  refine wpAny_pyIter_enum b1 ?_
  have I2 : Inv X pins σ H1 { s1 with heap := h' } := I1.kept (t' := s1.toks) hk
  refine ⟨_, _, _, _, H1, rfl, I2, turn_enum a (s1.heap.objs.size + 1) s1.heap.objs.size (Nat.ne_of_gt (Nat.lt_succ_self _)), ⟨⟨_, b1⟩, b4⟩, fun c hc => ?_, q⟩
  have hle : s1.heap.objs.size ≤ c := by
    simp only [List.mem_cons, List.not_mem_nil, or_false] at hc
    rcases hc with rfl | rfl
    · exact Nat.le_add_right _ _
    · exact Nat.le_refl _
  exact I1.fpOk hle (I1.hok.fresh hle)
theorem for_enum {K : PySem.W.Frag} {a : Addr} {xs : List V} {g : TG} {tb : TS} {D : Ends} {σ : St} {H : Hp} (Pv : Nat → St → Hp → Prop) (h0 : Pv 0 σ H) (hl : ∀ i σ H, Pv i σ H → SqL K H a xs)
    (hs : ∀ (i : Nat) (x : V) σ H T, xs[i]? = some x → Pv i σ H → H T = none → g (.ref T) σ (upd H T (.tup [.int (i : Int), x])) fun σ2 H2 => tb { D with nx := Pv (i + 1), ct := Pv (i + 1), bk := D.nx } σ2 H2) (hd : ∀ σ H, Pv xs.length σ H → D.nx σ H) :
    ∃ W : Nat → Nat → St → Hp → Prop, (∃ m, W 0 m σ H) ∧ ∀ i m σ H, W i m σ H →
      ((Ite K a).stop i H ∧ D.nx σ H) ∨ ((Ite K a).go i H ∧ ∃ N : St → Hp → Prop, (∀ σ' H', N σ' H' → ∃ m', m' < m ∧ W (i + 1) m' σ' H') ∧ ∀ x H', (Ite K a).yld i H x H' → g x σ H' fun σ2 H2 => tb { D with nx := N, ct := N, bk := D.nx } σ2 H2) := by
  refine ⟨fun i m σ H => m = xs.length - i ∧ i ≤ xs.length ∧ Pv i σ H, ⟨_, rfl, Nat.zero_le _, h0⟩, ?_⟩
  rintro i m σ H ⟨rfl, hi, p⟩
  have qa := hl i σ H p
  by_cases hlt : i < xs.length
  · have hx : xs[i]? = some (xs[i]'(by omega)) := by rw [List.getElem?_eq_getElem]
    refine .inr ⟨⟨xs, _, qa, hx⟩, Pv (i + 1), fun σ' H' p' => ⟨xs.length - (i + 1), by omega, rfl, hlt, p'⟩, fun v H' y => ?_⟩
    obtain ⟨T, x, e1, e2, e3, y1⟩ := y
    subst e1 e3
    exact hs i x σ H T (y1 xs qa) p e2
  · have e : i = xs.length := by omega
    subst e
    exact .inl ⟨⟨xs, qa, Nat.le_refl _⟩, hd σ H p⟩
/-! ### xs.index(x) -/
def rIndex : V → List V → Hp → VK → Prop := fun x vs H Q => ∃ (l : Addr) (ns : List Int) (i : Int) (j : Nat), x = .ref l ∧ vs = [.int i] ∧ H l = some (.lst (ns.map V.int)) ∧ ns[j]? = some i ∧ (∀ m, m < j → ns[m]? ≠ some i) ∧ Q (.int (j : Int)) H
theorem mtr_index {X : Cx} : MtR X "list.index" rIndex := by
  intro pins s σ H x vs v us Q I rx rv h
  obtain ⟨l, ns, i, j, rfl, rfl, hH, hj, hno, q⟩ := h
  cases rx
  obtain ⟨u, rfl, ru⟩ := rv.one
  obtain ⟨t, rfl⟩ := ru
  obtain ⟨z, its, n, r, hl, e⟩ := I.lstM hH
  rw [List.length_map] at z hl
  have hjl := (List.getElem?_eq_some_iff.mp hj).1
  have at_ : ∀ (m : Nat) (hm : m < its.toArray.size), ∃ t, its.toArray[m] = .int (ns.getD m 0) t := fun m hm => by
    have hm' : m < its.length := by simpa using hm
    exact vals_int_at r (v := its.toArray[m]) (i := m) (by simp [hm'])
  refine call_meets F.slot_list_index ⟨_, e, rfl⟩ F.entry_list_index (F.args_list_index_2 _ _) (MeetsSeq.list_index l its.toArray n (.int i t) (fun y => numOf y == i) (fun y hy => ?_) j (by rw [List.size_toArray]; omega) ?_ ?_ ?_) ⟨e, ?_⟩
  · obtain ⟨m, hm, rfl⟩ := Array.mem_iff_getElem.mp hy
    obtain ⟨t', e'⟩ := at_ m hm
    rw [e']
    exact MeetsSeq.EqGives.int _ _ _ _
  · have : sizeLine < 2 ^ 63 - 1 := by decide
    omega
  · obtain ⟨t', e'⟩ := at_ j (by rw [List.size_toArray]; omega)
    rw [e']
    have : ns.getD j 0 = i := by simp [List.getD, hj]
    show ((ns.getD j 0) == i) = true
    rw [this]
    exact beq_self_eq_true i
  · intro m hm hlt
    obtain ⟨t', e'⟩ := at_ m hm
    rw [e']
    have h1 := hno m hlt
    have hm' : m < ns.length := by omega
    have : ns.getD m 0 ≠ i := fun q => h1 (by simp [List.getD, List.getElem?_eq_getElem hm'] at q ⊢; exact q)
    simpa [numOf] using this
  · exact ⟨.int j, H, I.kept (t' := s.toks + 1) fun _ _ q => q, ⟨_, rfl⟩, q⟩
end L2

end
noncomputable section
namespace L2
open PySem PySem.Spec PyProof.Rows
/-- the classes that may have been raised while another was handled -/
class Dp where
  is : Value → Prop
variable [Dp]
/-! ### exceptions: the object and its trace -/
/-- what an exception was raised in: nothing, or another one that was raised in nothing -/
def CtxAt (h : Heap) (e : Addr) (C : Value) (vs : Array Value) : Prop := vs[2]? = some .none ∨ Dp.is C ∧ ∃ e1 o1 ws, vs[2]? = some (.ref e1) ∧ e1 ≠ e ∧ h.get? e1 = some o1 ∧ o1.data = .fields ws ∧ ws[2]? = some .none
theorem CtxAt.keep {h h' : Heap} {e : Addr} {C : Value} {vs : Array Value} (c : CtxAt h e C vs) (k : ∀ b o ws, b ≠ e → h.get? b = some o → o.data = .fields ws → ws[2]? = some .none → ∃ o' ws', h'.get? b = some o' ∧ o'.data = .fields ws' ∧ ws'[2]? = some .none) : CtxAt h' e C vs := by
  rcases c with c | ⟨c0, e1, o1, ws, c1, c2, c3, c4, c5⟩
  · exact .inl c
  · obtain ⟨o', ws', a1, a2, a3⟩ := k e1 o1 ws c2 c3 c4 c5
    exact .inr ⟨c0, e1, o', ws', c1, c2, a1, a2, a3⟩
theorem CtxAt.set1 {h : Heap} {e : Addr} {C : Value} {vs : Array Value} {x : Value} (c : CtxAt h e C vs) : CtxAt h e C (vs.setIfInBounds 1 x) := by
  have q : (vs.setIfInBounds 1 x)[2]? = vs[2]? := Array.getElem?_setIfInBounds_ne (by decide)
  unfold CtxAt
  rw [q]
  exact c
/-- the exception at e: its class, its dict, its first field, its trace's head and where that flies -/
structure Xo (h : Heap) (e : Addr) (C : Value) (dx : Option Addr) (a0 : Value) (T : Option (Addr × Value)) : Prop where
  ob : ∃ oe vs, h.get? e = some oe ∧ oe.cls = C ∧ oe.dict = dx ∧ oe.data = .fields vs ∧ 1 < vs.size ∧ vs[0]? = some a0 ∧ CtxAt h e C vs ∧ match T with
    | none => vs[1]? = some .none
    | some (t, fl) => vs[1]? = some (.ref t) ∧ t ≠ e ∧ ∃ oT ts, h.get? t = some oT ∧ oT.data = .fields ts ∧ ts[3]? = some fl
theorem Xo.apart {h : Heap} {e t : Addr} {C a0 fl : Value} {dx : Option Addr} (x : Xo h e C dx a0 (some (t, fl))) : e ≠ t := by
  obtain ⟨_, _, _, _, _, _, _, _, _, _, hte, _⟩ := x.ob
  exact Ne.symm hte
/-- what it was raised in is not tracked -/
def Uc (H : Addr → Option HO) (h : Heap) (ea : Addr) : Prop := ∀ o vs e1, h.get? ea = some o → o.data = .fields vs → vs[2]? = some (.ref e1) → H e1 = none
/-- what noting an exception may change: the slots of the frames at fr, the exception, its trace's head -/
structure Chg (fr : List Addr) (e : Addr) (T : Option Addr) (h h' : Heap) : Prop where
  keep : ∀ b o, b ∉ fr → b ≠ e → T ≠ some b → h.get? b = some o → h'.get? b = some o
  slot : ∀ b o, b ∈ fr → b ≠ e → T ≠ some b → h.get? b = some o → ∃ sl, h'.get? b = some { o with slots := sl }
  ctx : ∀ o vs, h.get? e = some o → o.data = .fields vs → ∃ o' vs', h'.get? e = some o' ∧ o'.data = .fields vs' ∧ vs'[2]? = vs[2]?
omit [Dp] in
theorem Chg.uc {fr : List Addr} {e : Addr} {T : Option Addr} {h h' : Heap} {H : Hp} {o : Obj} {vs : Array Value} (c : Chg fr e T h h') (u : Uc H h e) (q : h.get? e = some o) (hd : o.data = .fields vs) : Uc H h' e := fun o2 vs2 e1 q2 d2 z => by
  obtain ⟨o', vs', q', hd', e'⟩ := c.ctx o vs q hd
  rw [q'] at q2
  cases q2
  rw [hd'] at d2
  cases d2
  rw [e'] at z
  exact u o vs e1 q hd z
omit [Dp] in
theorem Chg.any {fr : List Addr} {e : Addr} {T : Option Addr} {h h' : Heap} (c : Chg fr e T h h') {b : Addr} {o : Obj} (h1 : b ≠ e) (h2 : T ≠ some b) (q : h.get? b = some o) : ∃ sl, h'.get? b = some { o with slots := sl } := by
  by_cases z : b ∈ fr
  · exact c.slot b o z h1 h2 q
  · exact ⟨o.slots, c.keep b o z h1 h2 q⟩
section
variable {M : Model} {A : Around} {E : Value → Shared → Prop} {s : Shared}
/-- where the trace's head flies is set -/
theorem flight_ {e t : Addr} {C a0 fl : Value} {dx : Option Addr} {fr : Option Addr} {Q : Unit → Shared → Prop} (x : Xo s.heap e C dx a0 (some (t, fl)))
    (h : ∀ h', Xo h' e C dx a0 (some (t, fr.elim .none fun f => rawInt f)) → (∀ b o, b ≠ t → s.heap.get? b = some o → h'.get? b = some o) → Q () { s with heap := h' }) : wpAny M A (setFlight (.ref e) fr) Q E s := by
  obtain ⟨oe, vs, he, hc, hdx, hd, hsz, h0, hcx, h1, hte, oT, ts, hT, hdT, h3⟩ := x.ob
  unfold setFlight
  refine wpAny_bind (wpAny_field he hd h1 ?_)
  rw [if_pos (show (Value.ref t != Value.none) = true from by simp)]
  refine wpAny_setField hT hdT (Array.getElem?_eq_some_iff.mp h3).1 (h _ ⟨oe, vs, ?_, hc, hdx, hd, hsz, h0, hcx.keep fun b o ws hb q hw h2 => ?_, h1, hte, _, _, Heap.get?_update_self _ hT (Obj.isFreed_of_fields (Obj.data_mapFields hdT _)), Obj.data_mapFields hdT _, ?_⟩ fun b o hb q => ?_)
  · exact (Heap.get?_update_other _ _ hte).trans he
  · by_cases z : b = t
    · subst z
      rw [hT] at q
      cases q
      rw [hdT] at hw
      cases hw
      exact ⟨_, _, Heap.get?_update_self _ hT (Obj.isFreed_of_fields (Obj.data_mapFields hdT _)), Obj.data_mapFields hdT _, by rw [Array.getElem?_setIfInBounds_ne (by decide)]; exact h2⟩
    · exact ⟨o, ws, (Heap.get?_update_other _ _ (Ne.symm z)).trans q, hw, h2⟩
  · have := (Array.getElem?_eq_some_iff.mp h3).1
    simp [this]
  · exact (Heap.get?_update_other _ _ (Ne.symm hb)).trans q
/-- an entry for this frame is laid -/
theorem entry_ {base : Heap} {env : Env} {outer : List Env} {L e : Addr} {C a0 head : Value} {dx : Option Addr} {T : Option (Addr × Value)} {hn : Bool} {Q : Unit → Shared → Prop} (hfr : A.frames = some (env :: outer)) (hl : s.heap.FunFrames base (env :: outer)) (hf : env.frame = some L)
    (x : Xo s.heap e C dx a0 T)
    (h : ∀ h' t, Xo h' e C dx a0 (some (t, rawInt L)) → s.heap.get? t = none → Chg (frs (env :: outer)) e none s.heap h' → Q () { s with heap := h' }) :
    wpAny M A (do let a ← frameOf env; let pl ← entryPlaceOf L hn; let b ← EntryCells.newEntry head a .none (rawInt L) .none pl; setField (.ref e) 1 b) Q E s := by
  obtain ⟨oe, vs, he, hc, hdx, hd, hsz, h0, hcx, _⟩ := x.ob
  have nfr : e ∉ (env :: outer).filterMap (·.frame) := fun hm => by
    obtain ⟨_, o, ho, hnf⟩ := hl.mem hm
    rw [he] at ho
    cases ho
    exact hnf vs hd
  refine wpAny_bind (wpAny_frameOf_fun hfr hl hf fun h₁ hs₁ => ?_)
  refine wpAny_bind (wpAny_entryPlaceOf fun pl hpl => ?_)
  unfold EntryCells.newEntry newFields
  refine wpAny_bind (wpAny_newObj_type ?_ (hpl.sizeOk5 _ _ _ _ _))
  have he₁ : h₁.get? e = some oe := (hs₁.2.1 e nfr).trans he
  generalize ho : ({ cls := .type "traceback", dict := none, data := .fields ([head, .ref L, .none, rawInt L, .none] ++ (if pl.isEmpty then List.replicate 6 Value.none else pl)).toArray } : Obj) = tr
  have htr : tr.data = .fields ([head, .ref L, .none, rawInt L, .none] ++ (if pl.isEmpty then List.replicate 6 Value.none else pl)).toArray := by rw [← ho]
  have he₂ : (h₁.push tr).get? e = some oe := Heap.get?_push_of_some _ he₁
  have hal : tr.alive = true := by rw [← ho]; rfl
  have hT₂ : (h₁.push tr).get? h₁.objs.size = some tr := by rw [← ho]; exact Heap.get?_push_size _ rfl
  have hTe : h₁.objs.size ≠ e := Nat.ne_of_gt (Heap.lt_size he₁)
  refine wpAny_setField he₂ hd hsz (h _ h₁.objs.size ⟨_, _, Heap.get?_update_self _ he₂ (Obj.isFreed_of_fields (Obj.data_mapFields hd _)), (Obj.cls_mapFields _ _).trans hc, ?_, Obj.data_mapFields hd _, ?_, ?_, (hcx.keep fun b o ws hb q hw h2 => ⟨o, ws, ?_, hw, h2⟩).set1, ?_, hTe, tr, _, ?_, htr, ?_⟩ ?_ ⟨fun b o hb hbe _ q => ?_, fun b o hb hbe _ q => ?_, fun o vs' q hd' => ?_⟩)
  · rw [← hdx]
    unfold Obj.mapFields
    split <;> rfl
  · rw [Array.size_setIfInBounds]; exact hsz
  · rw [Array.getElem?_setIfInBounds_ne (by decide)]; exact h0
  · have nb : b ∉ (env :: outer).filterMap (·.frame) := fun hm => by
      obtain ⟨_, o', ho', hnf⟩ := hl.mem hm
      rw [q] at ho'
      cases ho'
      exact hnf ws hw
    exact (Heap.get?_update_other _ _ (Ne.symm hb)).trans (Heap.get?_push_of_some _ ((hs₁.2.1 b nb).trans q))
  · simp [hsz]
  · exact (Heap.get?_update_other _ _ (Ne.symm hTe)).trans hT₂
  · simp
  · cases z : s.heap.get? h₁.objs.size with
    | none => rfl
    | some o =>
      obtain ⟨sl, q⟩ := hs₁.2.2 _ o z
      exact absurd (Heap.lt_size q) (Nat.lt_irrefl _)
  · exact (Heap.get?_update_other _ _ (Ne.symm hbe)).trans (Heap.get?_push_of_some _ ((hs₁.2.1 b hb).trans q))
  · obtain ⟨sl, q'⟩ := hs₁.2.2 b o q
    exact ⟨sl, (Heap.get?_update_other _ _ (Ne.symm hbe)).trans (Heap.get?_push_of_some _ q')⟩
  · rw [he] at q
    cases q
    rw [hd] at hd'
    cases hd'
    exact ⟨_, _, Heap.get?_update_self _ he₂ (Obj.isFreed_of_fields (Obj.data_mapFields hd _)), Obj.data_mapFields hd _, Array.getElem?_setIfInBounds_ne (by decide)⟩
/-- what of the trace is no new thing -/
def hdOf (T : Option (Addr × Value)) : Option Addr := T.map Prod.fst
theorem note_ {base : Heap} {env : Env} {outer : List Env} {L e : Addr} {C a0 : Value} {dx : Option Addr} {T : Option (Addr × Value)} {Q : Unit → Shared → Prop} (hfr : A.frames = some (env :: outer)) (hl : s.heap.FunFrames base (env :: outer)) (hf : env.frame = some L)
    (x : Xo s.heap e C dx a0 T) (hT : T = none ∨ ∃ t fl, T = some (t, fl) ∧ (fl = .none ∨ fl = rawInt L))
    (h : ∀ h' t, Xo h' e C dx a0 (some (t, rawInt L)) → (s.heap.get? t = none ∨ hdOf T = some t) → Chg (frs (env :: outer)) e (hdOf T) s.heap h' → Q () { s with heap := h' }) : wpAny M A (noteFrame (.ref e) env) Q E s := by
  unfold noteFrame
  simp only [hf]
  rcases hT with rfl | ⟨t, fl, rfl, rfl | rfl⟩
  · obtain ⟨oe, vs, he, hc, hdx, hd, hsz, h0, hcx, h1⟩ := x.ob
    refine wpAny_bind (wpAny_field he hd h1 ?_)
    rw [if_neg (by decide)]
    exact entry_ hfr hl hf x fun h' t xo hn => h h' t xo (.inl hn)
  rotate_left
  · obtain ⟨oe, vs, he, hc, hdx, hd, hsz, h0, hcx, h1, hte, oT, ts, hT, hdT, h3⟩ := id x.ob
    refine wpAny_bind (wpAny_field he hd h1 ?_)
    rw [if_pos (show (Value.ref t != Value.none) = true from by simp)]
    refine wpAny_bind (wpAny_field hT hdT h3 ?_)
    rw [if_pos (show (rawInt L == rawInt L) = true from by simp)]
    exact wpAny_pure (h s.heap t x (.inr rfl) ⟨fun b o _ _ _ q => q, fun b o _ _ _ q => ⟨o.slots, q⟩, fun o vs q hd => ⟨o, vs, q, hd, rfl⟩⟩)
  · obtain ⟨oe, vs, he, hc, hdx, hd, hsz, h0, hcx, h1, hte, oT, ts, hT, hdT, h3⟩ := x.ob
    refine wpAny_bind (wpAny_field he hd h1 ?_)
    rw [if_pos (show (Value.ref t != Value.none) = true from by simp)]
    refine wpAny_bind (wpAny_field hT hdT h3 ?_)
    rw [if_neg (show ¬ ((Value.none == rawInt L) = true) from by simp [rawInt])]
    refine wpAny_bind (wpAny_setField hT hdT (Array.getElem?_eq_some_iff.mp h3).1 ?_)
    have oth : ∀ b, b ≠ t → (s.heap.update t (Obj.mapFields (·.setIfInBounds 3 Value.none))).get? b = s.heap.get? b := fun b hb => Heap.get?_update_other _ _ (Ne.symm hb)
    have slf := Heap.get?_update_self (h := s.heap) (Obj.mapFields (·.setIfInBounds 3 Value.none)) hT (Obj.isFreed_of_fields (Obj.data_mapFields hdT _))
    have nfr : ∀ b o, s.heap.get? b = some o → (∀ vs, o.data ≠ .fields vs) → b ≠ t := fun b o hb hnf q => by
      rw [q, hT] at hb
      cases hb
      exact hnf ts hdT
    refine entry_ (s := { s with heap := s.heap.update t (Obj.mapFields (·.setIfInBounds 3 Value.none)) }) (T := some (t, .none)) hfr (hl.of_keeps fun b o hb hnf => ⟨o, (oth b (nfr b o hb hnf)).trans hb, rfl⟩) hf
      ⟨oe, vs, (oth e (Ne.symm hte)).trans he, hc, hdx, hd, hsz, h0, hcx.keep fun b o ws hb q hw h2 => ?_, h1, hte, _, _, slf, Obj.data_mapFields hdT _, ?_⟩ fun h' t' x' hn' c => h h' t' x' (.inl ?_) ⟨fun b o hb hbe hbT q => ?_, fun b o hb hbe hbT q => ?_, fun o vs' q hd' => c.ctx o vs' ((oth e (Ne.symm hte)).trans q) hd'⟩
    · by_cases z : b = t
      · subst z
        rw [hT] at q
        cases q
        rw [hdT] at hw
        cases hw
        exact ⟨_, _, slf, Obj.data_mapFields hdT _, by rw [Array.getElem?_setIfInBounds_ne (by decide)]; exact h2⟩
      · exact ⟨o, ws, (oth b z).trans q, hw, h2⟩
    · have := (Array.getElem?_eq_some_iff.mp h3).1
      simp [this]
    · by_cases z : t' = t
      · subst z
        rw [slf] at hn'
        cases hn'
      · exact (oth t' z).symm.trans hn'
    · have nt : b ≠ t := fun z => hbT (by rw [z]; rfl)
      exact c.keep b o hb hbe (by simp) ((oth b nt).trans q)
    · have nt : b ≠ t := fun z => hbT (by rw [z]; rfl)
      exact c.slot b o hb hbe (by simp) ((oth b nt).trans q)
/-- an exception leaves a frame -/
theorem leave_ {base : Heap} {env : Env} {outer : List Env} {L e : Addr} {C a0 : Value} {dx : Option Addr} {T : Option (Addr × Value)} {Q : Unit → Shared → Prop} (hfr : A.frames = some (env :: outer)) (hl : s.heap.FunFrames base (env :: outer)) (hf : env.frame = some L)
    (x : Xo s.heap e C dx a0 T) (hT : T = none ∨ ∃ t fl, T = some (t, fl) ∧ (fl = .none ∨ fl = rawInt L))
    (h : ∀ h' t, Xo h' e C dx a0 (some (t, .none)) → (s.heap.get? t = none ∨ hdOf T = some t) → Chg (frs (env :: outer)) e (hdOf T) s.heap h' → Q () { s with heap := h' }) : wpAny M A (leaving env (.ref e)) Q E s := by
  unfold leaving
  refine wpAny_bind (note_ hfr hl hf x hT fun h₁ t x₁ hn c => ?_)
  have bt : ∀ b o, hdOf T ≠ some b → s.heap.get? b = some o → b ≠ t := fun b o h1 q z => by
    rcases hn with hn | hn
    · rw [z, hn] at q; cases q
    · exact h1 (z ▸ hn)
  refine flight_ (s := { s with heap := h₁ }) (fr := none) x₁ fun h₂ x₂ k => h h₂ t x₂ hn ⟨fun b o hb hbe hbT q => ?_, fun b o hb hbe hbT q => ?_, fun o vs q hd => ?_⟩
  · exact k b o (bt b o hbT q) (c.keep b o hb hbe hbT q)
  · obtain ⟨sl, q'⟩ := c.slot b o hb hbe hbT q
    exact ⟨sl, k b _ (bt b o hbT q) q'⟩
  · obtain ⟨o', vs', q', hd', e'⟩ := c.ctx o vs q hd
    exact ⟨o', vs', k _ _ x₁.apart q', hd', e'⟩
end
omit [Dp] in
theorem ObjOk.thing {P : Program} {w : World} {H : Hp} {h : Heap} {a : Addr} {o : HO} (x : ObjOk P w H h a o) : ∃ u, h.get? a = some u := by
  cases o with
  | lst xs => obtain ⟨_, _, _, _, e⟩ := x; exact ⟨_, e⟩
  | tup xs => obtain ⟨_, _, _, o, e, _⟩ := x; exact ⟨_, e⟩
  | dK kvs => obtain ⟨_, _, _, _, o, _, _, e, _⟩ := x; exact ⟨_, e⟩
  | dT kvs => obtain ⟨_, _, _, _, o, _, _, e, _⟩ := x; exact ⟨_, e⟩
  | set S n => obtain ⟨o, _, _, _, e, _⟩ := x; exact ⟨_, e⟩
  | ins C dx fs => obtain ⟨_, _, _, e, _⟩ := x; exact ⟨_, e⟩
  | own y => obtain ⟨_, e⟩ := x; exact ⟨_, e⟩
  | xd fs => obtain ⟨_, ⟨_, _, _, e, _⟩, _⟩ := x; exact ⟨_, e⟩
  | rng lo hi => obtain ⟨_, _, _, e⟩ := x; exact ⟨_, e⟩
  | frz ob u => obtain ⟨e, _⟩ := x; exact ⟨_, e⟩
  | tbl ps => exact ⟨_, x⟩
  | met f y => exact ⟨_, x⟩
  | ext φ => obtain ⟨_, ⟨_, e⟩, _⟩ := x; exact ⟨_, e⟩
/-! ### an exception behind a call -/
/-- it flies: the exception and its trace's head are new since h0, and not tracked -/
def Fly (h0 : Heap) (H : Hp) (h : Heap) (ea : Addr) (C : Value) (dx : Option Addr) : Prop :=
  ∃ a0 t, Xo h ea C dx a0 (some (t, .none)) ∧ h0.get? ea = none ∧ h0.get? t = none ∧ H ea = none ∧ H t = none ∧ Uc H h ea
def CX1 (P : Program) (w : World) : CXT := fun outer H s E e s' => ∃ ea C dx H', e = .ref ea ∧ s'.os = s.os ∧ AllBare s'.gens ∧ Un (frs outer) [] H H' s.heap s'.heap ∧ HOk P w H' s'.heap ∧ Fly s.heap H' s'.heap ea C dx ∧ E C dx H'
section
variable {X : Cx} {pins : List (Addr × Obj)} {σ : St} {H H' : Hp} {s : Shared} {h' : Heap} {ea : Addr} {C a0 : Value} {dx : Option Addr} {T : Option (Addr × Value)}
omit [Dp] in
/-- behind the noting of an exception all that is tracked stands -/
theorem Inv.chg (I : Inv X pins σ H s) (c : Chg (frs X.stack) ea (hdOf T) s.heap h') (h1 : H ea = none) (h2 : ∀ t, hdOf T = some t → H t = none) : HOk X.prog X.w H h' := by
  intro b u q
  refine (I.hok b u q).stay (fun d v hc e => c.keep d v ?_ ?_ ?_ e) (fun _ z => z) fun _ _ z => z
  · intro z
    have := I.stkFree d z
    rcases hc with y | y
    · rw [y, q] at this; cases this
    · rw [this] at y; cases y
  · rintro rfl
    rcases hc with y | y
    · rw [y, q] at h1; cases h1
    · rw [h1] at y; cases y
  · intro z
    have := h2 d z
    rcases hc with y | y
    · rw [y, q] at this; cases this
    · rw [this] at y; cases y
/-- an exception, new since the entry, leaves this frame -/
theorem Inv.leaves {M : Model} {E : Value → Shared → Prop} {Q : Unit → Shared → Prop} (I : Inv X pins σ H s) (hs : X.stack = X.env :: X.outer) (hf : X.env.frame = some X.env.locals) (hex : X.ex = [])
    (x : Xo s.heap ea C dx a0 T) (hT : T = none ∨ ∃ t fl, T = some (t, fl) ∧ (fl = .none ∨ fl = rawInt X.env.locals)) (n1 : X.s₀.heap.get? ea = none) (n2 : ∀ t, hdOf T = some t → X.s₀.heap.get? t = none ∧ H t = none) (n3 : H ea = none) (uc : Uc H s.heap ea)
    (h : ∀ s' : Shared, s'.os = X.s₀.os → AllBare s'.gens → Un X.fs [] X.H₀ H X.s₀.heap s'.heap → HOk X.prog X.w H s'.heap → Fly X.s₀.heap H s'.heap ea C dx → Q () s') : wpAny M X.A (leaving X.env (.ref ea)) Q E s := by
  have fr := I.ok.frames
  have fu := I.stack
  rw [hs] at fr fu
  have ub := I.base
  rw [hex] at ub
  refine leave_ fr fu hf x hT fun h' t x' hn c => ?_
  rw [← hs] at c
  have ne : ∀ b o, X.s₀.heap.get? b = some o → b ≠ ea ∧ hdOf T ≠ some b ∧ b ≠ X.env.locals := fun b o q =>
    ⟨fun z => (by rw [z, n1] at q; cases q), fun z => (by rw [(n2 b z).1] at q; cases q), Nat.ne_of_lt (Nat.lt_of_lt_of_le (Heap.lt_size q) I.ok.above)⟩
  have hfs : frs X.stack = X.env.locals :: X.fs := by
    rw [hs]
    show List.filterMap _ _ = _
    rw [List.filterMap_cons, hf]
    rfl
  have hok := I.chg c n3 fun t z => (n2 t z).2
  have tn : H t = none := by
    rcases hn with hn | hn
    · cases q : H t with
      | none => rfl
      | some u =>
        obtain ⟨o, e⟩ := (I.hok t u q).thing
        rw [hn] at e
        cases e
    · exact (n2 t hn).2
  have ucn : Uc H h' ea := by
    obtain ⟨oe, vs, he, _, _, hd, _⟩ := x.ob
    exact c.uc uc he hd
  refine h _ I.os I.bare ⟨fun b o q n hb hx => ?_, fun b o q n hb hx => ?_, fun b o q n hx => ub.free b o q n hx, fun b o q hx => ?_, ub.tups, ub.frzs, ub.tbls⟩ hok ⟨a0, t, x', n1, ?_, n3, tn, ucn⟩
  · obtain ⟨y1, y2, y3⟩ := ne b o q
    exact c.keep b o (by rw [hfs]; simp [y3, hb]) y1 y2 (ub.keep b o q n hb hx)
  · obtain ⟨y1, y2, y3⟩ := ne b o q
    obtain ⟨sl, e⟩ := ub.slot b o q n hb hx
    obtain ⟨sl', e'⟩ := c.any y1 y2 e
    exact ⟨sl', e'⟩
  · obtain ⟨y1, y2, y3⟩ := ne b o q
    obtain ⟨o', e⟩ := ub.there b o q hx
    obtain ⟨sl', e'⟩ := c.any y1 y2 e
    exact ⟨_, e'⟩
  · rcases hn with hn | hn
    · cases q : X.s₀.heap.get? t with
      | none => rfl
      | some o =>
        obtain ⟨o', e⟩ := ub.there t o q (by simp)
        rw [hn] at e
        cases e
    · exact (n2 t hn).1
/-- this body wants of an exception, made here or come from a callee, what E says -/
def Thr (X : Cx) (E : XK) : Prop := ∀ (pins : List (Addr × Obj)) (σ : St) (H : Hp) (s : Shared) (ea : Addr) (C a0 : Value) (dx : Option Addr) (T : Option (Addr × Value)), Inv X pins σ H s → Xo s.heap ea C dx a0 T → (T = none ∨ ∃ t fl, T = some (t, fl) ∧ (fl = .none ∨ fl = rawInt X.env.locals)) →
  X.s₀.heap.get? ea = none → (∀ t, hdOf T = some t → X.s₀.heap.get? t = none ∧ H t = none) → H ea = none → (∀ p ∈ X.pn ++ pins, p.1 ≠ ea ∧ hdOf T ≠ some p.1) → Uc H s.heap ea → E C dx H → X.xe (.ref ea) s
omit [Dp] in
theorem Inv.old (I : Inv X pins σ H s) (hex : X.ex = []) {b : Addr} (h : s.heap.get? b = none) : X.s₀.heap.get? b = none := by
  cases q : X.s₀.heap.get? b with
  | none => rfl
  | some o =>
    obtain ⟨o', e⟩ := I.base.there b o q (by rw [hex]; simp)
    rw [h] at e
    cases e
omit [Dp] in
theorem Inv.unpin (I : Inv X pins σ H s) {b : Addr} (h : s.heap.get? b = none) : ∀ p ∈ X.pn ++ pins, p.1 ≠ b := fun p hp z => by
  have := (I.pin p hp).1
  rw [z, h] at this
  cases this
theorem Thr.passes {E : XK} (t : Thr X E) (hex : X.ex = []) : Passes (CX1 X.prog X.w) X E := by
  intro pins σ H s e s' I h
  obtain ⟨ea, C, dx, H', rfl, ho, hb, un, hok, ⟨a0, t', x, n1, n2, n3, n4, uc⟩, q⟩ := h
  exact t pins σ H' s' ea C a0 dx _ (I.call' ho un hok hb (fun b z => absurd z (by simp))) x (.inr ⟨_, _, rfl, .inl rfl⟩) (I.old hex n1) (fun t z => by cases z; exact ⟨I.old hex n2, n4⟩) n3 (fun p hp => ⟨I.unpin n1 p hp, fun z => I.unpin n2 p hp (Option.some.inj z).symm⟩) uc q
/-- a def's body: an exception leaves it -/
theorem thr_fn {P : Program} {w : World} {K : PySem.W.Frag} {mg : Str → Option Value} {base : Heap} {N : List Str} {qual : Str} {scope : Scope} {f : Addr} {cd : Value} {A : Around} {outer : List Env} {s₀ : Shared} {H₀ : Hp} {E : XK} :
    Thr (cxOf (CX1 P w) P w K mg base N qual scope f cd A outer s₀ H₀ E) E := by
  intro pins σ H s ea C a0 dx T I x hT n1 n2 n3 _ uc q
  exact I.leaves (X := cxOf (CX1 P w) P w K mg base N qual scope f cd A outer s₀ H₀ E) rfl rfl rfl x hT n1 n2 n3 uc fun s' ho hb un hok fl => ⟨ea, C, dx, H, rfl, ho, hb, un, hok, fl, q⟩
end
section
variable {P : Program} {w : World} {K : PySem.W.Frag} {mg : Str → Option Value} {base : Heap}
/-- THE RULE for a def that may raise -/
theorem Fun.okX {x qual : Str} {st : Stmt} {f : Addr} {fd : FuncData} {N ps : List Str} {k : Nat} {sp : Sp} (F : Fun K x qual st f fd) (S : FnScope N ps (defScope st)) (len : ∀ vs H Q E, sp vs H Q E → vs.length = ps.length)
    (hbody : ∀ (cdv : Value) (A : Around) (outer : List Env) (s : Shared) (H : Hp) (vs : List V) (Q : VK) (E : XK), Room k (A.deeper (envOfC qual (defScope st) s.heap.objs.size f cdv)) → sp vs H Q E →
      ∃ t, PSs (cxOf (CX1 P w) P w K mg base N qual (defScope st) f cdv A outer s H E) (defBody st) t ∧ t { nx := fun _ H' => Q .non H', rt := Q } (start N vs) H) : FnOk P w K mg base (CX1 P w) (k + 1) f fd ps sp := by
  obtain ⟨oc, od, kV, doc, pm, an, cdv, ct, osl, rfl, lk, hcd⟩ := F.ex
  exact fn_of lk hcd S len fun A outer s H vs Q E hr hsp => hbody cdv A outer s H vs Q E hr hsp
omit [Dp] in
/-- a def that never raises is one that may -/
theorem FnOk.up {k : Nat} {f : Addr} {fd : FuncData} {ps : List Str} {sp : Sp} {CX : CXT} (F : FnOk P w K mg base CX0 k f fd ps sp) : FnOk P w K mg base CX k f fd ps sp :=
  ⟨F.len, fun A outer s H args us vs Q E hr he hb hv hs => codeAny_mono (F.run A outer s H args us vs Q E hr he hb hv hs) fun r s' q => by
    cases r with
    | error e => exact False.elim q
    | ok fl => cases fl <;> exact q⟩
end
end L2

end
noncomputable section
namespace L2
open PySem PySem.Spec PyProof.Rows
/-! ### own classes of exceptions over ValueError -/
abbrev bmV : List Value := [.type "ValueError", .type "Exception", .type "BaseException", .type "object"]
section
variable {K : PySem.W.Frag} {h : Heap} {C : Addr} {bmB : List Value} {newId : String}
theorem exc_obj (X : K.In h) (q : PySem.W.excIn K C bmB newId = true) : ∃ bm N nm q bs hdct sn sub ab col dd k0 k1 k2 k3 k5 mN, h.get? C = some (excClassObj nm q C N bs bm hdct sn sub ab col dd k0 k1 k2 k3 k5 newId) ∧ h.Ns N mN ∧ mN "__init__" = none ∧ OwnTail h bmB bm := by
  unfold PySem.W.excIn at q
  split at q
  · rename_i dd cd sl ho
    split at q
    · rename_i C' bm k0 k1 k2 k3 n k5 hm hs
      simp only [Bool.and_eq_true, beq_iff_eq, Bool.not_eq_true'] at q
      obtain ⟨⟨⟨⟨⟨rfl, rfl⟩, hdel⟩, ht⟩, hok⟩, hni⟩ := q
      obtain ⟨nm, bs, mro, ns, qn, hd, sn, sub, ab, col, del⟩ := cd
      dsimp only at hm hdel hok hni
      subst hm hdel
      have hsl : sl = #[k0, k1, k2, k3, some (.builtin n), k5] := by
        obtain ⟨l⟩ := sl
        simp only at hs
        rw [hs]
      subst hsl
      exact ⟨bm, ns, nm, qn, bs, hd, sn, sub, ab, col, dd, k0, k1, k2, k3, k5, _, X _ _ ho, .of_isNs (PySem.W.isNs_of_in X hok), PySem.W.nsMap_none_of_in X hok hni, PySem.W.tail_of_in X ht⟩
    · cases q
  · cases q
/-- the same with a def __init__ of its own -/
def excInI (K : PySem.W.Frag) (C : Addr) (bmB : List Value) (newId : String) (fI : Addr) : Bool := match K.lookup C with
  | some ⟨.type "type", _, .cls cd, sl⟩ => (match cd.mro, sl.toList with
    | .ref C' :: bm, [_, _, _, _, some (.builtin n), _] => C' == C && n == newId && !cd.hasDel && PySem.W.tailIn K bmB bm && PySem.W.nsOkIn K cd.ns && PySem.W.nsIn K cd.ns "__init__" == some (some (.ref fI))
    | _, _ => false)
  | _ => false
theorem ns_some_of {N : Addr} {mg : Str → Option Value} {n : Str} {v : Value} (X : K.In h) (G : h.Ns N mg) (e : PySem.W.nsIn K N n = some (some v)) : mg n = some v := by
  obtain ⟨o, es, ep, ho, hd, _, hf⟩ := G
  unfold PySem.W.nsIn at e
  split at e
  · rename_i c d es' n' sl q
    have := X _ _ q
    rw [ho] at this
    cases this
    cases hd
    split at e
    · rename_i en he
      cases e
      rw [← hf]
      unfold nsFind findBy
      rw [← Array.find?_toList, he]
      rfl
    · split at e <;> cases e
  · cases e
theorem exc_objI {fI : Addr} (X : K.In h) (q : excInI K C bmB newId fI = true) : ∃ bm N nm q bs hdct sn sub ab col dd k0 k1 k2 k3 k5 mN, h.get? C = some (excClassObj nm q C N bs bm hdct sn sub ab col dd k0 k1 k2 k3 k5 newId) ∧ h.Ns N mN ∧ mN "__init__" = some (.ref fI) ∧ OwnTail h bmB bm := by
  unfold excInI at q
  split at q
  · rename_i dd cd sl ho
    split at q
    · rename_i C' bm k0 k1 k2 k3 n k5 hm hs
      simp only [Bool.and_eq_true, beq_iff_eq, Bool.not_eq_true'] at q
      obtain ⟨⟨⟨⟨⟨rfl, rfl⟩, hdel⟩, ht⟩, hok⟩, hni⟩ := q
      obtain ⟨nm, bs, mro, ns, qn, hd, sn, sub, ab, col, del⟩ := cd
      dsimp only at hm hdel hok hni
      subst hm hdel
      have hsl : sl = #[k0, k1, k2, k3, some (.builtin n), k5] := by
        obtain ⟨l⟩ := sl
        simp only at hs
        rw [hs]
      subst hsl
      exact ⟨bm, ns, nm, qn, bs, hd, sn, sub, ab, col, dd, k0, k1, k2, k3, k5, _, X _ _ ho, .of_isNs (PySem.W.isNs_of_in X hok), ns_some_of X (.of_isNs (PySem.W.isNs_of_in X hok)) hni, PySem.W.tail_of_in X ht⟩
    · cases q
  · cases q
end
/-! ### raise C(..), C without an __init__ of its own -/
section
variable [Dp] {X : Cx}
theorem Xo.made {h h' : Heap} {e : Addr} {C : Value} {args : List Value} (m : Heap.MadeExcOf h h' e C args) : ∃ t, Xo h' e C none (.ref t) none := by
  obtain ⟨t, he, _, _⟩ := m.there
  exact ⟨t, ⟨_, _, he, rfl, rfl, rfl, by show 1 < 6; decide, rfl, .inl rfl, rfl⟩⟩
omit [Dp] in
theorem Uc.made {H : Hp} {h h' : Heap} {e : Addr} {C : Value} {args : List Value} (m : Heap.MadeExcOf h h' e C args) : Uc H h' e := fun o vs e1 q hd z => by
  obtain ⟨t, he, _, _⟩ := m.there
  rw [he] at q
  cases q
  cases hd
  cases z
def tRaise (C : Addr) (E : XK) (ta : TA) : TS := fun _ σ H => ta σ H fun vs H1 => vs.length ≤ sizeLine ∧ E (.ref C) none H1
theorem ps_raise {E : XK} {C : Addr} {x : Str} {np cpos pos : Pos} {e : Expr} {es : List Expr} {ta : TA} (th : Thr X E) (hex : X.ex = []) (hc : X.calm = true) (q : PySem.W.excIn X.K C bmV "ValueError.__new__" = true) (hg : Gl X x) (hm : X.mg x = some (.ref C))
    (ha : PA X (e :: es) ta) (hdb : (x == ("__debug__" : Str)) = false := by decide) (he : starEach (e :: es) X.env = (false, eval e X.env) :: starEach es X.env := by rfl) (hpl : (backTo cpos (starEach es X.env)).any (·.1) = false := by rfl) :
    PS X (.Raise (some (.Call (.Name x np) (e :: es) [] cpos)) none pos) (tRaise C E ta) := by
  intro pins s σ H D I h
  obtain ⟨bm, N, nm, q', bs, hdct, sn, sub, ab, col, dd, k0, k1, k2, k3, k5, mN, hC, hN, hni, T⟩ := exc_obj I.mod.kin q
  have hpl' : (backTo cpos (starEach (e :: es) X.env)).any (·.1) = false := by
    rw [he]
    show (false || (backTo cpos (starEach es X.env)).any (·.1)) = false
    rw [hpl]; rfl
  refine wpAny_Raise_call_subT (mN := mN) (C := C) (nm := nm) (q := q') (N := N) (bs := bs) (bm := bm) (hdct := hdct) (sn := sn) (sub := sub) (ab := ab) (col := col) (dd := dd) (k0 := k0) (k1 := k1) (k2 := k2) (k3 := k3) (k5 := k5) PySem.F.excBase_ValueError (T.hasType (by decide)) (I.ok.hd hc) hpl' hni (ld_glob I hg hm ⟨rfl, ?_⟩ hdb)
  have z := ha cpos pins s σ H _ I h
  rw [he] at z ⊢
  refine Calls.evalArgs_plain (thn z fun us s2 ⟨vs, H2, I2, r, hl, qE⟩ => ?_)
  refine ⟨rfl, ?_, I2.bk _ _ hC, hN.keeps I2.bk, T.keeps I2.bk, fun h' ea m => ?_⟩
  · show us.length ≤ _
    rw [← r.length]; exact hl
  · obtain ⟨t, xo⟩ := Xo.made m
    have I3 : Inv X pins σ H2 { s2 with heap := h' } := I2.kept (t' := s2.toks) m.keeps
    refine th pins σ H2 _ ea _ _ none none I3 xo (.inl rfl) (I2.old hex m.new) (fun t z => nomatch z) ?_ (fun p hp => ⟨I2.unpin m.new p hp, fun z => nomatch z⟩) (Uc.made m) qE
    exact (by
      cases z : H2 ea with
      | none => rfl
      | some u =>
        obtain ⟨o, e⟩ := (I2.hok ea u z).thing
        rw [m.new] at e
        cases e)
end
end L2

end
noncomputable section
namespace PySem
open Sem (wp)
section
variable {prog : Program} {w : World} {A : Around} {E : Value → Shared → Prop} {h : Heap} {g : Array GenState} {d : Drawn} {t : Nat} {os : OsState}
variable {nm q : Str} {C N : Addr} {bs bm bmB : List Value} {hdct : Bool} {sn : List Str} {sub : List Value} {ab : Bool} {col : Option Bool} {dd : Option Addr} {k0 k1 k2 k3 k5 : Option Value} {B newId initId : String}
theorem type_call_initT (F : ExcBaseFacts B newId initId bmB) (T : OwnTail h bmB bm) {mN : Str → Option Value} {rest : List Value} {fI : Addr} {oI : Obj} {Q : Fin → Shared → Prop}
    (hC : h.get? C = some (excClassObj nm q C N bs bm hdct sn sub ab col dd k0 k1 k2 k3 k5 newId)) (hn : h.Ns N mN) (hi : mN "__init__" = some (.ref fI))
    (hfI : h.get? fI = some oI) (hfc : oI.cls = .type "function")
    (hq : ∀ h' e, Heap.MadeExcOf h h' e (.ref C) rest →
      wpAny (model prog w) A (call (.ref fI) (.ref e :: rest)) (fun r s' => r = .none ∧ Q (.done (.ret (.ref e))) s') E ⟨h', g, d, t, os⟩) (hrest : rest.length ≤ sizeLine) :
    wpAny (model prog w) A (Builtin.«type.__call__» ⟨.ref C :: rest, []⟩) Q E ⟨h, g, d, t, os⟩ := by
  repeat (first | with_reducible refine wpAny_loadPart_at hC ?_ | with_reducible refine wpAny_madeBy_exc hC ?_ | wp_step)
  refine codeAny_call_builtin_code (Code.quiet_builtin _ F.quiet) (wpAny_check_new_subT F T hC ?_)
  refine codeAny_exc_new_subT F T hC ?_ hrest
  show wpAny _ _ _ _ _ _
  have hC₁ := Heap.get?_push_of_some { cls := .ref C, data := .fields #[.ref h.objs.size, .none, .none, .none, .bool false, .none] }
    (Heap.get?_push_of_some { cls := .type "tuple", data := .seq rest.toArray } hC)
  have hfI₁ := Heap.get?_push_of_some { cls := .ref C, data := .fields #[.ref h.objs.size, .none, .none, .none, .bool false, .none] }
    (Heap.get?_push_of_some { cls := .type "tuple", data := .seq rest.toArray } hfI)
  have hn₁ : ((h.push { cls := .type "tuple", data := .seq rest.toArray }).push { cls := .ref C, data := .fields #[.ref h.objs.size, .none, .none, .none, .bool false, .none] }).Ns N mN :=
    let ⟨o, es, ep, e, r⟩ := hn; ⟨o, es, ep, Heap.get?_push_of_some _ (Heap.get?_push_of_some _ e), r⟩
  have hget : ((h.push { cls := .type "tuple", data := .seq rest.toArray }).push
      { cls := .ref C, data := .fields #[.ref h.objs.size, .none, .none, .none, .bool false, .none] }).get? (h.objs.size + 1) = some
      { cls := .ref C, data := .fields #[.ref h.objs.size, .none, .none, .none, .bool false, .none] } := by heap_get
  have hcC : (Value.ref C :: bm).contains (.ref C) = true := by simp
  have T₁ := T.keeps (h' := (h.push { cls := .type "tuple", data := .seq rest.toArray }).push { cls := .ref C, data := .fields #[.ref h.objs.size, .none, .none, .none, .bool false, .none] })
    fun b o e => Heap.get?_push_of_some _ (Heap.get?_push_of_some _ e)
  unfold isInstance
  repeat (first | with_reducible refine wpAny_loadPart_at hget ?_ | (with_reducible refine wpAny_isSubtype_exc hC₁ ?_; rw [hcC]) | wp_step)
  show wpAny _ _ (typeLookup (.ref C) _) _ _ _
  refine wpAny_typeLookup_tail hC₁ hn₁ T₁ F.mroIs F.init.lookup ?_
  rw [hi]
  refine wpAny_holding (wpAny_bind ?_)
  unfold bindSpecial
  refine wpAny_bind (wpAny_typeOf (T := "function") ⟨_, hfI₁, hfc⟩ ?_)
  rw [if_pos (by decide)]
  refine wpAny_pure (wpAny_bind (wpAny_mono (hq _ (h.objs.size + 1) ⟨fun b o hb => Heap.get?_push_of_some _ (Heap.get?_push_of_some _ hb), Heap.get?_none_of_le (Nat.le_succ _), h.objs.size, hget, Heap.get?_none_of_le (Nat.le_refl _), ?_⟩) (fun r s' hr => ?_) fun _ _ x => x))
  · exact Heap.get?_push_of_some _ (Heap.get?_push_at rfl rfl)
  · obtain ⟨rfl, hQ⟩ := hr
    wp_walk
    exact hQ
theorem call_initT (F : ExcBaseFacts B newId initId bmB) (T : OwnTail h bmB bm) {mN : Str → Option Value} {rest : List Value} {fI : Addr} {oI : Obj} {Q : Value → Shared → Prop}
    (hC : h.get? C = some (excClassObj nm q C N bs bm hdct sn sub ab col dd k0 k1 k2 k3 k5 newId)) (hn : h.Ns N mN) (hi : mN "__init__" = some (.ref fI))
    (hfI : h.get? fI = some oI) (hfc : oI.cls = .type "function")
    (hq : ∀ h' e, Heap.MadeExcOf h h' e (.ref C) rest →
      wpAny (model prog w) (A.under (.builtin "type.__call__" ⟨.ref C :: rest, []⟩)) (call (.ref fI) (.ref e :: rest)) (fun r s' => r = .none ∧ Q (.ref e) s') E ⟨h', g, d, t, os⟩) (hrest : rest.length ≤ sizeLine) :
    wpAny (model prog w) A (call (.ref C) rest) Q E ⟨h, g, d, t, os⟩ := by
  have f1 := tc_lookup
  have f2 := tc_bind (.ref C)
  have hT : (⟨h, g, d, t, os⟩ : Shared).TypeIs (.ref C) "type" := ⟨_, hC, rfl⟩
  refine wpAny_call (codeAny_of_tree ?_)
  show wpAny _ _ (callAny (.ref C) _) _ _ _
  repeat (any_goals (first | assumption | with_reducible refine wpAny_loadPart_at hC ?_ | wp_step))
  refine ⟨rfl, ?_⟩
  refine codeAny_call_builtin_at (Code.quiet_builtin _ (by decide +kernel)) entry_typeCall (wpAny_check_type_call_sub hC (type_call_initT F T hC hn hi hfI hfc (fun h' e hm => ?_) hrest))
  exact hq h' e hm
end
section
variable {M : Model} {A : Around} {E : Value → Shared → Prop} {env : Env}
variable {nm q : Str} {C N : Addr} {bs bm : List Value} {hdct : Bool} {sn : List Str} {sub : List Value} {ab : Bool} {col : Option Bool} {dd : Option Addr} {k0 k1 k2 k3 k5 : Option Value} {newId : String}
theorem raiseStmt_made {s : Shared} {x : Sem Value} {Q : Flow → Shared → Prop} (hbase : bm.contains (.type "BaseException") = true) (hh : A.handled = none)
    (h : wpAny M A x (fun v s₁ => ∃ e a0 dx, v = .ref e ∧ s₁.heap.get? C = some (excClassObj nm q C N bs bm hdct sn sub ab col dd k0 k1 k2 k3 k5 newId) ∧
      s₁.heap.get? e = some { cls := .ref C, dict := dx, data := .fields #[a0, .none, .none, .none, .bool false, .none] } ∧ E (.ref e) s₁) E s) :
    wpAny M A (raiseStmt env (some x) none) Q E s := by
  have hcB : (Value.ref C :: bm).contains (.type "BaseException") = true := by rw [List.contains_cons, hbase, Bool.or_true]
  unfold raiseStmt
  refine wpAny_bind (wpAny_mono h (fun v s₁ h₁ => ?_) fun _ _ x => x)
  obtain ⟨e, a0, dx, rfl, hC, he, hE⟩ := h₁
  obtain ⟨hp, g, d, tk, os⟩ := s₁
  repeat (first | with_reducible refine wpAny_loadPart_at he ?_ | with_reducible refine wpAny_loadPart_at hC ?_ | (with_reducible refine wpAny_isSubtype_exc hC ?_; rw [hcB]) | wp_step)
  exact wpAny_raiseNew_none hh hE
/-- a class of one's own catches what is under it -/
theorem excMatches_under {nm' q' : Str} {R N' : Addr} {bs' bm' : List Value} {hdct' : Bool} {sn' : List Str} {sub' : List Value} {ab' : Bool} {col' : Option Bool} {dd' : Option Addr} {k0' k1' k2' k3' k5' : Option Value} {newId' : String}
    {h : Heap} {g : Array GenState} {d : Drawn} {t : Nat} {os : OsState} {e : Addr} {oe : Obj} {b : Bool} {Q : Bool → Shared → Prop}
    (hC : h.get? C = some (excClassObj nm q C N bs bm hdct sn sub ab col dd k0 k1 k2 k3 k5 newId))
    (hR : h.get? R = some (excClassObj nm' q' R N' bs' bm' hdct' sn' sub' ab' col' dd' k0' k1' k2' k3' k5' newId'))
    (he : h.get? e = some oe) (hcls : oe.cls = .ref C) (hbase : bm'.contains (.type "BaseException") = true) (hin : (Value.ref C :: bm).contains (.ref R) = b)
    (hq : Q b ⟨h, g, d, t, os⟩) : wpAny M A (excMatches (.ref e) (.ref R)) Q E ⟨h, g, d, t, os⟩ := by
  have hcB : (Value.ref R :: bm').contains (.type "BaseException") = true := by rw [List.contains_cons, hbase, Bool.or_true]
  have f := tc_notTuple
  unfold excMatches
  cases b <;>
  · repeat (first | (with_reducible refine wpAny_loadPart_at he ?_; rw [hcls]) | with_reducible refine wpAny_loadPart_at hR ?_ | (with_reducible refine wpAny_isSubtype_exc hR ?_; rw [hcB]) | (with_reducible refine wpAny_isSubtype_exc hC ?_; rw [hin]) | wp_step)
    exact hq
end
end PySem

end
noncomputable section
namespace PySem.W
open PySem PySem.Calls PyProof.Rows Builtin Builtin.ObjectAttr
/-- what an own class of exceptions has -/
structure ExcK (K : Frag) (C : Addr) : Prop where
  ga : findIn K (.ref C) "__getattribute__" = some (some (.builtin "BaseException.__getattribute__"))
  hk : findIn K (.ref C) "__getattr__" = some none
  bx : mroIn K C (.type "BaseException") = some true
  ob : mroIn K C (.type "object") = some true
  hd : hasDictIn K C = true
  ca : findIn K (.ref C) "__class__" = some (some (.builtin "object.__class__"))
  cn : specialIn K (.builtin "object.__class__") "__get__" = some (some (.builtin "getset_descriptor.__get__"))
  ct : takesIn K (.builtin "object.__class__") = some true
section
variable {prog : Program} {w : World} {A : Around} {E : Value → Shared → Prop} {s : Shared} {K : Frag} {x C : Addr} {ox : Obj} {od : Option Obj} {name : Str} {tk : Tok} {fill expr : Bool} {Q : Value → Shared → Prop}
theorem exc_open {r : Found} (X : K.In s.heap) (I : InstAt s.heap x ox C od) (k : ExcK K C) (e : findObj K C od name = some r)
    (h : wpAny (model prog w) A.in1 (match r with | .value v => (ret v : Sem Fin) | .bind g a => bindTo g a (.ref x) (.ref C) | .missing => unsupported "x")
      (fun fin s' => match fin with | .done (.ret v) => wpAny (model prog w) A (handedOut v) Q E s' | _ => False) (fun _ _ => False) s) (hm : r ≠ .missing) :
    wpAny (model prog w) A (getAttrBy (.ref x) (.str name tk) fill expr) Q E s := by
  have FB := PySem.F.attr_ValueError
  unfold getAttrBy
  refine wpAny_holding (wpAny_bind (I.type.here (wpAny_bind ((looks_findIn X k.ga).here ?_))))
  dsimp only
  rw [show (onTheHeap (Value.ref C) && Value.builtin "BaseException.__getattribute__" == Value.builtin "object.__getattribute__") = false from by rw [show (Value.builtin "BaseException.__getattribute__" == Value.builtin "object.__getattribute__") = false from by decide +kernel, Bool.and_false], if_neg (by decide)]
  unfold getAttrByItsOwn
  refine wpAny_bind ((looks_hook X (mc := .ref C) (r := none) (by rw [if_pos (show onTheHeap (Value.ref C) = true from rfl)]; exact k.hk)).here (wpAny_bind (wpAny_attempt (wpAny_holding ?_))))
  unfold callGetattribute
  rw [show (expr && onTheHeap (Value.builtin "BaseException.__getattribute__")) = false from Bool.and_false _, if_neg (by decide)]
  unfold boundAndCalled
  rw [FB.ga.bind]
  refine wpAny_bind (wpAny_pure ?_)
  show wpAny _ _ (call (.builtin "BaseException.__getattribute__") [.ref x, .str name tk]) _ _ _
  refine wpAny_call (codeAny_call_builtin FB.ga.plain F.entry_bexc_ga (@check_slot (model prog w) _ _ s "BaseException.__getattribute__" "BaseException" "__getattribute__" (.ref x) [.str name tk] [] _ (by decide +kernel) (by decide +kernel) (I.type.andThen (looks_mroIn X k.bx)) (F.args_bexc_ga _ _) ?_))
  unfold Builtin.«object.__getattribute__»
  refine wpAny_bind (wpAny_pure (wpAny_bind (wpAny_pure (wpAny_bind (I.type.here (wpAny_bind ((looks_find X I e).here ?_)))))))
  cases r with
  | missing => exact absurd rfl hm
  | value v =>
    refine wpAny_mono h (fun fin s' z => ?_) fun _ _ z => z.elim
    rcases fin with (_ | _ | _ | _) | _ <;> first | exact z | exact z.elim
  | bind g a =>
    refine wpAny_mono h (fun fin s' z => ?_) fun _ _ z => z.elim
    rcases fin with (_ | _ | _ | _) | _ <;> first | exact z | exact z.elim
/-- e.name, where e's own dict has it and no class has -/
theorem exc_value {v : Value} (X : K.In s.heap) (I : InstAt s.heap x ox C od) (k : ExcK K C) (e : findObj K C od name = some (.value v)) (hh : handedIn v = true) (h : Q v { s with toks := s.toks + 1 }) :
    wpAny (model prog w) A (getAttr (.ref x) name expr) Q E s := by
  unfold getAttr
  refine wpAny_bind (wpAny_mkText (exc_open (s := { s with toks := s.toks + 1 }) X I k e (wpAny_pure ?_) (by simp)))
  show wpAny _ _ (handedOut v) _ _ _
  rw [handedOut_of hh]
  exact wpAny_pure h
theorem exc_class {Q : Option Value → Shared → Prop} (X : K.In s.heap) (I : InstAt s.heap x ox C od) (k : ExcK K C) (h : Q (some (.ref C)) { s with toks := s.toks + 1 }) :
    wpAny (model prog w) A (getAttr? (.ref x) "__class__") Q E s := by
  have hf : findObj K C od "__class__" = some (.bind (.builtin "getset_descriptor.__get__") (.builtin "object.__class__")) := by
    obtain ⟨cd, hc, _⟩ := any_some k.hd
    unfold findObj
    rw [hc, Option.bind_some, k.ca, Option.bind_some]
    dsimp only
    rw [k.cn, Option.bind_some]
    dsimp only
    rw [k.ct]
    rfl
  unfold getAttr? getAttrBy?
  refine wpAny_bind (wpAny_mkText (wpAny_bind (wpAny_attempt (exc_open (s := { s with toks := s.toks + 1 }) X I k hf ?_ (by simp)))))
  refine wpAny_bind (wpAny_holding ?_)
  exact wpAny_call (class_get (s := { s with toks := s.toks + 1 }) (ox := ox) (od := od) X I k.ob (wpAny_pure (handed_on rfl (wpAny_pure h))))
theorem kitx_exc (k : ExcK K C) : KitX K (.ref x) (.ref C) (fun h => InstAt h x ox C od) where
  ty := fun _ _ _ I => I.type
  it := fun _ _ X _ => by
    obtain ⟨cdD, hcD, _⟩ := any_some k.hd
    unfold clsIn at hcD
    split at hcD
    · rename_i c' d' cd' sl' ho
      intro A' Q' E' s' k q
      unfold isType loadHead
      exact wpAny_bind (wpAny_loadPart (k _ _ (X _ _ ho)) (wpAny_pure q))
    · cases hcD
  ne := fun h tp dd its n sl X htp => by
    obtain ⟨cdD, hcD, _⟩ := any_some k.hd
    refine Bool.eq_false_iff.mpr fun q => ?_
    have e : C = tp := Value.ref.inj (beq_iff_eq.mp q)
    subst e
    unfold clsIn at hcD
    split at hcD
    · rename_i c' d' cd' sl' ho
      have z := (X _ _ ho).symm.trans htp
      cases z
    · cases hcD
  ca := fun X I q => exc_class X I k q
end
end PySem.W

end
noncomputable section
namespace PySem.W
open PySem PySem.Calls PyProof.Rows Builtin Builtin.ObjectAttr
def lackIn (K : Frag) (C R : Addr) : Bool := (clsIn K C).any fun cd => cd.mro == ([.ref C, .ref R, .type "ValueError", .type "Exception", .type "BaseException", .type "object"] : List Value) && cd.hasDict
section
variable {prog : Program} {w : World} {A : Around} {E : Value → Shared → Prop} {s : Shared} {K : Frag} {x C : Addr} {name : Str}
theorem exc_set {vs : Array Value} {R : Addr} {u : Value} {Q : Unit → Shared → Prop} (X : K.In s.heap) (hx : s.heap.get? x = some { cls := .ref C, dict := none, data := .fields vs }) (hs : findIn K (.ref C) "__setattr__" = some (some (.builtin "object.__setattr__")))
    (hl : lackIn K C R = true) (hf : findIn K (.ref C) name = some none)
    (h : ∀ h' d tk, h'.Ns1 d (fun y => if y = name then some u else none) → s.heap.objs.size ≤ d → h'.get? x = some { cls := .ref C, dict := some d, data := .fields vs } → (∀ b o, b ≠ x → s.heap.get? b = some o → h'.get? b = some o) → Q () { s with heap := h', toks := tk }) :
    wpAny (model prog w) A (setAttr (.ref x) name u) Q E s := by
  obtain ⟨hh, g, dr, tk0, os⟩ := s
  dsimp only at hx X h
  have SF := PySem.F.store_ValueError
  have I : InstAt hh x _ C none := ⟨hx, rfl, rfl, trivial⟩
  obtain ⟨cd, hc, hmd⟩ := any_some hl
  simp only [Bool.and_eq_true, beq_iff_eq] at hmd
  refine set_plain X I hs ?_
  have sub : Looks (model prog w) hh (isInstance (.ref x) (.type "object")) true := I.type.andThen (looks_mroIn X (by unfold mroIn; rw [hc, Option.bind_some, hmd.1]; rfl))
  refine codeAny_call_builtin SF.slot.plain SF.entry (@check_slot (model prog w) _ _ ⟨hh, g, dr, tk0 + 1, os⟩ "object.__setattr__" "object" "__setattr__" (.ref x) [.str name tk0, u] [] _ SF.kind SF.split sub (SF.args (.ref x) (.str name tk0) u) ?_)
  rw [osa_eq, refuse_eq]
  have hm : Looks (model prog w) hh (mroOf (.ref C)) cd.mro := (looks_clsIn X hc).andThen .now
  refine wpAny_bind (wpAny_bind (I.type.at (wpAny_bind (hm.at ?_))))
  rw [hmd.1, refuseLoop_ref, refuseLoop_ref, SF.passes]
  refine wpAny_pure (wpAny_bind (I.type.at (wpAny_bind ((looks_findIn X hf).at (wpAny_bind (wpAny_pure ?_))))))
  refine wpAny_bind (wpAny_pure (wpAny_bind (wpAny_bind (wpAny_loadPart hx (wpAny_bind ((looks_clsIn X hc).at ?_))))))
  rw [hmd.2]
  have hx₁ : (hh.push { cls := .type "dict", data := .dict #[] }).get? x = some { cls := .ref C, dict := none, data := .fields vs } := Heap.get?_push_of_some _ hx
  have hxs : x ≠ hh.objs.size := Nat.ne_of_lt (Heap.lt_size hx)
  refine wpAny_bind (wpAny_alloc' ?_)
  refine wpAny_bind (wpAny_update' hx₁ ?_)
  refine wpAny_pure (a := some hh.objs.size) ?_
  have hgd : ((hh.push { cls := .type "dict", data := .dict #[] }).update x fun o => { cls := o.cls, dict := some hh.objs.size, data := o.data, slots := o.slots }).get? hh.objs.size = some { cls := .type "dict", data := .dict #[] } :=
    (Heap.get?_update_ne _ _ _ _ hxs.symm).trans (Heap.get?_push_at rfl rfl)
  have hnd : ((hh.push { cls := .type "dict", data := .dict #[] }).update x fun o => { cls := o.cls, dict := some hh.objs.size, data := o.data, slots := o.slots }).Ns hh.objs.size (fun _ => none) :=
    ⟨_, #[], _, hgd, rfl, fun e he => absurd he (by simp), fun _ => rfl⟩
  show wpAny _ _ (storeInDict hh.objs.size (.str name tk0) name u) _ _ _
  unfold storeInDict newKeyGuard
  refine wpAny_bind (wpAny_pure (wpAny_bind (wpAny_nsSet1 (Heap.Ns1.of_empty hnd) fun h' hn' hs => ?_)))
  obtain ⟨oD, esD, epD, hoD, hdD, hcD⟩ := hn'.count (Within.cons name u Within.nil)
  refine wpAny_bind (wpAny_lookBehind hoD (by rw [hdD]; exact pastItsLine_dict (Nat.le_trans hcD (by rw [List.length_cons, List.length_nil, sizeLine_eq]; omega))) ?_)
  refine wpAny_pure (h h' hh.objs.size _ hn' (Nat.le_refl _) ?_ fun b ob hbx hb => ?_)
  · exact (hs.2 x hxs).trans (Heap.get?_update_self _ hx₁ rfl)
  · exact (hs.2 b (Nat.ne_of_lt (Heap.lt_size hb))).trans ((Heap.get?_update_ne _ _ _ _ hbx).trans (Heap.get?_push_of_some _ hb))
end
end PySem.W

end
noncomputable section
namespace L2
open PySem PySem.Spec PyProof.Rows
/-! ### a new exception, a caught one: tracked -/
def XcO (e C : Addr) (dx : Option Addr) : HO := .ext fun h => ∃ a0 : Addr, h.get? e = some { cls := .ref C, dict := dx, data := .fields #[.ref a0, .none, .none, .none, .bool false, .none] }
def CaO (e C : Addr) (dx : Option Addr) : HO := .ext fun h => ∃ vs sl, h.get? e = some { cls := .ref C, dict := dx, data := .fields vs, slots := sl }
section
variable {P : Program} {w : World} {H : Hp} {h : Heap} {e C : Addr} {dx : Option Addr}
theorem xc_ok {a0 : Addr} (q : h.get? e = some { cls := .ref C, dict := dx, data := .fields #[.ref a0, .none, .none, .none, .bool false, .none] }) : ObjOk P w H h e (XcO e C dx) := ⟨⟨_, q⟩, ⟨_, q⟩, fun _ _ ⟨a, z⟩ k => ⟨a, k _ z⟩⟩
theorem ca_ok {vs : Array Value} {sl : Array (Option Value)} (q : h.get? e = some { cls := .ref C, dict := dx, data := .fields vs, slots := sl }) : ObjOk P w H h e (CaO e C dx) := ⟨⟨_, _, q⟩, ⟨_, q⟩, fun _ _ ⟨a, b, z⟩ k => ⟨a, b, k _ z⟩⟩
theorem xc_get (ok : HOk P w H h) (q : H e = some (XcO e C dx)) : ∃ a0 : Addr, h.get? e = some { cls := .ref C, dict := dx, data := .fields #[.ref a0, .none, .none, .none, .bool false, .none] } := (show ObjOk P w H h e (XcO e C dx) from ok e _ q).1
theorem ca_get (ok : HOk P w H h) (q : H e = some (CaO e C dx)) : ∃ vs sl, h.get? e = some { cls := .ref C, dict := dx, data := .fields vs, slots := sl } := (show ObjOk P w H h e (CaO e C dx) from ok e _ q).1
end
theorem upd_self {H : Hp} {a : Addr} {o : HO} (h : H a = some o) : upd H a o = H := by
  funext b
  unfold upd
  split
  · rename_i e; subst e; exact h.symm
  · rfl
def del (H : Hp) (e : Addr) : Hp := fun b => if b = e then none else H b
theorem del_same {H : Hp} {e : Addr} : del H e e = none := if_pos rfl
theorem del_ne {H : Hp} {e b : Addr} (h : b ≠ e) : del H e b = H b := if_neg h
section
variable {X : Cx} {pins : List (Addr × Obj)} {σ : St} {H H' : Hp} {s : Shared} {h' : Heap} {a e : Addr} {o : HO}
theorem HOk.free {P : Program} {w : World} {h : Heap} (x : HOk P w H h) (hn : h.get? a = none) : H a = none := by
  cases z : H a with
  | none => rfl
  | some u =>
    obtain ⟨o, q⟩ := (x a u z).thing
    rw [hn] at q
    cases q
/-- an object is no longer tracked -/
theorem Inv.drop (I : Inv X pins σ H s) (hm : Mut (H e)) : Inv X pins σ (del H e) s := by
  have ne : ∀ b u, H b = some u → ¬ Mut (some u) → b ≠ e := fun b u q nm z => by subst z; rw [q] at hm; exact nm hm
  have hok : HOk X.prog X.w (del H e) s.heap := fun b u q => by
    have hb : b ≠ e := fun z => by rw [z, del_same] at q; cases q
    rw [del_ne hb] at q
    exact (I.hok b u q).stay (fun _ _ _ z => z) (fun c z => by rw [del_ne (ne c _ z fun y => y)]; exact z) fun c xs z => by rw [del_ne (ne c _ z fun y => y)]; exact z
  have := I.un (h' := s.heap) (t' := s.toks) (H' := del H e) ⟨fun _ _ q _ _ _ => q, fun _ o q _ _ _ => ⟨o.slots, q⟩, fun b _ _ n _ => by unfold del; split <;> first | rfl | exact n, fun _ o q _ => ⟨o, q⟩,
    fun b xs q => by rw [del_ne (ne b _ q fun y => y)]; exact q, fun b u xs q => by rw [del_ne (ne b _ q fun y => y)]; exact q, fun b ps q => ⟨#[], by rw [del_ne (ne b _ q fun y => y), q]; simp⟩⟩ hok
  exact this
/-- a new object is laid and tracked -/
theorem Inv.laidN {t' : Nat} (I : Inv X pins σ H s) (k : ∀ b u, s.heap.get? b = some u → h'.get? b = some u) (hn : s.heap.get? a = none) (new : ObjOk X.prog X.w (upd H a o) h' a o) :
    Inv X pins σ (upd H a o) { s with heap := h', toks := t' } := by
  have fr := I.hok.free hn
  refine I.un ⟨fun b u q _ _ _ => k b u q, fun b u q _ _ _ => ⟨u.slots, k b u q⟩, fun b u q n _ => ?_, fun b u q _ => ⟨u, k b u q⟩, fun b xs q => by rw [upd_ne (ne_of_none q fr)]; exact q, fun b u xs q => by rw [upd_ne (ne_of_none q fr)]; exact q, fun b ps q => ⟨#[], by rw [upd_ne (ne_of_none q fr), q]; simp⟩⟩ fun b u q => ?_
  · rw [upd_ne (fun z => by rw [z, hn] at q; cases q)]; exact n
  · by_cases hb : b = a
    · subst hb; rw [upd_same] at q; cases q; exact new
    · rw [upd_ne hb] at q
      exact (I.hok b u q).stay (fun c v _ q => k c v q) (fun c q => by rw [upd_ne (ne_of_none q fr)]; exact q) fun c xs q => by rw [upd_ne (ne_of_none q fr)]; exact q
/-- an untracked object that stands is tracked from now on, as what does not change it; it is new since the entry, no frame, no pin -/
theorem Inv.track (I : Inv X pins σ H s) (hex : X.ex = []) (hn : X.s₀.heap.get? a = none) (fr : H a = none) (hp : ∀ p ∈ X.pn ++ pins, p.1 ≠ a) (hl : a ≠ X.env.locals) (hcl : ∀ x c, X.env.cells.lookup x = some c → c ≠ a) (new : ObjOk X.prog X.w (upd H a o) s.heap a o) : Inv X pins σ (upd H a o) s where
  ok := I.ok
  os := I.os
  bare := I.bare
  base := ⟨fun b ob q n hb hx => I.base.keep b ob q n hb hx, I.base.slot, fun b ob q n hx => by rw [upd_ne (fun z => by rw [z, hn] at q; cases q)]; exact I.base.free b ob q n hx, I.base.there,
    fun b xs q => by have z := I.base.tups b xs q; rw [upd_ne (ne_of_none z fr)]; exact z, fun b u xs q => by have z := I.base.frzs b u xs q; rw [upd_ne (ne_of_none z fr)]; exact z,
    fun b ps q => by obtain ⟨m, z⟩ := I.base.tbls b ps q; exact ⟨m, by rw [upd_ne (ne_of_none z fr)]; exact z⟩⟩
  loc := I.loc
  cell := I.cell
  free := by rw [upd_ne (Ne.symm hl)]; exact I.free
  freeC := fun x c e => by rw [upd_ne (hcl x c e)]; exact I.freeC x c e
  pin := fun p q => by obtain ⟨a1, a2, a3⟩ := I.pin p q; exact ⟨a1, by rw [upd_ne (hp p q)]; exact a2, a3⟩
  hok := fun b u q => by
    by_cases hb : b = a
    · subst hb; rw [upd_same] at q; cases q; exact new
    · rw [upd_ne hb] at q
      exact (I.hok b u q).stay (fun _ _ _ z => z) (fun c q => by rw [upd_ne (ne_of_none q fr)]; exact q) fun c xs q => by rw [upd_ne (ne_of_none q fr)]; exact q
  len := I.len
end
/-! ### raise C(..), C with an __init__ of its own -/
section
variable {X : Cx}
def tRaiseI (C : Addr) (sp : Sp) (E : XK) (ta : TA) : TS := fun _ σ H => ta σ H fun vs H1 => vs.length ≤ sizeLine ∧ ∀ e, H1 e = none → sp (.ref e :: vs) (upd H1 e (XcO e C none)) (fun v H2 => v = .non ∧ ∃ dx, H2 e = some (XcO e C dx) ∧ E (.ref C) dx (del H2 e)) E0
theorem ps_raiseI [Dp] {E : XK} {C fI : Addr} {fd : FuncData} {ps : List Str} {sp : Sp} {k : Nat} {x : Str} {np cpos pos : Pos} {e : Expr} {es : List Expr} {ta : TA} (th : Thr X E) (hex : X.ex = []) (hc : X.calm = true) (q : excInI X.K C bmV "ValueError.__new__" fI = true)
    (hfn : PySem.W.isFn X.K (.ref fI) = true) (hkp : PySem.W.keepIn X.K (.ref C) = true) (F : FnOk X.prog X.w X.K X.mg X.base CX0 k fI fd ps sp) (hr : Room (k + 1) X.A) (hb : Binds X.K fd ps []) (hg : Gl X x) (hm : X.mg x = some (.ref C))
    (ha : PA X (e :: es) ta) (hdb : (x == ("__debug__" : Str)) = false := by decide) (he : starEach (e :: es) X.env = (false, eval e X.env) :: starEach es X.env := by rfl) (hpl : (backTo cpos (starEach es X.env)).any (·.1) = false := by rfl) :
    PS X (.Raise (some (.Call (.Name x np) (e :: es) [] cpos)) none pos) (tRaiseI C sp E ta) := by
  intro pins s σ H D I h
  obtain ⟨bm, N, nm, q', bs, hdct, sn, sub, ab, col, dd, k0, k1, k2, k3, k5, mN, hC, hN, hi, T⟩ := exc_objI I.mod.kin q
  obtain ⟨oI, hoI, hcI⟩ : ∃ oI, X.base.get? fI = some oI ∧ oI.cls = .type "function" := by
    have z : PySem.W.typeIn X.K (.ref fI) = some (.type "function") := beq_iff_eq.mp hfn
    unfold PySem.W.typeIn at z
    obtain ⟨o, ho, z⟩ := Option.map_eq_some_iff.mp z
    exact ⟨o, I.mod.kin _ _ ho, z⟩
  rw [arm_exec_Raise]
  refine wpAny_bind (wpAny_standAt (raiseStmt_made (C := C) (nm := nm) (q := q') (N := N) (bs := bs) (bm := bm) (hdct := hdct) (sn := sn) (sub := sub) (ab := ab) (col := col) (dd := dd) (k0 := k0) (k1 := k1) (k2 := k2) (k3 := k3) (k5 := k5) (newId := "ValueError.__new__") (T.hasType (by decide)) (I.ok.hd hc) ?_))
  refine wpAny_bind (wpAny_mono (Q := fun v s₁ => ∃ e a0 dx, v = .ref e ∧ s₁.heap.get? C = some (excClassObj nm q' C N bs bm hdct sn sub ab col dd k0 k1 k2 k3 k5 "ValueError.__new__") ∧
      s₁.heap.get? e = some { cls := .ref C, dict := dx, data := .fields #[a0, .none, .none, .none, .bool false, .none] } ∧ X.xe (.ref e) s₁) (E := X.xe) ?_ (fun v s₃ h₃ => wpAny_bind (wpAny_standAt (wpAny_pure h₃))) fun _ _ x => x)
  refine wpAny_Call_Name_kw (ld_glob I hg hm ?_ hdb)
  refine PySem.W.callWith_K (h₀ := X.base) I.ok.mod.kin hkp (thn (ha cpos pins s σ H _ I h) fun us s1 ⟨vs, H1, I1, r, hl, q1⟩ => ⟨I1.kIn, ?_⟩) he hpl
  have hus : us.length ≤ sizeLine := by rw [← r.length]; exact hl
  obtain ⟨hp, g, d, tk, os⟩ := s1
  refine call_initT PySem.F.excBase_ValueError (T.keeps I1.bk) (I1.bk _ _ hC) (hN.keeps I1.bk) hi (I1.bk _ _ hoI) hcI (fun h' ea m => ?_) hus
  obtain ⟨tt, het, _, _⟩ := m.there
  have fr := I1.hok.free m.new
  have I2 : Inv X pins σ (upd H1 ea (XcO ea C none)) ⟨h', g, d, tk, os⟩ := I1.laidN (t' := tk) m.keeps m.new (xc_ok het)
  have hq := q1 ea fr
  have r2 : Vals (V.ref ea :: vs) (Value.ref ea :: us) := .cons rfl r
  have hl2 : (Value.ref ea :: us ++ []).length = ps.length := by
    rw [List.append_nil, ← r2.length]
    exact F.len _ _ _ _ hq
  have hb2 := hb ⟨h', g, d, tk, os⟩ (Value.ref ea :: us) I2.kIn hl2
  rw [List.append_nil] at hb2
  refine wpAny_call (codeAny_mono (F.run _ X.stack _ _ ⟨Value.ref ea :: us, []⟩ (Value.ref ea :: us) _ _ E0 (hr.make C us []) (I2.env0.make C us []) hb2 r2 hq) fun r s' hq' => ?_)
  cases r with
  | error e => exact False.elim hq'
  | ok fl =>
    cases fl with
    | ret u =>
      obtain ⟨v, H', I3, rv, ev, dx, e3, qE⟩ := I2.after hq'
      subst ev
      obtain ⟨a0, g0⟩ := xc_get I3.hok e3
      refine ⟨rv, ea, .ref a0, dx, rfl, I3.bk _ _ hC, g0, ?_⟩
      exact th pins σ _ s' ea _ (.ref a0) dx none (I3.drop (by rw [e3]; exact True.intro)) ⟨_, _, g0, rfl, rfl, rfl, by show 1 < 6; decide, rfl, .inl rfl, rfl⟩ (.inl rfl) (I1.old hex m.new) (fun t z => nomatch z) del_same (fun p hp => ⟨I1.unpin m.new p hp, fun z => nomatch z⟩) (fun o vs e1 q hd z => by rw [g0] at q; cases q; cases hd; cases z) qE
    | next => exact False.elim hq'
    | brk => exact False.elim hq'
    | cont => exact False.elim hq'
end
end L2

end
noncomputable section
namespace L2
open PySem PySem.Spec PyProof.Rows
section
variable {X : Cx}
/-! ### R.__init__(self, x), R an own class over ValueError -/
def tXinit (C : Addr) (t : TA) : TE := fun σ H Q => t σ H fun vs H1 => ∃ e v dx, vs = [.ref e, v] ∧ H1 e = some (XcO e C dx) ∧ Q .non H1
theorem pe_xinit {C R fI : Addr} {x : Str} {np ap cp : Pos} {a b : Expr} {t : TA} {pl : Sem Bool} (hg : Gl X x) (hm : X.mg x = some (.ref R)) (h1 : PySem.W.specialIn X.K (.ref R) "__getattribute__" = some (some (.builtin "type.__getattribute__")))
    (h2 : PySem.W.readsIn X.K R (.type "type") = true) (h3 : PySem.W.findCls X.K (.ref R) (.type "type") "__init__" = some (.val (.builtin "ValueError.__init__"))) (q : excInI X.K C bmV "ValueError.__new__" fI = true) (ha : PA X [a, b] t)
    (hdb : (x == ("__debug__" : Str)) = false := by decide) (he : starEach [a, b] X.env = (false, eval a X.env) :: starEach [b] X.env := by rfl) (hpl : (backTo cp (starEach [a, b] X.env)).any (·.1) = false := by rfl)
    (ht : eval (.Call (.Attribute (.Name x np) "__init__" ap) [a, b] [] cp) X.env = (do
      let ov ← eval (.Name x np) X.env
      standAt ap.atName
      let (f, first) ← holding [ov] (getMethod ov "__init__" pl)
      callWith cp f first (backTo cp (starEach [a, b] X.env)) (backToKw cp (keywordEach [] X.env))) := by rfl) :
    PE X (.Call (.Attribute (.Name x np) "__init__" ap) [a, b] [] cp) (tXinit C t) := by
  intro pins s σ H Q I h
  refine PySem.W.methodCall_KW (pl := pl) (ld_glob I hg hm ?_ hdb) ht
  refine PySem.W.method_cls I.kIn h1 (PySem.W.cls_value I.kIn h2 h3 rfl ?_)
  show wpAny _ _ (callWith cp (.builtin "ValueError.__init__") [] (backTo cp (starEach [a, b] X.env)) []) _ _ _
  refine Calls.callWith_builtin hpl ?_
  have z := ha cp pins _ σ H _ (I.tok (s.toks + 1)) h
  rw [he] at z ⊢
  refine Calls.evalArgs_plain (thn z fun us s2 ⟨vs, H2, I2, r, ea, v, dx, evs, e2, qq⟩ => ?_)
  subst evs
  obtain ⟨bm, N, nm, q', bs, hdct, sn, sub, ab, col, dd, k0, k1, k2, k3, k5, mN, hC, hN, hi, T⟩ := exc_objI I2.mod.kin q
  obtain ⟨u1, u2, rfl, r1, r2⟩ := r.two
  cases (show u1 = Value.ref ea from r1)
  obtain ⟨a0, g0⟩ := xc_get I2.hok e2
  have hC2 := I2.bk _ _ hC
  have T2 := T.keeps I2.bk
  have F := PySem.F.excBase_ValueError
  obtain ⟨hp, g, d, tk, os⟩ := s2
  dsimp only at hC2 T2 g0
  show wpAny _ _ (call (.builtin "ValueError.__init__") [.ref ea, u2]) _ _ _
  refine wpAny_call (codeAny_call_builtin F.init.plain F.initEntry (wpAny_check_init_subT F T2 hC2 g0 rfl ?_))
  unfold Builtin.«BaseException.__init__»
  wp_walk
  refine ⟨.non, H2, ?_, rfl, qq⟩
  have g1 := Heap.get?_push_of_some ({ cls := .type "tuple", data := .seq [u2].toArray } : Obj) g0
  have I3 := I2.write (x := ea) (e := ea) (o := XcO ea C dx) (t' := tk) (h' := (hp.push { cls := .type "tuple", data := .seq [u2].toArray }).update ea (Obj.mapFields (·.setIfInBounds 0 (.ref hp.objs.size)))) (by rw [e2]; exact True.intro) (.inl rfl)
    (fun b o hb z => (Heap.get?_update_other _ _ (Ne.symm hb)).trans (Heap.get?_push_of_some _ z)) ⟨_, Heap.get?_update_self _ g1 rfl⟩ (xc_ok (a0 := hp.objs.size) (Heap.get?_update_self _ g1 rfl))
  rw [upd_self e2] at I3
  exact I3

/-! ### self.f = v of a new exception -/
def sXfld (K : PySem.W.Frag) (C R : Addr) (ta tv : TE) (f : Str) : TS := fun D σ H => tv σ H fun y H1 => ta σ H1 fun x H2 => ∃ e, x = .ref e ∧ H2 e = some (XcO e C none) ∧
  ∀ d, H2 d = none → d ≠ e → D.nx σ (upd (upd H2 d (.xd [(f, y)])) e (XcO e C (some d)))
theorem ps_xfld {C R : Addr} {o value : Expr} {f : Str} {pos pos' : Pos} {ta tv : TE} (hs : PySem.W.findIn X.K (.ref C) "__setattr__" = some (some (.builtin "object.__setattr__"))) (hl : PySem.W.lackIn X.K C R = true) (hf : PySem.W.findIn X.K (.ref C) f = some none)
    (ha : PE X o ta) (hv : PE X value tv) (hw : swapsWith value (some (.Attribute o f pos')) pos.line X.env = pure false) : PS X (.Assign [.Attribute o f pos'] value pos) (sXfld X.K C R ta tv f) := by
  intro pins s σ H D I h
  refine plainObj_wpAny_Assign_Attribute (thn (hv pins s σ H _ I h) fun u s1 ⟨y, H1, I1, ry, q⟩ => thn (ha pins s1 σ H1 _ I1 q) fun ov s2 ⟨x, H2, I2, rx, e, ex, e2, q2⟩ => ?_) hw
  subst ex
  obtain rfl : ov = Value.ref e := rx
  obtain ⟨a0, g0⟩ := xc_get I2.hok e2
  refine PySem.W.exc_set I2.kIn g0 hs hl hf fun h' d tk ns hd g1 k => ?_
  have ne : d ≠ e := fun z => by
    subst z
    exact absurd (Nat.lt_of_lt_of_le (Heap.lt_size g0) hd) (Nat.lt_irrefl _)
  have fr := I2.hok.fresh hd
  refine ⟨σ, _, ?_, q2 d fr ne⟩
  have mu : Mut (H2 e) := by rw [e2]; exact True.intro
  have od : ∃ u, h'.get? d = some u := by obtain ⟨o, _, _, z, _⟩ := ns; exact ⟨o, z⟩
  refine I2.un (H' := upd (upd H2 d (.xd [(f, y)])) e (XcO e C (some d))) ⟨fun b v q n hb _ => k b v (fun z => ?_) q, fun b v q n hb _ => ⟨v.slots, k b v (fun z => ?_) q⟩, fun b v q n _ => ?_, fun b v q _ => ?_, fun b xs q => ?_, fun b v xs q => ?_, fun b ps q => ⟨#[], ?_⟩⟩ fun b v q => ?_
  · subst z; rw [n] at mu; exact mu
  · subst z; rw [n] at mu; exact mu
  · have h1 : b ≠ e := fun z => by subst z; rw [n] at mu; exact mu
    have h2 : b ≠ d := fun z => by subst z; exact absurd (Nat.lt_of_lt_of_le (Heap.lt_size q) hd) (Nat.lt_irrefl _)
    rw [upd_ne h1, upd_ne h2]; exact n
  · by_cases z : b = e
    · subst z; exact ⟨_, g1⟩
    · exact ⟨v, k b v z q⟩
  · have h1 : b ≠ e := fun z => by subst z; rw [e2] at q; cases q
    rw [upd_ne h1, upd_ne (ne_of_none q fr)]; exact q
  · have h1 : b ≠ e := fun z => by subst z; rw [e2] at q; cases q
    rw [upd_ne h1, upd_ne (ne_of_none q fr)]; exact q
  · have h1 : b ≠ e := fun z => by subst z; rw [e2] at q; cases q
    rw [upd_ne h1, upd_ne (ne_of_none q fr), q]; simp
  · by_cases h1 : b = e
    · subst h1
      rw [upd_same] at q
      cases q
      exact xc_ok g1
    · rw [upd_ne h1] at q
      by_cases h2 : b = d
      · subst h2
        rw [upd_same] at q
        cases q
        refine ⟨_, ns, fun z => ?_⟩
        by_cases hz : z = f
        · subst hz
          show RelO (List.lookup z [(z, y)]) (if z = z then some u else none)
          rw [if_pos rfl]
          simp only [List.lookup, beq_self_eq_true]
          exact ry
        · show RelO (List.lookup z [(f, y)]) (if z = f then some u else none)
          rw [if_neg hz]
          have : (z == f) = false := beq_eq_false_iff_ne.mpr hz
          simp only [List.lookup, this]
          exact True.intro
      · rw [upd_ne h2] at q
        refine (I2.hok b v q).stay (fun c u' hc z => k c u' (fun y => ?_) z) (fun c z => ?_) fun c xs z => ?_
        · subst y
          rcases hc with y | y
          · exact h1 y.symm
          · rw [e2] at y; cases y
        · rw [upd_ne (fun y => by subst y; rw [e2] at z; cases z), upd_ne (ne_of_none z fr)]; exact z
        · rw [upd_ne (fun y => by subst y; rw [e2] at z; cases z), upd_ne (ne_of_none z fr)]; exact z
/-! ### a caught exception: isinstance, its attribute -/
def dictOk (H : Hp) : Option Addr → Prop
  | none => True
  | some d => ∃ fs, H d = some (.xd fs)
theorem ca_inst {pins : List (Addr × Obj)} {σ : St} {H : Hp} {s : Shared} {e C : Addr} {dx : Option Addr} (I : Inv X pins σ H s) (h : H e = some (CaO e C dx)) (hd : dictOk H dx) : ∃ ox od, PySem.W.InstAt s.heap e ox C od := by
  obtain ⟨vs, sl, g⟩ := ca_get I.hok h
  cases dx with
  | none => exact ⟨_, none, g, rfl, rfl, trivial⟩
  | some d =>
    obtain ⟨fs, hd⟩ := hd
    obtain ⟨o, q⟩ := (I.hok d _ hd).thing
    exact ⟨_, some o, g, rfl, rfl, q⟩
theorem call_isiX : CallR X (.builtin "isinstance") (fun xs H Q => ∃ e C dx c cv b, xs = [.ref e, c] ∧ clsV c = some cv ∧ H e = some (CaO e C dx) ∧ dictOk H dx ∧ PySem.W.ExcK X.K C ∧ PySem.W.kitOne X.K (.ref C) cv = some b ∧ Q (.bl b) H) := by
  intro pins s σ H xs us Q I r h
  obtain ⟨x, C, dx, c, cv, b, rfl, hc, hx, hd, k, e, q⟩ := h
  obtain ⟨u, v, rfl, ru, rv⟩ := r.two
  have hv : v = cv := by
    cases c with
    | ty n => cases rv; exact Option.some.inj hc
    | ref a => cases rv; exact Option.some.inj hc
    | _ => cases hc
  subst hv
  cases (show u = Value.ref x from ru)
  obtain ⟨ox, od, J⟩ := ca_inst I hx hd
  exact PySem.W.kia_one (PySem.W.kitx_exc k) I.kIn J e (fun z => nomatch z) fun tk => ⟨.bl b, H, I.tok tk, rfl, q⟩
theorem isiX (K : PySem.W.Frag) (h : X.K = K := by rfl) : CallR X (.builtin "isinstance") (fun xs H Q => ∃ e C dx c cv b, xs = [.ref e, c] ∧ clsV c = some cv ∧ H e = some (CaO e C dx) ∧ dictOk H dx ∧ PySem.W.ExcK K C ∧ PySem.W.kitOne K (.ref C) cv = some b ∧ Q (.bl b) H) := by subst h; exact call_isiX
def tXget (K : PySem.W.Frag) (ta : TE) (f : Str) : TE := fun σ H Q => ta σ H fun x H1 => ∃ e C d fs v, x = .ref e ∧ H1 e = some (CaO e C (some d)) ∧ H1 d = some (.xd fs) ∧ PySem.W.ExcK K C ∧ PySem.W.findIn K (.ref C) f = some none ∧ fs.lookup f = some v ∧ Q v H1
theorem pe_xget (K : PySem.W.Frag) {e : Expr} {f : Str} {pos : Pos} {ta : TE} (he : PE X e ta) (hb : attributeBase e f X.env (eval e X.env) = eval e X.env := by rfl) (hK : X.K = K := by rfl) : PE X (.Attribute e f pos) (tXget K ta f) := by
  subst hK
  intro pins s σ H Q I h
  refine attr_of hb (thn (he pins s σ H _ I h) fun u s1 ⟨x, H1, I1, rx, a, C, d, fs, v, ex, ea, hd, k, n, l, q⟩ => ?_)
  subst ex
  obtain rfl : u = Value.ref a := rx
  obtain ⟨vs, sl, g⟩ := ca_get I1.hok ea
  obtain ⟨mA, ns, rr⟩ := (show ObjOk X.prog X.w H1 s1.heap d (.xd fs) from I1.hok d _ hd)
  obtain ⟨od, ho, hl⟩ := lookIn_ns ns
  obtain ⟨u, hu, ru⟩ := RelO.some_of (v := v) (o := mA f) (by rw [← l]; exact rr f)
  exact PySem.W.exc_value I1.kIn (od := some od) ⟨g, rfl, rfl, ho⟩ k (PySem.W.findObj_own k.hd n rfl (by rw [hl, hu])) (handed_of ru) ⟨v, H1, I1.tok _, ru, q⟩
end
end L2

end
noncomputable section
namespace L2
open PySem PySem.Spec PyProof.Rows
/-! ### the same body around another handled exception, other pins, another wish -/
abbrev Cx.alt (X : Cx) (A : Around) (c : Bool) (pn : List (Addr × Obj)) (E : Value → Shared → Prop) : Cx := { X with A := A, calm := c, pn := pn, xe := E }
section
variable {X : Cx} {pins : List (Addr × Obj)} {σ : St} {H : Hp} {s : Shared}
theorem Inv.alt {A : Around} {c : Bool} {pn pins' : List (Addr × Obj)} {E : Value → Shared → Prop} (I : Inv X pins σ H s) (hf : A.frames = X.A.frames) (hc : c = true → A.handled = none) (hp : ∀ p ∈ pn ++ pins', p ∈ X.pn ++ pins) : Inv (X.alt A c pn E) pins' σ H s :=
  ⟨⟨I.ok.mod, I.ok.kind, I.ok.glob, I.ok.blt, I.ok.above, I.ok.inj, I.ok.has, I.ok.cab, hc, hf.trans I.ok.frames, I.ok.stk, I.ok.exf, I.ok.bs, I.ok.bsz, I.ok.noex, I.ok.exfs, I.ok.funs, I.ok.frf⟩, I.os, I.bare, I.base, I.loc, I.cell, I.free, I.freeC, fun p q => I.pin p (hp p q), I.hok, I.len⟩
theorem Inv.unalt {A : Around} {c : Bool} {pn pins' : List (Addr × Obj)} {E : Value → Shared → Prop} (I : Inv (X.alt A c pn E) pins' σ H s) (hf : A.frames = X.A.frames) (hc : X.calm = true → X.A.handled = none) (hp : ∀ p ∈ X.pn ++ pins, p ∈ pn ++ pins') : Inv X pins σ H s :=
  ⟨⟨I.ok.mod, I.ok.kind, I.ok.glob, I.ok.blt, I.ok.above, I.ok.inj, I.ok.has, I.ok.cab, hc, hf.symm.trans I.ok.frames, I.ok.stk, I.ok.exf, I.ok.bs, I.ok.bsz, I.ok.noex, I.ok.exfs, I.ok.funs, I.ok.frf⟩, I.os, I.bare, I.base, I.loc, I.cell, I.free, I.freeC, fun p q => I.pin p (hp p q), I.hok, I.len⟩
/-- behind the noting of an exception -/
theorem Inv.noted [Dp] {h' : Heap} {ea : Addr} {C a0 : Value} {dx : Option Addr} {T : Option (Addr × Value)} (I : Inv X pins σ H s) (hex : X.ex = []) (x : Xo s.heap ea C dx a0 T) (c : Chg (frs X.stack) ea (hdOf T) s.heap h') 
    (n1 : X.s₀.heap.get? ea = none) (n2 : ∀ t, hdOf T = some t → X.s₀.heap.get? t = none ∧ H t = none) (n3 : H ea = none) (np : ∀ p ∈ X.pn ++ pins, p.1 ≠ ea ∧ hdOf T ≠ some p.1) : Inv X pins σ H { s with heap := h' } := by
  obtain ⟨m, ⟨oL, es, ep, hoL, hdL, rL⟩, _⟩ := id I.loc
  obtain ⟨oe, vs, he, _, _, hdE, _, _, _, hT⟩ := x.ob
  have dead : ∀ b : Addr, hdOf T = some b → ∃ o ts, s.heap.get? b = some o ∧ o.data = .fields ts := fun b z => by
    cases T with
    | none => cases z
    | some p =>
      obtain ⟨t, fl⟩ := p
      cases z
      obtain ⟨_, _, oT, ts, q1, q2, _⟩ := hT
      exact ⟨oT, ts, q1, q2⟩
  have fl : ∀ b o, s.heap.get? b = some o → (∀ vs, o.data ≠ .fields vs) → b ≠ ea ∧ hdOf T ≠ some b := fun b o q nf => by
    refine ⟨fun z => ?_, fun z => ?_⟩
    · rw [z, he] at q; cases q; exact nf _ hdE
    · obtain ⟨o', ts, q1, q2⟩ := dead b z
      rw [q] at q1; cases q1; exact nf _ q2
  have old : ∀ b o, X.s₀.heap.get? b = some o → b ≠ ea ∧ hdOf T ≠ some b := fun b o q =>
    ⟨fun z => (by rw [z, n1] at q; cases q), fun z => (by rw [(n2 b z).1] at q; cases q)⟩
  have nst : ∀ b, b ≠ X.env.locals → b ∉ X.fs → b ∉ frs X.stack := fun b h1 h2 z => (List.mem_cons.mp (I.stkSub b z)).elim h1 h2
  have cel : ∀ b v, s.heap.IsCell b v → h'.IsCell b v := fun b v ⟨o, ho, hd⟩ => by
    have z := fl b o ho fun vs y => by rw [hd] at y; cases y
    obtain ⟨sl, q⟩ := c.any z.1 z.2 ho
    exact ⟨_, q, hd⟩
  have ub := I.base
  rw [hex] at ub
  refine ⟨I.ok, I.os, I.bare, ?_, ?_, fun y c e => ?_, I.free, I.freeC, fun p hp => ?_, I.chg c n3 fun t z => (n2 t z).2, I.len⟩
  · rw [hex]
    refine ⟨fun b o q n hb hx => ?_, fun b o q n hb hx => ?_, ub.free, fun b o q hx => ?_, ub.tups, ub.frzs, ub.tbls⟩
    · exact c.keep b o (nst b (Nat.ne_of_lt (Nat.lt_of_lt_of_le (Heap.lt_size q) I.ok.above)) hb) (old b o q).1 (old b o q).2 (ub.keep b o q n hb hx)
    · obtain ⟨sl, e⟩ := ub.slot b o q n hb hx
      obtain ⟨sl', e'⟩ := c.any (old b o q).1 (old b o q).2 e
      exact ⟨sl', e'⟩
    · obtain ⟨o', e⟩ := ub.there b o q hx
      obtain ⟨sl', e'⟩ := c.any (old b o q).1 (old b o q).2 e
      exact ⟨_, e'⟩
  · obtain ⟨m, ⟨oL, es, ep, hoL, hdL, rL⟩, hl⟩ := I.loc
    have locs := fl _ _ hoL (fun vs z => by rw [hdL] at z; cases z)
    obtain ⟨sl, q⟩ := c.any locs.1 locs.2 hoL
    refine ⟨m, ⟨_, es, ep, q, hdL, rL⟩, fun i y v e1 e2 e3 => ?_⟩
    obtain ⟨u, r, l⟩ := hl i y v e1 e2 e3
    refine ⟨u, r, ?_⟩
    rcases l with l | ⟨k, c', e, z⟩
    · exact .inl l
    · exact .inr ⟨k, c', e, cel _ _ z⟩
  · obtain ⟨v, z⟩ := I.cell y c e
    exact ⟨v, cel _ _ z⟩
  · obtain ⟨a1, a2, a3, a4, a5⟩ := I.pin p hp
    exact ⟨c.keep _ _ (nst _ a3 a4) (np p hp).1 (np p hp).2 a1, a2, a3, a4, a5⟩

/-- the frame's names are forgotten -/
theorem Inv.forget {h' : Heap} {m' : Str → Option Value} {tk : Nat} (I : Inv X pins σ H s) (ns : h'.Ns X.env.locals m') (sb : Heap.SameBut X.env.locals s.heap h') : Inv X pins (List.replicate X.N.length none) H { s with heap := h', toks := tk } := by
  have neL : ∀ b o, X.s₀.heap.get? b = some o → b ≠ X.env.locals := fun b o e => Nat.ne_of_lt (Nat.lt_of_lt_of_le (Heap.lt_size e) I.ok.above)
  refine ⟨I.ok, I.os, I.bare, ⟨fun b o e n hb hx => ?_, fun b o e n hb hx => ?_, I.base.free, fun b o e hx => ?_, I.base.tups, I.base.frzs, I.base.tbls⟩, ⟨m', ns, fun j y v e1 e2 e3 => ?_⟩, fun y c e => ?_, I.free, I.freeC, fun p hp => ?_, fun b ob e => ?_, by simp⟩
  · exact (sb.2 b (neL b o e)).trans (I.base.keep b o e n hb hx)
  · obtain ⟨sl, e1⟩ := I.base.slot b o e n hb hx
    exact ⟨sl, (sb.2 b (neL b o e)).trans e1⟩
  · obtain ⟨o', e1⟩ := I.base.there b o e hx
    exact ⟨o', (sb.2 b (neL b o e)).trans e1⟩
  · rw [List.getElem?_replicate] at e2
    split at e2 <;> cases e2
  · obtain ⟨w', z⟩ := I.cell y c e
    exact ⟨w', z.sameBut sb (I.cne y c e)⟩
  · obtain ⟨e, n, ne, nf, d⟩ := I.pin p hp
    exact ⟨(sb.2 p.1 ne).trans e, n, ne, nf, d⟩
  · refine (I.hok b ob e).stay (fun c w' hc q => (sb.2 c ?_).trans q) (fun _ q => q) fun _ _ q => q
    rintro rfl
    have hf := I.free
    rcases hc with z | hc
    · rw [← z, hf] at e; cases e
    · rw [hf] at hc; cases hc
/-! ### try .. except R as n: a suite that returns -/
theorem mro_has {K : PySem.W.Frag} {h : Heap} {nm q : Str} {C N : Addr} {bs bm : List Value} {hdct : Bool} {sn : List Str} {sub : List Value} {ab : Bool} {col : Option Bool} {dd : Option Addr} {k0 k1 k2 k3 k5 : Option Value} {newId : String} {base : Value} {b : Bool}
    (X : K.In h) (hC : h.get? C = some (excClassObj nm q C N bs bm hdct sn sub ab col dd k0 k1 k2 k3 k5 newId)) (e : PySem.W.mroIn K C base = some b) : (Value.ref C :: bm).contains base = b := by
  unfold PySem.W.mroIn at e
  obtain ⟨cd, hc, e⟩ := Option.bind_eq_some_iff.mp e
  unfold PySem.W.clsIn at hc
  split at hc
  · rename_i c' d' cd' sl' ho
    cases hc
    have z := (X _ _ ho).symm.trans hC
    cases z
    split at e
    · cases e
    · exact Option.some.inj e
  · cases hc
def IsX (K : PySem.W.Frag) (C : Addr) : Prop := PySem.W.excIn K C bmV "ValueError.__new__" = true ∨ ∃ fI, excInI K C bmV "ValueError.__new__" fI = true
theorem IsX.obj {K : PySem.W.Frag} {h : Heap} {C : Addr} (q : IsX K C) (X : K.In h) : ∃ bm N nm q bs hdct sn sub ab col dd k0 k1 k2 k3 k5, h.get? C = some (excClassObj nm q C N bs bm hdct sn sub ab col dd k0 k1 k2 k3 k5 "ValueError.__new__") ∧ OwnTail h bmV bm := by
  rcases q with q | ⟨fI, q⟩
  · obtain ⟨bm, N, nm, q', bs, hdct, sn, sub, ab, col, dd, k0, k1, k2, k3, k5, mN, hC, _, _, T⟩ := exc_obj X q
    exact ⟨bm, N, nm, q', bs, hdct, sn, sub, ab, col, dd, k0, k1, k2, k3, k5, hC, T⟩
  · obtain ⟨bm, N, nm, q', bs, hdct, sn, sub, ab, col, dd, k0, k1, k2, k3, k5, mN, hC, _, _, T⟩ := exc_objI X q
    exact ⟨bm, N, nm, q', bs, hdct, sn, sub, ab, col, dd, k0, k1, k2, k3, k5, hC, T⟩
def tTry (E : XK) (Rp : Addr → Prop) (i : Nat) (tb ts : TS) : TS := fun D σ H => tb D σ H ∧ ∀ Cv dx H' ea, E Cv dx H' → H' ea = none → ∃ c, Cv = .ref c ∧ Rp c ∧
  ts { nx := fun _ _ => False, rt := D.rt } ((List.replicate σ.length none).set i (some (.ref ea))) (upd H' ea (CaO ea c dx))
theorem ps_try [Dp] {E : XK} {Rp : Addr → Prop} {R : Addr} {i : Nat} {x n : Str} {np hpos pos : Pos} {body suite : List Stmt} {b₀ : Stmt} {tb ts : TS} (hc : X.calm = true) (hst : X.stack = X.env :: X.outer) (hff : X.env.frame = some X.env.locals) (hex : X.ex = [])
    (hb : ∀ pn W, Thr (X.alt X.A true pn W) E → PSs (X.alt X.A true pn W) body tb) (hg : Gl X x) (hm : X.mg x = some (.ref R)) (hR : IsX X.K R) (hRp : ∀ c, Rp c → IsX X.K c ∧ PySem.W.mroIn X.K c (.ref R) = some true)
    (hsu : ∀ ea : Addr, PSs (X.alt (X.A.mark (some (.ref ea))) false X.pn (fun _ _ => False)) (b₀ :: suite) ts) (hN : X.N.Nodup) (hi : X.N[i]? = some n) (hl : X.env.scope.names.lookup n = some .local) (hdb : (x == ("__debug__" : Str)) = false := by decide) :
    PS X (.Try body [.ExceptHandler (some (.Name x np)) (some n) (b₀ :: suite) hpos] [] [] pos) (tTry E Rp i tb ts) := by
  intro pins s σ H D I h
  obtain ⟨h1, h2⟩ := h
  let W : Value → Shared → Prop := fun e s' => ∃ σ' H' ea C a0 dx T, e = .ref ea ∧ Inv X pins σ' H' s' ∧ Xo s'.heap ea C dx a0 T ∧ (T = none ∨ ∃ t fl, T = some (t, fl) ∧ (fl = .none ∨ fl = rawInt X.env.locals)) ∧ X.s₀.heap.get? ea = none ∧ (∀ t, hdOf T = some t → X.s₀.heap.get? t = none ∧ H' t = none) ∧ H' ea = none ∧
    (∀ p ∈ X.pn ++ pins, p.1 ≠ ea ∧ hdOf T ≠ some p.1) ∧ Uc H' s'.heap ea ∧ E C dx H'
  have th : Thr (X.alt X.A true (X.pn ++ pins) W) E := fun pins' σ' H' s' ea C a0 dx T I' xo hT n1 n2 n3 np uc q =>
    ⟨σ', H', ea, C, a0, dx, T, rfl, I'.unalt rfl I.ok.hd fun p hp => List.mem_append_left _ hp, xo, hT, n1, n2, n3, fun p hp => np p (List.mem_append_left _ hp), uc, q⟩
  have I0 : Inv (X.alt X.A true (X.pn ++ pins) W) [] σ H s := I.alt rfl (fun _ => I.ok.hd hc) fun p hp => by rwa [List.append_nil] at hp
  have back : ∀ {σ' H' s'}, Inv (X.alt X.A true (X.pn ++ pins) W) [] σ' H' s' → Inv X pins σ' H' s' := fun J => J.unalt rfl I.ok.hd fun p hp => by rwa [List.append_nil]
  refine wpAny_Try_except (wpAny_mono (hb _ W th [] s σ H D I0 h1) (fun f s1 q => ?_) fun e s1 q => ?_)
  · cases f with
    | next =>
      obtain ⟨σ', H', J, q⟩ := q
      exact wpAny_execs_nil ⟨σ', H', back J, q⟩
    | brk => obtain ⟨σ', H', J, q⟩ := q; exact ⟨σ', H', back J, q⟩
    | cont => obtain ⟨σ', H', J, q⟩ := q; exact ⟨σ', H', back J, q⟩
    | ret u => obtain ⟨v, σ', H', J, r, q⟩ := q; exact ⟨v, σ', H', back J, r, q⟩
  · obtain ⟨σ', H', ea, C, a0, dx, T, rfl, J, xo, hT, n1, n2, n3, np, uc, qE⟩ := q
    have fr := J.ok.frames
    have fu := J.stack
    rw [hst] at fr fu
    refine note_ fr fu hff xo hT fun h₂ t x₂ hn c => ?_
    refine flight_ (s := { s1 with heap := h₂ }) (fr := none) x₂ fun h₃ x₃ k => ?_
    have bt : ∀ b o, hdOf T ≠ some b → s1.heap.get? b = some o → b ≠ t := fun b o h1 q z => by
      rcases hn with hn | hn
      · rw [z, hn] at q; cases q
      · exact h1 (z ▸ hn)
    have c₃ : Chg (frs X.stack) ea (hdOf T) s1.heap h₃ := by
      rw [hst]
      refine ⟨fun b o hb hbe hbT q => ?_, fun b o hb hbe hbT q => ?_, fun o vs q hd => ?_⟩
      · exact k b o (bt b o hbT q) (c.keep b o hb hbe hbT q)
      · obtain ⟨sl, q'⟩ := c.slot b o hb hbe hbT q
        exact ⟨sl, k b _ (bt b o hbT q) q'⟩
      · obtain ⟨o', vs', q', hd', e'⟩ := c.ctx o vs q hd
        exact ⟨o', vs', k _ _ x₂.apart q', hd', e'⟩
    have J3 := J.noted hex xo c₃ n1 n2 n3 np
    obtain ⟨c0, rfl, hRc, q2⟩ := h2 C dx H' ea qE n3
    obtain ⟨isx, hmro⟩ := hRp c0 hRc
    have chain : ∀ h₅ : Heap, (∀ b o, b ≠ t → h₃.get? b = some o → h₅.get? b = some o) → Chg (frs X.stack) ea (hdOf T) s1.heap h₅ := fun h₅ k5 => by
      refine ⟨fun b o hb hbe hbT q => ?_, fun b o hb hbe hbT q => ?_, fun o vs q hd => ?_⟩
      · exact k5 b o (bt b o hbT q) (c₃.keep b o hb hbe hbT q)
      · obtain ⟨sl, q'⟩ := c₃.slot b o hb hbe hbT q
        exact ⟨sl, k5 b _ (bt b o hbT q) q'⟩
      · obtain ⟨o', vs', q', hd', e'⟩ := c₃.ctx o vs q hd
        exact ⟨o', vs', k5 _ _ x₃.apart q', hd', e'⟩
    obtain ⟨hp1, g1, d1, tk1, os1⟩ := s1
    dsimp only at *
    refine wpAny_handleBy_cons (codeAny_handlers_test ?_) (by intro z; cases z)
    have J4 : Inv (X.alt (X.A.mark (some (.ref ea))) false X.pn (fun _ _ => False)) pins σ' H' ⟨h₃, g1, d1, tk1, os1⟩ := J3.alt rfl (fun z => by cases z) fun p hp => hp
    refine ld_glob (X := X.alt (X.A.mark (some (.ref ea))) false X.pn (fun _ _ => False)) J4 hg hm ?_ hdb
    obtain ⟨bm, N, nm, q', bs, hdct, sn, sub, ab, col, dd, k0, k1, k2, k3, k5, hC, TC⟩ := isx.obj J4.mod.kin
    obtain ⟨bm', N', nm', q'', bs', hdct', sn', sub', ab', col', dd', k0', k1', k2', k3', k5', hR', TR⟩ := hR.obj J4.mod.kin
    obtain ⟨oe, vs, he, hcl, _⟩ := id x₃.ob
    refine excMatches_under (J4.bk _ _ hC) (J4.bk _ _ hR') he hcl (TR.hasType (by decide)) (mro_has J4.mod.kin hC hmro) ?_
    refine codeAny_handlers_suite_as ?_
    refine flight_ (s := ⟨h₃, g1, d1, tk1, os1⟩) (fr := none) x₃ fun h₅ x₅ kk => ?_
    have J5 := J.noted hex xo (chain h₅ kk) n1 n2 n3 np
    dsimp only at J5
    obtain ⟨oe5, vs5, he5, hcl5, hdx5, hd5, _⟩ := x₅.ob
    obtain ⟨oc, od, oda, osl⟩ := oe5
    dsimp only at hcl5 hdx5 hd5
    subst hcl5 hdx5 hd5
    have J6 := J5.track (o := CaO ea c0 od) hex n1 n3 (fun p hp => (np p hp).1) (fun z => by
        obtain ⟨m, ⟨o', _, _, ho', hd', _⟩, _⟩ := J5.loc
        rw [← z, he5] at ho'; cases ho'; cases hd') (fun y c e z => by
        obtain ⟨v, o', ho', hd'⟩ := J5.cell y c e
        rw [z, he5] at ho'; cases ho'; cases hd') (ca_ok he5)
    have J7 := J6.weak (σ' := List.replicate σ.length none) (by rw [List.length_replicate, J6.len, I.len]) fun j v z => by
      rw [List.getElem?_replicate] at z
      split at z <;> cases z
    have J8 : Inv (X.alt (X.A.mark (some (.ref ea))) false X.pn (fun _ _ => False)) pins (List.replicate σ.length none) (upd H' ea (CaO ea c0 od)) ⟨h₅, g1, d1, tk1, os1⟩ := J7.alt rfl (fun z => by cases z) fun p hp => hp
    refine store_ok (X := X.alt (X.A.mark (some (.ref ea))) false X.pn (fun _ _ => False)) J8 hN hi (Or.inl hl) (v := .ref ea) rfl (fun s6 J9 => ?_) (.inr hl)
    refine wpAny_mono (hsu ea pins s6 _ _ _ J9 q2) (fun f s7 q7 => ?_) fun _ _ z => z.elim
    cases f with
    | next => obtain ⟨_, _, _, q⟩ := q7; exact q.elim
    | brk => obtain ⟨_, _, _, q⟩ := q7; exact q.elim
    | cont => obtain ⟨_, _, _, q⟩ := q7; exact q.elim
    | ret u =>
      obtain ⟨v, σ7, H7, J10, r7, q7⟩ := q7
      obtain ⟨m, hns, _⟩ := J10.loc
      have hcls : (X.env.scope.kind == .class || (X.env.scope.kind == .module && X.env.locals != X.env.globals)) = false := by rw [I.ok.kind]; rfl
      have J11 : Inv X pins σ7 H7 s7 := J10.unalt rfl I.ok.hd fun p hp => hp
      exact wpAny_nameGoes hl hns hcls fun h' m' ns' sb => ⟨v, _, H7, J11.forget ns' sb, r7, q7⟩
end
end L2

end
noncomputable section
namespace L2
open PySem PySem.Spec PyProof.Rows
/-! ### calls within an except suite -/
structure RoomH (k : Nat) (A : Around) : Prop where
  dp : A.depth + 3 * k + 5 < recursionLimit
  un : A.units + 16 * k + 200 < cLine
theorem Room.h {k : Nat} {A : Around} (r : Room k A) : RoomH k A := ⟨r.dp, r.un⟩
theorem RoomH.mono {j k : Nat} {A : Around} (r : RoomH k A) (h : j ≤ k) : RoomH j A := ⟨by have := r.dp; omega, by have := r.un; omega⟩
theorem RoomH.mark {k : Nat} {A : Around} (r : RoomH k A) (v : Option Value) : RoomH k (A.mark v) := ⟨r.dp, r.un⟩
theorem RoomH.deeper {k : Nat} {A : Around} (r : RoomH (k + 1) A) (env : Env) : RoomH k (A.deeper env) :=
  ⟨by have := r.dp; show A.depth + 1 + 3 * k + 5 < _; omega, by have := r.un; show A.units + 3 + 16 * k + 200 < _; omega⟩
theorem RoomH.units0 {k : Nat} {A : Around} (r : RoomH k A) : A.units < cLine := by have := r.un; omega
structure FnH (P : Program) (w : World) (K : PySem.W.Frag) (mg : Str → Option Value) (base : Heap) (k : Nat) (f : Addr) (fd : FuncData) (ps : List Str) (sp : Sp) : Prop where
  len : ∀ vs H Q E, sp vs H Q E → vs.length = ps.length
  run : ∀ (A : Around) (outer : List Env) (s : Shared) (H : Hp) (args : Args) (us : List Value) (vs : List V) (Q : VK), RoomH k A → Env0 P w K mg base A outer s H → BindsTo s fd args (ps.zip us) → Vals vs us → sp vs H Q E0 →
    codeAny (model P w) A (.call (.ref f) args) (CR CX0 outer P w H s Q E0) s
section
variable {P : Program} {w : World} {K : PySem.W.Frag} {mg : Str → Option Value} {base : Heap}
theorem Fun.okH {x qual : Str} {st : Stmt} {f : Addr} {fd : FuncData} {N ps : List Str} {k : Nat} {sp : Sp} (F : Fun K x qual st f fd) (S : FnScope N ps (defScope st)) (len : ∀ vs H Q E, sp vs H Q E → vs.length = ps.length)
    (hbody : ∀ (cdv : Value) (A : Around) (outer : List Env) (s : Shared) (H : Hp) (vs : List V) (Q : VK), RoomH k (A.deeper (envOfC qual (defScope st) s.heap.objs.size f cdv)) → sp vs H Q E0 →
      ∃ t, PSs ((cxOf CX0 P w K mg base N qual (defScope st) f cdv A outer s H E0).alt (A.deeper (envOfC qual (defScope st) s.heap.objs.size f cdv)) false [] (fun _ _ => False)) (defBody st) t ∧ t { nx := fun _ H' => Q .non H', rt := Q } (start N vs) H) : FnH P w K mg base (k + 1) f fd ps sp := by
  obtain ⟨oc, od, kV, doc, pm, an, cdv, ct, osl, rfl, lk, hcd⟩ := F.ex
  refine ⟨len, fun A outer s H args us vs Q hr e0 hb r hsp => ?_⟩
  have hl := len _ _ _ _ hsp
  have KX : K.In s.heap := e0.mod.kin.keeps fun b o e => (e0.bs b o e).1
  have lim : s.heap.NoLimit := e0.mod.nolimit.keeps fun b o e => (e0.bs b o e).1
  have hkind : ∀ y ∈ ps.zip us, (defScope st).names.lookup y.1 = some .local ∨ ((defScope st).names.lookup y.1 = some .cell ∧ ((cellsFrom (s.heap.objs.size + 1) (defScope st).names []).lookup y.1).isSome = true) := fun ⟨n, v⟩ hy => by
    rcases S.par n (List.of_mem_zip hy).1 with q | q
    · exact .inl q
    · exact .inr ⟨q, PySem.W.cellsFrom_some _ _ _ (.inl q)⟩
  refine codeAny_call_function (by have := hr.dp; omega) (KX _ _ lk) rfl S.co S.gen rfl (PySem.W.codeRec_of KX hcd) (hb _ _ _ _ ?_)
  refine wpAny_newFunctionEnv_cells S.kind hkind fun env he s1 x => ?_
  subst he
  refine ⟨lim.keeps x.toInCall.keep, codeAny_func ?_⟩
  obtain ⟨t, ht, hq⟩ := hbody cdv A outer s H vs Q (hr.deeper _) hsp
  have e1 : Env0 P w K mg base { A with handled := none } outer s H := ⟨e0.frames, e0.mod, e0.bs, e0.bsz, e0.funs, e0.frf, e0.hok, e0.bare⟩
  have I0 : Inv (cxOf CX0 P w K mg base N qual (defScope st) f cdv { A with handled := none } outer s H E0) [] (start N vs) H s1 := inv_start S rfl e1 hl r x
  have I : Inv ((cxOf CX0 P w K mg base N qual (defScope st) f cdv A outer s H E0).alt (A.deeper (envOfC qual (defScope st) s.heap.objs.size f cdv)) false [] (fun _ _ => False)) [] (start N vs) H s1 :=
    ⟨⟨I0.ok.mod, I0.ok.kind, I0.ok.glob, I0.ok.blt, I0.ok.above, I0.ok.inj, I0.ok.has, I0.ok.cab, (fun z => nomatch z), I0.ok.frames, I0.ok.stk, I0.ok.exf, I0.ok.bs, I0.ok.bsz, I0.ok.noex, I0.ok.exfs, I0.ok.funs, I0.ok.frf⟩, I0.os, I0.bare, I0.base, I0.loc, I0.cell, I0.free, I0.freeC, I0.pin, I0.hok, I0.len⟩
  refine wpAny_mono (ht [] s1 (start N vs) H _ I hq) (fun fl s' hs => ?_) fun e s' hs => hs.elim
  have fin : ∀ {σ' : St} {H' : Hp} {v : V} {u : Value}, Inv ((cxOf CX0 P w K mg base N qual (defScope st) f cdv A outer s H E0).alt (A.deeper (envOfC qual (defScope st) s.heap.objs.size f cdv)) false [] (fun _ _ => False)) [] σ' H' s' → RelV v u → Q v H' → CE outer P w H s Q u s' :=
    fun {σ' H' v u} J rv q => ⟨v, H', J.os, J.bare, J.base, J.hok, rv, q⟩
  cases fl with
  | ret u =>
    obtain ⟨v, σ', H', J, rv, q⟩ := hs
    exact fin J rv q
  | next =>
    obtain ⟨σ', H', J, q⟩ := hs
    exact fin (v := V.non) (u := Value.none) J rfl q
  | brk =>
    obtain ⟨_, _, _, q⟩ := hs
    exact False.elim q
  | cont =>
    obtain ⟨_, _, _, q⟩ := hs
    exact False.elim q
theorem FnOk.or {CX : CXT} {k : Nat} {f : Addr} {fd : FuncData} {ps : List Str} {sp sp' : Sp} (F : FnOk P w K mg base CX k f fd ps sp) (G : FnOk P w K mg base CX k f fd ps sp') : FnOk P w K mg base CX k f fd ps (fun vs H Q E => sp vs H Q E ∨ sp' vs H Q E) :=
  ⟨fun vs H Q E h => h.elim (F.len vs H Q E) (G.len vs H Q E), fun A outer s H args us vs Q E hr he hb hv hs => hs.elim (F.run A outer s H args us vs Q E hr he hb hv) (G.run A outer s H args us vs Q E hr he hb hv)⟩
end
section
variable {X : Cx}
theorem pe_callH {k : Nat} {f : Addr} {fd : FuncData} {ps : List Str} {sp : Sp} {x : Str} {p pos : Pos} {e : Expr} {es : List Expr} {t : TA} (F : FnH X.prog X.w X.K X.mg X.base k f fd ps sp) (hr : RoomH k X.A) (hg : Gl X x) (hm : X.mg x = some (.ref f)) (hk : PySem.W.keepIn X.K (.ref f) = true) (hb : Binds X.K fd ps [])
    (ha : PA X (e :: es) t) (hdb : (x == ("__debug__" : Str)) = false := by decide) (he : starEach (e :: es) X.env = (false, eval e X.env) :: starEach es X.env := by rfl) (hpl : (backTo pos (starEach es X.env)).any (·.1) = false := by rfl) :
    PE X (.Call (.Name x p) (e :: es) [] pos) (tCall sp [] E0 t) := by
  intro pins s σ H Q I h
  refine wpAny_Call_Name_kw (ld_glob I hg hm ?_ hdb)
  refine PySem.W.callWith_K (h₀ := X.base) I.ok.mod.kin hk (thn (ha pos pins s σ H _ I h) fun us s1 ⟨vs, H1, I1, r, q⟩ => ⟨I1.kIn, ?_⟩) he hpl
  change sp (vs ++ []) H1 Q E0 at q
  rw [List.append_nil] at q
  have hl : (us ++ []).length = ps.length := by rw [List.append_nil, ← r.length]; exact F.len _ _ _ _ q
  have hb2 := hb s1 us I1.kIn hl
  rw [List.append_nil] at hb2
  refine wpAny_call (codeAny_mono (F.run X.A X.stack s1 H1 ⟨us, []⟩ us vs Q hr I1.env0 hb2 r q) fun r s' hq => ?_)
  cases r with
  | error e => exact False.elim hq
  | ok fl =>
    cases fl with
    | ret u => exact I1.after hq
    | next => exact False.elim hq
    | brk => exact False.elim hq
    | cont => exact False.elim hq
/-- the name of a parameter that holds a def -/
def tCallV (i : Nat) (f : Addr) (sp : Sp) (E : XK) (t : TA) : TE := fun σ H Q => σ[i]? = some (some (.ref f)) ∧ t σ H fun vs H1 => sp vs H1 Q E
theorem pe_callV {CX : CXT} {k : Nat} {f : Addr} {fd : FuncData} {ps : List Str} {sp : Sp} {E : XK} (i : Nat) {x : Str} {p pos : Pos} {e : Expr} {es : List Expr} {t : TA} (F : FnOk X.prog X.w X.K X.mg X.base CX k f fd ps sp) (hr : Room k X.A) (hk : PySem.W.keepIn X.K (.ref f) = true) (hb : Binds X.K fd ps []) (hx : Passes CX X E)
    (ha : PA X (e :: es) t) (hN : X.N[i]? = some x := by rfl) (hv : Vis X.env.scope x := by first | exact Or.inl rfl | exact Or.inr (Or.inl rfl) | exact Or.inr (Or.inr rfl)) (hd : (x == ("__debug__" : Str)) = false := by decide) (hcd : (x == ("__classdict__" : Str)) = false := by decide)
    (he : starEach (e :: es) X.env = (false, eval e X.env) :: starEach es X.env := by rfl) (hpl : (backTo pos (starEach es X.env)).any (·.1) = false := by rfl) :
    PE X (.Call (.Name x p) (e :: es) [] pos) (tCallV i f sp E t) := by
  intro pins s σ H Q I h
  refine wpAny_Call_Name_kw (thn (pe_var hN hv hd hcd pins s σ H (fun v H1 => v = .ref f ∧ H1 = H) I ⟨_, h.1, rfl, rfl⟩) fun u s0 ⟨v, H0, I0, r0, ev, eH⟩ => ?_)
  subst ev eH
  cases (show u = Value.ref f from r0)
  refine PySem.W.callWith_K (h₀ := X.base) I0.ok.mod.kin hk (thn (ha pos pins s0 σ H0 _ I0 h.2) fun us s1 ⟨vs, H1, I1, r, q⟩ => ⟨I1.kIn, ?_⟩) he hpl
  exact run_fn F hr hb .nil hx I1 r (by rw [List.append_nil]; exact q)
theorem PS.nox {st : Stmt} {t : TS} (h : PS X.nox st t) : PS X st t := fun pins s σ H D I hw =>
  wpAny_mono (h pins s σ H D (I.wish _) hw) (fun _ _ q => q.unwish) fun _ _ z => False.elim z
end
end L2

end
noncomputable section
namespace L2
open PySem PySem.Spec PyProof.Rows
/-! ### {}, t * n -/
section
variable {X : Cx} {pins : List (Addr × Obj)} {σ : St} {H : Hp} {s : Shared}
theorem Inv.big' (I : Inv X pins σ H s) : sysModules < s.heap.objs.size := Nat.lt_trans (by decide) (I.mod.glob.keeps I.bk).lt
def tDNew : TE := fun _ H Q => ∀ p, H p = none → Q (.ref p) (upd H p (.dK []))
theorem pe_dnew {pos : Pos} : PE X (.Dict [] [] pos) tDNew := fun pins s σ H Q I h =>
  wpAny_Dict_empty ⟨.ref s.heap.objs.size, _, I.laid (a := s.heap.objs.size) (o := .dK []) (t' := s.toks) (fun _ _ q => Heap.get?_push_of_some _ q) (Nat.le_refl _)
    ⟨Nat.zero_le _, beq_eq_false_iff_ne.mpr (Ne.symm (Nat.ne_of_lt I.big')), [], .nil, Heap.DictOf.new s.heap⟩, rfl, h _ (I.hok.fresh (Nat.le_refl _))⟩
theorem noFill_tuple_mul : fillsNumberSlot (.type "tuple") "mul" = pure false :=
  PySem.fillsNumberSlot_seq (id := "tuple.__mul__") (r := some (.builtin "tuple.__rmul__")) F.slot_tuple_mul.lookup (by decide +kernel) F.slot_tuple_rmul.lookup (by decide +kernel)
theorem repeat_tuple : seqRepeat? (.type "tuple") = pure (some (.builtin "tuple.__mul__")) := by
  unfold seqRepeat?
  rw [PySem.seqSlot_of (T := "tuple") (name := "__mul__") (id := "tuple.__mul__") F.slot_tuple_mul.lookup (by decide +kernel), PySem.seqSlot_of (T := "tuple") (name := "__rmul__") (id := "tuple.__rmul__") F.slot_tuple_rmul.lookup (by decide +kernel)]
  rfl
theorem int_rmul_tuple (a : Int) (t : Tok) (l : Addr) (od : Option Addr) (its : Array Value) (n : Nat) (sl : Array (Option Value)) :
    Meets (Builtin.«int.__rmul__» ⟨[.int a t, .ref l], []⟩) (fun _ R s => s.heap.get? l = some ⟨.type "tuple", od, .seq its n, sl⟩ ∧ R (.ok (.ret Value.notImplemented)) s) :=
  .of_wp fun prog w A R s h => by
    obtain ⟨hp, g, d, tk, os⟩ := s; obtain ⟨hl, h⟩ := h
    wp_walk; exact ⟨_, rfl, h⟩
theorem tuple_mul (l : Addr) (od : Option Addr) (its : Array Value) (n : Nat) (sl : Array (Option Value)) (x : Int) (u : Tok) (h0 : its.isEmpty = false) (h1 : (x == 1) = false) (h2 : ¬ x ≤ 0) (h3 : ¬ (decide (x < -(2 ^ 63)) || decide (x ≥ 2 ^ 63)) = true) (h4 : ¬ (its.size : Int) * x > (2 ^ 63 - 1) / 8) (h5 : ¬ Builtin.Tuple.tupleTooMany ((its.size : Int) * x) = true) (h6 : (List.foldl (fun x1 x2 => x1 ++ x2) #[] (List.replicate x.toNat its)).size ≤ sizeLine) :
    Meets (Builtin.«tuple.__mul__» ⟨[.ref l, .int x u], []⟩) (fun _ R s => s.heap.get? l = some ⟨.type "tuple", od, .seq its n, sl⟩ ∧ R (.ok (.ret (.ref s.heap.objs.size))) { s with heap := s.heap.push { cls := .type "tuple", data := .seq (List.foldl (fun x1 x2 => x1 ++ x2) #[] (List.replicate x.toNat its)) } }) :=
  .of_wp fun prog w A R s h => by
    obtain ⟨hp, g, d, tk, os⟩ := s; obtain ⟨hl, h⟩ := h
    wp_walk
    rw [if_neg h3]
    wp_walk
    rw [if_neg h4]
    dsimp only
    rw [if_neg h5]
    refine wpAny_bind (wpAny_newObj_type ?_ h6)
    exact wpAny_pure ⟨_, rfl, h⟩
/-- a tuple times an int above 1 -/
def rRepT : R2 := fun x y H Q => ∃ l k xs, x = .ref l ∧ y = .int k ∧ H l = some (.tup xs) ∧ xs ≠ [] ∧ 2 ≤ k ∧ xs.length * k.toNat ≤ 100000 ∧ ∀ p, H p = none → Q (.ref p) (upd H p (.tup (List.replicate k.toNat xs).flatten))
theorem op_repT : OpR X (binaryOp .Mult) rRepT := by
  intro pins s σ H x y v u Q I rx ry h
  obtain ⟨l, k, xs, rfl, rfl, hH, hne, h2, hz, q⟩ := h
  cases rx
  obtain ⟨t, rfl⟩ := ry
  obtain ⟨its, r, ⟨o, e, hcl, n, hd⟩, _⟩ := I.tuple (SqT.of (K := X.K) hH)
  obtain ⟨oc, od, oda, osl⟩ := o
  dsimp only at hcl hd
  subst hcl hd
  have hlen := r.length
  have hpos : 0 < xs.length := by cases xs with | nil => exact absurd rfl hne | cons _ _ => simp
  have hnew : List.foldl (fun x1 x2 => x1 ++ x2) #[] (List.replicate k.toNat its.toArray) = (List.replicate k.toNat its).flatten.toArray := by
    have := foldl_rep its k.toNat []
    rw [List.nil_append] at this
    exact this
  have hsz : (List.replicate k.toNat its).flatten.length = k.toNat * its.length := len_rep its k.toNat
  have hk : k.toNat ≤ 100000 := by
    have : 1 * k.toNat ≤ xs.length * k.toNat := Nat.mul_le_mul_right _ hpos
    omega
  have hprod : ((its.toArray.size : Nat) : Int) * k ≤ 100000 := by
    rw [List.size_toArray, ← hlen]
    have : ((xs.length * k.toNat : Nat) : Int) = (xs.length : Int) * k := by rw [Int.natCast_mul, Int.toNat_of_nonneg (by omega)]
    omega
  have hbig : (100000 : Nat) ≤ sizeLine := by decide
  refine wpAny_binaryOp_repeat_ref (T := "tuple") (U := "int") (by decide) ⟨_, e, rfl⟩ (fun s' => typeIs_int s' k t) noFill_tuple_mul F.fills_int_mul F.slot_int_rmul repeat_tuple F.slot_int_index.lookup
    (call_meets F.slot_int_rmul (typeIs_int s k t) F.entry_int_rmul (F.args_int_rmul_2 _ _) (int_rmul_tuple k t l od its.toArray n osl)
      ⟨e, rfl, ⟨_, e, rfl⟩, call_meets F.slot_tuple_mul ⟨_, e, rfl⟩ F.entry_tuple_mul (F.args_tuple_mul_2 _ _) (tuple_mul l od its.toArray n osl k t ?_ ?_ (by omega) ?_ ?_ ?_ ?_) ⟨e, ?_⟩⟩)
  · cases its with
    | nil => exact absurd (List.length_eq_zero_iff.mp (by simpa using hlen)) hne
    | cons a b => simp
  · exact beq_eq_false_iff_ne.mpr (by omega)
  · rw [decide_eq_false (by omega), decide_eq_false (by omega)]; decide
  · omega
  · unfold Builtin.Tuple.tupleTooMany
    rw [decide_eq_false (by omega)]; decide
  · rw [hnew, List.size_toArray, hsz, ← hlen, Nat.mul_comm]; omega
  · rw [hnew]
    refine ⟨.ref s.heap.objs.size, _, I.laid (t' := s.toks) (o := .tup (List.replicate k.toNat xs).flatten) (fun b ob q => Heap.get?_push_of_some _ q) (Nat.le_refl _) ?_, rfl, q _ (I.hok.fresh (Nat.le_refl _))⟩
    exact ⟨by rw [len_rep, Nat.mul_comm]; omega, _, r.rep k.toNat, IsTup.new _ _⟩
end
end L2
namespace L2
open PySem PySem.Spec PyProof.Rows
theorem se_Dict {env : Env} {pos : Pos} {es : List Expr} {a b} : starEach (.Dict a b pos :: es) env = (false, eval (.Dict a b pos) env) :: starEach es env := rfl
theorem bt_ValueError : bootBuiltins "ValueError" = some (.type "ValueError") := by decide +kernel
end L2

end
noncomputable section
namespace L2
open PySem PySem.Spec PyProof.Rows
/-! ### texts -/
theorem split_exact {prog : Program} {w : World} {A : Around} {E : Value → Shared → Prop} {s : Shared} {x y : Str} {t u : Tok} {Q : Value → Shared → Prop} (hy : (y.length == 0) = false)
    (hq : ∀ l tk, l.map (·.1) = Txt.split x y → Q (.ref s.heap.objs.size) { s with heap := s.heap.push { cls := .type "list", data := .seq (strValues l).toArray }, toks := tk })
    (hsz : x.length ≤ sizeLine) (hsz3 : (Txt.split x y).length ≤ sizeLine) :
    wpAny (model prog w) A (call (.builtin "str.split") [.str x t, .str y u]) Q E s := by
  cases h1 : (decide (x.length < y.length) || decide (Builtin.Str.strKind x < Builtin.Str.strKind y))
  · cases hf : (Builtin.Str.occurrences x y 0 x.length (x.length + 1)).isEmpty
    · have hsz2 : (Builtin.Str.partsBetween x (Builtin.Str.occurrences x y 0 x.length (x.length + 1)) y.length).length ≤ sizeLine := by
        unfold Txt.split at hsz3
        rw [if_neg (ne_true_of_eq_false h1), if_neg (ne_true_of_eq_false hf)] at hsz3
        exact hsz3
      refine call_meets F.slot_str_split (typeIs_str _ _ _) F.entry_str_split (F.args_str_split_2 _ _) (meets_str_split_sep x y t u h1 hy hf hsz hsz2) ?_
      show wants Q E _ { s with toks := _, heap := s.heap.push { cls := .type "list", data := .seq (strsFrom s.toks (Builtin.Str.partsBetween x (Builtin.Str.occurrences x y 0 x.length (x.length + 1)) y.length)).toArray } }
      rw [strsFrom_eq]
      exact hq (numbered s.toks _) _ ((numbered_texts _ _).trans ((if_neg (ne_true_of_eq_false h1)).trans (if_neg (ne_true_of_eq_false hf))).symm)
    · exact call_meets F.slot_str_split (typeIs_str _ _ _) F.entry_str_split (F.args_str_split_2 _ _) (meets_str_split_not_found x y t u h1 hy hf)
        (hq [(x, t)] _ ((if_neg (ne_true_of_eq_false h1)).trans (if_pos hf)).symm)
  · exact call_meets F.slot_str_split (typeIs_str _ _ _) F.entry_str_split (F.args_str_split_2 _ _) (meets_str_split_cannot_occur x y t u h1)
      (hq [(x, t)] _ (if_pos h1).symm)
theorem strs_of : ∀ {ts : List Str} {us : List Value}, Vals (ts.map V.str) us → ∃ l : List (Str × Tok), us = strValues l ∧ l.map (·.1) = ts
  | [], _, .nil => ⟨[], rfl, rfl⟩
  | t :: ts, _, .cons r q => by
    obtain ⟨tk, rfl⟩ := r
    obtain ⟨l, rfl, e⟩ := strs_of q
    exact ⟨(t, tk) :: l, rfl, by rw [List.map_cons, e]⟩
theorem vals_strs : ∀ (l : List (Str × Tok)), Vals ((l.map (·.1)).map V.str) (strValues l)
  | [] => .nil
  | (x, t) :: l => .cons ⟨t, rfl⟩ (vals_strs l)
section
variable {X : Cx}
def rSplit : V → List V → Hp → VK → Prop := fun x vs H Q => ∃ z y, x = .str z ∧ vs = [.str y] ∧ 1 ≤ y.length ∧ z.length ≤ 100000 ∧ ∀ p, H p = none → Q (.ref p) (upd H p (.lst ((Txt.split z y).map V.str)))
theorem mtr_split : MtR X "str.split" rSplit := by
  intro pins s σ H x vs v us Q I rx rv h
  obtain ⟨z, y, rfl, rfl, hy, hz, q⟩ := h
  obtain ⟨t, rfl⟩ := rx
  obtain ⟨u, rfl, ru⟩ := vals1 rv
  obtain ⟨t', rfl⟩ := ru
  have hb : 200000 ≤ sizeLine := by decide
  refine split_exact (by rw [beq_eq_false_iff_ne]; omega) (fun l tk el => ?_) (by omega) (by have := split_weight z y hy; omega)
  refine ⟨.ref s.heap.objs.size, _, I.laid (t' := tk) (o := .lst ((Txt.split z y).map V.str)) (fun b ob q => Heap.get?_push_of_some _ q) (Nat.le_refl _) ?_, rfl, q _ (I.hok.fresh (Nat.le_refl _))⟩
  refine ⟨?_, strValues l, 0, by rw [← el]; exact vals_strs l, Heap.get?_push_size _ rfl⟩
  have := split_weight z y hy
  rw [List.length_map]
  omega
def rJoin (K : PySem.W.Frag) : V → List V → Hp → VK → Prop := fun x vs H Q => ∃ z a ts, x = .str z ∧ vs = [.ref a] ∧ SqL K H a (ts.map V.str) ∧ JoinOk z ts = true ∧ Q (.str (Str.join z ts)) H
theorem mtr_join (K : PySem.W.Frag) (hK : X.K = K := by rfl) : MtR X "str.join" (rJoin K) := by
  subst hK
  intro pins s σ H x vs v us Q I rx rv h
  obtain ⟨z, a, ts, rfl, rfl, ha, hok, q⟩ := h
  obtain ⟨t, rfl⟩ := rx
  obtain ⟨u, rfl, ru⟩ := vals1 rv
  cases ru
  obtain ⟨its, r, pl, _⟩ := I.list ha
  obtain ⟨l, rfl, el⟩ := strs_of r
  refine SC.join pl.isList el hok fun t' k => ⟨.str (Str.join z ts), H, I.tok k, ⟨t', ?_⟩, q⟩
  show Value.str (Builtin.Str.glued z ts) t' = _
  rw [StrLaws.glued_eq_join]
def rStrip : V → List V → Hp → VK → Prop := fun x vs H Q => ∃ z y, x = .str z ∧ vs = [.str y] ∧ z.length ≤ sizeLine ∧ Q (.str (Txt.stripChars z y)) H
theorem mtr_strip : MtR X "str.strip" rStrip := by
  intro pins s σ H x vs v us Q I rx rv h
  obtain ⟨z, y, rfl, rfl, hz, q⟩ := h
  obtain ⟨t, rfl⟩ := rx
  obtain ⟨u, rfl, ru⟩ := vals1 rv
  obtain ⟨t', rfl⟩ := ru
  exact SC.stripChars (fun t' k => ⟨.str _, H, I.tok k, ⟨t', rfl⟩, q⟩) hz
def rStarts : V → List V → Hp → VK → Prop := fun x vs H Q => ∃ z y, x = .str z ∧ vs = [.str y] ∧ Q (.bl (Txt.startswith z y)) H
theorem mtr_startswith : MtR X "str.startswith" rStarts := by
  intro pins s σ H x vs v us Q I rx rv h
  obtain ⟨z, y, rfl, rfl, q⟩ := h
  obtain ⟨t, rfl⟩ := rx
  obtain ⟨u, rfl, ru⟩ := vals1 rv
  obtain ⟨t', rfl⟩ := ru
  exact SC.startswith ⟨.bl _, H, I, rfl, q⟩
theorem call_intS : CallR X (.type "int") (fun xs H Q => ∃ z n, xs = [.str z] ∧ PySem.intText? z = some n ∧ z.length ≤ 640 ∧ Q (.int n) H) := by
  intro pins s σ H xs us Q I r h
  obtain ⟨z, n, rfl, hn, hl, q⟩ := h
  obtain ⟨u, rfl, ru⟩ := vals1 r
  obtain ⟨t, rfl⟩ := ru
  exact PySem.W.KIN.call_text hn hl ⟨.int n, H, I.tok _, ⟨_, rfl⟩, q⟩
def rSlS : V → Option Int → Option Int → Hp → VK → Prop := fun x lo hi H Q => ∃ z, x = .str z ∧ z.length ≤ sizeLine ∧ Q (.str (Txt.slice z lo hi)) H
theorem sl_strR : SlR X rSlS := by
  intro pins s σ H x v vl vu lo hi sl Q I rx hs pl pu h
  obtain ⟨z, rfl, hz, q⟩ := h
  obtain ⟨t, rfl⟩ := rx
  refine ⟨"str", _, F.slot_str_getitem.lookup, typeIs_str _ _ _, ?_⟩
  obtain ⟨o, ho, hc, hd⟩ := hs
  have fin : ∀ t' k, EP X pins σ Q (.str (Txt.slice z lo hi) t') { s with toks := k } := fun t' k => ⟨.str _, H, I.tok k, ⟨t', rfl⟩, q⟩
  cases pl with
  | none =>
    cases pu with
    | none => exact wpAny_getItem_str_slice (l := none) (u := none) (st := none) ⟨o, ho, hc, hd⟩ rfl (post_val_or_str ⟨Nat.le_trans (Txt.slice_le z _ _) hz, fin⟩)
    | int j tj => exact wpAny_getItem_str_slice (l := none) (u := some (j, tj)) (st := none) ⟨o, ho, hc, hd⟩ rfl (post_val_or_str ⟨Nat.le_trans (Txt.slice_le z _ _) hz, fin⟩)
  | int i ti =>
    cases pu with
    | none => exact wpAny_getItem_str_slice (l := some (i, ti)) (u := none) (st := none) ⟨o, ho, hc, hd⟩ rfl (post_val_or_str ⟨Nat.le_trans (Txt.slice_le z _ _) hz, fin⟩)
    | int j tj => exact wpAny_getItem_str_slice (l := some (i, ti)) (u := some (j, tj)) (st := none) ⟨o, ho, hc, hd⟩ rfl (post_val_or_str ⟨Nat.le_trans (Txt.slice_le z _ _) hz, fin⟩)
end
end L2

end
noncomputable section
namespace L2
open PySem PySem.Spec PyProof.Rows
/-! ### the signs of a text, one by one -/
def Its (z : Str) : It := ⟨fun i _ => i < z.length, fun i H x H' => H' = H ∧ ∃ c, z.cps[i]? = some c ∧ x = .str ⟨#[c]⟩, fun i _ => z.length ≤ i⟩
theorem IsStrIter.at' {h h' : Heap} {a : Addr} {ty : String} {x : Str} {t : Tok} {i : Nat} (y : h.IsStrIter a ty x t i) (k : ∀ o, h.get? a = some o → h'.get? a = some o) : h'.IsStrIter a ty x t i := by
  obtain ⟨o, e, r⟩ := y
  exact ⟨o, k o e, r⟩
theorem turn_str {P : Program} {w : World} {K : PySem.W.Frag} {tg : Expr} (z : Str) (t : Tok) (it : Addr) : Turn P w K tg (Its z) [it] it (fun i h => h.IsStrIter it (strIterType z) z t i) where
  mem := by simp
  obj := fun i h st b hb => by
    have e : b = it := by simpa using hb
    subst e
    obtain ⟨o, e, c, d⟩ := st
    exact ⟨o, e, fun v z => by rw [d] at z; cases z⟩
  keep := fun i h h' st k => IsStrIter.at' st fun o e => k it (by simp) o e
  item := by
    intro X hP hw hK hc i pins s σ H E I hf st hg
    subst hP hw hK
    obtain ⟨f0, f1, f2, f3, f4, f5⟩ := hf it (by simp)
    have hlt : i < z.cps.size := hg
    have hx : z.cps[i]? = some z.cps[i] := Array.getElem?_eq_getElem hlt
    have fin : ∀ h' : Heap, h'.IsStrIter it (strIterType z) z t (i + 1) → Heap.SameBut it s.heap h' → ∃ u, some (Value.str ⟨#[z.cps[i]]⟩ s.toks) = some u ∧
        wpAny (model X.prog X.w) X.A (letOwnedTupleGo tg (.ref it) u) (fun _ s2 => ∃ x H', Inv X pins σ H' s2 ∧ RelV x u ∧ (Its z).yld i H x H' ∧ s2.heap.IsStrIter it (strIterType z) z t (i + 1) ∧ ∀ b ∈ [it], H' b = none) E { s with heap := h', toks := s.toks + 1 } := fun h' st' sb => by
      have I1 : Inv X pins σ H { s with heap := h', toks := s.toks + 1 } := I.turned (t' := s.toks + 1) (fun b o hb e => (sb.2 b hb).trans e) f0 f1 f3 f4 f5
      obtain ⟨o, e, c, d⟩ := id st'
      refine ⟨_, rfl, go_of (s := { s with heap := h', toks := s.toks + 1 }) e c d ?_ ⟨.str ⟨#[z.cps[i]]⟩, H, I1, ⟨_, rfl⟩, ⟨rfl, _, hx, rfl⟩, st', fun b hb => (hf b hb).1⟩⟩
      unfold strIterType
      split <;> decide
    by_cases ha : z.cps.all (· < 128) = true
    · have hty : strIterType z = "str_ascii_iterator" := by unfold strIterType; rw [if_pos ha]
      rw [hty] at st fin
      exact wpAny_pyNext_ascii_item st hx fun h' st' sb => by rw [hty]; exact fin h' st' sb
    · have hty : strIterType z = "str_iterator" := by unfold strIterType; rw [if_neg ha]
      rw [hty] at st fin
      exact wpAny_pyNext_wide_item st hx fun h' st' sb => by rw [hty]; exact fin h' st' sb
  done := by
    intro X hP hw hK hc i pins s σ H E I hf st hg
    subst hP hw hK
    obtain ⟨f0, f1, f2, f3, f4, f5⟩ := hf it (by simp)
    have hg : z.length ≤ i := hg
    have hx : z.cps[i]? = none := Array.getElem?_eq_none_iff.mpr hg
    by_cases ha : z.cps.all (· < 128) = true
    · have hty : strIterType z = "str_ascii_iterator" := by unfold strIterType; rw [if_pos ha]
      rw [hty] at st
      exact wpAny_pyNext_ascii_end (I.ok.hd hc) st hx fun h' eb => ⟨rfl, I.turned (t' := s.toks) (fun b o hb e => eb b o hb e) f0 f1 f3 f4 f5⟩
    · have hty : strIterType z = "str_iterator" := by unfold strIterType; rw [if_neg ha]
      rw [hty] at st
      exact wpAny_pyNext_wide_end (I.ok.hd hc) st hx fun h' eb => ⟨rfl, I.turned (t' := s.toks) (fun b o hb e => eb b o hb e) f0 f1 f3 f4 f5⟩
  self := fun A i s Q E st h => by
    by_cases ha : z.cps.all (· < 128) = true
    · have hty : strIterType z = "str_ascii_iterator" := by unfold strIterType; rw [if_pos ha]
      rw [hty] at st
      exact wpAny_pyIter_striter_ascii st h
    · have hty : strIterType z = "str_iterator" := by unfold strIterType; rw [if_neg ha]
      rw [hty] at st
      exact wpAny_pyIter_striter_wide st h
def iStr (tl : TE) : TI := fun σ H R => tl σ H fun x H1 => ∃ z, x = .str z ∧ R (Its z) H1
theorem piS {X : Cx} {tg l : Expr} {tl : TE} (hl : PE X l tl) : PI X tg l (iStr tl) := by
  intro pins s σ H R I h
  refine thn (hl pins s σ H _ I h) fun u s1 ⟨x, H1, I1, r1, z, ex, q⟩ => ?_
  subst ex
  obtain ⟨t, rfl⟩ := r1
  refine wpAny_pyIter_strU ?_
  have k : ∀ b o, s1.heap.get? b = some o → (s1.heap.push { cls := Value.type (strIterType z), data := Data.fields #[Value.str z t, Value.int 0 0] }).get? b = some o := fun b o e => Heap.get?_push_of_some _ e
  refine ⟨s1.heap.objs.size, [s1.heap.objs.size], _, Its z, H1, rfl, I1.kept (t' := s1.toks) k, turn_str z t _, ⟨_, Heap.get?_push_size _ rfl, rfl, rfl⟩, fun b hb => ?_, q⟩
  have e : b = s1.heap.objs.size := by simpa using hb
  subst e
  exact I1.fpOk (Nat.le_refl _) (I1.hok.fresh (Nat.le_refl _))
theorem comp_str {te : TE} {t : Nat} {ix : List Nat} {σ : St} {H1 : Hp} {Q : VK} {D : Addr} {z : Str} (f : Nat → V) (hn : z.length ≤ sizeLine) (ht : 0 < t) (hD : H1 D = none)
    (hx : ∀ (c : Nat) (H2 : Hp) (Z : VK), c ∈ z.cps.toList → Same H1 H2 → (∀ H3, Same H2 H3 → Z (f c) H3) → te ((capt t ix σ).set 0 (some (.str ⟨#[c]⟩))) H2 Z)
    (hq : ∀ H', Same H1 H' → H' D = some (.lst (z.cps.toList.map f)) → Q (.ref D) H') : CompIt (Its z) (gName 0) te (capt t ix σ) H1 Q D := by
  have hl : z.cps.toList.length = z.length := Array.length_toList
  refine ⟨fun i m ys H2 => m = z.length - i ∧ i ≤ z.length ∧ ys = (z.cps.toList.take i).map f ∧ Same H1 H2, ⟨z.length, by simp, Nat.zero_le _, by simp, same_upd hD⟩, ?_⟩
  rintro i m ys H2 ⟨rfl, hi, rfl, sm⟩ hls
  by_cases hlt : i < z.length
  · refine .inr ⟨hlt, by rw [List.length_map, List.length_take]; omega, fun x H' y => ?_⟩
    obtain ⟨e, c, hc, ex⟩ := y
    subst e ex
    have hc' : z.cps.toList[i]? = some c := by rw [Array.getElem?_toList]; exact hc
    refine ⟨capt_set ht, hx c _ _ (List.mem_of_getElem? hc') sm fun H4 s4 => ⟨s4 _ _ hls, z.length - (i + 1), by omega, rfl, hlt, ?_, (sm.trans s4).upd hD⟩⟩
    rw [List.take_add_one, List.map_append, hc']; rfl
  · have e : i = z.length := by omega
    subst e
    exact .inl ⟨Nat.le_refl _, hq _ sm (by rw [hls, List.take_of_length_le (by omega)])⟩
/-! ### a text times an int -/
theorem op_mulS {X : Cx} : OpR X (binaryOp .Mult) (fun x y H Q => ∃ z n, x = .str z ∧ y = .int n ∧ MulOk z n ∧ Q (.str (Txt.mul z n)) H) := by
  intro pins s σ H x y v u Q I rx ry h
  obtain ⟨z, n, rfl, rfl, hok, q⟩ := h
  obtain ⟨t, rfl⟩ := rx
  obtain ⟨t', rfl⟩ := ry
  exact SB.mul hok fun t' k => ⟨.str _, H, I.tok k, ⟨t', rfl⟩, q⟩
end L2

end
noncomputable section
namespace PySem
open Sem (wp)
theorem entry_unchain : entryFor table "proto.unchain" = some Builtin.«proto.unchain» := entryFor_of_tree (by kernel_rfl)
/-- the exception that is handled: what it was raised in ends -/
def ChainAt (h : Heap) (e : Addr) (c : Option (Addr × Obj)) : Prop := ∃ oe vs, h.get? e = some oe ∧ oe.data = .fields vs ∧ match c with
  | none => vs[2]? = some .none
  | some (e1, o1) => vs[2]? = some (.ref e1) ∧ e1 ≠ e ∧ h.get? e1 = some o1 ∧ ∃ ws, o1.data = .fields ws ∧ ws[2]? = some .none
section
variable {prog : Program} {w : World} {A : Around} {E : Value → Shared → Prop} {s : Shared}
theorem unchain_ok {e h : Addr} {c : Option (Addr × Obj)} {Q : Value → Shared → Prop} (ch : ChainAt s.heap h c) (hn : ∀ e1 o1, c = some (e1, o1) → e1 ≠ e) (hq : Q .none s) :
    wpAny (model prog w) A (runValue (.builtin "proto.unchain" ⟨[.ref e, .ref h, .ref h, .bool false], []⟩)) Q E s := by
  obtain ⟨oe, vs, he, hd, hc⟩ := ch
  refine wpAny_runValue (codeAny_builtin entry_unchain ?_)
  unfold Builtin.«proto.unchain»
  cases c with
  | none =>
    refine wpAny_bind (wpAny_field he hd hc ?_)
    rw [if_pos (by decide)]
    exact wpAny_pure hq
  | some p =>
    obtain ⟨e1, o1⟩ := p
    obtain ⟨h2, hne, h1, ws, hw, hw2⟩ := hc
    refine wpAny_bind (wpAny_field he hd h2 ?_)
    rw [if_neg (show ¬ (Value.ref e1 == Value.none) = true from by simp), if_neg (show ¬ (Value.ref e1 == Value.ref e) = true from by simp; exact hn e1 o1 rfl), if_neg (show ¬ (Value.ref e1 == Value.ref h) = true from by simp; exact hne)]
    refine wpAny_bind (wpAny_pure ?_)
    refine wpAny_pure ⟨Code.quiet_builtin _ (by decide +kernel), codeAny_builtin entry_unchain ?_⟩
    unfold Builtin.«proto.unchain»
    refine wpAny_bind (wpAny_field h1 hw hw2 ?_)
    rw [if_pos (by decide)]
    exact wpAny_pure hq
theorem raiseNew_some {α : Type} {e h : Addr} {c : Option (Addr × Obj)} {oe : Obj} {vs : Array Value} {Q : α → Shared → Prop} (hh : A.handled = some (.ref h)) (hne : h ≠ e) (ch : ChainAt s.heap h c) (hn : ∀ e1 o1, c = some (e1, o1) → e1 ≠ e)
    (he : s.heap.get? e = some oe) (hd : oe.data = .fields vs) (hsz : 2 < vs.size) (hE : E (.ref e) { s with heap := s.heap.update e (Obj.mapFields (·.setIfInBounds 2 (.ref h))) }) : wpAny (model prog w) A (raiseNew (.ref e) : Sem α) Q E s := by
  unfold raiseNew
  refine wpAny_bind (wpAny_handled ?_)
  rw [hh]
  dsimp only
  rw [if_pos (show (Value.ref h != Value.ref e) = true from by simp; exact hne)]
  refine wpAny_bind (wpAny_holding (unchain_ok ch hn ?_))
  exact wpAny_bind (show wpAny _ _ (setField (.ref e) 2 (.ref h)) _ _ _ from wpAny_setField he hd hsz (wpAny_throw hE))
/-- a new exception, laid just now, is raised while h is handled -/
theorem raiseNew_fresh {α : Type} {h1 : Heap} {g : Array GenState} {d : Drawn} {tk : Nat} {os : OsState} {h : Addr} {c : Option (Addr × Obj)} {oE : Obj} {vs : Array Value} {Q : α → Shared → Prop} (hh : A.handled = some (.ref h)) (ch : ChainAt h1 h c)
    (hd : oE.data = .fields vs) (hsz : 2 < vs.size) (hE : ∀ h', (∀ b o, h1.get? b = some o → h'.get? b = some o) → h'.get? h1.objs.size = some (oE.mapFields (·.setIfInBounds 2 (.ref h))) → E (.ref h1.objs.size) ⟨h', g, d, tk, os⟩) :
    wpAny (model prog w) A (raiseNew (.ref h1.objs.size) : Sem α) Q E ⟨h1.push oE, g, d, tk, os⟩ := by
  have hnf : oE.isFreed = false := Obj.isFreed_of_fields hd
  have get : (h1.push oE).get? h1.objs.size = some oE := Heap.get?_push_size _ hnf
  have kp : ∀ b o, h1.get? b = some o → (h1.push oE).get? b = some o := fun b o q => Heap.get?_push_of_some _ q
  have ne : ∀ b o, h1.get? b = some o → b ≠ h1.objs.size := fun b o q => Nat.ne_of_lt (Heap.lt_size q)
  obtain ⟨oe, ws, he, hde, hcc⟩ := ch
  refine raiseNew_some (h := h) (c := c) (vs := vs) hh (ne h oe he) ⟨oe, ws, kp h oe he, hde, ?_⟩ (fun e1 o1 ec => ?_) get hd hsz (hE _ (fun b o q => (Heap.get?_update_other _ _ (Ne.symm (ne b o q))).trans (kp b o q)) (Heap.get?_update_self _ get (Obj.isFreed_of_fields (Obj.data_mapFields hd _))))
  · cases c with
    | none => exact hcc
    | some p =>
      obtain ⟨e1, o1⟩ := p
      obtain ⟨a1, a2, a3, a4⟩ := hcc
      exact ⟨a1, a2, kp e1 o1 a3, a4⟩
  · subst ec
    exact ne e1 o1 hcc.2.2.1
theorem ChainAt.keep {h h' : Heap} {e : Addr} {c : Option (Addr × Obj)} (ch : ChainAt h e c) (k1 : ∀ o, h.get? e = some o → h'.get? e = some o) (k2 : ∀ e1 o1, c = some (e1, o1) → h.get? e1 = some o1 → h'.get? e1 = some o1) : ChainAt h' e c := by
  obtain ⟨oe, ws, he, hde, hcc⟩ := ch
  refine ⟨oe, ws, k1 _ he, hde, ?_⟩
  cases c with
  | none => exact hcc
  | some p =>
    obtain ⟨e1, o1⟩ := p
    obtain ⟨a1, a2, a3, a4⟩ := hcc
    exact ⟨a1, a2, k2 e1 o1 rfl a3, a4⟩
theorem list_end_some {it l h : Addr} {c : Option (Addr × Obj)} {i : Nat} {items : Array Value} {Q : Option Value → Shared → Prop} (hh : A.handled = some (.ref h)) (ch : ChainAt s.heap h c) (hih : it ≠ h) (hic : ∀ e1 o1, c = some (e1, o1) → it ≠ e1)
    (hit : s.heap.IsListIter it l i) (hl : s.heap.IsList l items) (hx : items[i]? = none)
    (hQ : ∀ h', Heap.ExtBut it s.heap h' → Q none { s with heap := h' }) : wpAny (model prog w) A (pyNext (.ref it)) Q E s := by
  obtain ⟨o, ho, hc, hd⟩ := id hit
  obtain ⟨ol, hol, _, nl, hdl⟩ := hl
  unfold pyNext
  refine wpAny_bind (wpAny_attempt (wpAny_callSpecial?_slot (name := Str.ofString "__next__") hit.typeIs slot_listiter_next
    (wpAny_call_entry slot_listiter_next hit.typeIs entry_listiter_next ?_ (args_listiter_next _))))
  show wpAny _ _ (field (.ref it) 0 >>= _) _ _ s
  refine wpAny_bind (wpAny_field ho hd (x := .ref l) rfl ?_)
  show wpAny _ _ (if (Value.ref l == Value.none) = true then _ else _) _ _ s
  rw [if_neg (show ¬ ((Value.ref l == Value.none) = true) from Bool.false_ne_true)]
  show wpAny _ _ (field (.ref it) 1 >>= _) _ _ s
  refine wpAny_bind (wpAny_field ho hd (x := .int i 0) rfl ?_)
  show wpAny _ _ (seqItems? (.ref l) >>= _) _ _ s
  refine wpAny_bind (wpAny_seqItems hol hdl ?_)
  simp only [Int.toNat_natCast, hx]
  refine wpAny_bind (wpAny_rule (wpAny_bind (wpAny_setField ho hd (by simp) ?_)))
  show wpAny _ _ (newExc (.type "StopIteration") [] >>= _) _ _ _
  refine wpAny_bind ?_
  simp only [newExc, newTuple]
  refine wpAny_bind (wpAny_newObj_type ?_ (by size_fits))
  refine wpAny_bind (m := firstArgMember _ _) (wpAny_of_eq (a := Value.none) (by first | rfl | (simp only [firstArgMember]; rfl)) ?_)
  refine wpAny_newObj_type ?_ (by size_fits)
  refine raiseNew_fresh (A := A.in1) (h := h) (c := c) hh (ch.keep (fun ob q => ?_) fun e1 o1 ec q => ?_) rfl (by simp; omega) fun h' hk hg => ?_
  · exact Heap.get?_push_of_some _ ((Heap.get?_update_other _ _ hih).trans q)
  · exact Heap.get?_push_of_some _ ((Heap.get?_update_other _ _ (hic e1 o1 ec)).trans q)
  · refine wpAny_bind (wpAny_isInstance (T := "StopIteration") (b := true) ⟨_, hg, Obj.cls_mapFields _ _⟩ isSubtype_stop ?_)
    exact wpAny_pure (hQ _ fun b ob hb q => hk b ob (Heap.get?_push_of_some _ ((Heap.get?_update_other _ _ (Ne.symm hb)).trans q)))
end
end PySem

end
noncomputable section
namespace PySem
open Sem (wp)
theorem Walks.listH {prog : Program} {w : World} {A : Around} {h : Addr} {c : Option (Addr × Obj)} (hh : A.handled = some (.ref h)) (I ax : Addr) (hne : ax ≠ I) (hih : I ≠ h) (hic : ∀ e1 o1, c = some (e1, o1) → I ≠ e1) (items : Array Value) :
    Walks prog w A I ([I, ax, h] ++ (c.map Prod.fst).toList) [I] items.size (fun i v => items[i]? = some v) (fun i hp => hp.IsListIter I ax i ∧ hp.IsList ax items ∧ ChainAt hp h c) where
  sub := fun b hb => by simp at hb; simp [hb]
  frame := fun _ _ _ st hk => ⟨st.1.at fun o e => hk I (by simp) o e, st.2.1.at fun o e => hk ax (by simp) o e, st.2.2.keep (fun o e => hk h (by simp) o e) fun e1 o1 ec e => hk e1 (by subst ec; simp) o1 e⟩
  item := fun i s Q E hi st hQ => by
    refine wpAny_pyNext_list_item st.1 st.2.1 (x := items[i]) (by simp [hi]) fun h' hit' hs' => ?_
    exact hQ _ h' s.toks (by simp [hi]) ⟨hit', st.2.1.extBut hs'.extBut hne, st.2.2.keep (fun o e => (hs'.2 h (Ne.symm hih)).trans e) fun e1 o1 ec e => (hs'.2 e1 (Ne.symm (hic e1 o1 ec))).trans e⟩ fun b o hb e => hs'.extBut b o (fun h => hb (by simp [h])) e
  done := fun s Q E st hQ => list_end_some hh st.2.2 hih hic st.1 st.2.1 (by simp) fun h' he' => hQ h' s.toks fun b o hb e => he' b o (fun h => hb (by simp [h])) e
  self := fun _ _ _ _ st hQ => wpAny_pyIter_listiter st.1 hQ
end PySem
namespace L2
open PySem PySem.Spec PyProof.Rows
/-! ### a caught exception with what it was raised in -/
def ctxV : Option Addr → Value
  | none => .none
  | some e => .ref e
def CaX (e C : Addr) (dx c : Option Addr) : HO := .ext fun h => ∃ vs sl, h.get? e = some { cls := .ref C, dict := dx, data := .fields vs, slots := sl } ∧ vs[2]? = some (ctxV c)
def ChP (ea : Addr) (c : Option Addr) (pc : List (Addr × Obj)) : Prop := c = none ∨ ∃ e1 o1 ws, c = some e1 ∧ e1 ≠ ea ∧ (e1, o1) ∈ pc ∧ o1.data = .fields ws ∧ ws[2]? = some .none
section
variable {X : Cx} {pins : List (Addr × Obj)} {σ : St} {H : Hp} {s : Shared}
theorem cx_ok {P : Program} {w : World} {h : Heap} {e C : Addr} {dx c : Option Addr} {vs : Array Value} {sl : Array (Option Value)} (q : h.get? e = some { cls := .ref C, dict := dx, data := .fields vs, slots := sl }) (q2 : vs[2]? = some (ctxV c)) : ObjOk P w H h e (CaX e C dx c) := ⟨⟨_, _, q, q2⟩, ⟨_, q⟩, fun _ _ ⟨a, b, z, y⟩ k => ⟨a, b, k _ z, y⟩⟩
theorem cx_get {P : Program} {w : World} {h : Heap} {e C : Addr} {dx c : Option Addr} (ok : HOk P w H h) (q : H e = some (CaX e C dx c)) : ∃ vs sl, h.get? e = some { cls := .ref C, dict := dx, data := .fields vs, slots := sl } ∧ vs[2]? = some (ctxV c) := (show ObjOk P w H h e (CaX e C dx c) from ok e _ q).1
theorem chain_of {ea C : Addr} {dx c : Option Addr} {pc : List (Addr × Obj)} (I : Inv X pins σ H s) (h : H ea = some (CaX ea C dx c)) (ck : ChP ea c pc) (hpc : ∀ p ∈ pc, p ∈ X.pn) : ∃ cc, ChainAt s.heap ea cc ∧ ∀ e1 o1, cc = some (e1, o1) → s.heap.get? e1 = some o1 := by
  obtain ⟨vs, sl, g, g2⟩ := cx_get I.hok h
  rcases ck with rfl | ⟨e1, o1, ws, rfl, h1, h2, h3, h4⟩
  · exact ⟨none, ⟨_, vs, g, rfl, g2⟩, fun _ _ z => nomatch z⟩
  · have q := (I.pin (e1, o1) (List.mem_append_left _ (hpc _ h2))).1
    exact ⟨some (e1, o1), ⟨_, vs, g, rfl, g2, h1, q, ws, h3, h4⟩, fun _ _ z => by cases z; exact q⟩
theorem call_anyH (K : PySem.W.Frag) (ea : Addr) (pc : List (Addr × Obj)) (hh : X.A.handled = some (.ref ea)) (hpc : ∀ p ∈ pc, p ∈ X.pn) (hK : X.K = K := by rfl) :
    CallR X (.builtin "any") (fun xs H Q => ∃ (a : Addr) (bs : List Bool) (C : Addr) (dx c : Option Addr), xs = [.ref a] ∧ SqL K H a (bs.map V.bl) ∧ H ea = some (CaX ea C dx c) ∧ ChP ea c pc ∧ Q (.bl (bs.any id)) H) := by
  subst hK
  intro pins s σ H xs us Q I r h
  obtain ⟨a, bs, C, dx, c, rfl, hq, he, ck, q⟩ := h
  obtain ⟨u, rfl, ru⟩ := r.one
  cases ru
  obtain ⟨cc, ch, hcc⟩ := chain_of I he ck hpc
  obtain ⟨its, rv, p, _⟩ := I.list hq
  obtain ⟨o, n, eo, hcl, hdt, hsq⟩ := id p
  have hl : its.length = bs.length := by rw [← rv.length, List.length_map]
  have hlt : a < s.heap.objs.size := Heap.lt_size eo
  obtain ⟨oe, ve, ge, _⟩ := id ch
  have hea : ea < s.heap.objs.size := Heap.lt_size ge
  have W : Walks X.prog X.w X.A.in1 s.heap.objs.size _ _ _ _ _ := Walks.listH (A := X.A.in1) (h := ea) (c := cc) hh s.heap.objs.size a (Nat.ne_of_lt hlt) (Nat.ne_of_gt hea) (fun e1 o1 z => Nat.ne_of_gt (Heap.lt_size (hcc e1 o1 z))) its.toArray
  refine call_any_walk (wpAny_pyIter_list p.isList ⟨_, _, _, _, _, _, fun i => bs.getD i false, rfl, W, ⟨⟨_, Heap.get?_push_size _ rfl, rfl, rfl⟩, p.isList.push _, ch.keep (fun o e => Heap.get?_push_of_some _ e) fun e1 o1 _ e => Heap.get?_push_of_some _ e⟩, fun i v s' Q' E' e hQ => ?_, fun h' tk k => ⟨.bl (bs.any id), H, ?_, ?_, q⟩⟩)
  · have ev := vals_bool_at rv (i := i) (v := v) (by simpa using e)
    rw [ev]
    exact wpAny_truthy_bool hQ
  · exact I.kept fun b u e => k b u (by simp; exact Nat.ne_of_lt (Heap.lt_size e)) (Heap.get?_push_of_some _ e)
  · rw [List.size_toArray, hl, range_any]; rfl
theorem isiY (K : PySem.W.Frag) (hK : X.K = K := by rfl) : CallR X (.builtin "isinstance") (fun xs H Q => ∃ e C dx cx c cv b, xs = [.ref e, c] ∧ clsV c = some cv ∧ H e = some (CaX e C dx cx) ∧ dictOk H dx ∧ PySem.W.ExcK K C ∧ PySem.W.kitOne K (.ref C) cv = some b ∧ Q (.bl b) H) := by
  subst hK
  intro pins s σ H xs us Q I r h
  obtain ⟨x, C, dx, cx, c, cv, b, rfl, hc, hx, hd, k, e, q⟩ := h
  obtain ⟨u, v, rfl, ru, rv⟩ := r.two
  have hv : v = cv := by
    cases c with
    | ty n => cases rv; exact Option.some.inj hc
    | ref a => cases rv; exact Option.some.inj hc
    | _ => cases hc
  subst hv
  cases (show u = Value.ref x from ru)
  obtain ⟨vs, sl, g, _⟩ := cx_get I.hok hx
  have J : ∃ ox od, PySem.W.InstAt s.heap x ox C od := by
    cases dx with
    | none => exact ⟨_, none, g, rfl, rfl, trivial⟩
    | some d =>
      obtain ⟨fs, hd⟩ := hd
      obtain ⟨o, q⟩ := (I.hok d _ hd).thing
      exact ⟨_, some o, g, rfl, rfl, q⟩
  obtain ⟨ox, od, J⟩ := J
  exact PySem.W.kia_one (PySem.W.kitx_exc k) I.kIn J e (fun z => nomatch z) fun tk => ⟨.bl b, H, I.tok tk, rfl, q⟩
end
end L2

end
noncomputable section
namespace L2
open PySem PySem.Spec PyProof.Rows
section
variable [Dp] {X : Cx} {pins : List (Addr × Obj)} {σ : St} {H : Hp} {s : Shared}
/-! ### try .. except R as n, with what it was raised in -/
def tTry2 (E : XK) (Rp : Addr → Prop) (i : Nat) (tb : TS) (ts : Addr → List (Addr × Obj) → TS) : TS := fun D σ H => tb D σ H ∧ ∀ Cv dx H' ea, E Cv dx H' → H' ea = none → ∃ c, Cv = .ref c ∧ Rp c ∧ ∀ cx pc, ChP ea cx pc →
  ts ea pc { nx := fun _ _ => False, rt := D.rt } ((List.replicate σ.length none).set i (some (.ref ea))) (upd H' ea (CaX ea c dx cx))
theorem ps_try2 {E : XK} {Rp : Addr → Prop} {R : Addr} {i : Nat} {x n : Str} {np hpos pos : Pos} {body suite : List Stmt} {b₀ : Stmt} {tb : TS} {ts : Addr → List (Addr × Obj) → TS} (hc : X.calm = true) (hst : X.stack = X.env :: X.outer) (hff : X.env.frame = some X.env.locals) (hex : X.ex = [])
    (hb : ∀ pn W, Thr (X.alt X.A true pn W) E → PSs (X.alt X.A true pn W) body tb) (hg : Gl X x) (hm : X.mg x = some (.ref R)) (hR : IsX X.K R) (hRp : ∀ c, Rp c → IsX X.K c ∧ PySem.W.mroIn X.K c (.ref R) = some true)
    (hsu : ∀ (ea : Addr) (pc : List (Addr × Obj)), PSs (X.alt (X.A.mark (some (.ref ea))) false (X.pn ++ pc) (fun _ _ => False)) (b₀ :: suite) (ts ea pc)) (hN : X.N.Nodup) (hi : X.N[i]? = some n) (hl : X.env.scope.names.lookup n = some .local) (hdb : (x == ("__debug__" : Str)) = false := by decide) :
    PS X (.Try body [.ExceptHandler (some (.Name x np)) (some n) (b₀ :: suite) hpos] [] [] pos) (tTry2 E Rp i tb ts) := by
  intro pins s σ H D I h
  obtain ⟨h1, h2⟩ := h
  let W : Value → Shared → Prop := fun e s' => ∃ σ' H' ea C a0 dx T, e = .ref ea ∧ Inv X pins σ' H' s' ∧ Xo s'.heap ea C dx a0 T ∧ (T = none ∨ ∃ t fl, T = some (t, fl) ∧ (fl = .none ∨ fl = rawInt X.env.locals)) ∧ X.s₀.heap.get? ea = none ∧ (∀ t, hdOf T = some t → X.s₀.heap.get? t = none ∧ H' t = none) ∧ H' ea = none ∧
    (∀ p ∈ X.pn ++ pins, p.1 ≠ ea ∧ hdOf T ≠ some p.1) ∧ Uc H' s'.heap ea ∧ E C dx H'
  have th : Thr (X.alt X.A true (X.pn ++ pins) W) E := fun pins' σ' H' s' ea C a0 dx T I' xo hT n1 n2 n3 np uc q =>
    ⟨σ', H', ea, C, a0, dx, T, rfl, I'.unalt rfl I.ok.hd fun p hp => List.mem_append_left _ hp, xo, hT, n1, n2, n3, fun p hp => np p (List.mem_append_left _ hp), uc, q⟩
  have I0 : Inv (X.alt X.A true (X.pn ++ pins) W) [] σ H s := I.alt rfl (fun _ => I.ok.hd hc) fun p hp => by rwa [List.append_nil] at hp
  have back : ∀ {σ' H' s'}, Inv (X.alt X.A true (X.pn ++ pins) W) [] σ' H' s' → Inv X pins σ' H' s' := fun J => J.unalt rfl I.ok.hd fun p hp => by rwa [List.append_nil]
  refine wpAny_Try_except (wpAny_mono (hb _ W th [] s σ H D I0 h1) (fun f s1 q => ?_) fun e s1 q => ?_)
  · cases f with
    | next =>
      obtain ⟨σ', H', J, q⟩ := q
      exact wpAny_execs_nil ⟨σ', H', back J, q⟩
    | brk => obtain ⟨σ', H', J, q⟩ := q; exact ⟨σ', H', back J, q⟩
    | cont => obtain ⟨σ', H', J, q⟩ := q; exact ⟨σ', H', back J, q⟩
    | ret u => obtain ⟨v, σ', H', J, r, q⟩ := q; exact ⟨v, σ', H', back J, r, q⟩
  · obtain ⟨σ', H', ea, C, a0, dx, T, rfl, J, xo, hT, n1, n2, n3, np, uc, qE⟩ := q
    have fr := J.ok.frames
    have fu := J.stack
    rw [hst] at fr fu
    refine note_ fr fu hff xo hT fun h₂ t x₂ hn c => ?_
    refine flight_ (s := { s1 with heap := h₂ }) (fr := none) x₂ fun h₃ x₃ k => ?_
    have bt : ∀ b o, hdOf T ≠ some b → s1.heap.get? b = some o → b ≠ t := fun b o h1 q z => by
      rcases hn with hn | hn
      · rw [z, hn] at q; cases q
      · exact h1 (z ▸ hn)
    have c₃ : Chg (frs X.stack) ea (hdOf T) s1.heap h₃ := by
      rw [hst]
      refine ⟨fun b o hb hbe hbT q => ?_, fun b o hb hbe hbT q => ?_, fun o vs q hd => ?_⟩
      · exact k b o (bt b o hbT q) (c.keep b o hb hbe hbT q)
      · obtain ⟨sl, q'⟩ := c.slot b o hb hbe hbT q
        exact ⟨sl, k b _ (bt b o hbT q) q'⟩
      · obtain ⟨o', vs', q', hd', e'⟩ := c.ctx o vs q hd
        exact ⟨o', vs', k _ _ x₂.apart q', hd', e'⟩
    have J3 := J.noted hex xo c₃ n1 n2 n3 np
    obtain ⟨c0, rfl, hRc, q2⟩ := h2 C dx H' ea qE n3
    obtain ⟨isx, hmro⟩ := hRp c0 hRc
    have chain : ∀ h₅ : Heap, (∀ b o, b ≠ t → h₃.get? b = some o → h₅.get? b = some o) → Chg (frs X.stack) ea (hdOf T) s1.heap h₅ := fun h₅ k5 => by
      refine ⟨fun b o hb hbe hbT q => ?_, fun b o hb hbe hbT q => ?_, fun o vs q hd => ?_⟩
      · exact k5 b o (bt b o hbT q) (c₃.keep b o hb hbe hbT q)
      · obtain ⟨sl, q'⟩ := c₃.slot b o hb hbe hbT q
        exact ⟨sl, k5 b _ (bt b o hbT q) q'⟩
      · obtain ⟨o', vs', q', hd', e'⟩ := c₃.ctx o vs q hd
        exact ⟨o', vs', k5 _ _ x₃.apart q', hd', e'⟩
    obtain ⟨hp1, g1, d1, tk1, os1⟩ := s1
    dsimp only at *
    refine wpAny_handleBy_cons (codeAny_handlers_test ?_) (by intro z; cases z)
    have J4 : Inv (X.alt (X.A.mark (some (.ref ea))) false X.pn (fun _ _ => False)) pins σ' H' ⟨h₃, g1, d1, tk1, os1⟩ := J3.alt rfl (fun z => by cases z) fun p hp => hp
    refine ld_glob (X := X.alt (X.A.mark (some (.ref ea))) false X.pn (fun _ _ => False)) J4 hg hm ?_ hdb
    obtain ⟨bm, N, nm, q', bs, hdct, sn, sub, ab, col, dd, k0, k1, k2, k3, k5, hC, TC⟩ := isx.obj J4.mod.kin
    obtain ⟨bm', N', nm', q'', bs', hdct', sn', sub', ab', col', dd', k0', k1', k2', k3', k5', hR', TR⟩ := hR.obj J4.mod.kin
    obtain ⟨oe, vs, he, hcl, _⟩ := id x₃.ob
    refine excMatches_under (J4.bk _ _ hC) (J4.bk _ _ hR') he hcl (TR.hasType (by decide)) (mro_has J4.mod.kin hC hmro) ?_
    refine codeAny_handlers_suite_as ?_
    refine flight_ (s := ⟨h₃, g1, d1, tk1, os1⟩) (fr := none) x₃ fun h₅ x₅ kk => ?_
    have J5 := J.noted hex xo (chain h₅ kk) n1 n2 n3 np
    dsimp only at J5
    obtain ⟨oe5, vs5, he5, hcl5, hdx5, hd5, _, _, hcx5, _⟩ := x₅.ob
    obtain ⟨oc, od, oda, osl⟩ := oe5
    dsimp only at hcl5 hdx5 hd5
    subst hcl5 hdx5 hd5
    obtain ⟨cx, pc, hv2, hch, hpc⟩ : ∃ cx pc, vs5[2]? = some (ctxV cx) ∧ ChP ea cx pc ∧ ∀ p ∈ pc, h₅.get? p.1 = some p.2 ∧ H' p.1 = none ∧ p.1 ≠ ea ∧ ∃ ws, p.2.data = .fields ws := by
      rcases hcx5 with z | ⟨_, e1, o1, ws, z1, z2, z3, z4, z5⟩
      · exact ⟨none, [], z, .inl rfl, fun p hp => by simp at hp⟩
      · have hH : H' e1 = none := by
          obtain ⟨oe0, vs0, he0, _, _, hd0, _⟩ := xo.ob
          exact ((chain h₅ kk).uc uc he0 hd0) _ _ e1 he5 rfl z1
        exact ⟨some e1, [(e1, o1)], z1, .inr ⟨e1, o1, ws, rfl, z2, by simp, z4, z5⟩, fun p hp => by
          have ep : p = (e1, o1) := by simpa using hp
          subst ep
          exact ⟨z3, hH, z2, ws, z4⟩⟩
    have J6 := J5.track (o := CaX ea c0 od cx) hex n1 n3 (fun p hp => (np p hp).1) (fun z => by
        obtain ⟨m, ⟨o', _, _, ho', hd', _⟩, _⟩ := J5.loc
        rw [← z, he5] at ho'; cases ho'; cases hd') (fun y c e z => by
        obtain ⟨v, o', ho', hd'⟩ := J5.cell y c e
        rw [z, he5] at ho'; cases ho'; cases hd') (cx_ok he5 hv2)
    have J7 := J6.weak (σ' := List.replicate σ.length none) (by rw [List.length_replicate, J6.len, I.len]) fun j v z => by
      rw [List.getElem?_replicate] at z
      split at z <;> cases z
    have J8 : Inv (X.alt (X.A.mark (some (.ref ea))) false (X.pn ++ pc) (fun _ _ => False)) pins (List.replicate σ.length none) (upd H' ea (CaX ea c0 od cx)) ⟨h₅, g1, d1, tk1, os1⟩ := by
      have J7' := J7.alt (A := X.A.mark (some (.ref ea))) (c := false) (pn := X.pn) (pins' := pins) (E := fun _ _ => False) rfl (fun z => by cases z) fun p hp => hp
      refine ⟨⟨J7'.ok.mod, J7'.ok.kind, J7'.ok.glob, J7'.ok.blt, J7'.ok.above, J7'.ok.inj, J7'.ok.has, J7'.ok.cab, (fun z => nomatch z), J7'.ok.frames, J7'.ok.stk, J7'.ok.exf, J7'.ok.bs, J7'.ok.bsz, J7'.ok.noex, J7'.ok.exfs, J7'.ok.funs, J7'.ok.frf⟩, J7'.os, J7'.bare, J7'.base, J7'.loc, J7'.cell, J7'.free, J7'.freeC, fun p hp => ?_, J7'.hok, J7'.len⟩
      rcases List.mem_append.mp hp with hp | hp
      · rcases List.mem_append.mp hp with hp | hp
        · exact J7'.pin p (List.mem_append_left _ hp)
        · obtain ⟨k1, k2, k3, ws, k4⟩ := hpc p hp
          refine ⟨k1, by rw [upd_ne k3]; exact k2, fun z => ?_, fun z => ?_, fun v z => by rw [k4] at z; cases z⟩
          · obtain ⟨m, ⟨o', _, _, ho', hd', _⟩, _⟩ := J5.loc
            rw [show p.1 = X.env.locals from z, ho'] at k1
            cases k1
            rw [hd'] at k4
            cases k4
          · obtain ⟨_, o', ho', hnf⟩ := J5.funs.mem z
            rw [k1] at ho'
            cases ho'
            exact hnf ws k4
      · exact J7'.pin p (List.mem_append_right _ hp)
    refine store_ok (X := X.alt (X.A.mark (some (.ref ea))) false (X.pn ++ pc) (fun _ _ => False)) J8 hN hi (Or.inl hl) (v := .ref ea) rfl (fun s6 J9 => ?_) (.inr hl)
    refine wpAny_mono (hsu ea pc pins s6 _ _ _ J9 (q2 cx pc hch)) (fun f s7 q7 => ?_) fun _ _ z => z.elim
    cases f with
    | next => obtain ⟨_, _, _, q⟩ := q7; exact q.elim
    | brk => obtain ⟨_, _, _, q⟩ := q7; exact q.elim
    | cont => obtain ⟨_, _, _, q⟩ := q7; exact q.elim
    | ret u =>
      obtain ⟨v, σ7, H7, J10, r7, q7⟩ := q7
      obtain ⟨m, hns, _⟩ := J10.loc
      have hcls : (X.env.scope.kind == .class || (X.env.scope.kind == .module && X.env.locals != X.env.globals)) = false := by rw [I.ok.kind]; rfl
      have J11 : Inv X pins σ7 H7 s7 := J10.unalt rfl I.ok.hd fun p hp => (List.mem_append.mp hp).elim (fun z => List.mem_append_left _ (List.mem_append_left _ z)) fun z => List.mem_append_right _ z
      exact wpAny_nameGoes hl hns hcls fun h' m' ns' sb => ⟨v, _, H7, J11.forget ns' sb, r7, q7⟩
end
end L2

end
noncomputable section
namespace PySem
open Sem (wp)
section
variable {prog : Program} {w : World} {A : Around} {E : Value → Shared → Prop} {env : Env}
variable {nm q : Str} {C N : Addr} {bs bm : List Value} {hdct : Bool} {sn : List Str} {sub : List Value} {ab : Bool} {col : Option Bool} {dd : Option Addr} {k0 k1 k2 k3 k5 : Option Value} {newId : String}
theorem raise_from {s : Shared} {x cz : Sem Value} {Q : Flow → Shared → Prop} (hbase : bm.contains (.type "BaseException") = true)
    (h : wpAny (model prog w) A x (fun v s₁ => ∃ e t, v = .ref e ∧ s₁.heap.get? C = some (excClassObj nm q C N bs bm hdct sn sub ab col dd k0 k1 k2 k3 k5 newId) ∧
      s₁.heap.get? e = some { cls := .ref C, data := .fields #[.ref t, .none, .none, .none, .bool false, .none] } ∧ C ≠ e ∧ wpAny (model prog w) A cz (fun c s₂ => c = .none ∧ s₂ = s₁ ∧ ∀ h',
        (∀ b o, b ≠ e → s₁.heap.get? b = some o → h'.get? b = some o) → h'.get? e = some { cls := .ref C, data := .fields #[.ref t, .none, .none, .none, .bool true, .none] } → wpAny (model prog w) A (raiseNew (.ref e) : Sem Flow) Q E { s₁ with heap := h' }) E s₁) E s) :
    wpAny (model prog w) A (raiseStmt env (some x) (some cz)) Q E s := by
  have hcB : (Value.ref C :: bm).contains (.type "BaseException") = true := by rw [List.contains_cons, hbase, Bool.or_true]
  unfold raiseStmt
  refine wpAny_bind (wpAny_mono h (fun v s₁ h₁ => ?_) fun _ _ x => x)
  obtain ⟨e, t, rfl, hC, he, hCe, hcz⟩ := h₁
  refine wpAny_bind (wpAny_holding (wpAny_mono hcz (fun c s₂ h₂ => wpAny_bind (wpAny_pure ?_)) fun _ _ x => x))
  obtain ⟨rfl, rfl, hE⟩ := h₂
  obtain ⟨hp, g, d, tk, os⟩ := s₂
  dsimp only at hC he
  repeat (first | with_reducible refine wpAny_loadPart_at he ?_ | with_reducible refine wpAny_loadPart_at hC ?_ | (with_reducible refine wpAny_isSubtype_exc hC ?_; rw [hcB]) | wp_step)
  refine hE _ (fun b o hb q => ?_) ?_
  · exact (Heap.get?_update_other _ _ (Ne.symm hb)).trans ((Heap.get?_update_other _ _ (Ne.symm hb)).trans q)
  · exact Heap.get?_update_self _ (Heap.get?_update_self _ he rfl) rfl
end
end PySem
namespace L2
open PySem PySem.Spec PyProof.Rows
section
variable [Dp] {X : Cx} {pins : List (Addr × Obj)} {σ : St} {H : Hp} {s : Shared}
/-! ### try .. except R: raise C('..') from None -/
def tTryR (E E2 : XK) (Rp : Addr → Prop) (C2 : Addr) (tb : TS) : TS := fun D σ H => tb D σ H ∧ ∀ Cv dx H', E Cv dx H' → ∃ c, Cv = .ref c ∧ Rp c ∧ E2 (.ref C2) none H'
theorem ps_tryR {E E2 : XK} {Rp : Addr → Prop} {R C2 : Addr} {x y z : Str} {np np2 cp pz pn' rp hpos pos : Pos} {jz jn} {body : List Stmt} {tb : TS} (th2 : Thr X E2) (hc : X.calm = true) (hst : X.stack = X.env :: X.outer) (hff : X.env.frame = some X.env.locals) (hex : X.ex = [])
    (hb : ∀ pn W, Thr (X.alt X.A true pn W) E → PSs (X.alt X.A true pn W) body tb) (hg : Gl X x) (hm : X.mg x = some (.ref R)) (hR : IsX X.K R) (hRp : ∀ c, Rp c → IsX X.K c ∧ PySem.W.mroIn X.K c (.ref R) = some true)
    (q2 : PySem.W.excIn X.K C2 bmV "ValueError.__new__" = true) (hg2 : Gl X y) (hm2 : X.mg y = some (.ref C2)) (hkp : PySem.W.keepIn X.K (.ref C2) = true) (hD1 : ∀ c, Rp c → ¬ Dp.is (.ref c)) (hD2 : Dp.is (.ref C2)) (hdb : (x == ("__debug__" : Str)) = false := by decide) (hdb2 : (y == ("__debug__" : Str)) = false := by decide) :
    PS X (.Try body [.ExceptHandler (some (.Name x np)) none [.Raise (some (.Call (.Name y np2) [.Constant (.str z) jz pz] [] cp)) (some (.Constant .none jn pn')) rp] hpos] [] [] pos) (tTryR E E2 Rp C2 tb) := by
  intro pins s σ H D I h
  obtain ⟨h1, h2⟩ := h
  let W : Value → Shared → Prop := fun e s' => ∃ σ' H' ea C a0 dx T, e = .ref ea ∧ Inv X pins σ' H' s' ∧ Xo s'.heap ea C dx a0 T ∧ (T = none ∨ ∃ t fl, T = some (t, fl) ∧ (fl = .none ∨ fl = rawInt X.env.locals)) ∧ X.s₀.heap.get? ea = none ∧ (∀ t, hdOf T = some t → X.s₀.heap.get? t = none ∧ H' t = none) ∧ H' ea = none ∧
    (∀ p ∈ X.pn ++ pins, p.1 ≠ ea ∧ hdOf T ≠ some p.1) ∧ Uc H' s'.heap ea ∧ E C dx H'
  have th : Thr (X.alt X.A true (X.pn ++ pins) W) E := fun pins' σ' H' s' ea C a0 dx T I' xo hT n1 n2 n3 np uc q =>
    ⟨σ', H', ea, C, a0, dx, T, rfl, I'.unalt rfl I.ok.hd fun p hp => List.mem_append_left _ hp, xo, hT, n1, n2, n3, fun p hp => np p (List.mem_append_left _ hp), uc, q⟩
  have I0 : Inv (X.alt X.A true (X.pn ++ pins) W) [] σ H s := I.alt rfl (fun _ => I.ok.hd hc) fun p hp => by rwa [List.append_nil] at hp
  have back : ∀ {σ' H' s'}, Inv (X.alt X.A true (X.pn ++ pins) W) [] σ' H' s' → Inv X pins σ' H' s' := fun J => J.unalt rfl I.ok.hd fun p hp => by rwa [List.append_nil]
  refine wpAny_Try_except (wpAny_mono (hb _ W th [] s σ H D I0 h1) (fun f s1 q => ?_) fun e s1 q => ?_)
  · cases f with
    | next =>
      obtain ⟨σ', H', J, q⟩ := q
      exact wpAny_execs_nil ⟨σ', H', back J, q⟩
    | brk => obtain ⟨σ', H', J, q⟩ := q; exact ⟨σ', H', back J, q⟩
    | cont => obtain ⟨σ', H', J, q⟩ := q; exact ⟨σ', H', back J, q⟩
    | ret u => obtain ⟨v, σ', H', J, r, q⟩ := q; exact ⟨v, σ', H', back J, r, q⟩
  · obtain ⟨σ', H', ea, C, a0, dx, T, rfl, J, xo, hT, n1, n2, n3, np, uc, qE⟩ := q
    have fr := J.ok.frames
    have fu := J.stack
    rw [hst] at fr fu
    refine note_ fr fu hff xo hT fun h₂ t x₂ hn c => ?_
    refine flight_ (s := { s1 with heap := h₂ }) (fr := none) x₂ fun h₃ x₃ k => ?_
    have bt : ∀ b o, hdOf T ≠ some b → s1.heap.get? b = some o → b ≠ t := fun b o h1 q z => by
      rcases hn with hn | hn
      · rw [z, hn] at q; cases q
      · exact h1 (z ▸ hn)
    have c₃ : Chg (frs X.stack) ea (hdOf T) s1.heap h₃ := by
      rw [hst]
      refine ⟨fun b o hb hbe hbT q => ?_, fun b o hb hbe hbT q => ?_, fun o vs q hd => ?_⟩
      · exact k b o (bt b o hbT q) (c.keep b o hb hbe hbT q)
      · obtain ⟨sl, q'⟩ := c.slot b o hb hbe hbT q
        exact ⟨sl, k b _ (bt b o hbT q) q'⟩
      · obtain ⟨o', vs', q', hd', e'⟩ := c.ctx o vs q hd
        exact ⟨o', vs', k _ _ x₂.apart q', hd', e'⟩
    have J3 := J.noted hex xo c₃ n1 n2 n3 np
    obtain ⟨c0, rfl, hRc, qE2⟩ := h2 C dx H' qE
    obtain ⟨isx, hmro⟩ := hRp c0 hRc
    have chain : ∀ h₅ : Heap, (∀ b o, b ≠ t → h₃.get? b = some o → h₅.get? b = some o) → Chg (frs X.stack) ea (hdOf T) s1.heap h₅ := fun h₅ k5 => by
      refine ⟨fun b o hb hbe hbT q => ?_, fun b o hb hbe hbT q => ?_, fun o vs q hd => ?_⟩
      · exact k5 b o (bt b o hbT q) (c₃.keep b o hb hbe hbT q)
      · obtain ⟨sl, q'⟩ := c₃.slot b o hb hbe hbT q
        exact ⟨sl, k5 b _ (bt b o hbT q) q'⟩
      · obtain ⟨o', vs', q', hd', e'⟩ := c₃.ctx o vs q hd
        exact ⟨o', vs', k5 _ _ x₃.apart q', hd', e'⟩
    obtain ⟨hp1, g1, d1, tk1, os1⟩ := s1
    dsimp only at *
    refine wpAny_handleBy_cons (codeAny_handlers_test ?_) (by intro z; cases z)
    have J4 : Inv (X.alt (X.A.mark (some (.ref ea))) false X.pn (fun _ _ => False)) pins σ' H' ⟨h₃, g1, d1, tk1, os1⟩ := J3.alt rfl (fun z => by cases z) fun p hp => hp
    refine ld_glob (X := X.alt (X.A.mark (some (.ref ea))) false X.pn (fun _ _ => False)) J4 hg hm ?_ hdb
    obtain ⟨bm, N, nm, q', bs, hdct, sn, sub, ab, col, dd, k0, k1, k2, k3, k5, hC, TC⟩ := isx.obj J4.mod.kin
    obtain ⟨bm', N', nm', q'', bs', hdct', sn', sub', ab', col', dd', k0', k1', k2', k3', k5', hR', TR⟩ := hR.obj J4.mod.kin
    obtain ⟨oe, vs, he, hcl, _⟩ := id x₃.ob
    refine excMatches_under (J4.bk _ _ hC) (J4.bk _ _ hR') he hcl (TR.hasType (by decide)) (mro_has J4.mod.kin hC hmro) ?_
    refine codeAny_handlers_suite ?_
    refine flight_ (s := ⟨h₃, g1, d1, tk1, os1⟩) (fr := none) x₃ fun h₅ x₅ kk => ?_
    have J5 := J.noted hex xo (chain h₅ kk) n1 n2 n3 np
    dsimp only at J5
    have hctx := hc
    refine wpAny_execs_cons ?_
    rw [arm_exec_Raise]
    obtain ⟨bm2, N2, nm2, qn2, bs2, hdct2, sn2, sub2, ab2, col2, dd2, k02, k12, k22, k32, k52, mN2, hC2, hN2, hni2, T2⟩ := exc_obj J5.mod.kin q2
    refine wpAny_bind (wpAny_standAt (raise_from (C := C2) (nm := nm2) (q := qn2) (N := N2) (bs := bs2) (bm := bm2) (hdct := hdct2) (sn := sn2) (sub := sub2) (ab := ab2) (col := col2) (dd := dd2) (k0 := k02) (k1 := k12) (k2 := k22) (k3 := k32) (k5 := k52) (newId := "ValueError.__new__") (T2.hasType (by decide)) ?_))
    have J6 : Inv (X.alt (X.A.mark (some (.ref ea))) false X.pn (fun _ _ => False)) pins σ' H' ⟨h₅, g1, d1, tk1, os1⟩ := J5.alt rfl (fun z => by cases z) fun p hp => hp
    have hea5 : ∃ oe vs, h₅.get? ea = some oe ∧ oe.data = .fields vs ∧ vs[2]? = some .none := by
      obtain ⟨oe5, vs5, he5, hcl5, hdx5, hd5, _, _, hcx5, _⟩ := x₅.ob
      rcases hcx5 with z | ⟨z, _⟩
      · exact ⟨oe5, vs5, he5, hd5, z⟩
      · exact absurd z (hD1 c0 hRc)
    show wpAny _ _ (eval _ _ >>= fun v => standAt rp >>= fun _ => pure v) _ _ ⟨h₅, g1, d1, tk1, os1⟩
    refine wpAny_bind (wpAny_Call_Name_kw (ld_glob (X := X.alt (X.A.mark (some (.ref ea))) false X.pn (fun _ _ => False)) J6 hg2 hm2 ?_ hdb2))
    refine PySem.W.callWith_K (h₀ := X.base) J6.ok.mod.kin hkp ?_ rfl rfl
    refine Calls.spliced_cons (Calls.Constant_str (k := jz) (pos := pz) (Calls.spliced_nil ⟨J6.kIn, ?_⟩))
    refine wpAny_call_exc_subT PySem.F.excBase_ValueError (T2.keeps J6.bk) (J6.bk _ _ hC2) (hN2.keeps J6.bk) hni2 (fun h6 e m => ?_) (by show 1 ≤ sizeLine; decide)
    obtain ⟨t2, he6, _, _⟩ := m.there
    have ne5 : ∀ b o, h₅.get? b = some o → b ≠ e := fun b o q z => by rw [z, m.new] at q; cases q
    refine wpAny_bind (wpAny_standAt (wpAny_pure ⟨e, t2, rfl, m.keeps _ _ (J6.bk _ _ hC2), he6, ne5 _ _ (J6.bk _ _ hC2), ?_⟩))
    show wpAny _ _ (eval _ _ >>= fun v => standAt rp >>= fun _ => pure v) _ _ _
    refine wpAny_bind (Constant_none (wpAny_bind (wpAny_standAt (wpAny_pure ⟨rfl, rfl, fun h7 k7 he7 => ?_⟩))))
    obtain ⟨oea, wea, hea, hdea, hwea⟩ := hea5
    have nea : ea ≠ e := ne5 _ _ hea
    have hea7 : h7.get? ea = some oea := k7 _ _ nea (m.keeps _ _ hea)
    refine raiseNew_some (h := ea) (c := none) rfl nea ⟨oea, wea, hea7, hdea, hwea⟩ (fun _ _ z => nomatch z) he7 rfl (by show 2 < 6; decide) ?_
    generalize hh8 : h7.update e (Obj.mapFields (·.setIfInBounds 2 (.ref ea))) = h8
    have he8 : h8.get? e = some { cls := .ref C2, data := .fields #[.ref t2, .none, .ref ea, .none, .bool true, .none] } := by
      rw [← hh8]
      exact Heap.get?_update_self _ he7 rfl
    have k8 : ∀ b o, h₅.get? b = some o → h8.get? b = some o := fun b o q => by
      rw [← hh8]
      exact (Heap.get?_update_other _ _ (Ne.symm (ne5 b o q))).trans (k7 b o (ne5 b o q) (m.keeps b o q))
    have I8 : Inv X pins σ' H' ⟨h8, g1, d1, tk1 + 1, os1⟩ := J5.kept (t' := tk1 + 1) k8
    have xo8 : Xo h8 e (.ref C2) none (.ref t2) none := ⟨_, _, he8, rfl, rfl, rfl, by show 1 < 6; decide, rfl, .inr ⟨hD2, ea, oea, wea, rfl, nea, k8 _ _ hea, hdea, hwea⟩, rfl⟩
    have m1 : X.s₀.heap.get? e = none := J5.old hex m.new
    have m3 : H' e = none := J5.hok.free m.new
    have uc8 : Uc H' h8 e := fun o vs e1 q hd z => by
      rw [he8] at q
      cases q
      cases hd
      cases z
      exact n3
    have fr8 := I8.ok.frames
    have fu8 := I8.stack
    rw [hst] at fr8 fu8
    show wpAny _ (X.A.mark (some (.ref ea))) (noteFrame (.ref e) X.env) (fun _ s'' => cameBackBy (model X.prog X.w) X.A X.env X.xe (.ref e) s'') _ ⟨h8, g1, d1, tk1 + 1, os1⟩
    refine note_ (A := X.A.mark (some (.ref ea))) (s := ⟨h8, g1, d1, tk1 + 1, os1⟩) fr8 fu8 hff xo8 (.inl rfl) fun h9 t9 x9 hn9 c9 => ?_
    have hn9' : h8.get? t9 = none := by
      rcases hn9 with z | z
      · exact z
      · cases z
    show wpAny _ _ _ _ _ ⟨h9, g1, d1, tk1 + 1, os1⟩
    obtain ⟨oe9, vs9, he9, _, _, hd9, _, _, _, h91, _⟩ := id x9.ob
    refine wpAny_bind (wpAny_field he9 hd9 h91 ?_)
    rw [if_neg (show ¬ (Value.ref t9 == Value.none) = true from by simp), hff]
    refine flight_ (s := ⟨h9, g1, d1, tk1 + 1, os1⟩) (fr := some X.env.locals) x9 fun h10 x10 k10 => ?_
    have c10 : Chg (frs X.stack) e none h8 h10 := by
      rw [hst]
      have nt : ∀ b o, h8.get? b = some o → b ≠ t9 := fun b o q z => by rw [z, hn9'] at q; cases q
      refine ⟨fun b o hb hbe hbT q => ?_, fun b o hb hbe hbT q => ?_, fun o vs q hd => ?_⟩
      · exact k10 b o (nt b o q) (c9.keep b o hb hbe hbT q)
      · obtain ⟨sl, q'⟩ := c9.slot b o hb hbe hbT q
        exact ⟨sl, k10 b _ (nt b o q) q'⟩
      · obtain ⟨o', vs', q', hd', e'⟩ := c9.ctx o vs q hd
        exact ⟨o', vs', k10 _ _ x9.apart q', hd', e'⟩
    have I10 := I8.noted hex xo8 c10 m1 (fun t z => nomatch z) m3 (fun p hp => ⟨J5.unpin m.new p hp, fun z => nomatch z⟩)
    exact th2 pins σ' H' ⟨h10, g1, d1, tk1 + 1, os1⟩ e (.ref C2) (.ref t2) none (some (t9, rawInt X.env.locals)) I10 x10 (.inr ⟨_, _, rfl, .inr rfl⟩) m1 (fun t z => by cases z; exact ⟨I8.old hex hn9', I8.hok.free hn9'⟩) m3 (fun p hp => ⟨J5.unpin m.new p hp, fun z => I8.unpin hn9' p hp (Option.some.inj z).symm⟩) (c10.uc uc8 he8 rfl) qE2
theorem thr0 : Thr X E0 := fun _ _ _ _ _ _ _ _ _ _ _ _ _ _ _ _ _ q => q.elim
end
end L2

end
noncomputable section
namespace Ev
open PySem PySem.Builtin.Str PySem.NumText PyProof.Rows
/-! ### texts: what a written number is -/
def digB (c : Nat) : Bool := decide (48 ≤ c) && decide (c ≤ 57)
def fg : List Nat → List Nat
  | 45 :: r => r
  | l => l
def okL (l : List Nat) : Bool := decide (1 ≤ l.length) && decide (l.length ≤ 7) && l.all digB && !(l.head? == some 48)
def numL (l : List Nat) : Bool := l == [48] || okL (fg l)
def valL : List Nat → Int
  | 45 :: r => -((digitsVal r : Nat) : Int)
  | l => ((digitsVal l : Nat) : Int)
def txt (l : List Nat) : Str := ⟨l.toArray⟩
theorem txt_cps (x : Str) : x = txt x.cps.toList := by
  obtain ⟨⟨l⟩⟩ := x
  rfl
theorem fg_minus (r : List Nat) : fg (45 :: r) = r := rfl
theorem fg_other {l : List Nat} (h : l.head? ≠ some 45) : fg l = l := by
  unfold fg
  split
  · exact absurd rfl h
  · rfl
theorem val_other {l : List Nat} (h : l.head? ≠ some 45) : valL l = ((digitsVal l : Nat) : Int) := by
  unfold valL
  split
  · exact absurd rfl h
  · rfl
theorem minus_of {l : List Nat} (h : l.head? = some 45) : ∃ r, l = 45 :: r := by
  cases l with
  | nil => cases h
  | cons a r => cases h; exact ⟨r, rfl⟩
theorem starts_minus (x : Str) : Txt.startswith x "-" = decide (x.cps.toList.head? = some 45) := by
  obtain ⟨⟨l⟩⟩ := x
  unfold Txt.startswith
  rw [StrLaws.subAt_eq]
  cases l with
  | nil => decide
  | cons a r =>
    have e1 : (Str.ofString "-") = ⟨#[45]⟩ := by decide +kernel
    rw [e1]
    simp [Str.length]
    show (decide (1 ≤ r.length + 1) && _) = _
    by_cases z : a = 45 <;> simp [z]
theorem slice_from1 {x : Str} (h : 1 ≤ x.length) : Txt.slice x (some 1) none = txt (x.cps.toList.drop 1) := by
  have e := StrLaws.sliceText_from (x := x) (i := 1) ⟨by decide, by simp [Str.length] at h ⊢; omega⟩
  refine (show Txt.slice x (some 1) none = StrLaws.sliceText x (some 1) none from rfl).trans (e.trans ?_)
  show txt _ = _
  congr 1
  rw [show ((1:Int)).toNat = 1 from rfl]
  refine List.take_of_length_le ?_
  simp
theorem slice_to1 (x : Str) : Txt.slice x none (some 1) = txt (x.cps.toList.take 1) := by
  by_cases h : 1 ≤ x.length
  · have e := StrLaws.sliceText_to (x := x) (j := 1) ⟨by decide, by simp [Str.length] at h ⊢; omega⟩
    exact (show Txt.slice x none (some 1) = StrLaws.sliceText x none (some 1) from rfl).trans e
  · obtain ⟨⟨l⟩⟩ := x
    cases l with
    | nil => decide +kernel
    | cons a r => exact absurd (Nat.le_add_left 1 r.length) h
theorem take1_minus (x : Str) : (txt (x.cps.toList.take 1) = Str.ofString "-") ↔ x.cps.toList.head? = some 45 := by
  have e1 : (Str.ofString "-") = ⟨#[45]⟩ := by decide +kernel
  rw [e1]
  cases h : x.cps.toList with
  | nil => simp [txt]
  | cons a r => simp [txt]
theorem figs_goes : ((Str.ofString "0123456789").cps.contains : Nat → Bool) = digB := by
  have e1 : (Str.ofString "0123456789") = ⟨#[48, 49, 50, 51, 52, 53, 54, 55, 56, 57]⟩ := by decide +kernel
  rw [e1]
  funext c
  rw [Bool.eq_iff_iff]
  simp [digB]
  omega
theorem figs_mem (c : Nat) : c ∈ (Str.ofString "0123456789").cps.toList ↔ digB c = true := by
  have := congrFun figs_goes c
  rw [← this]
  simp
theorem takeWhile_lt {g : Nat → Bool} : ∀ (l : List Nat), (∃ a ∈ l, g a = false) → (l.takeWhile g).length < l.length
  | [], ⟨_, h, _⟩ => by cases h
  | a :: l, h => by
    rw [List.takeWhile_cons]
    cases ga : g a with
    | false => simp
    | true =>
      obtain ⟨b, hb, gb⟩ := h
      have hb' : b ∈ l := by
        rcases List.mem_cons.mp hb with e | e
        · subst e; rw [ga] at gb; cases gb
        · exact e
      have := takeWhile_lt l ⟨b, hb', gb⟩
      simp
      omega
theorem drop_takeWhile {g : Nat → Bool} : ∀ (l : List Nat), (∃ a ∈ l, g a = false) → ∃ a r, l.drop (l.takeWhile g).length = a :: r ∧ g a = false
  | [], ⟨_, h, _⟩ => by cases h
  | a :: l, h => by
    rw [List.takeWhile_cons]
    cases ga : g a with
    | false => exact ⟨a, l, rfl, ga⟩
    | true =>
      obtain ⟨b, hb, gb⟩ := h
      have hb' : b ∈ l := by
        rcases List.mem_cons.mp hb with e | e
        · subst e; rw [ga] at gb; cases gb
        · exact e
      exact drop_takeWhile l ⟨b, hb', gb⟩
theorem all_false {g : Nat → Bool} {l : List Nat} (h : l.all g = false) : ∃ a ∈ l, g a = false := by
  rw [List.all_eq_false] at h
  obtain ⟨a, ha, hg⟩ := h
  exact ⟨a, ha, by simpa using hg⟩
theorem strip_figs (x : Str) : (Txt.stripChars x "0123456789" = Str.empty) ↔ x.cps.toList.all digB = true := by
  unfold Txt.stripChars Txt.stripBy
  rw [figs_goes]
  obtain ⟨⟨l⟩⟩ := x
  have hl : (Str.mk ⟨l⟩).length = l.length := rfl
  have lo : stripLo digB true ⟨⟨l⟩⟩ = (l.takeWhile digB).length := rfl
  have hi : stripHi digB true ⟨⟨l⟩⟩ (l.takeWhile digB).length = l.length - ((l.drop (l.takeWhile digB).length).reverse.takeWhile digB).length := rfl
  cases h : l.all digB with
  | true =>
    have e : l.takeWhile digB = l := by
      refine takeWhile_all fun c hc => List.all_eq_true.mp h c hc
    refine ⟨fun _ => rfl, fun _ => ?_⟩
    split
    · rename_i z
      have z0 : (stripLo digB true ⟨⟨l⟩⟩ == 0) = true := (Bool.and_eq_true _ _ ▸ z).1
      rw [lo, e] at z0
      have : l = [] := List.length_eq_zero_iff.mp (by simpa using z0)
      subst this
      rfl
    · unfold stripped
      rw [lo, hi, e]
      refine Str.ext' (Array.ext' ?_)
      rw [StrLaws.strSub_toList]
      show (l.drop l.length).take _ = []
      rw [List.drop_length, List.take_nil]
  | false =>
    have hx := all_false h
    refine ⟨fun q => ?_, fun z => nomatch z⟩
    exfalso
    split at q
    · have : l = [] := congrArg (fun s : Str => s.cps.toList) q
      subst this
      cases h
    · unfold stripped at q
      rw [lo, hi] at q
      have q2 := congrArg (fun s : Str => s.cps.toList) q
      rw [StrLaws.strSub_toList] at q2
      change (l.drop (l.takeWhile digB).length).take _ = [] at q2
      obtain ⟨a, r, e, ga⟩ := drop_takeWhile l hx
      have lt := takeWhile_lt (g := digB) (l.drop (l.takeWhile digB).length).reverse ⟨a, by rw [e]; simp, ga⟩
      have len : (l.drop (l.takeWhile digB).length).length = l.length - (l.takeWhile digB).length := List.length_drop
      rw [List.length_reverse] at lt
      have q3 := congrArg List.length q2
      rw [List.length_take, List.length_nil] at q3
      omega
/-! ### reading and writing -/
theorem digs_of {l : List Nat} (h : l.all digB = true) : AllDigits l := fun c hc => by
  have := List.all_eq_true.mp h c hc
  unfold digB at this
  simpa using this
theorem okL_split {l : List Nat} (h : okL l = true) : 1 ≤ l.length ∧ l.length ≤ 7 ∧ l.all digB = true ∧ l.head? ≠ some 48 := by
  unfold okL at h
  simp only [Bool.and_eq_true, decide_eq_true_eq, Bool.not_eq_true', beq_eq_false_iff_ne] at h
  exact ⟨h.1.1.1, h.1.1.2, h.1.2, h.2⟩
theorem numL_len {l : List Nat} (h : numL l = true) : l.length ≤ 8 := by
  unfold numL at h
  rcases Bool.or_eq_true _ _ ▸ h with e | e
  · have : l = [48] := by simpa using e
    subst this
    decide
  · have := okL_split e
    by_cases z : l.head? = some 45
    · obtain ⟨r, rfl⟩ := minus_of z
      have z2 := this.2.1
      rw [fg_minus] at z2
      simp
      omega
    · rw [fg_other z] at this
      omega
theorem numL_cases {l : List Nat} (h : numL l = true) : l = [48] ∨ (∃ r, l = 45 :: r ∧ okL r = true) ∨ (l.head? ≠ some 45 ∧ okL l = true) := by
  unfold numL at h
  rcases Bool.or_eq_true _ _ ▸ h with e | e
  · exact .inl (by simpa using e)
  · by_cases z : l.head? = some 45
    · obtain ⟨r, rfl⟩ := minus_of z
      exact .inr (.inl ⟨r, rfl, e⟩)
    · rw [fg_other z] at e
      exact .inr (.inr ⟨z, e⟩)
theorem ne_nil_of {l : List Nat} (h : 1 ≤ l.length) : l ≠ [] := by
  intro z
  subst z
  exact absurd h (by decide)
theorem read_num {x : Str} (h : numL x.cps.toList = true) : intText? x = some (valL x.cps.toList) := by
  have hl : x.length ≤ 4300 := Nat.le_trans (show x.length ≤ 8 from by have := numL_len h; rwa [Array.length_toList] at this) (by decide)
  rcases numL_cases h with e | ⟨r, e, ok⟩ | ⟨z, ok⟩
  · rw [e]
    have := intText_digits (x := x) (by rw [e]; intro c hc; simp at hc; omega) (by rw [e]; simp) hl
    rw [this, e]
    rfl
  · have k := okL_split ok
    rw [intText_neg e (digs_of k.2.2.1) (ne_nil_of k.1) hl, e]
    rfl
  · have k := okL_split ok
    rw [intText_digits (digs_of k.2.2.1) (ne_nil_of k.1) hl, val_other z]
theorem dig_back {l : List Nat} (h : AllDigits l) : (l.map Char.ofNat).map Char.toNat = l := by
  rw [List.map_map]
  conv => rhs; rw [← List.map_id l]
  refine List.map_congr_left fun c hc => ?_
  have hb : ∀ c : Nat, c < 58 → (Char.ofNat c).toNat = c := by decide
  exact hb c (by have := h c hc; omega)
theorem digs_written {l : List Nat} (k1 : 1 ≤ l.length) (h : AllDigits l) (h2 : l.head? ≠ some 48) : (Nat.toDigits 10 (digitsVal l)).map Char.toNat = l ∧ 0 < digitsVal l := by
  cases l with
  | nil => exact absurd k1 (by decide)
  | cons c r =>
    have hc : 49 ≤ c := by
      have := h c (List.mem_cons_self ..)
      have : c ≠ 48 := fun z => h2 (by rw [z]; rfl)
      omega
    rw [toDigits_digitsVal r.length (c :: r) rfl h (.inr ⟨c, r, rfl, hc⟩), dig_back h]
    exact ⟨rfl, digitsVal_pos hc⟩
theorem written_num {x : Str} (h : numL x.cps.toList = true) : Str.ofString (toString (valL x.cps.toList)) = x := by
  refine Str.ext' (Array.ext' ?_)
  rcases numL_cases h with e | ⟨r, e, ok⟩ | ⟨z, ok⟩
  · rw [e]
    decide +kernel
  · have k := okL_split ok
    obtain ⟨d1, d2⟩ := digs_written k.1 (digs_of k.2.2.1) k.2.2.2
    rw [e]
    show (Str.ofString (toString (-((digitsVal r : Nat) : Int)))).cps.toList = 45 :: r
    obtain ⟨m, hm⟩ : ∃ m, digitsVal r = m + 1 := ⟨digitsVal r - 1, by omega⟩
    rw [Str.ofString_eq_toList]
    show (toString (-((digitsVal r : Nat) : Int))).toList.map Char.toNat = 45 :: r
    rw [hm] at d1 ⊢
    have e2 : toString (-(((m + 1 : Nat) : Nat) : Int)) = "-" ++ Nat.repr (m + 1) := rfl
    rw [e2, String.toList_append, Nat.toList_repr, List.map_append, d1]
    rfl
  · have k := okL_split ok
    obtain ⟨d1, d2⟩ := digs_written k.1 (digs_of k.2.2.1) k.2.2.2
    rw [val_other z, Str.ofString_eq_toList]
    show (toString ((digitsVal x.cps.toList : Nat) : Int)).toList.map Char.toNat = _
    have e2 : toString ((digitsVal x.cps.toList : Nat) : Int) = Nat.repr (digitsVal x.cps.toList) := rfl
    rw [e2, Nat.toList_repr, d1]
/-! ### how long texts are -/
theorem len_txt (l : List Nat) : (txt l).length = l.length := rfl
theorem len_int {i : Int} (h : -1000000 ≤ i ∧ i ≤ 1000000) : (Str.ofString (toString i)).length ≤ 8 := by
  rw [PySem.ofString_length]
  refine int_text_length_le10 (k := 7) (by decide) ?_
  show i.natAbs < 10000000
  omega
theorem log_int {i : Int} (h : -1000000 ≤ i ∧ i ≤ 1000000) : i.natAbs.log2 < 1920 := by
  by_cases z : i.natAbs = 0
  · rw [z]; decide
  · have h1 : i.natAbs < 2 ^ 1920 := Nat.lt_of_lt_of_le (show i.natAbs < 2 ^ 20 from by omega) (Nat.pow_le_pow_right (by decide) (show 20 ≤ 1920 by decide))
    exact (Nat.log2_lt z).mpr h1
theorem len_mul {x : Str} (h : x.length = 1) (n : Nat) : (Txt.mul x (n : Int)).length ≤ n := by
  unfold Txt.mul
  split
  · exact Nat.zero_le _
  · split
    · rename_i z1 z2
      rw [h]
      omega
    · have key : ∀ (m : Nat) (a : Array Nat), ((List.replicate m x.cps).foldl (· ++ ·) a).size = a.size + m := by
        intro m
        induction m with
        | zero => intro a; rfl
        | succ m ih =>
          intro a
          rw [List.replicate_succ, List.foldl_cons, ih, Array.size_append]
          have : x.cps.size = 1 := h
          omega
      show ((List.replicate ((n : Int)).toNat x.cps).foldl (· ++ ·) #[]).size ≤ n
      rw [key]
      simp
theorem words_le (x : Str) : (Txt.split x " ").length ≤ x.length + 1 := by
  have := split_weight x " " (by decide +kernel)
  omega
theorem word_le {x y : Str} (h : y ∈ Txt.split x " ") : y.length ≤ x.length := by
  have h1 := split_weight x " " (by decide +kernel)
  have h2 : y.length ≤ ((Txt.split x " ").map (·.length)).sum := by
    have : ∀ (l : List Str), y ∈ l → y.length ≤ (l.map (·.length)).sum := by
      intro l
      induction l with
      | nil => intro z; cases z
      | cons a l ih =>
        intro z
        rw [List.map_cons, List.sum_cons]
        rcases List.mem_cons.mp z with e | e
        · subst e; omega
        · have := ih e; omega
    exact this _ h
  have h3 : 1 ≤ (Txt.split x " ").length := List.length_pos_of_mem h
  omega
theorem join_ok {ts : List Str} (h : ∀ y ∈ ts, y.length ≤ 5000) (hl : ts.length ≤ 1000) : JoinOk " " ts = true := by
  unfold JoinOk
  rw [StrLaws.joinFits (B := 5000) h (by have e : (Str.ofString " ").length = 1 := by decide +kernel
                                         rw [e]; omega)]
  rfl
theorem join_len {ts : List Str} (h : ∀ y ∈ ts, y.length ≤ 8) (hl : ts.length ≤ 65) : (Str.join " " ts).length ≤ 585 := by
  have h1 := StrLaws.join_length_le " " ts
  have h2 := StrLaws.sumLen_le ts h
  have e : (Str.ofString " ").length = 1 := by decide +kernel
  rw [e] at h1
  omega
/-! ### the words of a text -/
def wds (x : Str) : List Str := Txt.split x " "
def numS (x : Str) : Bool := numL x.cps.toList
def valS (x : Str) : Int := valL x.cps.toList
def strsI (ns : List Int) : List Str := ns.map fun n => Str.ofString (toString n)
theorem written_back {x : Str} (h : (wds x).all numS = true) : Str.join " " (strsI ((wds x).map valS)) = x := by
  have e : strsI ((wds x).map valS) = wds x := by
    unfold strsI
    rw [List.map_map]
    conv => rhs; rw [← List.map_id (wds x)]
    refine List.map_congr_left fun y hy => ?_
    exact written_num (List.all_eq_true.mp h y hy)
  rw [e]
  exact StrLaws.join_split x " "
theorem fg_len (l : List Nat) : (fg l).length ≤ l.length := by
  by_cases z : l.head? = some 45
  · obtain ⟨r, rfl⟩ := minus_of z
    rw [fg_minus]
    simp
  · rw [fg_other z]
    exact Nat.le_refl _
theorem numS_of {x f : Str} (hne : x ≠ Str.ofString "0") (hf : f.cps.toList = fg x.cps.toList) : numS x = okL f.cps.toList := by
  unfold numS numL
  have : (x.cps.toList == [48]) = false := by
    rw [beq_eq_false_iff_ne]
    intro z
    refine hne (Str.ext' (Array.ext' (z.trans ?_)))
    decide +kernel
  rw [this, hf, Bool.false_or]
theorem fig_in (c : Nat) : (!(occurrences (Str.ofString "0123456789") ⟨#[c]⟩ 0 (Str.ofString "0123456789").length 1).isEmpty) = digB c := by
  rw [StrLaws.found_one, Bool.eq_iff_iff, decide_eq_true_iff]
  exact figs_mem c
theorem nought_one (c : Nat) : ((⟨#[c]⟩ : Str) = Str.ofString "0") ↔ c = 48 := by
  have e1 : (Str.ofString "0") = ⟨#[48]⟩ := by decide +kernel
  rw [e1]
  simp
theorem okL_short {l : List Nat} (h : ¬ 1 ≤ l.length) : okL l = false := by
  unfold okL
  rw [decide_eq_false h]
  rfl
theorem okL_long {l : List Nat} (h : ¬ l.length ≤ 7) : okL l = false := by
  unfold okL
  rw [decide_eq_false h, Bool.and_false]
  rfl
theorem okL_nought {l : List Nat} (h : l.head? = some 48) : okL l = false := by
  unfold okL
  rw [h]
  simp
theorem okL_all {l : List Nat} (h1 : 1 ≤ l.length) (h2 : l.length ≤ 7) (h : l.head? ≠ some 48) : okL l = l.all digB := by
  unfold okL
  rw [decide_eq_true h1, decide_eq_true h2, Bool.true_and, Bool.true_and, (beq_eq_false_iff_ne).mpr h, Bool.not_false, Bool.and_true]
end Ev

end
noncomputable section

set_option Elab.async false
set_option linter.all false
set_option maxRecDepth 100000
set_option maxHeartbeats 0
seal L2.PE L2.PT L2.PS L2.PSs L2.PA L2.PI L2.PG L2.PGs L2.OpR L2.UnR L2.CallR L2.IxR L2.SlR L2.MtR L2.PO L2.PSet L2.PW
namespace Ev
open PySem L2
def top (i : Nat) : Stmt := PySem.Challenge.pw_evenring_k06_written.main.body.getD i (.Pass ⟨0, 0, 0, 0⟩)
abbrev s_Lacking_init__ : Stmt := inClass (top 6) 0
abbrev N_Lacking_init__ : List Str := ["self", "total"]
abbrev P_Lacking_init__ : List Str := ["self", "total"]
theorem sc_Lacking_init__ : FnScope N_Lacking_init__ P_Lacking_init__ (defScope s_Lacking_init__) := ⟨rfl, rfl, rfl, by decide +kernel, rfl, by decide +kernel, by decide +kernel⟩
abbrev s_is_whole_number : Stmt := top 11
abbrev N_is_whole_number : List Str := ["value"]
abbrev P_is_whole_number : List Str := ["value"]
theorem sc_is_whole_number : FnScope N_is_whole_number P_is_whole_number (defScope s_is_whole_number) := ⟨rfl, rfl, rfl, by decide +kernel, rfl, by decide +kernel, by decide +kernel⟩
abbrev s_is_house : Stmt := top 12
abbrev N_is_house : List Str := ["value"]
abbrev P_is_house : List Str := ["value"]
theorem sc_is_house : FnScope N_is_house P_is_house (defScope s_is_house) := ⟨rfl, rfl, rfl, by decide +kernel, rfl, by decide +kernel, by decide +kernel⟩
abbrev s_are_houses : Stmt := top 13
abbrev N_are_houses : List Str := ["values"]
abbrev P_are_houses : List Str := ["values"]
theorem sc_are_houses : FnScope N_are_houses P_are_houses (defScope s_are_houses) := ⟨rfl, rfl, rfl, by decide +kernel, rfl, by decide +kernel, by decide +kernel⟩
abbrev s_Ring_init__ : Stmt := inClass (top 14) 0
abbrev N_Ring_init__ : List Str := ["self", "houses", "numbers"]
abbrev P_Ring_init__ : List Str := ["self", "houses"]
theorem sc_Ring_init__ : FnScope N_Ring_init__ P_Ring_init__ (defScope s_Ring_init__) := ⟨rfl, rfl, rfl, by decide +kernel, rfl, by decide +kernel, by decide +kernel⟩
abbrev s_Ring_houses : Stmt := inClass (top 14) 1
abbrev N_Ring_houses : List Str := ["self"]
abbrev P_Ring_houses : List Str := ["self"]
theorem sc_Ring_houses : FnScope N_Ring_houses P_Ring_houses (defScope s_Ring_houses) := ⟨rfl, rfl, rfl, by decide +kernel, rfl, by decide +kernel, by decide +kernel⟩
abbrev s_Ring_whole : Stmt := inClass (top 14) 2
abbrev N_Ring_whole : List Str := ["self"]
abbrev P_Ring_whole : List Str := ["self"]
theorem sc_Ring_whole : FnScope N_Ring_whole P_Ring_whole (defScope s_Ring_whole) := ⟨rfl, rfl, rfl, by decide +kernel, rfl, by decide +kernel, by decide +kernel⟩
abbrev s_written : Stmt := top 17
abbrev N_written : List Str := ["ring"]
abbrev P_written : List Str := ["ring"]
theorem sc_written : FnScope N_written P_written (defScope s_written) := ⟨rfl, rfl, rfl, by decide +kernel, rfl, by decide +kernel, by decide +kernel⟩
abbrev s_is_written_number : Stmt := top 18
abbrev N_is_written_number : List Str := ["word", "figures"]
abbrev P_is_written_number : List Str := ["word"]
theorem sc_is_written_number : FnScope N_is_written_number P_is_written_number (defScope s_is_written_number) := ⟨rfl, rfl, rfl, by decide +kernel, rfl, by decide +kernel, by decide +kernel⟩
abbrev s_read : Stmt := top 19
abbrev N_read : List Str := ["text", "words", "numbers"]
abbrev P_read : List Str := ["text"]
theorem sc_read : FnScope N_read P_read (defScope s_read) := ⟨rfl, rfl, rfl, by decide +kernel, rfl, by decide +kernel, by decide +kernel⟩
abbrev s_law_cell_at : Stmt := top 21
abbrev N_law_cell_at : List Str := ["_law_script", "_law_k"]
abbrev P_law_cell_at : List Str := ["_law_script", "_law_k"]
theorem sc_law_cell_at : FnScope N_law_cell_at P_law_cell_at (defScope s_law_cell_at) := ⟨rfl, rfl, rfl, by decide +kernel, rfl, by decide +kernel, by decide +kernel⟩
abbrev s_law_draw : Stmt := top 22
abbrev N_law_draw : List Str := ["_law_cell", "_law_k", "_law_many", "_law_primes"]
abbrev P_law_draw : List Str := ["_law_cell", "_law_k", "_law_many"]
theorem sc_law_draw : FnScope N_law_draw P_law_draw (defScope s_law_draw) := ⟨rfl, rfl, rfl, by decide +kernel, rfl, by decide +kernel, by decide +kernel⟩
abbrev s_law_houses : Stmt := top 23
abbrev N_law_houses : List Str := ["_law_script", "_law_first", "_law_most", "_law_carried", "_law_k"]
abbrev P_law_houses : List Str := ["_law_script", "_law_first"]
theorem sc_law_houses : FnScope N_law_houses P_law_houses (defScope s_law_houses) := ⟨rfl, rfl, rfl, by decide +kernel, rfl, by decide +kernel, by decide +kernel⟩
abbrev s_law_number : Stmt := top 27
abbrev N_law_number : List Str := ["_law_text", "_law_figures"]
abbrev P_law_number : List Str := ["_law_text"]
theorem sc_law_number : FnScope N_law_number P_law_number (defScope s_law_number) := ⟨rfl, rfl, rfl, by decide +kernel, rfl, by decide +kernel, by decide +kernel⟩
abbrev s_law_in : Stmt := top 28
abbrev N_law_in : List Str := ["_law_text", "_law_found"]
abbrev P_law_in : List Str := ["_law_text"]
theorem sc_law_in : FnScope N_law_in P_law_in (defScope s_law_in) := ⟨rfl, rfl, rfl, by decide +kernel, rfl, by decide +kernel, by decide +kernel⟩
abbrev s_law_refused : Stmt := top 29
abbrev N_law_refused : List Str := ["_law_text", "error", "_law_others"]
abbrev P_law_refused : List Str := ["_law_text"]
theorem sc_law_refused : FnScope N_law_refused P_law_refused (defScope s_law_refused) := ⟨rfl, rfl, rfl, by decide +kernel, rfl, by decide +kernel, by decide +kernel⟩
abbrev s_law_right : Stmt := top 30
abbrev N_law_right : List Str := ["_law_text", "_law_due", "_law_found"]
abbrev P_law_right : List Str := ["_law_text"]
theorem sc_law_right : FnScope N_law_right P_law_right (defScope s_law_right) := ⟨rfl, rfl, rfl, by decide +kernel, rfl, by decide +kernel, by decide +kernel⟩
abbrev s_law_few : Stmt := top 31
abbrev N_law_few : List Str := ["_law_some"]
abbrev P_law_few : List Str := []
theorem sc_law_few : FnScope N_law_few P_law_few (defScope s_law_few) := ⟨rfl, rfl, rfl, by decide +kernel, rfl, by decide +kernel, by decide +kernel⟩
abbrev s_law : Stmt := top 32
abbrev N_law : List Str := ["_law_script", "_law_houses_here", "_law_text", "_law_cell", "_law_k", "_law_at", "_law_sign"]
abbrev P_law : List Str := ["_law_script"]
theorem sc_law : FnScope N_law P_law (defScope s_law) := ⟨rfl, rfl, rfl, by decide +kernel, rfl, by decide +kernel, by decide +kernel⟩
structure Adr where
  f_Lacking_init__ : Addr
  d_Lacking_init__ : FuncData
  f_is_whole_number : Addr
  d_is_whole_number : FuncData
  f_is_house : Addr
  d_is_house : FuncData
  f_are_houses : Addr
  d_are_houses : FuncData
  f_Ring_init__ : Addr
  d_Ring_init__ : FuncData
  f_Ring_houses : Addr
  d_Ring_houses : FuncData
  f_Ring_whole : Addr
  d_Ring_whole : FuncData
  f_written : Addr
  d_written : FuncData
  f_is_written_number : Addr
  d_is_written_number : FuncData
  f_read : Addr
  d_read : FuncData
  f_law_cell_at : Addr
  d_law_cell_at : FuncData
  f_law_draw : Addr
  d_law_draw : FuncData
  f_law_houses : Addr
  d_law_houses : FuncData
  f_law_number : Addr
  d_law_number : FuncData
  f_law_in : Addr
  d_law_in : FuncData
  f_law_refused : Addr
  d_law_refused : FuncData
  f_law_right : Addr
  d_law_right : FuncData
  f_law_few : Addr
  d_law_few : FuncData
  f_law : Addr
  d_law : FuncData
  C_Ring : Addr
  C_RingError : Addr
  C_BadRing : Addr
  C_BadTolls : Addr
  C_BadMost : Addr
  C_Unlike : Addr
  C_Lacking : Addr
  C_BadText : Addr
  v_FARTHEST_NUMBER : Tok
  v_FEWEST_HOUSES : Tok
  v_FIGURES : Tok
structure Txt (K : PySem.W.Frag) (mg : Str → Option Value) (t : Adr) : Prop where
  F_Lacking_init__ : Fun K "__init__" "Lacking.__init__" s_Lacking_init__ t.f_Lacking_init__ t.d_Lacking_init__
  B_Lacking_init__ : Binds K t.d_Lacking_init__ P_Lacking_init__ []
  F_is_whole_number : Fun K "is_whole_number" "is_whole_number" s_is_whole_number t.f_is_whole_number t.d_is_whole_number
  B_is_whole_number : Binds K t.d_is_whole_number P_is_whole_number []
  g_is_whole_number : mg "is_whole_number" = some (.ref t.f_is_whole_number)
  F_is_house : Fun K "is_house" "is_house" s_is_house t.f_is_house t.d_is_house
  B_is_house : Binds K t.d_is_house P_is_house []
  g_is_house : mg "is_house" = some (.ref t.f_is_house)
  F_are_houses : Fun K "are_houses" "are_houses" s_are_houses t.f_are_houses t.d_are_houses
  B_are_houses : Binds K t.d_are_houses P_are_houses []
  g_are_houses : mg "are_houses" = some (.ref t.f_are_houses)
  F_Ring_init__ : Fun K "__init__" "Ring.__init__" s_Ring_init__ t.f_Ring_init__ t.d_Ring_init__
  B_Ring_init__ : Binds K t.d_Ring_init__ P_Ring_init__ []
  F_Ring_houses : Fun K "houses" "Ring.houses" s_Ring_houses t.f_Ring_houses t.d_Ring_houses
  B_Ring_houses : Binds K t.d_Ring_houses P_Ring_houses []
  F_Ring_whole : Fun K "whole" "Ring.whole" s_Ring_whole t.f_Ring_whole t.d_Ring_whole
  B_Ring_whole : Binds K t.d_Ring_whole P_Ring_whole []
  F_written : Fun K "written" "written" s_written t.f_written t.d_written
  B_written : Binds K t.d_written P_written []
  g_written : mg "written" = some (.ref t.f_written)
  F_is_written_number : Fun K "is_written_number" "is_written_number" s_is_written_number t.f_is_written_number t.d_is_written_number
  B_is_written_number : Binds K t.d_is_written_number P_is_written_number []
  g_is_written_number : mg "is_written_number" = some (.ref t.f_is_written_number)
  F_read : Fun K "read" "read" s_read t.f_read t.d_read
  B_read : Binds K t.d_read P_read []
  g_read : mg "read" = some (.ref t.f_read)
  F_law_cell_at : Fun K "_law_cell_at" "_law_cell_at" s_law_cell_at t.f_law_cell_at t.d_law_cell_at
  B_law_cell_at : Binds K t.d_law_cell_at P_law_cell_at []
  g_law_cell_at : mg "_law_cell_at" = some (.ref t.f_law_cell_at)
  F_law_draw : Fun K "_law_draw" "_law_draw" s_law_draw t.f_law_draw t.d_law_draw
  B_law_draw : Binds K t.d_law_draw P_law_draw []
  g_law_draw : mg "_law_draw" = some (.ref t.f_law_draw)
  F_law_houses : Fun K "_law_houses" "_law_houses" s_law_houses t.f_law_houses t.d_law_houses
  B_law_houses : Binds K t.d_law_houses P_law_houses []
  g_law_houses : mg "_law_houses" = some (.ref t.f_law_houses)
  F_law_number : Fun K "_law_number" "_law_number" s_law_number t.f_law_number t.d_law_number
  B_law_number : Binds K t.d_law_number P_law_number []
  g_law_number : mg "_law_number" = some (.ref t.f_law_number)
  F_law_in : Fun K "_law_in" "_law_in" s_law_in t.f_law_in t.d_law_in
  B_law_in : Binds K t.d_law_in P_law_in []
  g_law_in : mg "_law_in" = some (.ref t.f_law_in)
  F_law_refused : Fun K "_law_refused" "_law_refused" s_law_refused t.f_law_refused t.d_law_refused
  B_law_refused : Binds K t.d_law_refused P_law_refused []
  g_law_refused : mg "_law_refused" = some (.ref t.f_law_refused)
  F_law_right : Fun K "_law_right" "_law_right" s_law_right t.f_law_right t.d_law_right
  B_law_right : Binds K t.d_law_right P_law_right []
  g_law_right : mg "_law_right" = some (.ref t.f_law_right)
  F_law_few : Fun K "_law_few" "_law_few" s_law_few t.f_law_few t.d_law_few
  B_law_few : Binds K t.d_law_few P_law_few []
  g_law_few : mg "_law_few" = some (.ref t.f_law_few)
  F_law : Fun K "law" "law" s_law t.f_law t.d_law
  B_law : Binds K t.d_law P_law []
  g_law : mg "law" = some (.ref t.f_law)
  g_Ring : mg "Ring" = some (.ref t.C_Ring)
  cl_Ring : Cls K t.C_Ring
  M_Ring : Mk K t.C_Ring t.f_Ring_init__
  m_Ring_houses : Meth K t.C_Ring "houses" t.f_Ring_houses
  m_Ring_whole : Meth K t.C_Ring "whole" t.f_Ring_whole
  n_Ring_numbers : NoAttr K t.C_Ring "numbers"
  g_RingError : mg "RingError" = some (.ref t.C_RingError)
  x_RingError : PySem.W.excIn K t.C_RingError bmV "ValueError.__new__" = true
  xm_RingError_RingError : PySem.W.mroIn K t.C_RingError (.ref t.C_RingError) = some true
  g_BadRing : mg "BadRing" = some (.ref t.C_BadRing)
  x_BadRing : PySem.W.excIn K t.C_BadRing bmV "ValueError.__new__" = true
  xm_BadRing_BadRing : PySem.W.mroIn K t.C_BadRing (.ref t.C_BadRing) = some true
  xm_BadRing_RingError : PySem.W.mroIn K t.C_BadRing (.ref t.C_RingError) = some true
  g_BadTolls : mg "BadTolls" = some (.ref t.C_BadTolls)
  x_BadTolls : PySem.W.excIn K t.C_BadTolls bmV "ValueError.__new__" = true
  xm_BadTolls_BadTolls : PySem.W.mroIn K t.C_BadTolls (.ref t.C_BadTolls) = some true
  xm_BadTolls_RingError : PySem.W.mroIn K t.C_BadTolls (.ref t.C_RingError) = some true
  g_BadMost : mg "BadMost" = some (.ref t.C_BadMost)
  x_BadMost : PySem.W.excIn K t.C_BadMost bmV "ValueError.__new__" = true
  xm_BadMost_BadMost : PySem.W.mroIn K t.C_BadMost (.ref t.C_BadMost) = some true
  xm_BadMost_RingError : PySem.W.mroIn K t.C_BadMost (.ref t.C_RingError) = some true
  g_Unlike : mg "Unlike" = some (.ref t.C_Unlike)
  x_Unlike : PySem.W.excIn K t.C_Unlike bmV "ValueError.__new__" = true
  xm_Unlike_Unlike : PySem.W.mroIn K t.C_Unlike (.ref t.C_Unlike) = some true
  xm_Unlike_RingError : PySem.W.mroIn K t.C_Unlike (.ref t.C_RingError) = some true
  g_Lacking : mg "Lacking" = some (.ref t.C_Lacking)
  x_Lacking : excInI K t.C_Lacking bmV "ValueError.__new__" t.f_Lacking_init__ = true
  xn_Lacking : PySem.W.isFn K (.ref t.f_Lacking_init__) = true
  kc_Lacking : PySem.W.keepIn K (.ref t.C_Lacking) = true
  xs_Lacking : PySem.W.findIn K (.ref t.C_Lacking) "__setattr__" = some (some (.builtin "object.__setattr__"))
  xl_Lacking : PySem.W.lackIn K t.C_Lacking t.C_RingError = true
  xa_Lacking_total : PySem.W.findIn K (.ref t.C_Lacking) "total" = some none
  r1_RingError : PySem.W.specialIn K (.ref t.C_RingError) "__getattribute__" = some (some (.builtin "type.__getattribute__"))
  r2_RingError : PySem.W.readsIn K t.C_RingError (.type "type") = true
  r3_RingError : PySem.W.findCls K (.ref t.C_RingError) (.type "type") "__init__" = some (.val (.builtin "ValueError.__init__"))
  xm_Lacking_Lacking : PySem.W.mroIn K t.C_Lacking (.ref t.C_Lacking) = some true
  xm_Lacking_RingError : PySem.W.mroIn K t.C_Lacking (.ref t.C_RingError) = some true
  g_BadText : mg "BadText" = some (.ref t.C_BadText)
  x_BadText : PySem.W.excIn K t.C_BadText bmV "ValueError.__new__" = true
  kc_BadText : PySem.W.keepIn K (.ref t.C_BadText) = true
  xm_BadText_BadText : PySem.W.mroIn K t.C_BadText (.ref t.C_BadText) = some true
  xm_BadText_RingError : PySem.W.mroIn K t.C_BadText (.ref t.C_RingError) = some true
  xk_RingError : PySem.W.ExcK K t.C_RingError
  xk_BadRing : PySem.W.ExcK K t.C_BadRing
  xk_BadTolls : PySem.W.ExcK K t.C_BadTolls
  xk_BadMost : PySem.W.ExcK K t.C_BadMost
  xk_Unlike : PySem.W.ExcK K t.C_Unlike
  xk_Lacking : PySem.W.ExcK K t.C_Lacking
  xk_BadText : PySem.W.ExcK K t.C_BadText
  i_str_str : PySem.W.kitOne K (.type "str") (.type "str") = some true
  i_NoneType_str : PySem.W.kitOne K (.type "NoneType") (.type "str") = some false
  i_int_str : PySem.W.kitOne K (.type "int") (.type "str") = some false
  i_list_str : PySem.W.kitOne K (.type "list") (.type "str") = some false
  i_bool_str : PySem.W.kitOne K (.type "bool") (.type "str") = some false
  i_BadText_BadMost : PySem.W.kitOne K (.ref t.C_BadText) (.ref t.C_BadMost) = some false
  i_BadText_BadRing : PySem.W.kitOne K (.ref t.C_BadText) (.ref t.C_BadRing) = some false
  i_BadText_BadTolls : PySem.W.kitOne K (.ref t.C_BadText) (.ref t.C_BadTolls) = some false
  i_BadText_Lacking : PySem.W.kitOne K (.ref t.C_BadText) (.ref t.C_Lacking) = some false
  i_BadText_Unlike : PySem.W.kitOne K (.ref t.C_BadText) (.ref t.C_Unlike) = some false
  i_BadText_ValueError : PySem.W.kitOne K (.ref t.C_BadText) (.type "ValueError") = some true
  i_BadText_BadText : PySem.W.kitOne K (.ref t.C_BadText) (.ref t.C_BadText) = some true
  i_BadRing_BadText : PySem.W.kitOne K (.ref t.C_BadRing) (.ref t.C_BadText) = some false
  i_int_int : PySem.W.kitOne K (.type "int") (.type "int") = some true
  i_int_bool : PySem.W.kitOne K (.type "int") (.type "bool") = some false
  i_list_list : PySem.W.kitOne K (.type "list") (.type "list") = some true
  b_ValueError : mg "ValueError" = none
  b_abs : mg "abs" = none
  b_all : mg "all" = none
  b_any : mg "any" = none
  b_bool : mg "bool" = none
  b_int : mg "int" = none
  b_isinstance : mg "isinstance" = none
  b_len : mg "len" = none
  b_list : mg "list" = none
  b_range : mg "range" = none
  b_str : mg "str" = none
  b_sum : mg "sum" = none
  g_FARTHEST_NUMBER : mg "FARTHEST_NUMBER" = some (.int 1000000 t.v_FARTHEST_NUMBER)
  g_FEWEST_HOUSES : mg "FEWEST_HOUSES" = some (.int 2 t.v_FEWEST_HOUSES)
  g_FIGURES : mg "FIGURES" = some (.str "0123456789" t.v_FIGURES)
/-! ### mirrors -/
def primes : List Int := [1000003, 1000033, 1000037, 1000039, 1000081, 1000099, 1000117, 1000121, 1000133, 1000151, 1000159, 1000171, 1000183, 1000187, 1000193, 1000199]
def drawI (c k m : Int) : Int := (c * 48271 + k * 69621) % primes.getD (k % 16).toNat 0 % m
theorem prime_pos {k : Int} : 0 < primes.getD (k % 16).toNat 0 := by
  have h0 : 0 ≤ k % 16 := Int.emod_nonneg _ (by decide)
  have h1 : k % 16 < 16 := Int.emod_lt_of_pos _ (by decide)
  generalize (k % 16) = j at h0 h1
  have : ∀ i : _root_.Fin 16, 0 < primes.getD i.val 0 := by decide
  exact this ⟨j.toNat, by omega⟩
theorem draw_lo {c k m : Int} (h : 0 < m) : 0 ≤ drawI c k m := Int.emod_nonneg _ (by omega)
theorem draw_hi {c k m : Int} (h : 0 < m) : drawI c k m < m := Int.emod_lt_of_pos _ h
/-! ### promises -/
def sp_cell_at (K : PySem.W.Frag) : Sp := fun vs H Q _ => ∃ (a : Addr) (ns : List Int) (k : Int), vs = [.ref a, .int k] ∧ SqL K H a (ns.map V.int) ∧ 0 ≤ k ∧ Q (.int (ns.getD k.toNat 0)) H
def sp_draw : Sp := fun vs H Q _ => ∃ (c k m : Int), vs = [.int c, .int k, .int m] ∧ 0 < m ∧ ∀ H', Same H H' → Q (.int (drawI c k m)) H'
section
variable {P : Program} {w : World} {K : PySem.W.Frag} {mg : Str → Option Value} {base : Heap} {t : Adr}
theorem ok_cell_at (T : Txt K mg t) : FnOk P w K mg base CX0 1 t.f_law_cell_at t.d_law_cell_at P_law_cell_at (sp_cell_at K) := by
  refine T.F_law_cell_at.ok sc_law_cell_at (fun vs H Q E h => ?_) (fun cdv A outer s H vs Q E hr h => ?_)
  · obtain ⟨a, ns, k, rfl, _⟩ := h
    rfl
  · obtain ⟨a, ns, k, rfl, hs, h0, q⟩ := h
    refine ⟨_, (pss_cons (ps_if (pt_cmpR op_lt (pv 1) (pe_callB (lenK K) (by rfl) T.b_len bt_len (pa_cons (pv 0) pa_nil se_Name)) (nomark _))
      (pss_one (ps_ret (pe_ix (ixK K) (pv 0) (pv 1) (fun _ _ => rfl))))
      pss_nil)
      (pss_one (ps_ret pe_int))), ?_⟩
    refine ⟨_, rfl, _, rfl, a, _, rfl, .inl hs, _, _, rfl, rfl, _, rfl, ?_⟩
    refine ite2 (fun hlt => ?_) (fun hge => ?_)
    · have hlt' : k < ((ns.map V.int).length : Int) := of_decide_eq_true hlt
      rw [List.length_map] at hlt'
      exact ⟨_, rfl, _, rfl, .inl ⟨a, _, k, _, rfl, rfl, hs, atI_ints h0 hlt', q⟩⟩
    · have hge' : ¬ k < ((ns.map V.int).length : Int) := fun z => hge (decide_eq_true z)
      rw [List.length_map] at hge'
      have e : ns.getD k.toNat 0 = 0 := by rw [List.getD_eq_getElem?_getD, List.getElem?_eq_none (by omega)]; rfl
      rw [e] at q
      exact q
theorem ok_draw (T : Txt K mg t) : FnOk P w K mg base CX0 1 t.f_law_draw t.d_law_draw P_law_draw sp_draw := by
  refine T.F_law_draw.ok sc_law_draw (fun vs H Q E h => ?_) (fun cdv A outer s H vs Q E hr h => ?_)
  · obtain ⟨c, k, m, rfl, _⟩ := h
    rfl
  · obtain ⟨c, k, m, rfl, hm, q⟩ := h
    refine ⟨_, (pss_cons (ps_set (i := 3) sc_law_draw.nd rfl (by first | exact Or.inl rfl | exact Or.inr rfl) (pe_tup (pa_cons pe_int (pa_cons pe_int (pa_cons pe_int (pa_cons pe_int (pa_cons pe_int (pa_cons pe_int (pa_cons pe_int (pa_cons pe_int (pa_cons pe_int (pa_cons pe_int (pa_cons pe_int (pa_cons pe_int (pa_cons pe_int (pa_cons pe_int (pa_cons pe_int (pa_cons pe_int pa_nil se_Constant) se_Constant) se_Constant) se_Constant) se_Constant) se_Constant) se_Constant) se_Constant) se_Constant) se_Constant) se_Constant) se_Constant) se_Constant) se_Constant) se_Constant) se_Constant)))
      (pss_one (ps_ret (pe_op op_mod (pe_op op_mod (pe_op (op_add.or op_cat) (pe_op (op_mul.or op_rep) (pv 0) pe_int) (pe_op (op_mul.or op_rep) (pv 1) pe_int)) (pe_ix (ixK K) (pv 3) (pe_op op_mod (pv 1) pe_int) (fun _ _ => rfl))) (pv 2))))), ?_⟩
    refine ⟨by show 16 ≤ sizeLine; decide, fun p hp => ?_⟩
    have h0 : 0 ≤ k % 16 := Int.emod_nonneg _ (by decide)
    have h1 : k % 16 < 16 := Int.emod_lt_of_pos _ (by decide)
    refine ⟨_, rfl, .inl ⟨_, _, rfl, rfl, .inr ⟨by decide, by decide⟩, ?_⟩⟩
    refine ⟨_, rfl, .inl ⟨_, _, rfl, rfl, .inr ⟨by decide, by decide⟩, ?_⟩⟩
    refine .inl ⟨_, _, rfl, rfl, ?_⟩
    refine ⟨_, rfl, _, rfl, _, _, rfl, rfl, (by show (0 : Int) < 16; decide), ?_⟩
    refine .inr ⟨p, primes.map V.int, _, _, rfl, rfl, SqT.of upd_same, atI_ints h0 h1, ?_⟩
    refine ⟨_, _, rfl, rfl, prime_pos, _, rfl, _, _, rfl, rfl, hm, ?_⟩
    exact q _ (same_upd hp)

/-! ### the ring's numbers -/
def mostI (ns : List Int) : Int := ([2, 9, 400, 499999] : List Int).getD (drawI (ns.getD 0 0) 6 4).toNat 0
def stepI (ns : List Int) (k : Nat) : Int := drawI (ns.getD k 0) ((k : Int) % 5 + 1) (2 * mostI ns + 1) - mostI ns
def carrI (ns : List Int) (first : Int) : List Int := (drawI (ns.getD 1 0) 7 3 - 1) :: first :: (List.range ns.length).map (stepI ns)
def prevI (cs : List Int) (k : Nat) : Int := cs.getD ((k + cs.length - 1) % cs.length) 0
def diffI (cs : List Int) : List Int := (List.range cs.length).map fun k => cs.getD k 0 - prevI cs k
def housesI (ns : List Int) (first : Int) : List Int := diffI (carrI ns first)
theorem most_cases (ns : List Int) : mostI ns = 2 ∨ mostI ns = 9 ∨ mostI ns = 400 ∨ mostI ns = 499999 := by
  unfold mostI
  have h0 := draw_lo (c := ns.getD 0 0) (k := 6) (m := 4) (by decide)
  have h1 := draw_hi (c := ns.getD 0 0) (k := 6) (m := 4) (by decide)
  generalize drawI (ns.getD 0 0) 6 4 = j at h0 h1
  have : ∀ i : _root_.Fin 4, ([2, 9, 400, 499999] : List Int).getD i.val 0 = 2 ∨ ([2, 9, 400, 499999] : List Int).getD i.val 0 = 9 ∨ ([2, 9, 400, 499999] : List Int).getD i.val 0 = 400 ∨ ([2, 9, 400, 499999] : List Int).getD i.val 0 = 499999 := by decide
  exact this ⟨j.toNat, by omega⟩
theorem carr_length (ns : List Int) (first : Int) : (carrI ns first).length = ns.length + 2 := by simp [carrI]
theorem diff_length (cs : List Int) : (diffI cs).length = cs.length := by simp [diffI]
theorem houses_length (ns : List Int) (first : Int) : (housesI ns first).length = ns.length + 2 := by rw [housesI, diff_length, carr_length]
def sp_houses (K : PySem.W.Frag) : Sp := fun vs H Q _ => ∃ (a : Addr) (ns : List Int) (first : Int), vs = [.ref a, .int first] ∧ SqL K H a (ns.map V.int) ∧ ns.length ≤ 63 ∧
  ∀ D H', H D = none → Same H H' → H' D = some (.lst ((housesI ns first).map V.int)) → Q (.ref D) H'
theorem ok_houses (T : Txt K mg t) : FnOk P w K mg base CX0 2 t.f_law_houses t.d_law_houses P_law_houses (sp_houses K) := by
  have G_law_cell_at := ok_cell_at (P := P) (w := w) (base := base) T
  have G_law_draw := ok_draw (P := P) (w := w) (base := base) T
  refine T.F_law_houses.ok sc_law_houses (fun vs H Q E h => ?_) (fun cdv A outer s H vs Q E hr h => ?_)
  · obtain ⟨a, ns, first, rfl, _⟩ := h
    rfl
  · obtain ⟨a, ns, first, rfl, hs, hl, q⟩ := h
    refine ⟨_, (pss_cons (ps_set (i := 2) sc_law_houses.nd rfl (by first | exact Or.inl rfl | exact Or.inr rfl) (pe_ix (ixK K) (pe_tup (pa_cons pe_int (pa_cons pe_int (pa_cons pe_int (pa_cons pe_int pa_nil se_Constant) se_Constant) se_Constant) se_Constant)) (pe_call G_law_draw (hr.mono (by decide)) rfl T.g_law_draw T.F_law_draw.kp T.B_law_draw .nil pass0 (pa_cons (pe_call G_law_cell_at (hr.mono (by decide)) rfl T.g_law_cell_at T.F_law_cell_at.kp T.B_law_cell_at .nil pass0 (pa_cons (pv 0) (pa_cons pe_int pa_nil se_Constant) se_Name)) (pa_cons pe_int (pa_cons pe_int pa_nil se_Constant) se_Constant) se_Call)) (fun _ _ => rfl)))
      (pss_cons (ps_set (i := 3) sc_law_houses.nd rfl (by first | exact Or.inl rfl | exact Or.inr rfl) (pe_lst (pa_cons (pe_op op_sub (pe_call G_law_draw (hr.mono (by decide)) rfl T.g_law_draw T.F_law_draw.kp T.B_law_draw .nil pass0 (pa_cons (pe_call G_law_cell_at (hr.mono (by decide)) rfl T.g_law_cell_at T.F_law_cell_at.kp T.B_law_cell_at .nil pass0 (pa_cons (pv 0) (pa_cons pe_int pa_nil se_Constant) se_Name)) (pa_cons pe_int (pa_cons pe_int pa_nil se_Constant) se_Constant) se_Call)) pe_int) (pa_cons (pv 1) pa_nil se_Name) se_BinOp)))
      (pss_cons (ps_for PassesOwn.never rfl (pi_range1 rfl T.b_range (pa_cons (pe_callB (lenK K) (by rfl) T.b_len bt_len (pa_cons (pv 0) pa_nil se_Name)) pa_nil se_Call)) (pg_name (i := 4) sc_law_houses.nd rfl (by first | exact Or.inl rfl | exact Or.inr rfl))
      (pss_one (ps_expr (bmK K PySem.F.plainAttrs_list PySem.F.slot_list_append PySem.F.type_list_append mtr_append (pv 3) (pa_cons (pe_op op_sub (pe_call G_law_draw (hr.mono (by decide)) rfl T.g_law_draw T.F_law_draw.kp T.B_law_draw .nil pass0 (pa_cons (pe_ix (ixK K) (pv 0) (pv 4) (fun _ _ => rfl)) (pa_cons (pe_op (op_add.or op_cat) (pe_op op_mod (pv 4) pe_int) pe_int) (pa_cons (pe_op (op_add.or op_cat) (pe_op (op_mul.or op_rep) pe_int (pv 2)) pe_int) pa_nil se_BinOp) se_BinOp) se_Subscript)) (pv 2)) pa_nil se_BinOp)))))
      (pss_one (ps_ret (pe_comp (sc := defScope s_law_houses) (XN := N_law_houses) (N' := ["_law_k", "_law_carried"]) (t := 1) (ix := [3]) rfl ⟨rfl, by decide +kernel, by decide +kernel, by decide +kernel, by decide +kernel, rfl, by decide +kernel⟩ rfl rfl (pi_range1 rfl T.b_range (pa_cons (pe_callB (lenK K) (by rfl) T.b_len bt_len (pa_cons (pv 3) pa_nil se_Name)) pa_nil se_Call)) (fun _ _ _ _ _ => (pg_name (i := 0) (show List.Nodup (["_law_k", "_law_carried"] : List Str) by decide +kernel) rfl (Or.inl rfl))) (fun _ _ _ _ _ => (pe_op op_sub (pe_ix (ixK K) (pv 1) (pv 0) (fun _ _ => rfl)) (pe_ix (ixK K) (pv 1) (pe_op op_sub (pv 0) pe_int) (fun _ _ => rfl)))))))))), ?_⟩
    -- the bound
    refine ⟨by show 4 ≤ sizeLine; decide, fun p hp => ?_⟩
    refine ⟨_, rfl, a, ns, 0, rfl, (same_upd hp).seq hs, by decide, ?_⟩
    refine ⟨_, _, _, rfl, by decide, fun H1 s1 => ?_⟩
    refine .inr ⟨p, ([2, 9, 400, 499999] : List Int).map V.int, _, _, rfl, rfl, SqT.of (s1 _ _ upd_same), atI_ints (draw_lo (by decide)) (draw_hi (by decide)), ?_⟩
    have S1 : Same H H1 := (same_upd hp).trans s1
    -- the list
    refine ⟨_, rfl, a, ns, 1, rfl, S1.seq hs, by decide, ?_⟩
    refine ⟨_, _, _, rfl, by decide, fun H2 s2 => ?_⟩
    have S2 : Same H H2 := S1.trans s2
    refine ⟨_, _, rfl, rfl, _, rfl, by show 2 ≤ sizeLine; decide, fun d hd => ?_⟩
    have hdH : H d = none := S2.free hd
    -- for k in range(len(script))
    refine ⟨_, rfl, a, _, rfl, .inl ((S2.upd hdH).seq hs), ((ns.map V.int).length : Int), rfl, by omega, by rw [List.length_map]; omega, ?_⟩
    refine for_range0 (n := ((ns.map V.int).length : Int).toNat) (fun i σ H3 => ∃ v, σ = [some (.ref a), some (.int first), some (.int (mostI ns)), some (.ref d), v] ∧ Same H H3 ∧
      H3 d = some (.lst (((drawI (ns.getD 1 0) 7 3 - 1) :: first :: (List.range i).map (stepI ns)).map V.int))) ⟨_, rfl, S2.upd hdH, upd_same⟩ ?_ ?_
    · rintro i σ H3 hi ⟨v, rfl, S3, h3⟩
      rw [List.length_map] at hi
      have hi' : i < ns.length := by omega
      have hm := most_cases ns
      refine ⟨_, rfl, .inl ⟨rfl, _, SqL.of h3⟩, ?_⟩
      refine ⟨_, rfl, _, rfl, .inl ⟨a, _, _, _, rfl, rfl, S3.seq hs, atI_ints (by omega) (by omega), ?_⟩⟩
      refine ⟨_, rfl, _, _, rfl, rfl, (by show (0 : Int) < 5; decide), .inl ⟨_, _, rfl, rfl, ?_⟩⟩
      refine ⟨_, rfl, .inl ⟨_, _, rfl, rfl, .inl ⟨by decide, by decide⟩, .inl ⟨_, _, rfl, rfl, ?_⟩⟩⟩
      refine ⟨_, _, _, rfl, by omega, fun H4 s4 => ?_⟩
      refine ⟨_, rfl, _, _, rfl, rfl, ?_⟩
      have h4 := s4 _ _ h3
      refine ⟨d, _, _, rfl, rfl, h4, ?_, ?_⟩
      · have := big; simp; omega
      · refine ⟨_, rfl, (S3.trans s4).upd hdH, ?_⟩
        rw [upd_same]
        congr 2
        rw [List.range_succ, List.map_append]
        simp [stepI]
    · rintro σ H3 ⟨v, rfl, S3, h3⟩
      rw [List.length_map] at h3
      have h3' : H3 d = some (.lst ((carrI ns first).map V.int)) := by rw [h3]; simp [carrI]
      -- the comprehension
      have hlen := carr_length ns first
      refine ⟨_, rfl, d, _, rfl, .inl (SqL.of h3'), (((carrI ns first).map V.int).length : Int), rfl, by omega, by rw [List.length_map, hlen]; omega, fun D hD => ?_⟩
      refine comp_range0 (n := (((carrI ns first).map V.int).length : Int).toNat) (fun k => .int ((carrI ns first).getD k 0 - prevI (carrI ns first) k)) (by have := big; rw [List.length_map, hlen]; simp; omega) (by decide) hD (fun k H5 Z hk S5 z => ?_) (fun H5 S5 e5 => ?_)
      · rw [List.length_map] at hk
        have hk' : k < (carrI ns first).length := by omega
        have h5 := S5 _ _ h3'
        refine ⟨_, rfl, _, rfl, .inl ⟨d, _, _, _, rfl, rfl, SqL.of h5, atI_ints (by omega) (by omega), ?_⟩⟩
        refine ⟨_, rfl, _, rfl, _, _, rfl, rfl, .inl ⟨d, _, _, _, rfl, rfl, SqL.of h5, atI_back hk', ?_⟩⟩
        exact ⟨_, _, rfl, rfl, z H5 (Same.refl _)⟩
      · refine q D H5 (S3.free hD) (S3.trans S5) ?_
        rw [e5]
        simp [housesI, diffI, List.map_map, Function.comp]
/-! ### the tolls -/
def tollRow (c : Int) : List Int := [1, drawI c 1 3, drawI c 2 4 / 3, drawI c 3 1001, 0]
def tollI (ns : List Int) (k : Nat) : Int := (tollRow (ns.getD ((k + 1) % (ns.length + 1)) 0)).getD (drawI (ns.getD 0 0) 8 5).toNat 0
def tollsI (ns : List Int) (n : Nat) : List Int := (List.range n).map (tollI ns)
theorem tollRow_range (c : Int) : ∀ x ∈ tollRow c, 0 ≤ x ∧ x ≤ 1000 := by
  have h1 := draw_lo (c := c) (k := 1) (m := 3) (by decide)
  have h2 := draw_hi (c := c) (k := 1) (m := 3) (by decide)
  have h3 := draw_lo (c := c) (k := 2) (m := 4) (by decide)
  have h4 := draw_hi (c := c) (k := 2) (m := 4) (by decide)
  have h5 := draw_lo (c := c) (k := 3) (m := 1001) (by decide)
  have h6 := draw_hi (c := c) (k := 3) (m := 1001) (by decide)
  intro x hx
  simp only [tollRow, List.mem_cons, List.not_mem_nil, or_false] at hx
  omega
theorem toll_range (ns : List Int) (k : Nat) : 0 ≤ tollI ns k ∧ tollI ns k ≤ 1000 := by
  have h0 := draw_lo (c := ns.getD 0 0) (k := 8) (m := 5) (by decide)
  have h1 := draw_hi (c := ns.getD 0 0) (k := 8) (m := 5) (by decide)
  exact tollRow_range _ _ (L2.getD_mem (show (drawI (ns.getD 0 0) 8 5).toNat < 5 by omega))
theorem tolls_length (ns : List Int) (n : Nat) : (tollsI ns n).length = n := by simp [tollsI]
theorem tolls_range {ns : List Int} {n : Nat} : ∀ x ∈ tollsI ns n, 0 ≤ x ∧ x ≤ 1000 := fun x hx => by
  obtain ⟨k, _, rfl⟩ := List.mem_map.mp hx
  exact toll_range ns k
def sp_tolls (K : PySem.W.Frag) : Sp := fun vs H Q _ => ∃ (a : Addr) (ns : List Int) (n : Nat), vs = [.ref a, .int n] ∧ SqL K H a (ns.map V.int) ∧ ns.length ≤ 63 ∧ n ≤ 1000 ∧
  ∀ D H', H D = none → Same H H' → H' D = some (.lst ((tollsI ns n).map V.int)) → Q (.ref D) H'
/-! ### tests -/
theorem t_eq {i j : Int} : (decide (V.int i = V.int j) = true) ↔ i = j := by
  rw [decide_eq_true_iff]; exact ⟨fun e => by injection e, fun e => by rw [e]⟩
theorem t_ne {i j : Int} : ((!decide (V.int i = V.int j)) = true) ↔ i ≠ j := by
  rw [Bool.not_eq_true', decide_eq_false_iff_not]; exact ⟨fun h e => h (by rw [e]), fun h e => h (by injection e)⟩
theorem d_int {i j : Int} : decide (V.int i = V.int j) = decide (i = j) := by
  rw [Bool.eq_iff_iff, t_eq, decide_eq_true_iff]
/-! ### a carrying that evens -/
def absI (i : Int) : Int := if i < 0 then -i else i
def evenB (hs cs : List Int) : Bool := decide (diffI cs = hs)
theorem diff_get {cs : List Int} {k : Nat} (h : k < cs.length) : (diffI cs).getD k 0 = cs.getD k 0 - prevI cs k := by
  simp [diffI, h]
theorem evenB_all {hs cs : List Int} (h : cs.length = hs.length) : ((List.range hs.length).map fun k => decide (V.int (cs.getD k 0 - prevI cs k) = V.int (hs.getD k 0))).all id = evenB hs cs := by
  rw [Bool.eq_iff_iff, List.all_eq_true]
  unfold evenB
  rw [decide_eq_true_iff]
  constructor
  · intro q
    refine List.ext_getElem (by rw [diff_length, h]) fun k h1 h2 => ?_
    have := q (decide (V.int (cs.getD k 0 - prevI cs k) = V.int (hs.getD k 0))) (List.mem_map.mpr ⟨k, List.mem_range.mpr h2, rfl⟩)
    have e := t_eq.mp this
    have e2 := diff_get (cs := cs) (k := k) (by omega)
    rw [List.getD_eq_getElem?_getD, List.getElem?_eq_getElem h1, Option.getD_some] at e2
    rw [List.getD_eq_getElem?_getD (l := hs), List.getElem?_eq_getElem h2, Option.getD_some] at e
    rw [e2, e]
  · intro q b hb
    obtain ⟨k, hk, rfl⟩ := List.mem_map.mp hb
    have hk' := List.mem_range.mp hk
    show decide _ = true
    rw [t_eq, ← q, diff_get (by omega)]
theorem evenB_len {hs cs : List Int} (h : cs.length ≠ hs.length) : evenB hs cs = false := by
  unfold evenB
  rw [decide_eq_false_iff_not]
  intro e
  rw [← e, diff_length] at h
  exact h rfl
def sp_is_evened (K : PySem.W.Frag) : Sp := fun vs H Q _ => ∃ (a b : Addr) (hs cs : List Int), vs = [.ref a, .ref b] ∧ SqL K H a (hs.map V.int) ∧ SqL K H b (cs.map V.int) ∧ hs.length ≤ 1000 ∧ ∀ H', Same H H' → Q (.bl (evenB hs cs)) H'
/-! ### sums over two lists -/
def Sm (x : Int) : Prop := -(2 ^ 64) < x ∧ x < 2 ^ 64
theorem map_int_get {ts : List Int} {k : Nat} {x : V} (h : (ts.map V.int)[k]? = some x) : ∃ i, ts[k]? = some i ∧ x = .int i := by
  rw [List.getElem?_map] at h
  cases e : ts[k]? with
  | none => rw [e] at h; cases h
  | some i => rw [e] at h; exact ⟨i, rfl, (Option.some.inj h).symm⟩
theorem mem_of_get {ts : List Int} {k : Nat} {i : Int} (h : ts[k]? = some i) : i ∈ ts := List.mem_of_getElem? h
def v2 (g : Int → Int → Int) : V → V → V
  | .int i, .int j => .int (g i j)
  | _, _ => .non
theorem zip_v2 (g : Int → Int → Int) : ∀ ts cs : List Int, List.zipWith (v2 g) (ts.map V.int) (cs.map V.int) = (List.zipWith g ts cs).map V.int
  | [], _ => by simp
  | _ :: _, [] => by simp
  | t :: ts, c :: cs => by simp [v2, zip_v2 g ts cs]
def costI (ts cs : List Int) : Int := (List.zipWith (fun t c => t * absI c) ts cs).sum
def worthI (hs ps : List Int) : Int := (List.zipWith (fun p h => p * h) ps hs).sum
def keepB (ps ts : List Int) : Bool := (List.range ps.length).all fun k => decide (absI (ps.getD k 0 - prevI ps k) ≤ prevI ts k)
def sp_cost (K : PySem.W.Frag) : Sp := fun vs H Q _ => ∃ (a b : Addr) (cs ts : List Int), vs = [.ref a, .ref b] ∧ SqL K H a (cs.map V.int) ∧ SqL K H b (ts.map V.int) ∧ ts.length ≤ 1000 ∧ (∀ x ∈ ts, Sm x) ∧ ∀ H', Same H H' → Q (.int (costI ts cs)) H'
def sp_worth (K : PySem.W.Frag) : Sp := fun vs H Q _ => ∃ (a b : Addr) (hs ps : List Int), vs = [.ref a, .ref b] ∧ SqL K H a (hs.map V.int) ∧ SqL K H b (ps.map V.int) ∧ ps.length ≤ 1000 ∧ (∀ x ∈ hs, Sm x) ∧ ∀ H', Same H H' → Q (.int (worthI hs ps)) H'
def sp_keep (K : PySem.W.Frag) : Sp := fun vs H Q _ => ∃ (a b : Addr) (ps ts : List Int), vs = [.ref a, .ref b] ∧ SqL K H a (ps.map V.int) ∧ SqL K H b (ts.map V.int) ∧ ps.length ≤ 1000 ∧ ts.length = ps.length ∧ ∀ H', Same H H' → Q (.bl (keepB ps ts)) H'
/-! ### houses -/
def houseB (i : Int) : Bool := decide (absI i ≤ 1000000)
def sp_whole1 : Sp := fun vs H Q _ => ∃ i : Int, vs = [.int i] ∧ Q (.bl true) H
def sp_house1 : Sp := fun vs H Q _ => ∃ i : Int, vs = [.int i] ∧ Q (.bl (houseB i)) H
def sp_houses1 (K : PySem.W.Frag) : Sp := fun vs H Q _ => ∃ (a : Addr) (ns : List Int), vs = [.ref a] ∧ SqL K H a (ns.map V.int) ∧ ns.length ≤ 1000 ∧ ∀ H', Same H H' → Q (.bl (ns.all houseB)) H'
theorem ok_whole1 (T : Txt K mg t) : FnOk P w K mg base CX0 1 t.f_is_whole_number t.d_is_whole_number P_is_whole_number sp_whole1 := by
  refine T.F_is_whole_number.ok sc_is_whole_number (fun vs H Q E h => ?_) (fun cdv A outer s H vs Q E hr h => ?_)
  · obtain ⟨i, rfl, _⟩ := h
    rfl
  · obtain ⟨i, rfl, q⟩ := h
    refine ⟨_, (pss_one (ps_ret (pe_and (pe_callB (isiK K) (by rfl) T.b_isinstance bt_isinstance (pa_cons (pv 0) (pa_cons (pe_bltn (v := .ty "int") rfl T.b_int bt_int rfl) pa_nil se_Name) se_Name)) (pe_one (pe_not (pe_callB (isiK K) (by rfl) T.b_isinstance bt_isinstance (pa_cons (pv 0) (pa_cons (pe_bltn (v := .ty "bool") rfl T.b_bool bt_bool rfl) pa_nil se_Name) se_Name))))))), ?_⟩
    refine ⟨_, rfl, _, _, _, _, true, rfl, rfl, TyOf.int i, T.i_int_int, _, rfl, iteT ?_⟩
    exact ⟨_, rfl, _, _, _, _, false, rfl, rfl, TyOf.int i, T.i_int_bool, _, rfl, q⟩
theorem ok_house1 (T : Txt K mg t) : FnOk P w K mg base CX0 2 t.f_is_house t.d_is_house P_is_house sp_house1 := by
  have G_is_whole_number := ok_whole1 (P := P) (w := w) (base := base) T
  refine T.F_is_house.ok sc_is_house (fun vs H Q E h => ?_) (fun cdv A outer s H vs Q E hr h => ?_)
  · obtain ⟨i, rfl, _⟩ := h
    rfl
  · obtain ⟨i, rfl, q⟩ := h
    refine ⟨_, (pss_one (ps_ret (pe_and (pe_call G_is_whole_number (hr.mono (by decide)) rfl T.g_is_whole_number T.F_is_whole_number.kp T.B_is_whole_number .nil pass0 (pa_cons (pv 0) pa_nil se_Name)) (pe_one (pe_cmpR op_le (pe_callB call_abs (by rfl) T.b_abs bt_abs (pa_cons (pv 0) pa_nil se_Name)) (pe_glob (v := .int 1000000) rfl T.g_FARTHEST_NUMBER ⟨_, rfl⟩) (nomark _)))))), ?_⟩
    refine ⟨_, rfl, i, rfl, _, rfl, iteT ?_⟩
    exact ⟨_, rfl, _, rfl, _, _, rfl, rfl, q⟩
theorem ok_houses1 (T : Txt K mg t) : FnOk P w K mg base CX0 3 t.f_are_houses t.d_are_houses P_are_houses (sp_houses1 K) := by
  have G_is_house := ok_house1 (P := P) (w := w) (base := base) T
  refine T.F_are_houses.ok sc_are_houses (fun vs H Q E h => ?_) (fun cdv A outer s H vs Q E hr h => ?_)
  · obtain ⟨a, ns, rfl, _⟩ := h
    rfl
  · obtain ⟨a, ns, rfl, ha, hl, q⟩ := h
    refine ⟨_, (pss_one (ps_ret (pe_callB (allK K rfl) (by rfl) T.b_all bt_all (pa_cons (pe_comp (sc := defScope s_are_houses) (XN := N_are_houses) (N' := ["value"]) (t := 1) (ix := []) rfl ⟨rfl, by decide +kernel, by decide +kernel, by decide +kernel, by decide +kernel, rfl, by decide +kernel⟩ rfl rfl (piL K (pv 0)) (fun _ _ _ _ _ => (pg_name (i := 0) (show List.Nodup (["value"] : List Str) by decide +kernel) rfl (Or.inl rfl))) (fun _ _ _ _ _ => (pe_call G_is_house (hr.mono (by decide)) rfl T.g_is_house T.F_is_house.kp T.B_is_house .nil pass0 (pa_cons (pv 0) pa_nil se_Name)))) pa_nil se_ListComp)))), ?_⟩
    refine ⟨_, rfl, a, rfl, ⟨_, ha⟩, fun D hD => ?_⟩
    refine comp_list (t := 1) (fun x => match x with | .int i => .bl (houseB i) | _ => .non) (by have := big; rw [List.length_map]; omega) (by decide) hD ha (fun k x H5 Z hx S5 z => ?_) (fun H5 S5 e5 => ?_)
    · obtain ⟨i, ei, rfl⟩ := map_int_get hx
      exact ⟨_, rfl, i, rfl, z H5 (Same.refl _)⟩
    · refine ⟨D, ns.map houseB, rfl, SqL.of (by rw [e5, List.map_map, List.map_map]; rfl), ?_⟩
      have := q H5 S5
      rw [List.all_map]
      exact this

/-! ### Ring -/
theorem t_lt {i j : Int} : (decide (i < j) = true) ↔ i < j := decide_eq_true_iff
theorem t_le {i j : Int} : (decide (i ≤ j) = true) ↔ i ≤ j := decide_eq_true_iff
/-- all but p is as it was -/
def But (p : Addr) (H H' : Hp) : Prop := ∀ b o, H b = some o → b ≠ p → H' b = some o
def ringF (l : Addr) : List (Str × V) := [("numbers", .ref l)]
structure RingAt (C : Addr) (H : Hp) (p l : Addr) (hs : List Int) : Prop where
  ob : ∃ dx, H p = some (.ins C dx (ringF l))
  li : H l = some (.lst (hs.map V.int))
theorem RingAt.same {C : Addr} {H H' : Hp} {p l : Addr} {hs : List Int} (r : RingAt C H p l hs) (s : Same H H') : RingAt C H' p l hs := ⟨let ⟨dx, e⟩ := r.ob; ⟨dx, s _ _ e⟩, s _ _ r.li⟩
def sp_Ring_init (C : Addr) : Sp := fun vs H Q _ => ∃ (p a dx : Addr) (ns : List Int), vs = [.ref p, .ref a] ∧ H p = some (.ins C dx []) ∧ H a = some (.lst (ns.map V.int)) ∧ 2 ≤ ns.length ∧ ns.length ≤ 1000 ∧ ns.all houseB = true ∧
  ∀ l H', H l = none → But p H H' → RingAt C H' p l ns → Q .non H'
def sp_Ring_houses (C : Addr) : Sp := fun vs H Q _ => ∃ (p l : Addr) (hs : List Int), vs = [.ref p] ∧ RingAt C H p l hs ∧ ∀ D H', H D = none → Same H H' → H' D = some (.lst (hs.map V.int)) → Q (.ref D) H'
def sp_Ring_whole (C : Addr) : Sp := fun vs H Q _ => ∃ (p l : Addr) (hs : List Int), vs = [.ref p] ∧ RingAt C H p l hs ∧ Q (.int hs.sum) H
theorem ok_Ring_init (T : Txt K mg t) : FnOk P w K mg base CX0 4 t.f_Ring_init__ t.d_Ring_init__ P_Ring_init__ (sp_Ring_init t.C_Ring) := by
  have G_are_houses := ok_houses1 (P := P) (w := w) (base := base) T
  refine T.F_Ring_init__.ok sc_Ring_init__ (fun vs H Q E h => ?_) (fun cdv A outer s H vs Q E hr h => ?_)
  · obtain ⟨p, a, dx, ns, rfl, _⟩ := h
    rfl
  · obtain ⟨p, a, dx, ns, rfl, hp, ha, h2, hl, hb, q⟩ := h
    refine ⟨_, (pss_cons (ps_if (pt_not (pt_val (pe_callB (isiK K) (by rfl) T.b_isinstance bt_isinstance (pa_cons (pv 1) (pa_cons (pe_bltn (v := .ty "list") rfl T.b_list bt_list rfl) pa_nil se_Name) se_Name))))
      (pss_one ps_never)
      pss_nil)
      (pss_cons (ps_set (i := 2) sc_Ring_init__.nd rfl (by first | exact Or.inl rfl | exact Or.inr rfl) (pe_callTy (listK K) (by rfl) T.b_list bt_list (pa_cons (pv 1) pa_nil se_Name)))
      (pss_cons (ps_if (pt_cmpR op_lt (pe_callB (lenK K) (by rfl) T.b_len bt_len (pa_cons (pv 2) pa_nil se_Name)) (pe_glob (v := .int 2) rfl T.g_FEWEST_HOUSES ⟨_, rfl⟩) (nomark _))
      (pss_one ps_never)
      pss_nil)
      (pss_cons (ps_if (pt_not (pt_val (pe_call G_are_houses (hr.mono (by decide)) rfl T.g_are_houses T.F_are_houses.kp T.B_are_houses .nil pass0 (pa_cons (pv 2) pa_nil se_Name))))
      (pss_one ps_never)
      pss_nil)
      (pss_one (ps_fld (pv 0) (pv 2) rfl)))))), ?_⟩
    refine ⟨_, rfl, _, _, _, _, true, rfl, rfl, TyOf.lst ha, T.i_list_list, _, rfl, iteF ?_⟩
    refine ⟨_, rfl, a, _, rfl, .inl (SqL.of ha), fun l hlf => ?_⟩
    refine ⟨_, rfl, l, _, rfl, .inl (SqL.of upd_same), _, _, rfl, rfl, _, rfl, ?_⟩
    refine ite2 (fun h => ?_) (fun h => ?_)
    · rw [t_lt, List.length_map] at h
      omega
    refine ⟨_, rfl, l, ns, rfl, SqL.of upd_same, hl, fun H2 s2 => ?_⟩
    rw [hb]
    refine ⟨_, rfl, iteF ?_⟩
    have npl : p ≠ l := ne_of_none hp hlf
    have e2 : H2 p = some (.ins t.C_Ring dx []) := s2 _ _ (by rw [upd_ne npl]; exact hp)
    have e3 : H2 l = some (.lst (ns.map V.int)) := s2 _ _ upd_same
    refine ⟨_, rfl, _, rfl, p, t.C_Ring, dx, [], rfl, e2, T.cl_Ring, T.n_Ring_numbers, by decide, ?_⟩
    refine q l _ hlf (fun b o e hb => ?_) ⟨⟨dx, upd_same⟩, by rw [upd_ne npl.symm]; exact e3⟩
    rw [upd_ne hb]
    exact s2 _ _ (by rw [upd_ne (ne_of_none e hlf)]; exact e)
theorem ok_Ring_houses (T : Txt K mg t) : FnOk P w K mg base CX0 1 t.f_Ring_houses t.d_Ring_houses P_Ring_houses (sp_Ring_houses t.C_Ring) := by
  refine T.F_Ring_houses.ok sc_Ring_houses (fun vs H Q E h => ?_) (fun cdv A outer s H vs Q E hr h => ?_)
  · obtain ⟨p, l, hs, rfl, _⟩ := h
    rfl
  · obtain ⟨p, l, hs, rfl, ⟨⟨dx, hp⟩, hl⟩, q⟩ := h
    refine ⟨_, (pss_one (ps_ret (pe_callTy (listK K) (by rfl) T.b_list bt_list (pa_cons (fldK K (pv 0)) pa_nil se_Attribute)))), ?_⟩
    exact ⟨_, rfl, p, t.C_Ring, dx, _, _, rfl, hp, T.cl_Ring, T.n_Ring_numbers, rfl, l, _, rfl, .inl (SqL.of hl), fun D hD => q D _ hD (same_upd hD) upd_same⟩
theorem ok_Ring_whole (T : Txt K mg t) : FnOk P w K mg base CX0 1 t.f_Ring_whole t.d_Ring_whole P_Ring_whole (sp_Ring_whole t.C_Ring) := by
  refine T.F_Ring_whole.ok sc_Ring_whole (fun vs H Q E h => ?_) (fun cdv A outer s H vs Q E hr h => ?_)
  · obtain ⟨p, l, hs, rfl, _⟩ := h
    rfl
  · obtain ⟨p, l, hs, rfl, ⟨⟨dx, hp⟩, hl⟩, q⟩ := h
    refine ⟨_, (pss_one (ps_ret (pe_callB (sumK K rfl) (by rfl) T.b_sum bt_sum (pa_cons (fldK K (pv 0)) pa_nil se_Attribute)))), ?_⟩
    exact ⟨_, rfl, p, t.C_Ring, dx, _, _, rfl, hp, T.cl_Ring, T.n_Ring_numbers, rfl, l, hs, rfl, SqL.of hl, q⟩

/-- name = e, where the value is known whatever is wanted behind -/
theorem tAsg_by {te : TE} {i : Nat} {D : Ends} {σ : St} {H : Hp} (x : V) (h : ∀ Z : VK, (∀ H', Same H H' → Z x H') → te σ H Z) (rest : ∀ H', Same H H' → D.nx (σ.set i (some x)) H') : tAsg te (gName i) D σ H := h _ rest
theorem tSeqAsg_by {te : TE} {u : TS} {i : Nat} {D : Ends} {σ : St} {H : Hp} (x : V) (h : ∀ Z : VK, (∀ H', Same H H' → Z x H') → te σ H Z) (rest : ∀ H', Same H H' → u D (σ.set i (some x)) H') : tSeq (tAsg te (gName i)) u D σ H := h _ rest
theorem made_same {H H8 : Hp} {x dx : Addr} {o u : HO} (hx : H x = none) (hdx : H dx = none) (bt : But x (upd (upd H dx o) x u) H8) : Same H H8 := fun b v e =>
  bt b v (by rw [upd_ne (ne_of_none e hx), upd_ne (ne_of_none e hdx)]; exact e) (ne_of_none e hx)
theorem made_free {H : Hp} {x dx c : Addr} {o u : HO} (h : (upd (upd H dx o) x u) c = none) : H c = none := by
  have h1 : c ≠ x := by rintro rfl; rw [upd_same] at h; cases h
  rw [upd_ne h1] at h
  have h2 : c ≠ dx := by rintro rfl; rw [upd_same] at h; cases h
  rw [upd_ne h2] at h
  exact h
/-- two statements, by what holds between them -/
theorem tSeq_mid {t u : TS} {D : Ends} {σ : St} {H : Hp} (mid : St → Hp → Prop) (h1 : ∀ N : St → Hp → Prop, (∀ σ' H', mid σ' H' → N σ' H') → t { D with nx := N } σ H) (h2 : ∀ σ' H', mid σ' H' → u D σ' H') : tSeq t u D σ H := h1 _ h2

def Small (hs : List Int) : Prop := ∀ x ∈ hs, -1000000 ≤ x ∧ x ≤ 1000000

theorem Small.houses {hs : List Int} (h : Small hs) : hs.all houseB = true := by
  rw [List.all_eq_true]
  intro x hx
  have := h x hx
  unfold houseB absI
  rw [decide_eq_true_iff]
  split <;> omega

/-! ### the ring's numbers lie within the bounds -/
theorem step_range (ns : List Int) (k : Nat) : -499999 ≤ stepI ns k ∧ stepI ns k ≤ 499999 := by
  have hm := most_cases ns
  have h0 := draw_lo (c := ns.getD k 0) (k := (k : Int) % 5 + 1) (m := 2 * mostI ns + 1) (by omega)
  have h1 := draw_hi (c := ns.getD k 0) (k := (k : Int) % 5 + 1) (m := 2 * mostI ns + 1) (by omega)
  unfold stepI
  omega
theorem carr_range {ns : List Int} {first : Int} (hf : -10 ≤ first ∧ first ≤ 10) : ∀ x ∈ carrI ns first, -499999 ≤ x ∧ x ≤ 499999 := by
  have h0 := draw_lo (c := ns.getD 1 0) (k := 7) (m := 3) (by decide)
  have h1 := draw_hi (c := ns.getD 1 0) (k := 7) (m := 3) (by decide)
  intro x hx
  unfold carrI at hx
  rcases List.mem_cons.mp hx with rfl | hx
  · omega
  rcases List.mem_cons.mp hx with rfl | hx
  · omega
  obtain ⟨k, _, rfl⟩ := List.mem_map.mp hx
  exact step_range ns k
theorem prev_mem {cs : List Int} {k : Nat} (h : k < cs.length) : prevI cs k ∈ cs := L2.getD_mem (Nat.mod_lt _ (by omega))
theorem houses_small {ns : List Int} {first : Int} (hf : -10 ≤ first ∧ first ≤ 10) : ∀ x ∈ housesI ns first, -999998 ≤ x ∧ x ≤ 999998 := by
  intro x hx
  unfold housesI diffI at hx
  obtain ⟨k, hk, rfl⟩ := List.mem_map.mp hx
  have hk' := List.mem_range.mp hk
  have a := carr_range hf _ (L2.getD_mem hk')
  have b := carr_range hf _ (prev_mem hk')
  omega
theorem house0 {ns : List Int} {first : Int} (hf : -10 ≤ first ∧ first ≤ 10) : -500000 ≤ (housesI ns first).getD 0 0 ∧ (housesI ns first).getD 0 0 ≤ 500000 := by
  have h0 := draw_lo (c := ns.getD 1 0) (k := 7) (m := 3) (by decide)
  have h1 := draw_hi (c := ns.getD 1 0) (k := 7) (m := 3) (by decide)
  have hl := carr_length ns first
  have e : (housesI ns first).getD 0 0 = (carrI ns first).getD 0 0 - prevI (carrI ns first) 0 := diff_get (by omega)
  have e0 : (carrI ns first).getD 0 0 = drawI (ns.getD 1 0) 7 3 - 1 := rfl
  have b := carr_range hf _ (prev_mem (cs := carrI ns first) (k := 0) (by omega))
  rw [e, e0]
  omega
def modRow : List Int := [-1, 0, 1, -500, 777]
def modI (ns : List Int) : Int := modRow.getD (drawI (ns.getD 2 0) 1 5).toNat 0
theorem mod_range (ns : List Int) : -500 ≤ modI ns ∧ modI ns ≤ 777 := by
  have h0 := draw_lo (c := ns.getD 2 0) (k := 1) (m := 5) (by decide)
  have h1 := draw_hi (c := ns.getD 2 0) (k := 1) (m := 5) (by decide)
  have : ∀ x ∈ modRow, -500 ≤ x ∧ x ≤ 777 := by decide
  exact this _ (L2.getD_mem (show (drawI (ns.getD 2 0) 1 5).toNat < 5 by omega))
def modH (ns : List Int) (first : Int) : List Int := if drawI (ns.getD 1 0) 9 5 = 0 then (housesI ns first).set 0 ((housesI ns first).getD 0 0 + modI ns) else housesI ns first
theorem modH_length (ns : List Int) (first : Int) : (modH ns first).length = ns.length + 2 := by
  unfold modH
  split
  · rw [List.length_set, houses_length]
  · exact houses_length ns first
theorem modH_small {ns : List Int} {first : Int} (hf : -10 ≤ first ∧ first ≤ 10) : Small (modH ns first) := by
  intro x hx
  have h0 := house0 (ns := ns) hf
  have h1 := mod_range ns
  unfold modH at hx
  split at hx
  · rcases List.mem_or_eq_of_mem_set hx with e | e
    · have := houses_small hf x e; omega
    · omega
  · have := houses_small hf x hx; omega

end
end Ev


end
noncomputable section

set_option Elab.async false
set_option linter.all false
set_option maxRecDepth 100000
set_option maxHeartbeats 0
seal L2.PE L2.PT L2.PS L2.PSs L2.PA L2.PI L2.PG L2.PGs L2.OpR L2.UnR L2.CallR L2.IxR L2.SlR L2.MtR L2.PO L2.PSet L2.PW
namespace Ev
open PySem L2
section
variable {P : Program} {w : World} {K : PySem.W.Frag} {mg : Str → Option Value} {base : Heap} {t : Adr}
/-! ### what is refused -/
abbrev dpOf (t : Adr) : Dp := ⟨fun v => v = .ref t.C_BadText⟩
abbrev CXt (t : Adr) (P : Program) (w : World) : CXT := @CX1 (dpOf t) P w
def Rz (C : Addr) (H : Hp) (E : XK) : Prop := ∀ H', Same H H' → E (.ref C) none H'
theorem Rz.same {C : Addr} {H H1 : Hp} {E : XK} (r : Rz C H E) (s : Same H H1) : Rz C H1 E := fun H' s' => r H' (s.trans s')
def sp_initX (C CB : Addr) : Sp := fun vs H Q E => ∃ (p a dx : Addr) (ns : List Int), vs = [.ref p, .ref a] ∧ H p = some (.ins C dx []) ∧ H a = some (.lst (ns.map V.int)) ∧ ns.length ≤ 1000 ∧ (ns.length < 2 ∨ ns.all houseB = false) ∧ Rz CB H E
theorem ok_initX (T : Txt K mg t) : FnOk P w K mg base (CXt t P w) 5 t.f_Ring_init__ t.d_Ring_init__ P_Ring_init__ (sp_initX t.C_Ring t.C_BadRing) := by
  letI := dpOf t
  have G_are_houses := ok_houses1 (P := P) (w := w) (base := base) T
  refine T.F_Ring_init__.okX sc_Ring_init__ (fun vs H Q E h => ?_) (fun cdv A outer s H vs Q E hr h => ?_)
  · obtain ⟨p, a, dx, ns, rfl, _⟩ := h
    rfl
  · obtain ⟨p, a, dx, ns, rfl, hp, ha, hl, hb, rz⟩ := h
    refine ⟨_, (pss_cons (ps_if (pt_not (pt_val (pe_callB (isiK K) (by rfl) T.b_isinstance bt_isinstance (pa_cons (pv 1) (pa_cons (pe_bltn (v := .ty "list") rfl T.b_list bt_list rfl) pa_nil se_Name) se_Name))))
      (pss_one (ps_raise thr_fn rfl rfl T.x_BadRing rfl T.g_BadRing (pa_cons pe_str pa_nil se_Constant)))
      pss_nil)
      (pss_cons (ps_set (i := 2) sc_Ring_init__.nd rfl (by first | exact Or.inl rfl | exact Or.inr rfl) (pe_callTy (listK K) (by rfl) T.b_list bt_list (pa_cons (pv 1) pa_nil se_Name)))
      (pss_cons (ps_if (pt_cmpR op_lt (pe_callB (lenK K) (by rfl) T.b_len bt_len (pa_cons (pv 2) pa_nil se_Name)) (pe_glob (v := .int 2) rfl T.g_FEWEST_HOUSES ⟨_, rfl⟩) (nomark _))
      (pss_one (ps_raise thr_fn rfl rfl T.x_BadRing rfl T.g_BadRing (pa_cons pe_str pa_nil se_Constant)))
      pss_nil)
      (pss_cons (ps_if (pt_not (pt_val (pe_call G_are_houses (hr.mono (by decide)) rfl T.g_are_houses T.F_are_houses.kp T.B_are_houses .nil pass0 (pa_cons (pv 2) pa_nil se_Name))))
      (pss_one (ps_raise thr_fn rfl rfl T.x_BadRing rfl T.g_BadRing (pa_cons pe_str pa_nil se_Constant)))
      pss_nil)
      (pss_one (ps_fld (pv 0) (pv 2) rfl)))))), ?_⟩
    have one : ([V.str "x"] : List V).length ≤ sizeLine := by show 1 ≤ sizeLine; decide
    refine ⟨_, rfl, _, _, _, _, true, rfl, rfl, TyOf.lst ha, T.i_list_list, _, rfl, iteF ?_⟩
    refine ⟨_, rfl, a, _, rfl, .inl (SqL.of ha), fun l hlf => ?_⟩
    refine ⟨_, rfl, l, _, rfl, .inl (SqL.of upd_same), _, _, rfl, rfl, _, rfl, ?_⟩
    have S1 := same_upd (o := .lst (ns.map V.int)) hlf
    refine ite2 (fun h => ?_) (fun h => ?_)
    · exact ⟨one, rz _ S1⟩
    · rw [t_lt, List.length_map] at h
      have hall : ns.all houseB = false := by
        rcases hb with hb | hb
        · omega
        · exact hb
      refine ⟨_, rfl, l, ns, rfl, SqL.of upd_same, hl, fun H2 s2 => ?_⟩
      rw [hall]
      exact ⟨_, rfl, iteT ⟨one, rz _ (S1.trans s2)⟩⟩
/-! ### written -/
def sp_written (C : Addr) : Sp := fun vs H Q _ => ∃ (r l : Addr) (hs : List Int), vs = [.ref r] ∧ RingAt C H r l hs ∧ Small hs ∧ hs.length ≤ 1000 ∧ ∀ H', Same H H' → Q (.str (Str.join " " (strsI hs))) H'
def strV : V → V
  | .int i => .str (Str.ofString (toString i))
  | v => v
theorem strs_join {hs : List Int} (h : Small hs) (hl : hs.length ≤ 1000) : JoinOk " " (strsI hs) = true := by
  refine join_ok (fun y hy => ?_) (by unfold strsI; rw [List.length_map]; exact hl)
  obtain ⟨i, hi, rfl⟩ := List.mem_map.mp hy
  have := len_int (h i hi)
  omega
theorem strs_map (hs : List Int) : (hs.map V.int).map strV = (strsI hs).map V.str := by
  unfold strsI
  rw [List.map_map, List.map_map]
  rfl
theorem ok_written (T : Txt K mg t) : FnOk P w K mg base CX0 2 t.f_written t.d_written P_written (sp_written t.C_Ring) := by
  have G_Ring_houses := ok_Ring_houses (P := P) (w := w) (base := base) T
  refine T.F_written.ok sc_written (fun vs H Q E h => ?_) (fun cdv A outer s H vs Q E hr h => ?_)
  · obtain ⟨r, l, hs, rfl, _⟩ := h
    rfl
  · obtain ⟨r, l, hs, rfl, RA, hsm, hl, q⟩ := h
    obtain ⟨⟨dr, er⟩, el⟩ := id RA
    refine ⟨_, (pss_one (ps_ret (bmK K PySem.F.plainAttrs_str PySem.F.slot_str_join PySem.F.type_str_join (mtr_join K) pe_str (pa_cons (pe_comp (sc := defScope s_written) (XN := N_written) (N' := ["number"]) (t := 1) (ix := []) rfl ⟨rfl, by decide +kernel, by decide +kernel, by decide +kernel, by decide +kernel, rfl, by decide +kernel⟩ rfl rfl (piL K (pe_meth0 (pv 0) T.cl_Ring T.m_Ring_houses G_Ring_houses (hr.mono (by decide)) T.B_Ring_houses .nil pass0)) (fun _ _ _ _ _ => (pg_name (i := 0) (show List.Nodup (["number"] : List Str) by decide +kernel) rfl (Or.inl rfl))) (fun _ _ _ _ _ => (pe_callTy call_str_int (by rfl) T.b_str bt_str (pa_cons (pv 0) pa_nil se_Name)))) pa_nil se_ListComp)))), ?_⟩
    refine ⟨rfl, _, rfl, r, dr, _, rfl, er, rfl, r, l, hs, rfl, RA, fun D H1 hD s1 e1 => ⟨D, rfl, ⟨_, SqL.of e1⟩, fun D2 hD2 => ?_⟩⟩
    refine comp_list (t := 1) strV (by have := big; rw [List.length_map]; omega) (by decide) hD2 (SqL.of e1) (fun k x H5 Z hx S5 z => ?_) (fun H5 S5 e5 => ?_)
    · obtain ⟨i, ei, rfl⟩ := map_int_get hx
      exact ⟨_, rfl, i, rfl, log_int (hsm i (mem_of_get ei)), z H5 (Same.refl _)⟩
    · rw [strs_map] at e5
      exact ⟨_, D2, strsI hs, rfl, rfl, SqL.of e5, strs_join hsm hl, q H5 (s1.trans S5)⟩
theorem t_eqS {a b : Str} : (decide (V.str a = V.str b) = true) ↔ a = b := by
  rw [decide_eq_true_iff]
  exact ⟨fun z => by cases z; rfl, fun z => by rw [z]⟩
theorem t_neS {a b : Str} : ((!decide (V.str a = V.str b)) = true) ↔ a ≠ b := by
  rw [Bool.not_eq_true', ← Bool.not_eq_true, t_eqS]
def sp_isnum : Sp := fun vs H Q _ => ∃ x : Str, vs = [.str x] ∧ x.length ≤ 5000 ∧ ∀ H', Same H H' → Q (.bl (numS x)) H'
theorem ok_isnum (T : Txt K mg t) : FnOk P w K mg base CX0 1 t.f_is_written_number t.d_is_written_number P_is_written_number sp_isnum := by
  refine T.F_is_written_number.ok sc_is_written_number (fun vs H Q E h => ?_) (fun cdv A outer s H vs Q E hr h => ?_)
  · obtain ⟨x, rfl, _⟩ := h
    rfl
  · obtain ⟨x, rfl, hx, q⟩ := h
    refine ⟨_, (pss_cons (ps_if (pt_cmpR (eqK K hr.units0) (pv 0) pe_str (nomark _))
      (pss_one (ps_ret pe_bl))
      pss_nil)
      (pss_cons (ps_set (i := 1) sc_is_written_number.nd rfl (by first | exact Or.inl rfl | exact Or.inr rfl) (pe_ifExp (pt_val (bmK K PySem.F.plainAttrs_str PySem.F.slot_str_startswith PySem.F.type_str_startswith mtr_startswith (pv 0) (pa_cons pe_str pa_nil se_Constant))) (pe_slice sl_strR (pv 0) (po_some pe_int) po_none) (pv 0)))
      (pss_cons (ps_if (pt_not (pt_chain op_le op_le pe_int (pe_callB call_len_str (by rfl) T.b_len bt_len (pa_cons (pv 1) pa_nil se_Name)) (pe_callB call_len_str (by rfl) T.b_len bt_len (pa_cons (pe_callTy call_str_int (by rfl) T.b_str bt_str (pa_cons (pe_glob (v := .int 1000000) rfl T.g_FARTHEST_NUMBER ⟨_, rfl⟩) pa_nil se_Name)) pa_nil se_Call))))
      (pss_one (ps_ret pe_bl))
      pss_nil)
      (pss_one (ps_ret (pe_and (pe_cmpR (neK K hr.units0) (pe_ix ix_str (pv 1) pe_int (fun _ _ => rfl)) pe_str (nomark _)) (pe_one (pe_callB (allK K rfl) (by rfl) T.b_all bt_all (pa_cons (pe_comp (sc := defScope s_is_written_number) (XN := N_is_written_number) (N' := ["figure"]) (t := 1) (ix := []) rfl ⟨rfl, by decide +kernel, by decide +kernel, by decide +kernel, by decide +kernel, rfl, by decide +kernel⟩ rfl rfl (piS (pv 1)) (fun _ _ _ _ _ => (pg_name (i := 0) (show List.Nodup (["figure"] : List Str) by decide +kernel) rfl (Or.inl rfl))) (fun _ _ _ _ _ => (pe_cmpR op_in_str (pv 0) (pe_glob (v := .str "0123456789") rfl T.g_FIGURES ⟨_, rfl⟩) (by with_unfolding_all rfl)))) pa_nil se_ListComp))))))))), ?_⟩
    refine ⟨_, rfl, .inl ⟨rfl, _, rfl, ?_⟩⟩
    refine ite2 (fun h => ?_) (fun h => ?_)
    · have e := t_eqS.mp h
      subst e
      have z := q H (Same.refl _)
      rw [show numS (Str.ofString "0") = true from by decide +kernel] at z
      exact z
    have hne : x ≠ Str.ofString "0" := fun z => h (t_eqS.mpr z)
    have hxs : x.length ≤ sizeLine := Nat.le_trans hx (by decide)
    refine ⟨_, rfl, rfl, _, _, rfl, rfl, _, rfl, ?_⟩
    refine ite2 (fun hm => ?g1) (fun hm => ?g2)
    case' g1 =>
      rw [starts_minus, decide_eq_true_iff] at hm
      obtain ⟨r, er⟩ := minus_of hm
      have h1 : 1 ≤ x.length := by
        show 1 ≤ x.cps.size
        rw [← Array.length_toList, er]
        simp
      refine ⟨_, rfl, _, rfl, x, rfl, hxs, ?_⟩
      rw [slice_from1 h1]
      have hf : (txt (x.cps.toList.drop 1)).cps.toList = fg x.cps.toList := by rw [er]; rfl
      generalize txt (x.cps.toList.drop 1) = f at hf ⊢
    case' g2 =>
      refine ⟨_, rfl, ?_⟩
      have hf : x.cps.toList = fg x.cps.toList := by
        rw [starts_minus, decide_eq_true_iff] at hm
        exact (fg_other hm).symm
      obtain ⟨f, ef⟩ : ∃ f, f = x := ⟨x, rfl⟩
      rw [← ef]
      rw [← ef] at hf
      conv at hf => rhs; rw [ef]
    all_goals
      have hfl : f.length ≤ 5000 := by
        have := fg_len x.cps.toList
        rw [← hf, Array.length_toList, Array.length_toList] at this
        exact Nat.le_trans this hx
      have hfs : f.length ≤ sizeLine := Nat.le_trans hfl (by decide)
      have hfe : f.cps.toList.length = f.length := Array.length_toList
      have hnum := numS_of hne hf
      refine ⟨_, rfl, f, rfl, hfs, _, _, rfl, rfl, _, rfl, ?_⟩
      refine ite2 (fun h1 => ?_) (fun h1 => ?_)
      · refine ⟨_, rfl, log_int (by decide), _, rfl, by decide +kernel, _, _, rfl, rfl, _, rfl, ?_⟩
        rw [show (Str.ofString (toString (1000000 : Int))).length = 7 from by decide +kernel]
        rw [t_le] at h1
        refine ite2 (fun h7 => ?_) (fun h7 => ?_)
        · rw [Bool.not_eq_true', ← Bool.not_eq_true, t_le] at h7
          have z := q H (Same.refl _)
          rw [hnum, okL_long (by omega)] at z
          exact z
        · rw [Bool.not_eq_true', ← Bool.not_eq_true, t_le, Decidable.not_not] at h7
          obtain ⟨c, r', ec⟩ : ∃ c r', f.cps.toList = c :: r' := by
            cases e : f.cps.toList with
            | nil => rw [e] at hfe; simp at hfe; omega
            | cons c r' => exact ⟨c, r', rfl⟩
          refine ⟨_, rfl, f, 0, c, rfl, rfl, hfs, by rw [ec]; exact atI_nat (j := 0) rfl, .inl ⟨rfl, _, rfl, ?_⟩⟩
          refine ite2 (fun h0 => ?_) (fun h0 => ?_)
          · have hc : f.cps.toList.head? ≠ some 48 := by
              rw [t_neS] at h0
              rw [ec]
              intro z
              exact h0 ((nought_one c).mpr (by cases z; rfl))
            refine ⟨_, rfl, f, rfl, fun D hD => ?_⟩
            refine comp_str (fun c => .bl (digB c)) hfs (by decide) hD (fun c H2 Z hc S z => ?_) (fun H5 S5 e5 => ?_)
            · refine ⟨_, rfl, _, _, rfl, rfl, ?_⟩
              rw [fig_in]
              exact z H2 (Same.refl _)
            · refine ⟨D, f.cps.toList.map digB, rfl, SqL.of (by rw [e5, List.map_map]; rfl), ?_⟩
              have z := q H5 S5
              rw [hnum, okL_all (by omega) (by omega) hc] at z
              rw [List.all_map]
              exact z
          · have z := q H (Same.refl _)
            rw [t_neS, ne_eq, Decidable.not_not, nought_one] at h0
            rw [hnum, okL_nought (by rw [ec, h0]; rfl)] at z
            exact z
      · refine ⟨_, rfl, iteT ?_⟩
        have z := q H (Same.refl _)
        rw [hnum, okL_short (by rw [t_le] at h1; omega)] at z
        exact z

/-! ### read -/
def numV1 : V → V
  | .str y => .bl (numS y)
  | v => v
def valV1 : V → V
  | .str y => .int (valS y)
  | v => v
theorem num_map (ws : List Str) : (ws.map V.str).map numV1 = (ws.map numS).map V.bl := by
  rw [List.map_map, List.map_map]
  rfl
theorem val_map (ws : List Str) : (ws.map V.str).map valV1 = (ws.map valS).map V.int := by
  rw [List.map_map, List.map_map]
  rfl
theorem map_str_get {ts : List Str} {k : Nat} {x : V} (h : (ts.map V.str)[k]? = some x) : ∃ i, i ∈ ts ∧ x = .str i := by
  rw [List.getElem?_map] at h
  obtain ⟨i, e, rfl⟩ := Option.map_eq_some_iff.mp h
  exact ⟨i, List.mem_of_getElem? e, rfl⟩
theorem all_id (ws : List Str) : ((ws.map numS).all id) = ws.all numS := by
  rw [List.all_map]
  rfl
structure Okx (x : Str) : Prop where
  len : x.length ≤ 5000
  wds : (wds x).length ≤ 1000
def sp_read0 (C : Addr) : Sp := fun vs H Q _ => ∃ x : Str, vs = [.str x] ∧ Okx x ∧ (wds x).all numS = true ∧ 2 ≤ (wds x).length ∧ ((wds x).map valS).all houseB = true ∧
  ∀ r l H', Same H H' → RingAt C H' r l ((wds x).map valS) → Q (.ref r) H'
theorem dp_read {t : Adr} : @Dp.is (dpOf t) (.ref t.C_BadText) := rfl
theorem ok_read0 (T : Txt K mg t) : FnOk P w K mg base CX0 6 t.f_read t.d_read P_read (sp_read0 t.C_Ring) := by
  letI := dpOf t
  have G_is_written_number := ok_isnum (P := P) (w := w) (base := base) T
  have G_Ring_init__ := ok_Ring_init (P := P) (w := w) (base := base) T
  refine T.F_read.ok sc_read (fun vs H Q E h => ?_) (fun cdv A outer s H vs Q E hr h => ?_)
  · obtain ⟨x, rfl, _⟩ := h
    rfl
  · obtain ⟨x, rfl, ox, hall, h2, hho, q⟩ := h
    refine ⟨_, (pss_cons (ps_if (pt_not (pt_val (pe_callB (isiK K) (by rfl) T.b_isinstance bt_isinstance (pa_cons (pv 0) (pa_cons (pe_bltn (v := .ty "str") rfl T.b_str bt_str rfl) pa_nil se_Name) se_Name))))
      (pss_one ps_never)
      pss_nil)
      (pss_cons (ps_set (i := 1) sc_read.nd rfl (by first | exact Or.inl rfl | exact Or.inr rfl) (bmK K PySem.F.plainAttrs_str PySem.F.slot_str_split PySem.F.type_str_split mtr_split (pv 0) (pa_cons pe_str pa_nil se_Constant)))
      (pss_cons (ps_if (pt_not (pt_val (pe_callB (allK K rfl) (by rfl) T.b_all bt_all (pa_cons (pe_comp (sc := defScope s_read) (XN := N_read) (N' := ["word"]) (t := 1) (ix := []) rfl ⟨rfl, by decide +kernel, by decide +kernel, by decide +kernel, by decide +kernel, rfl, by decide +kernel⟩ rfl rfl (piL K (pv 1)) (fun _ _ _ _ _ => (pg_name (i := 0) (show List.Nodup (["word"] : List Str) by decide +kernel) rfl (Or.inl rfl))) (fun _ _ _ _ _ => (pe_call G_is_written_number (hr.mono (by decide)) rfl T.g_is_written_number T.F_is_written_number.kp T.B_is_written_number .nil pass0 (pa_cons (pv 0) pa_nil se_Name)))) pa_nil se_ListComp))))
      (pss_one ps_never)
      pss_nil)
      (pss_cons (ps_setComp (i := 2) (sc := defScope s_read) (XN := N_read) (N' := ["word"]) (t := 1) (ix := []) rfl ⟨rfl, by decide +kernel, by decide +kernel, by decide +kernel, by decide +kernel, rfl, by decide +kernel⟩ rfl rfl sc_read.nd rfl rfl (piL K (pv 1)) (fun _ _ _ _ _ => (pg_name (i := 0) (show List.Nodup (["word"] : List Str) by decide +kernel) rfl (Or.inl rfl))) (fun _ _ _ _ _ => (pe_callTy call_intS (by rfl) T.b_int bt_int (pa_cons (pv 0) pa_nil se_Name))) (by with_unfolding_all rfl))
      (pss_one (ps_tryR (E := E0) (E2 := E0) (Rp := fun _ => False) thr0 rfl rfl rfl rfl (fun pn W th => (pss_one (ps_ret (pe_make T.M_Ring G_Ring_init__ (hr.mono (by decide)) rfl T.g_Ring T.B_Ring_init__ .nil pass0 (pa_cons (pv 2) pa_nil se_Name)))))
      rfl T.g_BadRing (.inl T.x_BadRing) (fun _ z => z.elim) T.x_BadText rfl T.g_BadText T.kc_BadText (fun _ z => z.elim) dp_read)))))), ?_⟩
    refine ⟨_, rfl, _, _, _, _, true, rfl, rfl, TyOf.str x, T.i_str_str, _, rfl, iteF ?_⟩
    refine ⟨_, rfl, rfl, x, _, rfl, rfl, by decide +kernel, Nat.le_trans ox.len (by decide), fun p hp => ?_⟩
    have S1 := same_upd (o := .lst ((Txt.split x " ").map V.str)) hp
    have e1 : (upd H p (.lst ((Txt.split x " ").map V.str))) p = some (.lst ((wds x).map V.str)) := upd_same
    generalize upd H p (.lst ((Txt.split x " ").map V.str)) = H1 at S1 e1 ⊢
    have wl : ((wds x).map V.str).length ≤ sizeLine := by have := big; have := ox.wds; rw [List.length_map]; omega
    refine ⟨_, rfl, p, rfl, ⟨_, SqL.of e1⟩, fun D hD => ?_⟩
    refine comp_list (t := 1) numV1 wl (by decide) hD (SqL.of e1) (fun k y H5 Z hy S5 z => ?_) (fun H2 S2 e2 => ?_)
    · obtain ⟨wd, hw, rfl⟩ := map_str_get hy
      exact ⟨_, rfl, wd, rfl, Nat.le_trans (word_le hw) ox.len, fun H6 s6 => z H6 s6⟩
    rw [num_map] at e2
    refine ⟨D, _, rfl, SqL.of e2, ?_⟩
    rw [all_id, hall]
    refine ⟨_, rfl, iteF ?_⟩
    have e12 := S2 _ _ e1
    refine ⟨_, rfl, p, rfl, ⟨_, SqL.of e12⟩, fun D3 hD3 => ?_⟩
    refine comp_list (t := 1) valV1 wl (by decide) hD3 (SqL.of e12) (fun k y H5 Z hy S5 z => ?_) (fun H3 S3 e3 => ?_)
    · obtain ⟨wd, hw, rfl⟩ := map_str_get hy
      have hn : numL wd.cps.toList = true := List.all_eq_true.mp hall wd hw
      exact ⟨_, rfl, wd, _, rfl, read_num hn, by have := numL_len hn; rw [Array.length_toList] at this; exact Nat.le_trans this (by decide), z H5 (Same.refl _)⟩
    rw [val_map] at e3
    refine ⟨?_, fun _ _ _ z => z.elim⟩
    refine ⟨_, rfl, fun r dr hr' hdr ner => ⟨r, D3, dr, _, rfl, upd_same, ?_, by rw [List.length_map]; exact h2, by rw [List.length_map]; exact ox.wds, hho, fun l H4 hl4 bt RA => ⟨rfl, q r l H4 (S1.trans (S2.trans (S3.trans (made_same hr' hdr bt)))) RA⟩⟩⟩
    rw [upd_ne (ne_of_none e3 hr'), upd_ne (ne_of_none e3 hdr)]
    exact e3
/-- what is no text -/
def NotS (H : Hp) : V → Prop
  | .non => True
  | .bl _ => True
  | .int _ => True
  | .ref a => ∃ xs, H a = some (.lst xs)
  | _ => False
theorem NotS.ty {H : Hp} {v : V} (T : Txt K mg t) (h : NotS H v) : ∃ ty, TyOf K H v ty ∧ PySem.W.kitOne K ty (.type "str") = some false := by
  cases v with
  | non => exact ⟨_, .non, T.i_NoneType_str⟩
  | bl b => exact ⟨_, .bl b, T.i_bool_str⟩
  | int i => exact ⟨_, .int i, T.i_int_str⟩
  | ref a => obtain ⟨xs, e⟩ := h; exact ⟨_, .lst e, T.i_list_str⟩
  | str x => exact h.elim
  | byt b => exact h.elim
  | flt b => exact h.elim
  | ty n => exact h.elim
theorem NotS.same {H H' : Hp} {v : V} (h : NotS H v) (s : Same H H') : NotS H' v := by
  cases v with
  | ref a => obtain ⟨xs, e⟩ := h; exact ⟨xs, s _ _ e⟩
  | _ => exact h
def BadX (x : Str) : Prop := (wds x).all numS = false ∨ ((wds x).length < 2 ∨ ((wds x).map valS).all houseB = false)
def E_read (t : Adr) (E : XK) : XK := fun Cv dx H' => Cv = .ref t.C_BadRing ∧ dx = none ∧ E (.ref t.C_BadText) none H'
def R_read (t : Adr) (c : Addr) : Prop := c = t.C_BadRing
theorem rp_read (T : Txt K mg t) : ∀ c, R_read t c → IsX K c ∧ PySem.W.mroIn K c (.ref t.C_BadRing) = some true := by
  rintro c rfl
  exact ⟨.inl T.x_BadRing, T.xm_BadRing_BadRing⟩
theorem dq_read (T : Txt K mg t) : ∀ c, R_read t c → ¬ @Dp.is (dpOf t) (.ref c) := by
  rintro c rfl z
  have z' : Value.ref t.C_BadRing = .ref t.C_BadText := z
  have h1 := T.i_BadRing_BadText
  rw [z', T.i_BadText_BadText] at h1
  cases h1
def sp_readX (t : Adr) : Sp := fun vs H Q E => ∃ v, vs = [v] ∧ (NotS H v ∨ ∃ x, v = .str x ∧ Okx x ∧ BadX x) ∧ Rz t.C_BadText H E
theorem ok_readX (T : Txt K mg t) : FnOk P w K mg base (CXt t P w) 7 t.f_read t.d_read P_read (sp_readX t) := by
  letI := dpOf t
  have G_is_written_number := ok_isnum (P := P) (w := w) (base := base) T
  have G_Ring_init__ := ok_initX (P := P) (w := w) (base := base) T
  refine T.F_read.okX sc_read (fun vs H Q E h => ?_) (fun cdv A outer s H vs Q E hr h => ?_)
  · obtain ⟨v, rfl, _⟩ := h
    rfl
  · obtain ⟨v, rfl, hb, rz⟩ := h
    refine ⟨_, (pss_cons (ps_if (pt_not (pt_val (pe_callB (isiK K) (by rfl) T.b_isinstance bt_isinstance (pa_cons (pv 0) (pa_cons (pe_bltn (v := .ty "str") rfl T.b_str bt_str rfl) pa_nil se_Name) se_Name))))
      (pss_one (ps_raise thr_fn rfl rfl T.x_BadText rfl T.g_BadText (pa_cons pe_str pa_nil se_Constant)))
      pss_nil)
      (pss_cons (ps_set (i := 1) sc_read.nd rfl (by first | exact Or.inl rfl | exact Or.inr rfl) (bmK K PySem.F.plainAttrs_str PySem.F.slot_str_split PySem.F.type_str_split mtr_split (pv 0) (pa_cons pe_str pa_nil se_Constant)))
      (pss_cons (ps_if (pt_not (pt_val (pe_callB (allK K rfl) (by rfl) T.b_all bt_all (pa_cons (PE.nox (pe_comp (sc := defScope s_read) (XN := N_read) (N' := ["word"]) (t := 1) (ix := []) rfl ⟨rfl, by decide +kernel, by decide +kernel, by decide +kernel, by decide +kernel, rfl, by decide +kernel⟩ rfl rfl (piL K (pv 1)) (fun _ _ _ _ _ => (pg_name (i := 0) (show List.Nodup (["word"] : List Str) by decide +kernel) rfl (Or.inl rfl))) (fun _ _ _ _ _ => (pe_call G_is_written_number (hr.mono (by decide)) rfl T.g_is_written_number T.F_is_written_number.kp T.B_is_written_number .nil pass0 (pa_cons (pv 0) pa_nil se_Name))))) pa_nil se_ListComp))))
      (pss_one (ps_raise thr_fn rfl rfl T.x_BadText rfl T.g_BadText (pa_cons pe_str pa_nil se_Constant)))
      pss_nil)
      (pss_cons (PS.nox (ps_setComp (i := 2) (sc := defScope s_read) (XN := N_read) (N' := ["word"]) (t := 1) (ix := []) rfl ⟨rfl, by decide +kernel, by decide +kernel, by decide +kernel, by decide +kernel, rfl, by decide +kernel⟩ rfl rfl sc_read.nd rfl rfl (piL K (pv 1)) (fun _ _ _ _ _ => (pg_name (i := 0) (show List.Nodup (["word"] : List Str) by decide +kernel) rfl (Or.inl rfl))) (fun _ _ _ _ _ => (pe_callTy call_intS (by rfl) T.b_int bt_int (pa_cons (pv 0) pa_nil se_Name))) (by with_unfolding_all rfl)))
      (pss_one (ps_tryR (E := E_read t E) (E2 := E) (Rp := R_read t) thr_fn rfl rfl rfl rfl (fun pn W th => (pss_one (ps_ret (pe_make T.M_Ring G_Ring_init__ (hr.mono (by decide)) rfl T.g_Ring T.B_Ring_init__ .nil (Thr.passes th rfl) (pa_cons (pv 2) pa_nil se_Name)))))
      rfl T.g_BadRing (.inl T.x_BadRing) (rp_read T) T.x_BadText rfl T.g_BadText T.kc_BadText (dq_read T) dp_read)))))), ?_⟩
    have one : ([V.str "x"] : List V).length ≤ sizeLine := by show 1 ≤ sizeLine; decide
    rcases hb with hb | ⟨x, rfl, ox, hb⟩
    · obtain ⟨ty, ht, hk⟩ := hb.ty T
      exact ⟨_, rfl, _, _, _, _, false, rfl, rfl, ht, hk, _, rfl, iteT ⟨one, rz _ (Same.refl _)⟩⟩
    refine ⟨_, rfl, _, _, _, _, true, rfl, rfl, TyOf.str x, T.i_str_str, _, rfl, iteF ?_⟩
    refine ⟨_, rfl, rfl, x, _, rfl, rfl, by decide +kernel, Nat.le_trans ox.len (by decide), fun p hp => ?_⟩
    have S1 := same_upd (o := .lst ((Txt.split x " ").map V.str)) hp
    have e1 : (upd H p (.lst ((Txt.split x " ").map V.str))) p = some (.lst ((wds x).map V.str)) := upd_same
    generalize upd H p (.lst ((Txt.split x " ").map V.str)) = H1 at S1 e1 ⊢
    have wl : ((wds x).map V.str).length ≤ sizeLine := by have := big; have := ox.wds; rw [List.length_map]; omega
    refine ⟨_, rfl, p, rfl, ⟨_, SqL.of e1⟩, fun D hD => ?_⟩
    refine comp_list (t := 1) numV1 wl (by decide) hD (SqL.of e1) (fun k y H5 Z hy S5 z => ?_) (fun H2 S2 e2 => ?_)
    · obtain ⟨wd, hw, rfl⟩ := map_str_get hy
      exact ⟨_, rfl, wd, rfl, Nat.le_trans (word_le hw) ox.len, fun H6 s6 => z H6 s6⟩
    rw [num_map] at e2
    refine ⟨D, _, rfl, SqL.of e2, ?_⟩
    rw [all_id]
    cases hall : (wds x).all numS with
    | false => exact ⟨_, rfl, iteT ⟨one, rz _ (S1.trans S2)⟩⟩
    | true =>
      have hbb : (wds x).length < 2 ∨ ((wds x).map valS).all houseB = false := by
        rcases hb with hb | hb
        · rw [hall] at hb; cases hb
        · exact hb
      refine ⟨_, rfl, iteF ?_⟩
      have e12 := S2 _ _ e1
      refine ⟨_, rfl, p, rfl, ⟨_, SqL.of e12⟩, fun D3 hD3 => ?_⟩
      refine comp_list (t := 1) valV1 wl (by decide) hD3 (SqL.of e12) (fun k y H5 Z hy S5 z => ?_) (fun H3 S3 e3 => ?_)
      · obtain ⟨wd, hw, rfl⟩ := map_str_get hy
        have hn : numL wd.cps.toList = true := List.all_eq_true.mp hall wd hw
        exact ⟨_, rfl, wd, _, rfl, read_num hn, by have := numL_len hn; rw [Array.length_toList] at this; exact Nat.le_trans this (by decide), z H5 (Same.refl _)⟩
      rw [val_map] at e3
      have S03 := S1.trans (S2.trans S3)
      refine ⟨?_, fun Cv dx H' z => ?_⟩
      · refine ⟨_, rfl, fun r dr hr' hdr ner => ⟨r, D3, dr, _, rfl, upd_same, ?_, by rw [List.length_map]; exact ox.wds, by rw [List.length_map]; exact hbb, fun H4 s4 => ⟨rfl, rfl, rz _ (S03.trans (Same.trans (fun b o e => ?_) s4))⟩⟩⟩
        · rw [upd_ne (ne_of_none e3 hr'), upd_ne (ne_of_none e3 hdr)]
          exact e3
        · rw [upd_ne (ne_of_none e hr'), upd_ne (ne_of_none e hdr)]
          exact e
      · obtain ⟨rfl, rfl, z⟩ := z
        exact ⟨_, rfl, rfl, z⟩

end
end Ev


end
noncomputable section

set_option Elab.async false
set_option linter.all false
set_option maxRecDepth 100000
set_option maxHeartbeats 0
seal L2.PE L2.PT L2.PS L2.PSs L2.PA L2.PI L2.PG L2.PGs L2.OpR L2.UnR L2.CallR L2.IxR L2.SlR L2.MtR L2.PO L2.PSet L2.PW
namespace Ev
open PySem L2
section
variable {P : Program} {w : World} {K : PySem.W.Frag} {mg : Str → Option Value} {base : Heap} {t : Adr}
/-! ### the law's reading -/
def numV (x : Str) : V := if (numS x && houseB (valS x)) = true then .int (valS x) else .non
theorem house_iff {i : Int} : houseB i = true ↔ -1000001 < i ∧ i < 1000001 := by
  unfold houseB absI
  rw [decide_eq_true_iff]
  split <;> omega
theorem numV_no {x : Str} (h : numS x = false) : numV x = .non := by
  unfold numV
  rw [h, Bool.false_and]
  rfl
theorem numV_far {x : Str} (h : ¬ (-1000001 < valS x ∧ valS x < 1000001)) : numV x = .non := by
  unfold numV
  have : houseB (valS x) = false := by
    rw [← Bool.not_eq_true, house_iff]
    exact h
  rw [this, Bool.and_false]
  rfl
theorem numV_yes {x : Str} (h : numS x = true) (h1 : -1000001 < valS x ∧ valS x < 1000001) : numV x = .int (valS x) := by
  unfold numV
  rw [h, house_iff.mpr h1]
  rfl
theorem nought_f {x f : Str} (hf : f.cps.toList = fg x.cps.toList) (e : x = Str.ofString "0") : f.cps.toList = [48] := by
  rw [hf, e]
  decide +kernel
theorem num_nought {x : Str} (e : x = Str.ofString "0") : numS x = true := by
  rw [e]
  decide +kernel
theorem e_empty : Str.ofString "" = Str.empty := by decide +kernel
def sp_number : Sp := fun vs H Q _ => ∃ x : Str, vs = [.str x] ∧ x.length ≤ 5000 ∧ Q (numV x) H
theorem ok_number (T : Txt K mg t) : FnOk P w K mg base CX0 1 t.f_law_number t.d_law_number P_law_number sp_number := by
  refine T.F_law_number.ok sc_law_number (fun vs H Q E h => ?_) (fun cdv A outer s H vs Q E hr h => ?_)
  · obtain ⟨x, rfl, _⟩ := h
    rfl
  · obtain ⟨x, rfl, hx, q⟩ := h
    refine ⟨_, (pss_cons (ps_set (i := 1) sc_law_number.nd rfl (by first | exact Or.inl rfl | exact Or.inr rfl) (pe_ifExp (pt_cmpR (eqK K hr.units0) (pe_slice sl_strR (pv 0) po_none (po_some pe_int)) pe_str (nomark _)) (pe_slice sl_strR (pv 0) (po_some pe_int) po_none) (pv 0)))
      (pss_cons (ps_if (PW.pt (pw_or (pt_cmpR (eqK K hr.units0) (pv 1) pe_str (nomark _)) (pw_or (pt_cmpR op_gt (pe_callB call_len_str (by rfl) T.b_len bt_len (pa_cons (pv 1) pa_nil se_Name)) pe_int (nomark _)) (pw_or (pt_cmpR (neK K hr.units0) (bmK K PySem.F.plainAttrs_str PySem.F.slot_str_strip PySem.F.type_str_strip mtr_strip (pv 1) (pa_cons pe_str pa_nil se_Constant)) pe_str (nomark _)) (pw_or1 (PW.pt (pw_and (pt_cmpR (eqK K hr.units0) (pe_ix ix_str (pv 1) pe_int (fun _ _ => rfl)) pe_str (nomark _)) (pw_and1 (pt_cmpR (neK K hr.units0) (pv 0) pe_str (nomark _))))))))))
      (pss_one (ps_ret pe_non))
      pss_nil)
      (pss_one (ps_ret (pe_ifExp (pt_chain op_lt op_lt (pe_un un_neg pe_int) (pe_callTy call_intS (by rfl) T.b_int bt_int (pa_cons (pv 0) pa_nil se_Name)) pe_int) (pe_callTy call_intS (by rfl) T.b_int bt_int (pa_cons (pv 0) pa_nil se_Name)) pe_non))))), ?_⟩
    have hxs : x.length ≤ sizeLine := Nat.le_trans hx (by decide)
    refine ⟨_, rfl, _, rfl, x, rfl, hxs, .inl ⟨rfl, _, rfl, ?_⟩⟩
    rw [slice_to1]
    refine ite2 (fun hm => ?g1) (fun hm => ?g2)
    case' g1 =>
      rw [t_eqS, take1_minus] at hm
      obtain ⟨r, er⟩ := minus_of hm
      have h1 : 1 ≤ x.length := by
        show 1 ≤ x.cps.size
        rw [← Array.length_toList, er]
        simp
      refine ⟨_, rfl, _, rfl, x, rfl, hxs, ?_⟩
      rw [slice_from1 h1]
      have hf : (txt (x.cps.toList.drop 1)).cps.toList = fg x.cps.toList := by rw [er]; rfl
      generalize txt (x.cps.toList.drop 1) = f at hf ⊢
    case' g2 =>
      refine ⟨_, rfl, ?_⟩
      obtain ⟨f, ef⟩ : ∃ f, f = x := ⟨x, rfl⟩
      have hf : f.cps.toList = fg x.cps.toList := by
        rw [t_eqS, take1_minus] at hm
        rw [ef]
        exact (fg_other hm).symm
      conv => enter [2]; rw [← ef]
    all_goals
      have hfl : f.length ≤ 5000 := by
        have := fg_len x.cps.toList
        rw [← hf, Array.length_toList, Array.length_toList] at this
        exact Nat.le_trans this hx
      have hfs : f.length ≤ sizeLine := Nat.le_trans hfl (by decide)
      have hfe : f.cps.toList.length = f.length := Array.length_toList
      have no : ∀ {R : Prop}, x ≠ Str.ofString "0" → okL f.cps.toList = false → (Q .non H → R) → R := fun hne ho k => by
        have hn := numS_of hne hf
        rw [ho] at hn
        rw [numV_no hn] at q
        exact k q
      refine ⟨_, rfl, .inl ⟨rfl, _, rfl, ?_⟩⟩
      refine ite2 (fun h1 => ?_) (fun h1 => ?_)
      · have e0 : f.cps.toList = [] := by
          rw [t_eqS.mp h1]
          decide +kernel
        exact no (fun e => by rw [nought_f hf e] at e0; cases e0) (okL_short (by rw [e0]; decide)) fun z => iteT z
      refine ⟨_, rfl, f, rfl, hfs, _, _, rfl, rfl, _, rfl, ?_⟩
      refine ite2 (fun h2 => ?_) (fun h2 => ?_)
      · rw [t_lt] at h2
        exact no (fun e => by rw [nought_f hf e] at hfe; simp at hfe; omega) (okL_long (by omega)) fun z => iteT z
      rw [t_lt] at h2
      refine ⟨_, rfl, rfl, f, _, rfl, rfl, hfs, .inl ⟨rfl, _, rfl, ?_⟩⟩
      refine ite2 (fun h3 => ?_) (fun h3 => ?_)
      · rw [t_neS, ne_eq, e_empty, strip_figs] at h3
        have e3 : f.cps.toList.all digB = false := by rw [← Bool.not_eq_true]; exact h3
        refine no (fun e => by rw [nought_f hf e] at e3; cases e3) ?_ fun z => iteT z
        unfold okL
        rw [e3, Bool.and_false]
        rfl
      rw [t_neS, ne_eq, Decidable.not_not, e_empty, strip_figs] at h3
      obtain ⟨c, r', ec⟩ : ∃ c r', f.cps.toList = c :: r' := by
        cases e : f.cps.toList with
        | nil => exact absurd (t_eqS.mpr (Str.ext' (Array.ext' (e.trans (by decide +kernel))))) h1
        | cons c r' => exact ⟨c, r', rfl⟩
      refine ⟨_, rfl, f, 0, c, rfl, rfl, hfs, by rw [ec]; exact atI_nat (j := 0) rfl, .inl ⟨rfl, _, rfl, ?_⟩⟩
      have h1' : 1 ≤ f.cps.toList.length := by rw [ec]; simp
      by_cases hn : numS x = true
      · have e0 : c = 48 → x = Str.ofString "0" := fun h4 => Classical.byContradiction fun hne => by
          rw [numS_of hne hf, okL_nought (by rw [ec, h4]; rfl)] at hn
          cases hn
        refine ite2 (fun h4 => ?_) (fun h4 => ?_)
        all_goals
          first
            | refine iteF ?_
            | (refine ⟨_, rfl, .inl ⟨rfl, _, rfl, ?_⟩⟩
               rw [t_eqS, nought_one] at h4
               rw [show (!decide (V.str x = V.str (Str.ofString "0"))) = false from by rw [← Bool.not_eq_true, t_neS]; exact fun z => z (e0 h4)]
               refine iteF ?_)
          have hl640 : x.length ≤ 640 := by have := numL_len hn; rw [Array.length_toList] at this; exact Nat.le_trans this (by decide)
          refine ⟨_, rfl, _, rfl, x, valS x, rfl, read_num hn, hl640, _, _, rfl, rfl, _, rfl, ?_⟩
          refine ite2 (fun a1 => ?_) (fun a1 => ?_)
          · rw [t_lt] at a1
            refine ⟨_, _, rfl, rfl, _, rfl, ?_⟩
            refine ite2 (fun a2 => ?_) (fun a2 => ?_)
            · rw [t_lt] at a2
              rw [numV_yes hn ⟨a1, a2⟩] at q
              exact ⟨_, rfl, x, valS x, rfl, read_num hn, hl640, q⟩
            · rw [t_lt] at a2
              rw [numV_far (fun z => a2 z.2)] at q
              exact q
          · rw [t_lt] at a1
            rw [numV_far (fun z => a1 z.1)] at q
            exact ⟨_, rfl, iteF q⟩
      · have hne : x ≠ Str.ofString "0" := fun e => hn (num_nought e)
        have ho : okL f.cps.toList = false := by
          rw [← numS_of hne hf]
          exact Bool.not_eq_true _ ▸ hn
        have h4 : c = 48 := Classical.byContradiction fun z => by
          rw [okL_all h1' (by omega) (by rw [ec]; exact fun y => z (by cases y; rfl)), h3] at ho
          cases ho
        refine (if_pos (t_eqS.mpr ((nought_one c).mpr h4))).mpr ?_
        refine ⟨_, rfl, .inl ⟨rfl, _, rfl, ?_⟩⟩
        rw [show (!decide (V.str x = V.str (Str.ofString "0"))) = true from t_neS.mpr hne]
        exact no hne ho fun z => iteT z

def dueB (x : Str) : Bool := (wds x).all numS && ((wds x).map valS).all houseB && decide (2 ≤ (wds x).length)
def numV2 : V → V
  | .str y => numV y
  | v => v
theorem numV_flat (x : Str) : flatV (numV x) = true := by
  unfold numV
  split <;> rfl
theorem numV_non (x : Str) : eqV (numV x) .non = !(numS x && houseB (valS x)) := by
  unfold numV
  split
  · rename_i h
    rw [h]
    rfl
  · rename_i h
    rw [Bool.not_eq_true] at h
    rw [h]
    rfl
theorem in_non : ∀ ws : List Str, inV .non (ws.map numV) = !(ws.all numS && (ws.map valS).all houseB)
  | [] => rfl
  | y :: ws => by
    have ih := in_non ws
    unfold inV at ih ⊢
    rw [List.map_cons, List.any_cons, ih, numV_non, List.all_cons, List.map_cons, List.all_cons]
    cases numS y <;> cases houseB (valS y) <;> cases ws.all numS <;> cases (ws.map valS).all houseB <;> rfl
theorem all_vals {ws : List Str} (h1 : ws.all numS = true) (h2 : (ws.map valS).all houseB = true) : ws.map numV = (ws.map valS).map V.int := by
  rw [List.map_map]
  refine List.map_congr_left fun y hy => ?_
  have a := List.all_eq_true.mp h1 y hy
  have b := List.all_eq_true.mp h2 (valS y) (List.mem_map.mpr ⟨y, hy, rfl⟩)
  unfold numV
  rw [a, b]
  rfl
theorem numV2_map (ws : List Str) : (ws.map V.str).map numV2 = ws.map numV := by
  rw [List.map_map]
  rfl
def sp_in : Sp := fun vs H Q _ => ∃ x : Str, vs = [.str x] ∧ Okx x ∧
  ((dueB x = false ∧ ∀ H', Same H H' → Q .non H') ∨ (dueB x = true ∧ ∀ D H', Same H H' → H' D = some (.lst (((wds x).map valS).map V.int)) → Q (.ref D) H'))
theorem ok_in (T : Txt K mg t) : FnOk P w K mg base CX0 2 t.f_law_in t.d_law_in P_law_in sp_in := by
  have G_law_number := ok_number (P := P) (w := w) (base := base) T
  refine T.F_law_in.ok sc_law_in (fun vs H Q E h => ?_) (fun cdv A outer s H vs Q E hr h => ?_)
  · obtain ⟨x, rfl, _⟩ := h
    rfl
  · obtain ⟨x, rfl, ox, q⟩ := h
    refine ⟨_, (pss_cons (ps_setComp (i := 1) (sc := defScope s_law_in) (XN := N_law_in) (N' := ["_law_word"]) (t := 1) (ix := []) rfl ⟨rfl, by decide +kernel, by decide +kernel, by decide +kernel, by decide +kernel, rfl, by decide +kernel⟩ rfl rfl sc_law_in.nd rfl rfl (piL K (bmK K PySem.F.plainAttrs_str PySem.F.slot_str_split PySem.F.type_str_split mtr_split (pv 0) (pa_cons pe_str pa_nil se_Constant))) (fun _ _ _ _ _ => (pg_name (i := 0) (show List.Nodup (["_law_word"] : List Str) by decide +kernel) rfl (Or.inl rfl))) (fun _ _ _ _ _ => (pe_call G_law_number (hr.mono (by decide)) rfl T.g_law_number T.F_law_number.kp T.B_law_number .nil pass0 (pa_cons (pv 0) pa_nil se_Name))) (by with_unfolding_all rfl))
      (pss_one (ps_ret (pe_ifExp (PW.pt (pw_or (pt_cmpR (inK K) pe_non (pv 1) (by with_unfolding_all rfl)) (pw_or1 (pt_cmpR op_lt (pe_callB (lenK K) (by rfl) T.b_len bt_len (pa_cons (pv 1) pa_nil se_Name)) pe_int (nomark _))))) pe_non (pv 1))))), ?_⟩
    refine ⟨_, rfl, rfl, x, _, rfl, rfl, by decide +kernel, Nat.le_trans ox.len (by decide), fun p hp => ?_⟩
    have S1 := same_upd (o := .lst ((Txt.split x " ").map V.str)) hp
    have e1 : (upd H p (.lst ((Txt.split x " ").map V.str))) p = some (.lst ((wds x).map V.str)) := upd_same
    generalize upd H p (.lst ((Txt.split x " ").map V.str)) = H1 at S1 e1 ⊢
    have wl : ((wds x).map V.str).length ≤ sizeLine := by have := big; have := ox.wds; rw [List.length_map]; omega
    refine ⟨p, rfl, ⟨_, SqL.of e1⟩, fun D hD => ?_⟩
    refine comp_list (t := 1) numV2 wl (by decide) hD (SqL.of e1) (fun k y H5 Z hy S5 z => ?_) (fun H2 S2 e2 => ?_)
    · obtain ⟨wd, hw, rfl⟩ := map_str_get hy
      exact ⟨_, rfl, wd, rfl, Nat.le_trans (word_le hw) ox.len, z H5 (Same.refl _)⟩
    rw [numV2_map] at e2
    have S := S1.trans S2
    refine ⟨_, rfl, D, _, rfl, .inl (SqL.of e2), rfl, ?_, _, rfl, ?_⟩
    · rw [List.all_eq_true]
      intro v hv
      obtain ⟨y, _, rfl⟩ := List.mem_map.mp hv
      exact numV_flat y
    rw [show (if false = true then !inV V.non ((wds x).map numV) else inV V.non ((wds x).map numV)) = !((wds x).all numS && ((wds x).map valS).all houseB) from in_non _]
    refine ite2 (fun h1 => ?_) (fun h1 => ?_)
    · rcases q with ⟨_, q⟩ | ⟨hd, q⟩
      · exact iteT (q _ S)
      · unfold dueB at hd
        rw [Bool.and_eq_true] at hd
        rw [hd.1] at h1
        cases h1
    rw [Bool.not_eq_true', Bool.not_eq_false] at h1
    refine ⟨_, rfl, D, _, rfl, .inl (SqL.of e2), _, _, rfl, rfl, _, rfl, ?_⟩
    rw [List.length_map]
    rcases q with ⟨hd, q⟩ | ⟨hd, q⟩
    · have h2 : ¬ 2 ≤ (wds x).length := fun z => by
        unfold dueB at hd
        rw [h1, Bool.true_and, decide_eq_true z] at hd
        cases hd
      refine (if_pos (t_lt.mpr (by omega))).mpr ?_
      exact q _ S
    · have h2 : 2 ≤ (wds x).length := by
        unfold dueB at hd
        rw [h1, Bool.true_and, decide_eq_true_iff] at hd
        exact hd
      refine (if_neg (fun z => absurd (t_lt.mp z) (by omega))).mpr ?_
      rw [Bool.and_eq_true] at h1
      refine ⟨_, rfl, q D H2 S ?_⟩
      rw [e2, all_vals h1.1 h1.2]

/-! ### refused -/
def E_law_refused (t : Adr) (Q : VK) : XK := fun Cv dx H' => Cv = .ref t.C_BadText ∧ dx = none ∧ ∀ H2, Same H' H2 → Q (.bl true) H2
def R_law_refused (t : Adr) (c : Addr) : Prop := c = t.C_BadText
theorem rp_law_refused (T : Txt K mg t) : ∀ c, R_law_refused t c → IsX K c ∧ PySem.W.mroIn K c (.ref t.C_RingError) = some true := by
  rintro c rfl
  exact ⟨.inl T.x_BadText, T.xm_BadText_RingError⟩
def sp_refused : Sp := fun vs H Q _ => ∃ v, vs = [v] ∧ (NotS H v ∨ ∃ x, v = .str x ∧ Okx x ∧ BadX x) ∧ ∀ H', Same H H' → Q (.bl true) H'
theorem ok_refused (T : Txt K mg t) : FnOk P w K mg base CX0 8 t.f_law_refused t.d_law_refused P_law_refused sp_refused := by
  letI := dpOf t
  have G_read := ok_readX (P := P) (w := w) (base := base) T
  refine T.F_law_refused.ok sc_law_refused (fun vs H Q E h => ?_) (fun cdv A outer s H vs Q E hr h => ?_)
  · obtain ⟨v, rfl, _⟩ := h
    rfl
  · obtain ⟨v, rfl, hb, q⟩ := h
    refine ⟨_, (pss_cons (ps_try2 (E := E_law_refused t Q) (Rp := R_law_refused t) (i := 1) rfl rfl rfl rfl (fun pn W th => (pss_one (ps_expr (pe_call G_read (hr.mono (by decide)) rfl T.g_read T.F_read.kp T.B_read .nil (Thr.passes th rfl) (pa_cons (pv 0) pa_nil se_Name)))))
      rfl T.g_RingError (.inl T.x_RingError) (rp_law_refused T) (fun ea pc => (pss_cons (ps_set (i := 2) sc_law_refused.nd rfl (by first | exact Or.inl rfl | exact Or.inr rfl) (pe_lst (pa_cons (pe_callB (isiY K) (by rfl) T.b_isinstance bt_isinstance (pa_cons (pv 1) (pa_cons (pe_glob (v := .ref _) rfl T.g_BadMost rfl) pa_nil se_Name) se_Name)) (pa_cons (pe_callB (isiY K) (by rfl) T.b_isinstance bt_isinstance (pa_cons (pv 1) (pa_cons (pe_glob (v := .ref _) rfl T.g_BadRing rfl) pa_nil se_Name) se_Name)) (pa_cons (pe_callB (isiY K) (by rfl) T.b_isinstance bt_isinstance (pa_cons (pv 1) (pa_cons (pe_glob (v := .ref _) rfl T.g_BadTolls rfl) pa_nil se_Name) se_Name)) pa_nil se_Call) se_Call) se_Call)))
      (pss_cons (ps_set (i := 2) sc_law_refused.nd rfl (by first | exact Or.inl rfl | exact Or.inr rfl) (pe_op (op_add.or op_cat) (pv 2) (pe_lst (pa_cons (pe_callB (isiY K) (by rfl) T.b_isinstance bt_isinstance (pa_cons (pv 1) (pa_cons (pe_glob (v := .ref _) rfl T.g_Lacking rfl) pa_nil se_Name) se_Name)) (pa_cons (pe_callB (isiY K) (by rfl) T.b_isinstance bt_isinstance (pa_cons (pv 1) (pa_cons (pe_glob (v := .ref _) rfl T.g_Unlike rfl) pa_nil se_Name) se_Name)) (pa_cons (pe_not (pe_callB (isiY K) (by rfl) T.b_isinstance bt_isinstance (pa_cons (pv 1) (pa_cons (pe_bltn (v := .ty "ValueError") rfl T.b_ValueError bt_ValueError rfl) pa_nil se_Name) se_Name))) pa_nil se_UnaryOp) se_Call) se_Call))))
      (pss_one (ps_ret (pe_and (pe_callB (isiY K) (by rfl) T.b_isinstance bt_isinstance (pa_cons (pv 1) (pa_cons (pe_glob (v := .ref _) rfl T.g_BadText rfl) pa_nil se_Name) se_Name)) (pe_one (pe_not (pe_callB (call_anyH K ea pc rfl (fun p hp => List.mem_append_right _ hp)) (by rfl) T.b_any bt_any (pa_cons (pv 2) pa_nil se_Name)))))))))) sc_law_refused.nd rfl rfl)
      (pss_one (ps_ret pe_bl))), ?_⟩
    refine ⟨⟨_, rfl, v, rfl, hb, fun H' s' => ⟨rfl, rfl, fun H2 s2 => q H2 (s'.trans s2)⟩⟩, ?_⟩
    rintro Cv dx H' ea ⟨rfl, rfl, q'⟩ hn
    refine ⟨t.C_BadText, rfl, rfl, fun cx pc ck => ?_⟩
    generalize gq : upd H' ea (CaX ea t.C_BadText none cx) = H1
    have he : H1 ea = some (CaX ea t.C_BadText none cx) := by rw [← gq]; exact upd_same
    have S1 : Same H' H1 := by rw [← gq]; exact same_upd hn
    refine ⟨_, rfl, ea, t.C_BadText, none, cx, _, _, false, rfl, rfl, he, True.intro, T.xk_BadText, T.i_BadText_BadMost, ?_⟩
    refine ⟨_, rfl, ea, t.C_BadText, none, cx, _, _, false, rfl, rfl, he, True.intro, T.xk_BadText, T.i_BadText_BadRing, ?_⟩
    refine ⟨_, rfl, ea, t.C_BadText, none, cx, _, _, false, rfl, rfl, he, True.intro, T.xk_BadText, T.i_BadText_BadTolls, ?_⟩
    refine ⟨by show 3 ≤ sizeLine; decide, fun y hy => ?_⟩
    have S2 : Same H1 (upd H1 y (.lst [.bl false, .bl false, .bl false])) := same_upd hy
    have ey : (upd H1 y (.lst [.bl false, .bl false, .bl false])) y = some (.lst [.bl false, .bl false, .bl false]) := upd_same
    generalize upd H1 y (.lst [.bl false, .bl false, .bl false]) = H2 at S2 ey ⊢
    have he2 := S2 _ _ he
    refine ⟨_, rfl, _, rfl, ea, t.C_BadText, none, cx, _, _, false, rfl, rfl, he2, True.intro, T.xk_BadText, T.i_BadText_Lacking, ?_⟩
    refine ⟨_, rfl, ea, t.C_BadText, none, cx, _, _, false, rfl, rfl, he2, True.intro, T.xk_BadText, T.i_BadText_Unlike, ?_⟩
    refine ⟨_, rfl, ea, t.C_BadText, none, cx, _, _, true, rfl, rfl, he2, True.intro, T.xk_BadText, T.i_BadText_ValueError, _, rfl, ?_⟩
    refine ⟨by show 3 ≤ sizeLine; decide, fun z hz => ?_⟩
    have S3 : Same H2 (upd H2 z (.lst [.bl false, .bl false, .bl (!true)])) := same_upd hz
    refine .inr ⟨y, z, _, _, rfl, rfl, S3 _ _ ey, upd_same, by show 6 ≤ sizeLine; decide, fun p hp => ?_⟩
    have S4 : Same H2 (upd (upd H2 z (.lst [.bl false, .bl false, .bl (!true)])) p (.lst ([.bl false, .bl false, .bl false] ++ [.bl false, .bl false, .bl (!true)]))) := S3.trans (same_upd hp)
    have he4 := S4 _ _ he2
    refine ⟨_, rfl, ea, t.C_BadText, none, cx, _, _, true, rfl, rfl, he4, True.intro, T.xk_BadText, T.i_BadText_BadText, _, rfl, iteT ?_⟩
    exact ⟨_, rfl, p, [false, false, false, false, false, false], t.C_BadText, none, cx, rfl, SqL.of upd_same, he4, ck, _, rfl, q' _ (S1.trans (S2.trans S4))⟩
def sp_right : Sp := fun vs H Q _ => ∃ x : Str, vs = [.str x] ∧ Okx x ∧ ∀ H', Same H H' → Q (.bl true) H'
theorem due_bad {x : Str} (h : dueB x = false) : BadX x := by
  unfold dueB at h
  unfold BadX
  cases h1 : (wds x).all numS with
  | false => exact .inl rfl
  | true =>
    cases h2 : ((wds x).map valS).all houseB with
    | false => exact .inr (.inr rfl)
    | true =>
      rw [h1, h2, Bool.true_and, Bool.true_and, decide_eq_false_iff_not] at h
      exact .inr (.inl (by omega))
theorem due_good {x : Str} (h : dueB x = true) : (wds x).all numS = true ∧ ((wds x).map valS).all houseB = true ∧ 2 ≤ (wds x).length := by
  unfold dueB at h
  rw [Bool.and_eq_true, Bool.and_eq_true, decide_eq_true_iff] at h
  exact ⟨h.1.1, h.1.2, h.2⟩
theorem small_of {ns : List Int} (h : ns.all houseB = true) : Small ns := fun x hx => by
  have := house_iff.mp (List.all_eq_true.mp h x hx)
  omega
theorem ok_right (T : Txt K mg t) : FnOk P w K mg base CX0 9 t.f_law_right t.d_law_right P_law_right sp_right := by
  have G_law_in := ok_in (P := P) (w := w) (base := base) T
  have G_law_refused := ok_refused (P := P) (w := w) (base := base) T
  have G_read := ok_read0 (P := P) (w := w) (base := base) T
  have G_Ring_houses := ok_Ring_houses (P := P) (w := w) (base := base) T
  have G_written := ok_written (P := P) (w := w) (base := base) T
  refine T.F_law_right.ok sc_law_right (fun vs H Q E h => ?_) (fun cdv A outer s H vs Q E hr h => ?_)
  · obtain ⟨x, rfl, _⟩ := h
    rfl
  · obtain ⟨x, rfl, ox, q⟩ := h
    refine ⟨_, (pss_cons (ps_set (i := 1) sc_law_right.nd rfl (by first | exact Or.inl rfl | exact Or.inr rfl) (pe_call G_law_in (hr.mono (by decide)) rfl T.g_law_in T.F_law_in.kp T.B_law_in .nil pass0 (pa_cons (pv 0) pa_nil se_Name)))
      (pss_cons (ps_if (pt_cmpR op_isN (pv 1) pe_non (nomark _))
      (pss_one (ps_ret (pe_call G_law_refused (hr.mono (by decide)) rfl T.g_law_refused T.F_law_refused.kp T.B_law_refused .nil pass0 (pa_cons (pv 0) pa_nil se_Name))))
      pss_nil)
      (pss_cons (ps_set (i := 2) sc_law_right.nd rfl (by first | exact Or.inl rfl | exact Or.inr rfl) (pe_call G_read (hr.mono (by decide)) rfl T.g_read T.F_read.kp T.B_read .nil pass0 (pa_cons (pv 0) pa_nil se_Name)))
      (pss_one (ps_ret (pe_and (pe_cmpR (eqK K hr.units0) (pe_meth0 (pv 2) T.cl_Ring T.m_Ring_houses G_Ring_houses (hr.mono (by decide)) T.B_Ring_houses .nil pass0) (pv 1) (nomark _)) (pe_one (pe_cmpR (eqK K hr.units0) (pe_call G_written (hr.mono (by decide)) rfl T.g_written T.F_written.kp T.B_written .nil pass0 (pa_cons (pv 2) pa_nil se_Name)) (pv 0) (nomark _))))))))), ?_⟩
    cases hd : dueB x with
    | false =>
      refine ⟨_, rfl, x, rfl, ox, .inl ⟨hd, fun H1 s1 => ?_⟩⟩
      refine ⟨_, rfl, rfl, _, rfl, iteT ?_⟩
      exact ⟨_, rfl, _, rfl, .inr ⟨x, rfl, ox, due_bad hd⟩, fun H2 s2 => q H2 (s1.trans s2)⟩
    | true =>
      obtain ⟨g1, g2, g3⟩ := due_good hd
      refine ⟨_, rfl, x, rfl, ox, .inr ⟨hd, fun D H1 s1 e1 => ?_⟩⟩
      refine ⟨_, rfl, rfl, _, rfl, iteF ?_⟩
      refine ⟨_, rfl, x, rfl, ox, g1, g3, g2, fun r l H2 s2 RA => ?_⟩
      obtain ⟨⟨dr, er⟩, el⟩ := id RA
      refine ⟨_, rfl, r, dr, _, rfl, er, rfl, r, l, _, rfl, RA, fun D2 H3 hD2 s3 e3 => ?_⟩
      have e13 := s3 _ _ (s2 _ _ e1)
      refine ⟨_, rfl, .inr ⟨D2, D, _, _, rfl, rfl, SqL.of e3, SqL.of e13, by simp [flatV], by simp [flatV], ?_⟩⟩
      rw [Bool.false_xor, eqVs_ints, decide_eq_true rfl]
      refine ⟨_, rfl, iteT ?_⟩
      refine ⟨_, rfl, r, l, _, rfl, RA.same s3, small_of g2, by rw [List.length_map]; exact ox.wds, fun H4 s4 => ?_⟩
      rw [written_back g1]
      refine ⟨_, rfl, .inl ⟨rfl, ?_⟩⟩
      rw [decide_eq_true rfl]
      exact q H4 (s1.trans (s2.trans (s3.trans s4)))

end
end Ev


end
noncomputable section

set_option Elab.async false
set_option linter.all false
set_option maxRecDepth 100000
set_option maxHeartbeats 0
seal L2.PE L2.PT L2.PS L2.PSs L2.PA L2.PI L2.PG L2.PGs L2.OpR L2.UnR L2.CallR L2.IxR L2.SlR L2.MtR L2.PO L2.PSet L2.PW
namespace Ev
open PySem L2
section
variable {P : Program} {w : World} {K : PySem.W.Frag} {mg : Str → Option Value} {base : Heap} {t : Adr}
/-! ### some thirty texts -/
theorem Okx.short {x : Str} (h : x.length ≤ 900) : Okx x := ⟨by omega, Nat.le_trans (words_le x) (by omega)⟩
theorem cnt_app (c : Nat) : ∀ l m : List Nat, PyProof.Rows.cnt c (l ++ m) = PyProof.Rows.cnt c l + PyProof.Rows.cnt c m
  | [], m => by rw [List.nil_append, PyProof.Rows.cnt_nil, Int.zero_add]
  | a :: l, m => by rw [List.cons_append, PyProof.Rows.cnt_cons, PyProof.Rows.cnt_cons, cnt_app c l m, Int.add_assoc]
theorem cnt_zero {c : Nat} : ∀ {l : List Nat}, (∀ a ∈ l, a ≠ c) → PyProof.Rows.cnt c l = 0
  | [], _ => PyProof.Rows.cnt_nil c
  | a :: l, h => by rw [PyProof.Rows.cnt_cons, cnt_zero fun b hb => h b (List.mem_cons_of_mem _ hb), if_neg (h a (List.mem_cons_self ..))]; rfl
theorem mul_mem {x : Str} {n : Int} : ∀ c ∈ (Txt.mul x n).cps.toList, c ∈ x.cps.toList := by
  have key : ∀ (m : Nat) (a : Array Nat), (∀ c ∈ a.toList, c ∈ x.cps.toList) → ∀ c ∈ ((List.replicate m x.cps).foldl (· ++ ·) a).toList, c ∈ x.cps.toList := by
    intro m
    induction m with
    | zero => intro a h; exact h
    | succ m ih =>
      intro a h
      rw [List.replicate_succ, List.foldl_cons]
      refine ih _ fun c hc => ?_
      rw [Array.toList_append, List.mem_append] at hc
      exact hc.elim (h c) id
  unfold Txt.mul
  split
  · intro c hc; cases hc
  · split
    · exact fun c hc => hc
    · exact key _ _ fun c hc => by cases hc
def nines : Str := Txt.mul "9" 4000 ++ Str.ofString " 1"
def lines : Str := Str.ofString "1 " ++ Txt.mul "-" 50
theorem ok_nines : Okx nines := by
  have l1 : (Txt.mul "9" 4000).length ≤ 4000 := len_mul (by decide +kernel) 4000
  have l2 : (Str.ofString " 1").length = 2 := by decide +kernel
  refine ⟨by unfold nines; rw [Str.length_append, l2]; omega, ?_⟩
  have e1 : (Str.ofString " ") = ⟨#[32]⟩ := by decide +kernel
  have h := PyProof.Rows.split_len nines 32
  have z : PyProof.Rows.cnt 32 nines.cps.toList = 1 := by
    unfold nines
    rw [Str.cps_append, Array.toList_append, cnt_app, cnt_zero (l := (Txt.mul "9" 4000).cps.toList)]
    · rw [show (Str.ofString " 1").cps.toList = [32, 49] from by decide +kernel, PyProof.Rows.cnt_cons, PyProof.Rows.cnt_cons, PyProof.Rows.cnt_nil]
      decide
    · intro a ha
      have := mul_mem a ha
      rw [show (Str.ofString "9").cps.toList = [57] from by decide +kernel] at this
      have : a = 57 := by simpa using this
      omega
  rw [z] at h
  show (Txt.split nines (Str.ofString " ")).length ≤ 1000
  rw [e1]
  omega
theorem ok_lines : Okx lines := by
  have l1 : (Txt.mul "-" 50).length ≤ 50 := len_mul (by decide +kernel) 50
  have l2 : (Str.ofString "1 ").length = 2 := by decide +kernel
  refine Okx.short ?_
  unfold lines
  rw [Str.length_append, l2]
  omega
def few1 : List Str := ["", " ", "0", "0 0", "0 0 ", " 0 0", "0  0", "0 -0", "-0 0", "00 0", "01 1", "1 01", "+1 1", "1 - 1"]
def few2 : List Str := ["1000000 -1000000", "1000001 0", "0 -1000001", "9999999 1", "99999999 1", "1,1", "1 1.0", "1 x"]
def few3 : List Str := ["1 -1", "1\n1", "1\t1"]
def few4 : List Str := ["1 1\n", "--1 1", "1- 1", "1_0 1", nines, lines, "5 5 5", "1e3 1"]
def few : List Str := few1 ++ few2 ++ few3 ++ few4
theorem few_ok : ∀ x ∈ few, Okx x := by
  have a1 : ∀ x ∈ few1, x.length ≤ 900 := by decide +kernel
  have a2 : ∀ x ∈ few2, x.length ≤ 900 := by decide +kernel
  have a3 : ∀ x ∈ few3, x.length ≤ 900 := by decide +kernel
  intro x hx
  unfold few at hx
  rw [List.mem_append, List.mem_append, List.mem_append] at hx
  rcases hx with ((hx | hx) | hx) | hx
  · exact .short (a1 x hx)
  · exact .short (a2 x hx)
  · exact .short (a3 x hx)
  · unfold few4 at hx
    have b1 : ∀ x ∈ (["1 1\n", "--1 1", "1- 1", "1_0 1", "5 5 5", "1e3 1"] : List Str), x.length ≤ 900 := by decide +kernel
    by_cases e1 : x = nines
    · rw [e1]; exact ok_nines
    by_cases e2 : x = lines
    · rw [e2]; exact ok_lines
    refine .short (b1 x ?_)
    simp only [List.mem_cons, List.not_mem_nil, or_false, e1, e2, false_or] at hx ⊢
    exact hx
def sp_few : Sp := fun vs H Q _ => vs = [] ∧ ∀ D H', Same H H' → H' D = some (.lst (few.map V.str)) → Q (.ref D) H'
theorem ok_few (T : Txt K mg t) : FnOk P w K mg base CX0 1 t.f_law_few t.d_law_few P_law_few sp_few := by
  refine T.F_law_few.ok sc_law_few (fun vs H Q E h => ?_) (fun cdv A outer s H vs Q E hr h => ?_)
  · obtain ⟨rfl, _⟩ := h
    rfl
  · obtain ⟨rfl, q⟩ := h
    refine ⟨_, (pss_cons (ps_set (i := 0) sc_law_few.nd rfl (by first | exact Or.inl rfl | exact Or.inr rfl) (pe_lst (pa_cons pe_str (pa_cons pe_str (pa_cons pe_str (pa_cons pe_str (pa_cons pe_str (pa_cons pe_str (pa_cons pe_str (pa_cons pe_str (pa_cons pe_str (pa_cons pe_str (pa_cons pe_str (pa_cons pe_str (pa_cons pe_str (pa_cons pe_str pa_nil se_Constant) se_Constant) se_Constant) se_Constant) se_Constant) se_Constant) se_Constant) se_Constant) se_Constant) se_Constant) se_Constant) se_Constant) se_Constant) se_Constant)))
      (pss_cons (ps_set (i := 0) sc_law_few.nd rfl (by first | exact Or.inl rfl | exact Or.inr rfl) (pe_op (op_add.or op_cat) (pv 0) (pe_lst (pa_cons pe_str (pa_cons pe_str (pa_cons pe_str (pa_cons pe_str (pa_cons pe_str (pa_cons pe_str (pa_cons pe_str (pa_cons pe_str pa_nil se_Constant) se_Constant) se_Constant) se_Constant) se_Constant) se_Constant) se_Constant) se_Constant))))
      (pss_cons (ps_set (i := 0) sc_law_few.nd rfl (by first | exact Or.inl rfl | exact Or.inr rfl) (pe_op (op_add.or op_cat) (pv 0) (pe_lst (pa_cons pe_str (pa_cons pe_str (pa_cons pe_str pa_nil se_Constant) se_Constant) se_Constant))))
      (pss_cons (ps_set (i := 0) sc_law_few.nd rfl (by first | exact Or.inl rfl | exact Or.inr rfl) (pe_op (op_add.or op_cat) (pv 0) (pe_lst (pa_cons pe_str (pa_cons pe_str (pa_cons pe_str (pa_cons pe_str (pa_cons (pe_op op_add_str (pe_op op_mulS pe_str pe_int) pe_str) (pa_cons (pe_op op_add_str pe_str (pe_op op_mulS pe_str pe_int)) (pa_cons pe_str (pa_cons pe_str pa_nil se_Constant) se_Constant) se_BinOp) se_BinOp) se_Constant) se_Constant) se_Constant) se_Constant))))
      (pss_one (ps_ret (pv 0))))))), ?_⟩
    refine ⟨by show 14 ≤ sizeLine; decide, fun y hy => ?_⟩
    have S1 : Same H (upd H y (.lst (few1.map V.str))) := same_upd hy
    have e1 : (upd H y (.lst (few1.map V.str))) y = some (.lst (few1.map V.str)) := upd_same
    refine ⟨_, rfl, by show 8 ≤ sizeLine; decide, fun z hz => .inr ⟨y, z, few1.map V.str, few2.map V.str, rfl, rfl, (same_upd hz) _ _ e1, upd_same, by show 22 ≤ sizeLine; decide, fun y2 hy2 => ?_⟩⟩
    refine ⟨_, rfl, by show 3 ≤ sizeLine; decide, fun z3 hz3 => .inr ⟨y2, z3, (few1 ++ few2).map V.str, few3.map V.str, rfl, rfl, (same_upd hz3) _ _ upd_same, upd_same, by show 25 ≤ sizeLine; decide, fun y3 hy3 => ?_⟩⟩
    have m1 : MulOk (Str.ofString "9") 4000 := ⟨by decide, fun _ _ => by decide +kernel, fun _ _ => by decide +kernel⟩
    have m2 : MulOk (Str.ofString "-") 50 := ⟨by decide, fun _ _ => by decide +kernel, fun _ _ => by decide +kernel⟩
    have l1 : (Txt.mul "9" 4000).length ≤ 4000 := len_mul (by decide +kernel) 4000
    have l2 : (Str.ofString " 1").length = 2 := by decide +kernel
    have l3 : (Txt.mul "-" 50).length ≤ 50 := len_mul (by decide +kernel) 50
    have l4 : (Str.ofString "1 ").length = 2 := by decide +kernel
    have bg := big
    refine ⟨_, rfl, _, _, rfl, rfl, m1, _, _, rfl, rfl, by omega, _, _, rfl, rfl, m2, _, _, rfl, rfl, by omega, ?_⟩
    refine ⟨by show 8 ≤ sizeLine; decide, fun z4 hz4 => .inr ⟨y3, z4, (few1 ++ few2 ++ few3).map V.str, few4.map V.str, rfl, rfl, (same_upd hz4) _ _ upd_same, upd_same, by show 33 ≤ sizeLine; decide, fun y4 hy4 => ?_⟩⟩
    refine ⟨_, rfl, q y4 _ ?_ ?_⟩
    · exact S1.trans ((same_upd hz).trans ((same_upd hy2).trans ((same_upd hz3).trans ((same_upd hy3).trans ((same_upd hz4).trans (same_upd hy4))))))
    · exact upd_same.trans (by unfold few; rw [List.map_append (l₂ := few4)])

def sp_law (K : PySem.W.Frag) : Sp := fun vs H Q _ => ∃ (a : Addr) (ns : List Int), vs = [.ref a] ∧ SqL K H a (ns.map V.int) ∧ ns.length ≤ 63 ∧ ∀ H', Q (.bl true) H'
abbrev lawK : Nat := 10

/-! ### the law -/
theorem slice_len_idx (x : Str) (l u : Option Int) : (Txt.slice x l u).length ≤ (Builtin.Str.strSliceIndices l u 1 x.length).length := by
  unfold Txt.slice
  split
  · rename_i h
    have : (Builtin.Str.strSliceIndices l u 1 x.length).length = x.length := by simpa using h
    omega
  · show (List.filterMap _ (Builtin.Str.strSliceIndices l u 1 x.length)).toArray.size ≤ _
    rw [List.size_toArray]
    exact List.length_filterMap_le _ _
theorem idx_to {j : Int} (h : 0 ≤ j) (n : Nat) : (Builtin.Str.strSliceIndices none (some j) 1 n).length ≤ j.toNat := by
  unfold Builtin.Str.strSliceIndices sliceRange
  simp only [show (1 : Int) > 0 by decide, if_true, List.length_map, List.length_range]
  (split <;> (try split) <;> (try split) <;> (try simp only [Int.ediv_one]) <;> omega)
theorem idx_from {i : Int} (h : 0 ≤ i) (n : Nat) : (Builtin.Str.strSliceIndices (some i) none 1 n).length ≤ n - i.toNat := by
  unfold Builtin.Str.strSliceIndices sliceRange
  simp only [show (1 : Int) > 0 by decide, if_true, List.length_map, List.length_range]
  (split <;> (try split) <;> (try split) <;> (try simp only [Int.ediv_one]) <;> omega)
theorem atI_some {α : Type} {xs : List α} {i : Int} (h0 : 0 ≤ i) (h1 : i < xs.length) : ∃ v, atI xs i = some v ∧ v ∈ xs := by
  obtain ⟨k, rfl⟩ := Int.eq_ofNat_of_zero_le h0
  have hk : k < xs.length := by omega
  exact ⟨xs[k], atI_nat (List.getElem?_eq_getElem hk), List.getElem_mem hk⟩
def modW (ns : List Int) : List Int := (housesI ns 5).set 0 ((housesI ns 5).getD 0 0 + drawI (ns.getD 2 0) 1 2)
theorem modW_length (ns : List Int) : (modW ns).length = ns.length + 2 := by
  unfold modW
  rw [List.length_set, houses_length]
theorem modW_small (ns : List Int) : Small (modW ns) := by
  intro x hx
  have h0 := house0 (ns := ns) (first := 5) (by decide)
  have d0 := draw_lo (c := ns.getD 2 0) (k := 1) (m := 2) (by decide)
  have d1 := draw_hi (c := ns.getD 2 0) (k := 1) (m := 2) (by decide)
  unfold modW at hx
  rcases List.mem_or_eq_of_mem_set hx with e | e
  · have := houses_small (ns := ns) (first := 5) (by decide) x e; omega
  · omega
theorem join_short {hs : List Int} (h : Small hs) (hl : hs.length ≤ 65) : (Str.join " " (strsI hs)).length ≤ 585 := by
  refine join_len (fun y hy => ?_) (by unfold strsI; rw [List.length_map]; exact hl)
  obtain ⟨i, hi, rfl⟩ := List.mem_map.mp hy
  exact len_int (h i hi)
theorem ok_law (T : Txt K mg t) : FnOk P w K mg base CX0 lawK t.f_law t.d_law P_law (sp_law K) := by
  have G_law_cell_at := ok_cell_at (P := P) (w := w) (base := base) T
  have G_law_draw := ok_draw (P := P) (w := w) (base := base) T
  have G_law_houses := ok_houses (P := P) (w := w) (base := base) T
  have G_Ring_init__ := ok_Ring_init (P := P) (w := w) (base := base) T
  have G_written := ok_written (P := P) (w := w) (base := base) T
  have G_law_right := ok_right (P := P) (w := w) (base := base) T
  have G_law_refused := ok_refused (P := P) (w := w) (base := base) T
  have G_law_few := ok_few (P := P) (w := w) (base := base) T
  refine T.F_law.ok sc_law (fun vs H Q E h => ?_) (fun cdv A outer s H vs Q E hr h => ?_)
  · obtain ⟨a, ns, rfl, _⟩ := h
    rfl
  · obtain ⟨a, ns, rfl, hs, hl, q⟩ := h
    refine ⟨_, (pss_cons (ps_set (i := 1) sc_law.nd rfl (by first | exact Or.inl rfl | exact Or.inr rfl) (pe_call G_law_houses (hr.mono (by decide)) rfl T.g_law_houses T.F_law_houses.kp T.B_law_houses .nil pass0 (pa_cons (pv 0) (pa_cons pe_int pa_nil se_Constant) se_Name)))
      (pss_cons (ps_asg (pe_op (op_add.or op_cat) (pe_ix (ixK K) (pv 1) pe_int (fun _ _ => rfl)) (pe_call G_law_draw (hr.mono (by decide)) rfl T.g_law_draw T.F_law_draw.kp T.B_law_draw .nil pass0 (pa_cons (pe_call G_law_cell_at (hr.mono (by decide)) rfl T.g_law_cell_at T.F_law_cell_at.kp T.B_law_cell_at .nil pass0 (pa_cons (pv 0) (pa_cons pe_int pa_nil se_Constant) se_Name)) (pa_cons pe_int (pa_cons pe_int pa_nil se_Constant) se_Constant) se_Call))) (pg_sub (pv 1) pe_int set_list))
      (pss_cons (ps_set (i := 2) sc_law.nd rfl (by first | exact Or.inl rfl | exact Or.inr rfl) (bmK K PySem.F.plainAttrs_str PySem.F.slot_str_join PySem.F.type_str_join (mtr_join K) pe_str (pa_cons (pe_comp (sc := defScope s_law) (XN := N_law) (N' := ["_law_house"]) (t := 1) (ix := []) rfl ⟨rfl, by decide +kernel, by decide +kernel, by decide +kernel, by decide +kernel, rfl, by decide +kernel⟩ rfl rfl (piL K (pv 1)) (fun _ _ _ _ _ => (pg_name (i := 0) (show List.Nodup (["_law_house"] : List Str) by decide +kernel) rfl (Or.inl rfl))) (fun _ _ _ _ _ => (pe_callTy call_str_int (by rfl) T.b_str bt_str (pa_cons (pv 0) pa_nil se_Name)))) pa_nil se_ListComp)))
      (pss_cons (ps_if (PW.pt (pw_or (pt_cmpR (neK K hr.units0) (pe_call G_written (hr.mono (by decide)) rfl T.g_written T.F_written.kp T.B_written .nil pass0 (pa_cons (pe_make T.M_Ring G_Ring_init__ (hr.mono (by decide)) rfl T.g_Ring T.B_Ring_init__ .nil pass0 (pa_cons (pv 1) pa_nil se_Name)) pa_nil se_Call)) (pv 2) (nomark _)) (pw_or1 (pt_not (pt_val (pe_call G_law_right (hr.mono (by decide)) rfl T.g_law_right T.F_law_right.kp T.B_law_right .nil pass0 (pa_cons (pv 2) pa_nil se_Name)))))))
      (pss_one (ps_ret pe_bl))
      pss_nil)
      (pss_cons (ps_set (i := 3) sc_law.nd rfl (by first | exact Or.inl rfl | exact Or.inr rfl) (pe_op (op_add.or op_cat) (pe_call G_law_cell_at (hr.mono (by decide)) rfl T.g_law_cell_at T.F_law_cell_at.kp T.B_law_cell_at .nil pass0 (pa_cons (pv 0) (pa_cons pe_int pa_nil se_Constant) se_Name)) (pe_op (op_mul.or op_rep) pe_int (pe_call G_law_cell_at (hr.mono (by decide)) rfl T.g_law_cell_at T.F_law_cell_at.kp T.B_law_cell_at .nil pass0 (pa_cons (pv 0) (pa_cons pe_int pa_nil se_Constant) se_Name)))))
      (pss_cons (ps_for PassesOwn.never rfl (pi_range1 rfl T.b_range (pa_cons pe_int pa_nil se_Constant)) (pg_name (i := 4) sc_law.nd rfl (by first | exact Or.inl rfl | exact Or.inr rfl))
      (pss_cons (ps_set (i := 5) sc_law.nd rfl (by first | exact Or.inl rfl | exact Or.inr rfl) (pe_call G_law_draw (hr.mono (by decide)) rfl T.g_law_draw T.F_law_draw.kp T.B_law_draw .nil pass0 (pa_cons (pe_op (op_add.or op_cat) (pv 3) (pv 4)) (pa_cons pe_int (pa_cons (pe_op (op_add.or op_cat) (pe_callB call_len_str (by rfl) T.b_len bt_len (pa_cons (pv 2) pa_nil se_Name)) pe_int) pa_nil se_BinOp) se_Constant) se_BinOp)))
      (pss_cons (ps_set (i := 6) sc_law.nd rfl (by first | exact Or.inl rfl | exact Or.inr rfl) (pe_ix (ixK K) (pe_tup (pa_cons pe_str (pa_cons (pe_ix ix_str pe_str (pe_call G_law_draw (hr.mono (by decide)) rfl T.g_law_draw T.F_law_draw.kp T.B_law_draw .nil pass0 (pa_cons (pe_op (op_add.or op_cat) (pv 3) (pv 4)) (pa_cons pe_int (pa_cons pe_int pa_nil se_Constant) se_Constant) se_BinOp)) (fun _ _ => rfl)) pa_nil se_Subscript) se_Constant)) (pe_call G_law_draw (hr.mono (by decide)) rfl T.g_law_draw T.F_law_draw.kp T.B_law_draw .nil pass0 (pa_cons (pe_op (op_add.or op_cat) (pv 3) (pv 4)) (pa_cons pe_int (pa_cons pe_int pa_nil se_Constant) se_Constant) se_BinOp)) (fun _ _ => rfl)))
      (pss_one (ps_if (pt_not (pt_val (pe_call G_law_right (hr.mono (by decide)) rfl T.g_law_right T.F_law_right.kp T.B_law_right .nil pass0 (pa_cons (pe_op op_add_str (pe_op op_add_str (pe_slice sl_strR (pv 2) po_none (po_some (pv 5))) (pv 6)) (pe_slice sl_strR (pv 2) (po_some (pe_op (op_add.or op_cat) (pv 5) (pe_call G_law_draw (hr.mono (by decide)) rfl T.g_law_draw T.F_law_draw.kp T.B_law_draw .nil pass0 (pa_cons (pe_op (op_add.or op_cat) (pv 3) (pv 4)) (pa_cons pe_int (pa_cons pe_int pa_nil se_Constant) se_Constant) se_BinOp)))) po_none)) pa_nil se_BinOp))))
      (pss_one (ps_ret pe_bl))
      pss_nil)))))
      (pss_cons (ps_if (pt_not (pt_val (pe_callB (allK K rfl) (by rfl) T.b_all bt_all (pa_cons (pe_comp (sc := defScope s_law) (XN := N_law) (N' := ["_law_other"]) (t := 1) (ix := []) rfl ⟨rfl, by decide +kernel, by decide +kernel, by decide +kernel, by decide +kernel, rfl, by decide +kernel⟩ rfl rfl (piL K (pe_call0 G_law_few (hr.mono (by decide)) rfl T.g_law_few T.F_law_few.kp T.B_law_few .nil pass0)) (fun _ _ _ _ _ => (pg_name (i := 0) (show List.Nodup (["_law_other"] : List Str) by decide +kernel) rfl (Or.inl rfl))) (fun _ _ _ _ _ => (pe_call G_law_right (hr.mono (by decide)) rfl T.g_law_right T.F_law_right.kp T.B_law_right .nil pass0 (pa_cons (pv 0) pa_nil se_Name)))) pa_nil se_ListComp))))
      (pss_one (ps_ret pe_bl))
      pss_nil)
      (pss_one (ps_ret (pe_callB (allK K rfl) (by rfl) T.b_all bt_all (pa_cons (pe_comp (sc := defScope s_law) (XN := N_law) (N' := ["_law_thing"]) (t := 1) (ix := []) rfl ⟨rfl, by decide +kernel, by decide +kernel, by decide +kernel, by decide +kernel, rfl, by decide +kernel⟩ rfl rfl (piL K (pe_lst (pa_cons pe_non (pa_cons pe_int (pa_cons (pe_lst (pa_cons pe_str pa_nil se_Constant)) (pa_cons pe_bl pa_nil se_Constant) se_List) se_Constant) se_Constant))) (fun _ _ _ _ _ => (pg_name (i := 0) (show List.Nodup (["_law_thing"] : List Str) by decide +kernel) rfl (Or.inl rfl))) (fun _ _ _ _ _ => (pe_call G_law_refused (hr.mono (by decide)) rfl T.g_law_refused T.F_law_refused.kp T.B_law_refused .nil pass0 (pa_cons (pv 0) pa_nil se_Name)))) pa_nil se_ListComp))))))))))), ?_⟩
    refine ⟨_, rfl, a, ns, 5, rfl, hs, hl, fun D H1 hD s1 e1 => ?_⟩
    have hlen0 := houses_length ns 5
    dsimp only [gName]
    refine tSeq_mid (fun σ' H' => σ' = [some (.ref a), some (.ref D), none, none, none, none, none] ∧ Same H H' ∧ H' D = some (.lst ((modW ns).map V.int))) (fun N hN => ?_) ?_
    · refine ⟨_, rfl, .inl ⟨D, _, _, _, rfl, rfl, SqL.of e1, atI_ints (by decide) (by omega), ?_⟩⟩
      refine ⟨_, rfl, a, ns, 2, rfl, s1.seq hs, by decide, ?_⟩
      refine ⟨_, _, _, rfl, by decide, fun H4 s4 => ?_⟩
      refine .inl ⟨_, _, rfl, rfl, ?_⟩
      have eD := s4 _ _ e1
      refine ⟨_, rfl, D, _, _, 0, rfl, rfl, eD, ?_, ?_⟩
      · unfold ixN
        rw [List.length_map, if_pos (by decide), if_pos (by omega)]
        rfl
      · refine hN _ _ ⟨rfl, (s1.trans s4).upd hD, ?_⟩
        rw [upd_same, modW, List.map_set]
        rfl
    rintro σ2 H2 ⟨rfl, S2, e2⟩
    have hlen := modW_length ns
    have hsm := modW_small ns
    generalize modW ns = hs' at e2 hlen hsm
    refine ⟨rfl, _, rfl, D, rfl, ⟨_, SqL.of e2⟩, fun D2 hD2 => ?_⟩
    refine comp_list (t := 1) strV (by have := big; rw [List.length_map]; omega) (by decide) hD2 (SqL.of e2) (fun k y H5 Z hy S5 z => ?_) (fun H3 S3 e3 => ?_)
    · obtain ⟨i, ei, rfl⟩ := map_int_get hy
      exact ⟨_, rfl, i, rfl, log_int (hsm i (mem_of_get ei)), z H5 (Same.refl _)⟩
    rw [strs_map] at e3
    refine ⟨_, D2, strsI hs', rfl, rfl, SqL.of e3, strs_join hsm (by omega), ?_⟩
    have hx := join_short hsm (by omega)
    have eD3 := S3 _ _ e2
    refine ⟨_, rfl, fun r dr hr' hdr ner => ⟨r, D, dr, hs', rfl, upd_same, ?_, by omega, by omega, hsm.houses, fun l H4 hl4 bt RA => ⟨rfl, ?_⟩⟩⟩
    · rw [upd_ne (ne_of_none eD3 hr'), upd_ne (ne_of_none eD3 hdr)]; exact eD3
    have s4 := made_same hr' hdr bt
    have S4 := (S2.trans S3).trans s4
    refine ⟨r, l, hs', rfl, RA, hsm, by omega, fun H5 s5 => ?_⟩
    refine ⟨_, rfl, .inl ⟨rfl, _, rfl, ?_⟩⟩
    rw [decide_eq_true rfl]
    refine iteF ?_
    generalize Str.join " " (strsI hs') = x at hx ⊢
    have ox : Okx x := .short (by omega)
    refine ⟨_, rfl, x, rfl, ox, fun H6 s6 => ⟨_, rfl, iteF ?_⟩⟩
    have S6 := (S4.trans s5).trans s6
    refine ⟨_, rfl, a, ns, 3, rfl, S6.seq hs, by decide, _, rfl, a, ns, 0, rfl, S6.seq hs, by decide, .inl ⟨_, _, rfl, rfl, .inl ⟨by decide, by decide⟩, .inl ⟨_, _, rfl, rfl, ?_⟩⟩⟩
    obtain ⟨c, hc⟩ : ∃ c, c = ns.getD (3 : Int).toNat 0 + 7 * ns.getD (0 : Int).toNat 0 := ⟨_, rfl⟩
    refine ⟨2, rfl, by decide, by decide, ?_⟩
    refine for_range0 (n := 2) (fun i σ H7 => ∃ v4 v5 v6, σ = [some (.ref a), some (.ref D), some (.str x), some (.int c), v4, v5, v6] ∧ Same H H7) ⟨_, _, _, by rw [hc]; rfl, S6⟩ ?_ ?_
    · rintro i σ H7 hi ⟨v4, v5, v6, rfl, S7⟩
      have hxs : x.length ≤ sizeLine := by have := big; omega
      refine ⟨_, rfl, _, rfl, .inl ⟨_, _, rfl, rfl, _, rfl, x, rfl, hxs, .inl ⟨_, _, rfl, rfl, ?_⟩⟩⟩
      refine ⟨_, _, _, rfl, by omega, fun H8 s8 => ?_⟩
      generalize hat : drawI (c + i) 1 ((x.length : Int) + 1) = at'
      have a0 : 0 ≤ at' := by rw [← hat]; exact draw_lo (by omega)
      have a1 : at' < (x.length : Int) + 1 := by rw [← hat]; exact draw_hi (by omega)
      refine ⟨_, rfl, _, rfl, .inl ⟨_, _, rfl, rfl, _, _, _, rfl, by decide, fun H9 s9 => ?_⟩⟩
      have l15 : ((Str.ofString "0123456789- +,x").cps.toList.length : Int) = 15 := by decide +kernel
      obtain ⟨ch, ech, _⟩ := atI_some (xs := (Str.ofString "0123456789- +,x").cps.toList) (draw_lo (c := c + i) (k := 2) (m := 15) (by decide)) (by rw [l15]; exact draw_hi (c := c + i) (k := 2) (m := 15) (by decide))
      refine ⟨_, _, ch, rfl, rfl, by decide +kernel, ech, ?_⟩
      refine ⟨by show 2 ≤ sizeLine; decide, fun p hp => ?_⟩
      refine ⟨_, rfl, _, rfl, .inl ⟨_, _, rfl, rfl, _, _, _, rfl, by decide, fun H10 s10 => ?_⟩⟩
      obtain ⟨v, ev, hv⟩ := atI_some (xs := [V.str (Str.ofString ""), V.str ⟨#[ch]⟩]) (draw_lo (c := c + i) (k := 3) (m := 2) (by decide)) (draw_hi (c := c + i) (k := 3) (m := 2) (by decide))
      obtain ⟨sg, rfl, hsg⟩ : ∃ sg, v = .str sg ∧ sg.length ≤ 1 := by
        rcases List.mem_cons.mp hv with e | hv
        · exact ⟨_, e, by decide +kernel⟩
        · rcases List.mem_cons.mp hv with e | hv
          · exact ⟨_, e, Nat.le_refl _⟩
          · cases hv
      refine .inr ⟨p, _, _, _, rfl, rfl, SqT.of (s10 _ _ upd_same), ev, ?_⟩
      have S10 := S7.trans (s8.trans (s9.trans ((same_upd hp).trans s10)))
      have z1 := Nat.le_trans (slice_len_idx x none (some at')) (idx_to a0 x.length)
      have bg := big
      refine ⟨_, rfl, _, rfl, _, rfl, x, rfl, hxs, _, rfl, _, _, rfl, rfl, by omega, ?_⟩
      refine ⟨_, rfl, _, rfl, _, rfl, _, rfl, .inl ⟨_, _, rfl, rfl, _, _, _, rfl, by decide, fun H11 s11 => ?_⟩⟩
      generalize hd : drawI (c + i) 4 2 = d
      have d0 : 0 ≤ d := by rw [← hd]; exact draw_lo (by decide)
      have d1 : d < 2 := by rw [← hd]; exact draw_hi (by decide)
      have z2 := Nat.le_trans (slice_len_idx x (some (at' + d)) none) (idx_from (i := at' + d) (by omega) x.length)
      refine .inl ⟨_, _, rfl, rfl, _, rfl, x, rfl, hxs, _, _, rfl, rfl, ?_, ?_⟩
      · rw [Str.length_append]; omega
      refine ⟨_, rfl, .short ?_, fun H12 s12 => ⟨_, rfl, iteF ?_⟩⟩
      · rw [Str.length_append, Str.length_append]; omega
      · exact ⟨_, _, _, rfl, (S10.trans s11).trans s12⟩
    rintro σ7 H7 ⟨v4, v5, v6, rfl, S7⟩
    refine ⟨rfl, fun D5 H8 s8 e8 => ⟨D5, rfl, ⟨_, SqL.of e8⟩, fun D6 hD6 => ?_⟩⟩
    refine comp_list (t := 1) (fun _ => .bl true) (by have := big; rw [List.length_map]; exact Nat.le_trans (show few.length ≤ 100 by decide) (by omega)) (by decide) hD6 (SqL.of e8) (fun k y H9 Z hy S9 z => ?_) (fun H9 S9 e9 => ?_)
    · obtain ⟨y, hm, rfl⟩ := map_str_get hy
      exact ⟨_, rfl, y, rfl, few_ok y hm, fun H' s' => z H' s'⟩
    refine ⟨D6, few.map fun _ => true, rfl, SqL.of (by rw [e9, List.map_map, List.map_map]; rfl), ?_⟩
    rw [show (few.map fun _ => true).all id = true from by decide]
    refine ⟨_, rfl, iteF ?_⟩
    refine ⟨by show 1 ≤ sizeLine; decide, fun p hp => ⟨by show 4 ≤ sizeLine; decide, fun p2 hp2 => ⟨p2, rfl, ⟨_, SqL.of upd_same⟩, fun D7 hD7 => ?_⟩⟩⟩
    have ep : (upd (upd H9 p (.lst [V.str (Str.ofString "0 0")])) p2 (.lst [V.non, V.int 5, V.ref p, V.bl true])) p = some (.lst [V.str (Str.ofString "0 0")]) := (same_upd hp2) _ _ upd_same
    refine comp_list (t := 1) (fun _ => .bl true) (by show 4 ≤ sizeLine; decide) (by decide) hD7 (SqL.of upd_same) (fun k y H10 Z hy S10 z => ?_) (fun H10 S10 e10 => ?_)
    · refine ⟨_, rfl, y, rfl, .inl ?_, fun H' s' => z H' s'⟩
      have hm := List.mem_of_getElem? hy
      rcases List.mem_cons.mp hm with e | hm
      · subst e; exact True.intro
      rcases List.mem_cons.mp hm with e | hm
      · subst e; exact True.intro
      rcases List.mem_cons.mp hm with e | hm
      · subst e; exact ⟨_, S10 _ _ ep⟩
      rcases List.mem_cons.mp hm with e | hm
      · subst e; exact True.intro
      cases hm
    · exact ⟨D7, [true, true, true, true], rfl, SqL.of e10, q H10⟩

end
end Ev


end

set_option Elab.async false
set_option linter.all false
set_option maxRecDepth 100000
set_option maxHeartbeats 0
namespace Ev
open PySem L2
section

end
theorem bind1 {K : PySem.W.Frag} {f : Addr} {fd : FuncData} (F : Fun K "law" "law" s_law f fd) (s : Shared) (v : Value) : BindsTo s fd ⟨[v], []⟩ [("_law_script", v)] := by
  obtain ⟨oc, od, kV, doc, pm, an, cdv, ct, osl, rfl, lk, hcd⟩ := F.ex
  exact .of_eq rfl
theorem txt_mk {K : PySem.W.Frag} {h : Heap} {mg : Str → Option Value} (X : K.In h) (G : h.Ns mainGlobals mg)
    {f_Lacking_init__ : Addr} {oc_Lacking_init__ kV_Lacking_init__ dc_Lacking_init__ pm_Lacking_init__ cd_Lacking_init__ ct_Lacking_init__ : Value} {od_Lacking_init__ an_Lacking_init__ : Option Addr} {sl_Lacking_init__ : Array (Option Value)}
    {f_is_whole_number : Addr} {oc_is_whole_number kV_is_whole_number dc_is_whole_number pm_is_whole_number cd_is_whole_number ct_is_whole_number : Value} {od_is_whole_number an_is_whole_number : Option Addr} {sl_is_whole_number : Array (Option Value)}
    {f_is_house : Addr} {oc_is_house kV_is_house dc_is_house pm_is_house cd_is_house ct_is_house : Value} {od_is_house an_is_house : Option Addr} {sl_is_house : Array (Option Value)}
    {f_are_houses : Addr} {oc_are_houses kV_are_houses dc_are_houses pm_are_houses cd_are_houses ct_are_houses : Value} {od_are_houses an_are_houses : Option Addr} {sl_are_houses : Array (Option Value)}
    {f_Ring_init__ : Addr} {oc_Ring_init__ kV_Ring_init__ dc_Ring_init__ pm_Ring_init__ cd_Ring_init__ ct_Ring_init__ : Value} {od_Ring_init__ an_Ring_init__ : Option Addr} {sl_Ring_init__ : Array (Option Value)}
    {f_Ring_houses : Addr} {oc_Ring_houses kV_Ring_houses dc_Ring_houses pm_Ring_houses cd_Ring_houses ct_Ring_houses : Value} {od_Ring_houses an_Ring_houses : Option Addr} {sl_Ring_houses : Array (Option Value)}
    {f_Ring_whole : Addr} {oc_Ring_whole kV_Ring_whole dc_Ring_whole pm_Ring_whole cd_Ring_whole ct_Ring_whole : Value} {od_Ring_whole an_Ring_whole : Option Addr} {sl_Ring_whole : Array (Option Value)}
    {f_written : Addr} {oc_written kV_written dc_written pm_written cd_written ct_written : Value} {od_written an_written : Option Addr} {sl_written : Array (Option Value)}
    {f_is_written_number : Addr} {oc_is_written_number kV_is_written_number dc_is_written_number pm_is_written_number cd_is_written_number ct_is_written_number : Value} {od_is_written_number an_is_written_number : Option Addr} {sl_is_written_number : Array (Option Value)}
    {f_read : Addr} {oc_read kV_read dc_read pm_read cd_read ct_read : Value} {od_read an_read : Option Addr} {sl_read : Array (Option Value)}
    {f_law_cell_at : Addr} {oc_law_cell_at kV_law_cell_at dc_law_cell_at pm_law_cell_at cd_law_cell_at ct_law_cell_at : Value} {od_law_cell_at an_law_cell_at : Option Addr} {sl_law_cell_at : Array (Option Value)}
    {f_law_draw : Addr} {oc_law_draw kV_law_draw dc_law_draw pm_law_draw cd_law_draw ct_law_draw : Value} {od_law_draw an_law_draw : Option Addr} {sl_law_draw : Array (Option Value)}
    {f_law_houses : Addr} {oc_law_houses kV_law_houses dc_law_houses pm_law_houses cd_law_houses ct_law_houses : Value} {od_law_houses an_law_houses : Option Addr} {sl_law_houses : Array (Option Value)}
    {f_law_number : Addr} {oc_law_number kV_law_number dc_law_number pm_law_number cd_law_number ct_law_number : Value} {od_law_number an_law_number : Option Addr} {sl_law_number : Array (Option Value)}
    {f_law_in : Addr} {oc_law_in kV_law_in dc_law_in pm_law_in cd_law_in ct_law_in : Value} {od_law_in an_law_in : Option Addr} {sl_law_in : Array (Option Value)}
    {f_law_refused : Addr} {oc_law_refused kV_law_refused dc_law_refused pm_law_refused cd_law_refused ct_law_refused : Value} {od_law_refused an_law_refused : Option Addr} {sl_law_refused : Array (Option Value)}
    {f_law_right : Addr} {oc_law_right kV_law_right dc_law_right pm_law_right cd_law_right ct_law_right : Value} {od_law_right an_law_right : Option Addr} {sl_law_right : Array (Option Value)}
    {f_law_few : Addr} {oc_law_few kV_law_few dc_law_few pm_law_few cd_law_few ct_law_few : Value} {od_law_few an_law_few : Option Addr} {sl_law_few : Array (Option Value)}
    {f_law : Addr} {oc_law kV_law dc_law pm_law cd_law ct_law : Value} {od_law an_law : Option Addr} {sl_law : Array (Option Value)}
    {C_Ring : Addr}
    {C_RingError : Addr}
    {C_BadRing : Addr}
    {C_BadTolls : Addr}
    {C_BadMost : Addr}
    {C_Unlike : Addr}
    {C_Lacking : Addr}
    {C_BadText : Addr}
    {v_FARTHEST_NUMBER : Tok}
    {v_FEWEST_HOUSES : Tok}
    {v_FIGURES : Tok}
    (aC_Ring : PySem.W.nsIn K mainGlobals "Ring" = some (some (.ref C_Ring)))
    (aC_RingError : PySem.W.nsIn K mainGlobals "RingError" = some (some (.ref C_RingError)))
    (aC_BadRing : PySem.W.nsIn K mainGlobals "BadRing" = some (some (.ref C_BadRing)))
    (aC_BadTolls : PySem.W.nsIn K mainGlobals "BadTolls" = some (some (.ref C_BadTolls)))
    (aC_BadMost : PySem.W.nsIn K mainGlobals "BadMost" = some (some (.ref C_BadMost)))
    (aC_Unlike : PySem.W.nsIn K mainGlobals "Unlike" = some (some (.ref C_Unlike)))
    (aC_Lacking : PySem.W.nsIn K mainGlobals "Lacking" = some (some (.ref C_Lacking)))
    (aC_BadText : PySem.W.nsIn K mainGlobals "BadText" = some (some (.ref C_BadText)))
    (a_Lacking_init__ : PySem.W.findIn K (.ref C_Lacking) "__init__" = some (some (.ref f_Lacking_init__)))
    (i_Lacking_init__ : PySem.W.isFn K (.ref f_Lacking_init__) = true)
    (l_Lacking_init__ : K.lookup f_Lacking_init__ = some ⟨oc_Lacking_init__, od_Lacking_init__, .func (PySem.W.fnOf "__init__" "Lacking.__init__" (defArgs s_Lacking_init__) (defBody s_Lacking_init__) (defScope s_Lacking_init__) .none kV_Lacking_init__ dc_Lacking_init__ pm_Lacking_init__ an_Lacking_init__ cd_Lacking_init__ ct_Lacking_init__), sl_Lacking_init__⟩)
    (c_Lacking_init__ : PySem.W.codeIn K cd_Lacking_init__ "Lacking.__init__" = true)
    (k_Lacking_init__ : PySem.W.keepIn K (.ref f_Lacking_init__) = true)
    (a_is_whole_number : PySem.W.nsIn K mainGlobals "is_whole_number" = some (some (.ref f_is_whole_number)))
    (l_is_whole_number : K.lookup f_is_whole_number = some ⟨oc_is_whole_number, od_is_whole_number, .func (PySem.W.fnOf "is_whole_number" "is_whole_number" (defArgs s_is_whole_number) (defBody s_is_whole_number) (defScope s_is_whole_number) .none kV_is_whole_number dc_is_whole_number pm_is_whole_number an_is_whole_number cd_is_whole_number ct_is_whole_number), sl_is_whole_number⟩)
    (c_is_whole_number : PySem.W.codeIn K cd_is_whole_number "is_whole_number" = true)
    (k_is_whole_number : PySem.W.keepIn K (.ref f_is_whole_number) = true)
    (a_is_house : PySem.W.nsIn K mainGlobals "is_house" = some (some (.ref f_is_house)))
    (l_is_house : K.lookup f_is_house = some ⟨oc_is_house, od_is_house, .func (PySem.W.fnOf "is_house" "is_house" (defArgs s_is_house) (defBody s_is_house) (defScope s_is_house) .none kV_is_house dc_is_house pm_is_house an_is_house cd_is_house ct_is_house), sl_is_house⟩)
    (c_is_house : PySem.W.codeIn K cd_is_house "is_house" = true)
    (k_is_house : PySem.W.keepIn K (.ref f_is_house) = true)
    (a_are_houses : PySem.W.nsIn K mainGlobals "are_houses" = some (some (.ref f_are_houses)))
    (l_are_houses : K.lookup f_are_houses = some ⟨oc_are_houses, od_are_houses, .func (PySem.W.fnOf "are_houses" "are_houses" (defArgs s_are_houses) (defBody s_are_houses) (defScope s_are_houses) .none kV_are_houses dc_are_houses pm_are_houses an_are_houses cd_are_houses ct_are_houses), sl_are_houses⟩)
    (c_are_houses : PySem.W.codeIn K cd_are_houses "are_houses" = true)
    (k_are_houses : PySem.W.keepIn K (.ref f_are_houses) = true)
    (a_Ring_init__ : PySem.W.findIn K (.ref C_Ring) "__init__" = some (some (.ref f_Ring_init__)))
    (i_Ring_init__ : PySem.W.isFn K (.ref f_Ring_init__) = true)
    (l_Ring_init__ : K.lookup f_Ring_init__ = some ⟨oc_Ring_init__, od_Ring_init__, .func (PySem.W.fnOf "__init__" "Ring.__init__" (defArgs s_Ring_init__) (defBody s_Ring_init__) (defScope s_Ring_init__) .none kV_Ring_init__ dc_Ring_init__ pm_Ring_init__ an_Ring_init__ cd_Ring_init__ ct_Ring_init__), sl_Ring_init__⟩)
    (c_Ring_init__ : PySem.W.codeIn K cd_Ring_init__ "Ring.__init__" = true)
    (k_Ring_init__ : PySem.W.keepIn K (.ref f_Ring_init__) = true)
    (a_Ring_houses : PySem.W.findIn K (.ref C_Ring) "houses" = some (some (.ref f_Ring_houses)))
    (i_Ring_houses : PySem.W.isFn K (.ref f_Ring_houses) = true)
    (l_Ring_houses : K.lookup f_Ring_houses = some ⟨oc_Ring_houses, od_Ring_houses, .func (PySem.W.fnOf "houses" "Ring.houses" (defArgs s_Ring_houses) (defBody s_Ring_houses) (defScope s_Ring_houses) .none kV_Ring_houses dc_Ring_houses pm_Ring_houses an_Ring_houses cd_Ring_houses ct_Ring_houses), sl_Ring_houses⟩)
    (c_Ring_houses : PySem.W.codeIn K cd_Ring_houses "Ring.houses" = true)
    (k_Ring_houses : PySem.W.keepIn K (.ref f_Ring_houses) = true)
    (a_Ring_whole : PySem.W.findIn K (.ref C_Ring) "whole" = some (some (.ref f_Ring_whole)))
    (i_Ring_whole : PySem.W.isFn K (.ref f_Ring_whole) = true)
    (l_Ring_whole : K.lookup f_Ring_whole = some ⟨oc_Ring_whole, od_Ring_whole, .func (PySem.W.fnOf "whole" "Ring.whole" (defArgs s_Ring_whole) (defBody s_Ring_whole) (defScope s_Ring_whole) .none kV_Ring_whole dc_Ring_whole pm_Ring_whole an_Ring_whole cd_Ring_whole ct_Ring_whole), sl_Ring_whole⟩)
    (c_Ring_whole : PySem.W.codeIn K cd_Ring_whole "Ring.whole" = true)
    (k_Ring_whole : PySem.W.keepIn K (.ref f_Ring_whole) = true)
    (a_written : PySem.W.nsIn K mainGlobals "written" = some (some (.ref f_written)))
    (l_written : K.lookup f_written = some ⟨oc_written, od_written, .func (PySem.W.fnOf "written" "written" (defArgs s_written) (defBody s_written) (defScope s_written) .none kV_written dc_written pm_written an_written cd_written ct_written), sl_written⟩)
    (c_written : PySem.W.codeIn K cd_written "written" = true)
    (k_written : PySem.W.keepIn K (.ref f_written) = true)
    (a_is_written_number : PySem.W.nsIn K mainGlobals "is_written_number" = some (some (.ref f_is_written_number)))
    (l_is_written_number : K.lookup f_is_written_number = some ⟨oc_is_written_number, od_is_written_number, .func (PySem.W.fnOf "is_written_number" "is_written_number" (defArgs s_is_written_number) (defBody s_is_written_number) (defScope s_is_written_number) .none kV_is_written_number dc_is_written_number pm_is_written_number an_is_written_number cd_is_written_number ct_is_written_number), sl_is_written_number⟩)
    (c_is_written_number : PySem.W.codeIn K cd_is_written_number "is_written_number" = true)
    (k_is_written_number : PySem.W.keepIn K (.ref f_is_written_number) = true)
    (a_read : PySem.W.nsIn K mainGlobals "read" = some (some (.ref f_read)))
    (l_read : K.lookup f_read = some ⟨oc_read, od_read, .func (PySem.W.fnOf "read" "read" (defArgs s_read) (defBody s_read) (defScope s_read) .none kV_read dc_read pm_read an_read cd_read ct_read), sl_read⟩)
    (c_read : PySem.W.codeIn K cd_read "read" = true)
    (k_read : PySem.W.keepIn K (.ref f_read) = true)
    (a_law_cell_at : PySem.W.nsIn K mainGlobals "_law_cell_at" = some (some (.ref f_law_cell_at)))
    (l_law_cell_at : K.lookup f_law_cell_at = some ⟨oc_law_cell_at, od_law_cell_at, .func (PySem.W.fnOf "_law_cell_at" "_law_cell_at" (defArgs s_law_cell_at) (defBody s_law_cell_at) (defScope s_law_cell_at) .none kV_law_cell_at dc_law_cell_at pm_law_cell_at an_law_cell_at cd_law_cell_at ct_law_cell_at), sl_law_cell_at⟩)
    (c_law_cell_at : PySem.W.codeIn K cd_law_cell_at "_law_cell_at" = true)
    (k_law_cell_at : PySem.W.keepIn K (.ref f_law_cell_at) = true)
    (a_law_draw : PySem.W.nsIn K mainGlobals "_law_draw" = some (some (.ref f_law_draw)))
    (l_law_draw : K.lookup f_law_draw = some ⟨oc_law_draw, od_law_draw, .func (PySem.W.fnOf "_law_draw" "_law_draw" (defArgs s_law_draw) (defBody s_law_draw) (defScope s_law_draw) .none kV_law_draw dc_law_draw pm_law_draw an_law_draw cd_law_draw ct_law_draw), sl_law_draw⟩)
    (c_law_draw : PySem.W.codeIn K cd_law_draw "_law_draw" = true)
    (k_law_draw : PySem.W.keepIn K (.ref f_law_draw) = true)
    (a_law_houses : PySem.W.nsIn K mainGlobals "_law_houses" = some (some (.ref f_law_houses)))
    (l_law_houses : K.lookup f_law_houses = some ⟨oc_law_houses, od_law_houses, .func (PySem.W.fnOf "_law_houses" "_law_houses" (defArgs s_law_houses) (defBody s_law_houses) (defScope s_law_houses) .none kV_law_houses dc_law_houses pm_law_houses an_law_houses cd_law_houses ct_law_houses), sl_law_houses⟩)
    (c_law_houses : PySem.W.codeIn K cd_law_houses "_law_houses" = true)
    (k_law_houses : PySem.W.keepIn K (.ref f_law_houses) = true)
    (a_law_number : PySem.W.nsIn K mainGlobals "_law_number" = some (some (.ref f_law_number)))
    (l_law_number : K.lookup f_law_number = some ⟨oc_law_number, od_law_number, .func (PySem.W.fnOf "_law_number" "_law_number" (defArgs s_law_number) (defBody s_law_number) (defScope s_law_number) .none kV_law_number dc_law_number pm_law_number an_law_number cd_law_number ct_law_number), sl_law_number⟩)
    (c_law_number : PySem.W.codeIn K cd_law_number "_law_number" = true)
    (k_law_number : PySem.W.keepIn K (.ref f_law_number) = true)
    (a_law_in : PySem.W.nsIn K mainGlobals "_law_in" = some (some (.ref f_law_in)))
    (l_law_in : K.lookup f_law_in = some ⟨oc_law_in, od_law_in, .func (PySem.W.fnOf "_law_in" "_law_in" (defArgs s_law_in) (defBody s_law_in) (defScope s_law_in) .none kV_law_in dc_law_in pm_law_in an_law_in cd_law_in ct_law_in), sl_law_in⟩)
    (c_law_in : PySem.W.codeIn K cd_law_in "_law_in" = true)
    (k_law_in : PySem.W.keepIn K (.ref f_law_in) = true)
    (a_law_refused : PySem.W.nsIn K mainGlobals "_law_refused" = some (some (.ref f_law_refused)))
    (l_law_refused : K.lookup f_law_refused = some ⟨oc_law_refused, od_law_refused, .func (PySem.W.fnOf "_law_refused" "_law_refused" (defArgs s_law_refused) (defBody s_law_refused) (defScope s_law_refused) .none kV_law_refused dc_law_refused pm_law_refused an_law_refused cd_law_refused ct_law_refused), sl_law_refused⟩)
    (c_law_refused : PySem.W.codeIn K cd_law_refused "_law_refused" = true)
    (k_law_refused : PySem.W.keepIn K (.ref f_law_refused) = true)
    (a_law_right : PySem.W.nsIn K mainGlobals "_law_right" = some (some (.ref f_law_right)))
    (l_law_right : K.lookup f_law_right = some ⟨oc_law_right, od_law_right, .func (PySem.W.fnOf "_law_right" "_law_right" (defArgs s_law_right) (defBody s_law_right) (defScope s_law_right) .none kV_law_right dc_law_right pm_law_right an_law_right cd_law_right ct_law_right), sl_law_right⟩)
    (c_law_right : PySem.W.codeIn K cd_law_right "_law_right" = true)
    (k_law_right : PySem.W.keepIn K (.ref f_law_right) = true)
    (a_law_few : PySem.W.nsIn K mainGlobals "_law_few" = some (some (.ref f_law_few)))
    (l_law_few : K.lookup f_law_few = some ⟨oc_law_few, od_law_few, .func (PySem.W.fnOf "_law_few" "_law_few" (defArgs s_law_few) (defBody s_law_few) (defScope s_law_few) .none kV_law_few dc_law_few pm_law_few an_law_few cd_law_few ct_law_few), sl_law_few⟩)
    (c_law_few : PySem.W.codeIn K cd_law_few "_law_few" = true)
    (k_law_few : PySem.W.keepIn K (.ref f_law_few) = true)
    (a_law : PySem.W.nsIn K mainGlobals "law" = some (some (.ref f_law)))
    (l_law : K.lookup f_law = some ⟨oc_law, od_law, .func (PySem.W.fnOf "law" "law" (defArgs s_law) (defBody s_law) (defScope s_law) .none kV_law dc_law pm_law an_law cd_law ct_law), sl_law⟩)
    (c_law : PySem.W.codeIn K cd_law "law" = true)
    (k_law : PySem.W.keepIn K (.ref f_law) = true)
    (pg_Ring : PySem.W.plainGet K C_Ring Str.empty = true)
    (hd_Ring : PySem.W.hasDictIn K C_Ring = true)
    (po_Ring : PySem.W.plainOver K C_Ring = true)
    (sa_Ring : PySem.W.findIn K (.ref C_Ring) "__setattr__" = some (some (.builtin "object.__setattr__")))
    (mk_Ring : PySem.W.makesIn K C_Ring = true)
    (kc_Ring : PySem.W.keepIn K (.ref C_Ring) = true)
    (n_Ring_numbers : PySem.W.findIn K (.ref C_Ring) "numbers" = some none)
    (yx_RingError : PySem.W.excIn K C_RingError bmV "ValueError.__new__" = true)
    (yxm_RingError_RingError : PySem.W.mroIn K C_RingError (.ref C_RingError) = some true)
    (yx_BadRing : PySem.W.excIn K C_BadRing bmV "ValueError.__new__" = true)
    (yxm_BadRing_BadRing : PySem.W.mroIn K C_BadRing (.ref C_BadRing) = some true)
    (yxm_BadRing_RingError : PySem.W.mroIn K C_BadRing (.ref C_RingError) = some true)
    (yx_BadTolls : PySem.W.excIn K C_BadTolls bmV "ValueError.__new__" = true)
    (yxm_BadTolls_BadTolls : PySem.W.mroIn K C_BadTolls (.ref C_BadTolls) = some true)
    (yxm_BadTolls_RingError : PySem.W.mroIn K C_BadTolls (.ref C_RingError) = some true)
    (yx_BadMost : PySem.W.excIn K C_BadMost bmV "ValueError.__new__" = true)
    (yxm_BadMost_BadMost : PySem.W.mroIn K C_BadMost (.ref C_BadMost) = some true)
    (yxm_BadMost_RingError : PySem.W.mroIn K C_BadMost (.ref C_RingError) = some true)
    (yx_Unlike : PySem.W.excIn K C_Unlike bmV "ValueError.__new__" = true)
    (yxm_Unlike_Unlike : PySem.W.mroIn K C_Unlike (.ref C_Unlike) = some true)
    (yxm_Unlike_RingError : PySem.W.mroIn K C_Unlike (.ref C_RingError) = some true)
    (yx_Lacking : excInI K C_Lacking bmV "ValueError.__new__" f_Lacking_init__ = true)
    (yxn_Lacking : PySem.W.isFn K (.ref f_Lacking_init__) = true)
    (ykc_Lacking : PySem.W.keepIn K (.ref C_Lacking) = true)
    (yxs_Lacking : PySem.W.findIn K (.ref C_Lacking) "__setattr__" = some (some (.builtin "object.__setattr__")))
    (yxl_Lacking : PySem.W.lackIn K C_Lacking C_RingError = true)
    (yxa_Lacking_total : PySem.W.findIn K (.ref C_Lacking) "total" = some none)
    (yr1_RingError : PySem.W.specialIn K (.ref C_RingError) "__getattribute__" = some (some (.builtin "type.__getattribute__")))
    (yr2_RingError : PySem.W.readsIn K C_RingError (.type "type") = true)
    (yr3_RingError : PySem.W.findCls K (.ref C_RingError) (.type "type") "__init__" = some (.val (.builtin "ValueError.__init__")))
    (yxm_Lacking_Lacking : PySem.W.mroIn K C_Lacking (.ref C_Lacking) = some true)
    (yxm_Lacking_RingError : PySem.W.mroIn K C_Lacking (.ref C_RingError) = some true)
    (yx_BadText : PySem.W.excIn K C_BadText bmV "ValueError.__new__" = true)
    (ykc_BadText : PySem.W.keepIn K (.ref C_BadText) = true)
    (yxm_BadText_BadText : PySem.W.mroIn K C_BadText (.ref C_BadText) = some true)
    (yxm_BadText_RingError : PySem.W.mroIn K C_BadText (.ref C_RingError) = some true)
    (xk1_RingError : PySem.W.findIn K (.ref C_RingError) "__getattribute__" = some (some (.builtin "BaseException.__getattribute__")))
    (xk2_RingError : PySem.W.findIn K (.ref C_RingError) "__getattr__" = some none)
    (xk3_RingError : PySem.W.mroIn K C_RingError (.type "BaseException") = some true)
    (xk4_RingError : PySem.W.mroIn K C_RingError (.type "object") = some true)
    (xk5_RingError : PySem.W.hasDictIn K C_RingError = true)
    (xk6_RingError : PySem.W.findIn K (.ref C_RingError) "__class__" = some (some (.builtin "object.__class__")))
    (xk1_BadRing : PySem.W.findIn K (.ref C_BadRing) "__getattribute__" = some (some (.builtin "BaseException.__getattribute__")))
    (xk2_BadRing : PySem.W.findIn K (.ref C_BadRing) "__getattr__" = some none)
    (xk3_BadRing : PySem.W.mroIn K C_BadRing (.type "BaseException") = some true)
    (xk4_BadRing : PySem.W.mroIn K C_BadRing (.type "object") = some true)
    (xk5_BadRing : PySem.W.hasDictIn K C_BadRing = true)
    (xk6_BadRing : PySem.W.findIn K (.ref C_BadRing) "__class__" = some (some (.builtin "object.__class__")))
    (xk1_BadTolls : PySem.W.findIn K (.ref C_BadTolls) "__getattribute__" = some (some (.builtin "BaseException.__getattribute__")))
    (xk2_BadTolls : PySem.W.findIn K (.ref C_BadTolls) "__getattr__" = some none)
    (xk3_BadTolls : PySem.W.mroIn K C_BadTolls (.type "BaseException") = some true)
    (xk4_BadTolls : PySem.W.mroIn K C_BadTolls (.type "object") = some true)
    (xk5_BadTolls : PySem.W.hasDictIn K C_BadTolls = true)
    (xk6_BadTolls : PySem.W.findIn K (.ref C_BadTolls) "__class__" = some (some (.builtin "object.__class__")))
    (xk1_BadMost : PySem.W.findIn K (.ref C_BadMost) "__getattribute__" = some (some (.builtin "BaseException.__getattribute__")))
    (xk2_BadMost : PySem.W.findIn K (.ref C_BadMost) "__getattr__" = some none)
    (xk3_BadMost : PySem.W.mroIn K C_BadMost (.type "BaseException") = some true)
    (xk4_BadMost : PySem.W.mroIn K C_BadMost (.type "object") = some true)
    (xk5_BadMost : PySem.W.hasDictIn K C_BadMost = true)
    (xk6_BadMost : PySem.W.findIn K (.ref C_BadMost) "__class__" = some (some (.builtin "object.__class__")))
    (xk1_Unlike : PySem.W.findIn K (.ref C_Unlike) "__getattribute__" = some (some (.builtin "BaseException.__getattribute__")))
    (xk2_Unlike : PySem.W.findIn K (.ref C_Unlike) "__getattr__" = some none)
    (xk3_Unlike : PySem.W.mroIn K C_Unlike (.type "BaseException") = some true)
    (xk4_Unlike : PySem.W.mroIn K C_Unlike (.type "object") = some true)
    (xk5_Unlike : PySem.W.hasDictIn K C_Unlike = true)
    (xk6_Unlike : PySem.W.findIn K (.ref C_Unlike) "__class__" = some (some (.builtin "object.__class__")))
    (xk1_Lacking : PySem.W.findIn K (.ref C_Lacking) "__getattribute__" = some (some (.builtin "BaseException.__getattribute__")))
    (xk2_Lacking : PySem.W.findIn K (.ref C_Lacking) "__getattr__" = some none)
    (xk3_Lacking : PySem.W.mroIn K C_Lacking (.type "BaseException") = some true)
    (xk4_Lacking : PySem.W.mroIn K C_Lacking (.type "object") = some true)
    (xk5_Lacking : PySem.W.hasDictIn K C_Lacking = true)
    (xk6_Lacking : PySem.W.findIn K (.ref C_Lacking) "__class__" = some (some (.builtin "object.__class__")))
    (xk1_BadText : PySem.W.findIn K (.ref C_BadText) "__getattribute__" = some (some (.builtin "BaseException.__getattribute__")))
    (xk2_BadText : PySem.W.findIn K (.ref C_BadText) "__getattr__" = some none)
    (xk3_BadText : PySem.W.mroIn K C_BadText (.type "BaseException") = some true)
    (xk4_BadText : PySem.W.mroIn K C_BadText (.type "object") = some true)
    (xk5_BadText : PySem.W.hasDictIn K C_BadText = true)
    (xk6_BadText : PySem.W.findIn K (.ref C_BadText) "__class__" = some (some (.builtin "object.__class__")))
    (j3 : PySem.W.specialIn K (.builtin "object.__class__") "__get__" = some (some (.builtin "getset_descriptor.__get__")))
    (j4 : PySem.W.takesIn K (.builtin "object.__class__") = some true)
    (isi_BadText_BadMost : PySem.W.kitOne K (.ref C_BadText) (.ref C_BadMost) = some false)
    (isi_BadText_BadRing : PySem.W.kitOne K (.ref C_BadText) (.ref C_BadRing) = some false)
    (isi_BadText_BadTolls : PySem.W.kitOne K (.ref C_BadText) (.ref C_BadTolls) = some false)
    (isi_BadText_Lacking : PySem.W.kitOne K (.ref C_BadText) (.ref C_Lacking) = some false)
    (isi_BadText_Unlike : PySem.W.kitOne K (.ref C_BadText) (.ref C_Unlike) = some false)
    (isi_BadText_ValueError : PySem.W.kitOne K (.ref C_BadText) (.type "ValueError") = some true)
    (isi_BadText_BadText : PySem.W.kitOne K (.ref C_BadText) (.ref C_BadText) = some true)
    (isi_BadRing_BadText : PySem.W.kitOne K (.ref C_BadRing) (.ref C_BadText) = some false)
    (z_ValueError : PySem.W.nsIn K mainGlobals "ValueError" = some none)
    (z_abs : PySem.W.nsIn K mainGlobals "abs" = some none)
    (z_all : PySem.W.nsIn K mainGlobals "all" = some none)
    (z_any : PySem.W.nsIn K mainGlobals "any" = some none)
    (z_bool : PySem.W.nsIn K mainGlobals "bool" = some none)
    (z_int : PySem.W.nsIn K mainGlobals "int" = some none)
    (z_isinstance : PySem.W.nsIn K mainGlobals "isinstance" = some none)
    (z_len : PySem.W.nsIn K mainGlobals "len" = some none)
    (z_list : PySem.W.nsIn K mainGlobals "list" = some none)
    (z_range : PySem.W.nsIn K mainGlobals "range" = some none)
    (z_str : PySem.W.nsIn K mainGlobals "str" = some none)
    (z_sum : PySem.W.nsIn K mainGlobals "sum" = some none)
    (v_FARTHEST_NUMBER_ : PySem.W.nsIn K mainGlobals "FARTHEST_NUMBER" = some (some (.int 1000000 v_FARTHEST_NUMBER)))
    (v_FEWEST_HOUSES_ : PySem.W.nsIn K mainGlobals "FEWEST_HOUSES" = some (some (.int 2 v_FEWEST_HOUSES)))
    (v_FIGURES_ : PySem.W.nsIn K mainGlobals "FIGURES" = some (some (.str "0123456789" v_FIGURES)))
    : ∃ t : Adr, Txt K mg t := by
  have F_Lacking_init__ := fun_mk (st := s_Lacking_init__) l_Lacking_init__ c_Lacking_init__ k_Lacking_init__
  have B_Lacking_init__ := F_Lacking_init__.binds (ps := P_Lacking_init__) fun _ _ _ _ _ _ us hl => match us, hl with | [_, _], _ => rfl
  have F_is_whole_number := fun_mk (st := s_is_whole_number) l_is_whole_number c_is_whole_number k_is_whole_number
  have B_is_whole_number := F_is_whole_number.binds (ps := P_is_whole_number) fun _ _ _ _ _ _ us hl => match us, hl with | [_], _ => rfl
  have F_is_house := fun_mk (st := s_is_house) l_is_house c_is_house k_is_house
  have B_is_house := F_is_house.binds (ps := P_is_house) fun _ _ _ _ _ _ us hl => match us, hl with | [_], _ => rfl
  have F_are_houses := fun_mk (st := s_are_houses) l_are_houses c_are_houses k_are_houses
  have B_are_houses := F_are_houses.binds (ps := P_are_houses) fun _ _ _ _ _ _ us hl => match us, hl with | [_], _ => rfl
  have F_Ring_init__ := fun_mk (st := s_Ring_init__) l_Ring_init__ c_Ring_init__ k_Ring_init__
  have B_Ring_init__ := F_Ring_init__.binds (ps := P_Ring_init__) fun _ _ _ _ _ _ us hl => match us, hl with | [_, _], _ => rfl
  have F_Ring_houses := fun_mk (st := s_Ring_houses) l_Ring_houses c_Ring_houses k_Ring_houses
  have B_Ring_houses := F_Ring_houses.binds (ps := P_Ring_houses) fun _ _ _ _ _ _ us hl => match us, hl with | [_], _ => rfl
  have F_Ring_whole := fun_mk (st := s_Ring_whole) l_Ring_whole c_Ring_whole k_Ring_whole
  have B_Ring_whole := F_Ring_whole.binds (ps := P_Ring_whole) fun _ _ _ _ _ _ us hl => match us, hl with | [_], _ => rfl
  have F_written := fun_mk (st := s_written) l_written c_written k_written
  have B_written := F_written.binds (ps := P_written) fun _ _ _ _ _ _ us hl => match us, hl with | [_], _ => rfl
  have F_is_written_number := fun_mk (st := s_is_written_number) l_is_written_number c_is_written_number k_is_written_number
  have B_is_written_number := F_is_written_number.binds (ps := P_is_written_number) fun _ _ _ _ _ _ us hl => match us, hl with | [_], _ => rfl
  have F_read := fun_mk (st := s_read) l_read c_read k_read
  have B_read := F_read.binds (ps := P_read) fun _ _ _ _ _ _ us hl => match us, hl with | [_], _ => rfl
  have F_law_cell_at := fun_mk (st := s_law_cell_at) l_law_cell_at c_law_cell_at k_law_cell_at
  have B_law_cell_at := F_law_cell_at.binds (ps := P_law_cell_at) fun _ _ _ _ _ _ us hl => match us, hl with | [_, _], _ => rfl
  have F_law_draw := fun_mk (st := s_law_draw) l_law_draw c_law_draw k_law_draw
  have B_law_draw := F_law_draw.binds (ps := P_law_draw) fun _ _ _ _ _ _ us hl => match us, hl with | [_, _, _], _ => rfl
  have F_law_houses := fun_mk (st := s_law_houses) l_law_houses c_law_houses k_law_houses
  have B_law_houses := F_law_houses.binds (ps := P_law_houses) fun _ _ _ _ _ _ us hl => match us, hl with | [_, _], _ => rfl
  have F_law_number := fun_mk (st := s_law_number) l_law_number c_law_number k_law_number
  have B_law_number := F_law_number.binds (ps := P_law_number) fun _ _ _ _ _ _ us hl => match us, hl with | [_], _ => rfl
  have F_law_in := fun_mk (st := s_law_in) l_law_in c_law_in k_law_in
  have B_law_in := F_law_in.binds (ps := P_law_in) fun _ _ _ _ _ _ us hl => match us, hl with | [_], _ => rfl
  have F_law_refused := fun_mk (st := s_law_refused) l_law_refused c_law_refused k_law_refused
  have B_law_refused := F_law_refused.binds (ps := P_law_refused) fun _ _ _ _ _ _ us hl => match us, hl with | [_], _ => rfl
  have F_law_right := fun_mk (st := s_law_right) l_law_right c_law_right k_law_right
  have B_law_right := F_law_right.binds (ps := P_law_right) fun _ _ _ _ _ _ us hl => match us, hl with | [_], _ => rfl
  have F_law_few := fun_mk (st := s_law_few) l_law_few c_law_few k_law_few
  have B_law_few := F_law_few.binds (ps := P_law_few) fun _ _ _ _ _ _ us hl => match us, hl with | [], _ => rfl
  have F_law := fun_mk (st := s_law) l_law c_law k_law
  have B_law := F_law.binds (ps := P_law) fun _ _ _ _ _ _ us hl => match us, hl with | [_], _ => rfl
  exact ⟨⟨f_Lacking_init__, _, f_is_whole_number, _, f_is_house, _, f_are_houses, _, f_Ring_init__, _, f_Ring_houses, _, f_Ring_whole, _, f_written, _, f_is_written_number, _, f_read, _, f_law_cell_at, _, f_law_draw, _, f_law_houses, _, f_law_number, _, f_law_in, _, f_law_refused, _, f_law_right, _, f_law_few, _, f_law, _, C_Ring, C_RingError, C_BadRing, C_BadTolls, C_BadMost, C_Unlike, C_Lacking, C_BadText, v_FARTHEST_NUMBER, v_FEWEST_HOUSES, v_FIGURES⟩,
    ⟨F_Lacking_init__,
     B_Lacking_init__,
     F_is_whole_number,
     B_is_whole_number,
     PySem.W.mg_of X G a_is_whole_number,
     F_is_house,
     B_is_house,
     PySem.W.mg_of X G a_is_house,
     F_are_houses,
     B_are_houses,
     PySem.W.mg_of X G a_are_houses,
     F_Ring_init__,
     B_Ring_init__,
     F_Ring_houses,
     B_Ring_houses,
     F_Ring_whole,
     B_Ring_whole,
     F_written,
     B_written,
     PySem.W.mg_of X G a_written,
     F_is_written_number,
     B_is_written_number,
     PySem.W.mg_of X G a_is_written_number,
     F_read,
     B_read,
     PySem.W.mg_of X G a_read,
     F_law_cell_at,
     B_law_cell_at,
     PySem.W.mg_of X G a_law_cell_at,
     F_law_draw,
     B_law_draw,
     PySem.W.mg_of X G a_law_draw,
     F_law_houses,
     B_law_houses,
     PySem.W.mg_of X G a_law_houses,
     F_law_number,
     B_law_number,
     PySem.W.mg_of X G a_law_number,
     F_law_in,
     B_law_in,
     PySem.W.mg_of X G a_law_in,
     F_law_refused,
     B_law_refused,
     PySem.W.mg_of X G a_law_refused,
     F_law_right,
     B_law_right,
     PySem.W.mg_of X G a_law_right,
     F_law_few,
     B_law_few,
     PySem.W.mg_of X G a_law_few,
     F_law,
     B_law,
     PySem.W.mg_of X G a_law,
     PySem.W.mg_of X G aC_Ring,
     ⟨pg_Ring, hd_Ring, po_Ring, sa_Ring⟩,
     ⟨mk_Ring, a_Ring_init__, i_Ring_init__, kc_Ring⟩,
     ⟨a_Ring_houses, i_Ring_houses, k_Ring_houses⟩,
     ⟨a_Ring_whole, i_Ring_whole, k_Ring_whole⟩,
     n_Ring_numbers,
     PySem.W.mg_of X G aC_RingError,
     yx_RingError,
     yxm_RingError_RingError,
     PySem.W.mg_of X G aC_BadRing,
     yx_BadRing,
     yxm_BadRing_BadRing,
     yxm_BadRing_RingError,
     PySem.W.mg_of X G aC_BadTolls,
     yx_BadTolls,
     yxm_BadTolls_BadTolls,
     yxm_BadTolls_RingError,
     PySem.W.mg_of X G aC_BadMost,
     yx_BadMost,
     yxm_BadMost_BadMost,
     yxm_BadMost_RingError,
     PySem.W.mg_of X G aC_Unlike,
     yx_Unlike,
     yxm_Unlike_Unlike,
     yxm_Unlike_RingError,
     PySem.W.mg_of X G aC_Lacking,
     yx_Lacking,
     yxn_Lacking,
     ykc_Lacking,
     yxs_Lacking,
     yxl_Lacking,
     yxa_Lacking_total,
     yr1_RingError,
     yr2_RingError,
     yr3_RingError,
     yxm_Lacking_Lacking,
     yxm_Lacking_RingError,
     PySem.W.mg_of X G aC_BadText,
     yx_BadText,
     ykc_BadText,
     yxm_BadText_BadText,
     yxm_BadText_RingError,
     ⟨xk1_RingError, xk2_RingError, xk3_RingError, xk4_RingError, xk5_RingError, xk6_RingError, j3, j4⟩,
     ⟨xk1_BadRing, xk2_BadRing, xk3_BadRing, xk4_BadRing, xk5_BadRing, xk6_BadRing, j3, j4⟩,
     ⟨xk1_BadTolls, xk2_BadTolls, xk3_BadTolls, xk4_BadTolls, xk5_BadTolls, xk6_BadTolls, j3, j4⟩,
     ⟨xk1_BadMost, xk2_BadMost, xk3_BadMost, xk4_BadMost, xk5_BadMost, xk6_BadMost, j3, j4⟩,
     ⟨xk1_Unlike, xk2_Unlike, xk3_Unlike, xk4_Unlike, xk5_Unlike, xk6_Unlike, j3, j4⟩,
     ⟨xk1_Lacking, xk2_Lacking, xk3_Lacking, xk4_Lacking, xk5_Lacking, xk6_Lacking, j3, j4⟩,
     ⟨xk1_BadText, xk2_BadText, xk3_BadText, xk4_BadText, xk5_BadText, xk6_BadText, j3, j4⟩,
     kit_b K "str" "str" true (by decide +kernel),
     kit_b K "NoneType" "str" false (by decide +kernel),
     kit_b K "int" "str" false (by decide +kernel),
     kit_b K "list" "str" false (by decide +kernel),
     kit_b K "bool" "str" false (by decide +kernel),
     isi_BadText_BadMost,
     isi_BadText_BadRing,
     isi_BadText_BadTolls,
     isi_BadText_Lacking,
     isi_BadText_Unlike,
     isi_BadText_ValueError,
     isi_BadText_BadText,
     isi_BadRing_BadText,
     kit_b K "int" "int" true (by decide +kernel),
     kit_b K "int" "bool" false (by decide +kernel),
     kit_b K "list" "list" true (by decide +kernel),
     PySem.W.mg_none_of X G z_ValueError,
     PySem.W.mg_none_of X G z_abs,
     PySem.W.mg_none_of X G z_all,
     PySem.W.mg_none_of X G z_any,
     PySem.W.mg_none_of X G z_bool,
     PySem.W.mg_none_of X G z_int,
     PySem.W.mg_none_of X G z_isinstance,
     PySem.W.mg_none_of X G z_len,
     PySem.W.mg_none_of X G z_list,
     PySem.W.mg_none_of X G z_range,
     PySem.W.mg_none_of X G z_str,
     PySem.W.mg_none_of X G z_sum,
     PySem.W.mg_of X G v_FARTHEST_NUMBER_,
     PySem.W.mg_of X G v_FEWEST_HOUSES_,
     PySem.W.mg_of X G v_FIGURES_⟩⟩
theorem all_mk {l : PySem.W.OpenLaw} {w : World} {K : PySem.W.Frag} {h : Heap} {mg : Str → Option Value} {fa : Addr} (X : K.In h) (G : h.Ns mainGlobals mg) (hfa : mg "law" = some (.ref fa))
    {f_Lacking_init__ : Addr} {oc_Lacking_init__ kV_Lacking_init__ dc_Lacking_init__ pm_Lacking_init__ cd_Lacking_init__ ct_Lacking_init__ : Value} {od_Lacking_init__ an_Lacking_init__ : Option Addr} {sl_Lacking_init__ : Array (Option Value)}
    {f_is_whole_number : Addr} {oc_is_whole_number kV_is_whole_number dc_is_whole_number pm_is_whole_number cd_is_whole_number ct_is_whole_number : Value} {od_is_whole_number an_is_whole_number : Option Addr} {sl_is_whole_number : Array (Option Value)}
    {f_is_house : Addr} {oc_is_house kV_is_house dc_is_house pm_is_house cd_is_house ct_is_house : Value} {od_is_house an_is_house : Option Addr} {sl_is_house : Array (Option Value)}
    {f_are_houses : Addr} {oc_are_houses kV_are_houses dc_are_houses pm_are_houses cd_are_houses ct_are_houses : Value} {od_are_houses an_are_houses : Option Addr} {sl_are_houses : Array (Option Value)}
    {f_Ring_init__ : Addr} {oc_Ring_init__ kV_Ring_init__ dc_Ring_init__ pm_Ring_init__ cd_Ring_init__ ct_Ring_init__ : Value} {od_Ring_init__ an_Ring_init__ : Option Addr} {sl_Ring_init__ : Array (Option Value)}
    {f_Ring_houses : Addr} {oc_Ring_houses kV_Ring_houses dc_Ring_houses pm_Ring_houses cd_Ring_houses ct_Ring_houses : Value} {od_Ring_houses an_Ring_houses : Option Addr} {sl_Ring_houses : Array (Option Value)}
    {f_Ring_whole : Addr} {oc_Ring_whole kV_Ring_whole dc_Ring_whole pm_Ring_whole cd_Ring_whole ct_Ring_whole : Value} {od_Ring_whole an_Ring_whole : Option Addr} {sl_Ring_whole : Array (Option Value)}
    {f_written : Addr} {oc_written kV_written dc_written pm_written cd_written ct_written : Value} {od_written an_written : Option Addr} {sl_written : Array (Option Value)}
    {f_is_written_number : Addr} {oc_is_written_number kV_is_written_number dc_is_written_number pm_is_written_number cd_is_written_number ct_is_written_number : Value} {od_is_written_number an_is_written_number : Option Addr} {sl_is_written_number : Array (Option Value)}
    {f_read : Addr} {oc_read kV_read dc_read pm_read cd_read ct_read : Value} {od_read an_read : Option Addr} {sl_read : Array (Option Value)}
    {f_law_cell_at : Addr} {oc_law_cell_at kV_law_cell_at dc_law_cell_at pm_law_cell_at cd_law_cell_at ct_law_cell_at : Value} {od_law_cell_at an_law_cell_at : Option Addr} {sl_law_cell_at : Array (Option Value)}
    {f_law_draw : Addr} {oc_law_draw kV_law_draw dc_law_draw pm_law_draw cd_law_draw ct_law_draw : Value} {od_law_draw an_law_draw : Option Addr} {sl_law_draw : Array (Option Value)}
    {f_law_houses : Addr} {oc_law_houses kV_law_houses dc_law_houses pm_law_houses cd_law_houses ct_law_houses : Value} {od_law_houses an_law_houses : Option Addr} {sl_law_houses : Array (Option Value)}
    {f_law_number : Addr} {oc_law_number kV_law_number dc_law_number pm_law_number cd_law_number ct_law_number : Value} {od_law_number an_law_number : Option Addr} {sl_law_number : Array (Option Value)}
    {f_law_in : Addr} {oc_law_in kV_law_in dc_law_in pm_law_in cd_law_in ct_law_in : Value} {od_law_in an_law_in : Option Addr} {sl_law_in : Array (Option Value)}
    {f_law_refused : Addr} {oc_law_refused kV_law_refused dc_law_refused pm_law_refused cd_law_refused ct_law_refused : Value} {od_law_refused an_law_refused : Option Addr} {sl_law_refused : Array (Option Value)}
    {f_law_right : Addr} {oc_law_right kV_law_right dc_law_right pm_law_right cd_law_right ct_law_right : Value} {od_law_right an_law_right : Option Addr} {sl_law_right : Array (Option Value)}
    {f_law_few : Addr} {oc_law_few kV_law_few dc_law_few pm_law_few cd_law_few ct_law_few : Value} {od_law_few an_law_few : Option Addr} {sl_law_few : Array (Option Value)}
    {f_law : Addr} {oc_law kV_law dc_law pm_law cd_law ct_law : Value} {od_law an_law : Option Addr} {sl_law : Array (Option Value)}
    {C_Ring : Addr}
    {C_RingError : Addr}
    {C_BadRing : Addr}
    {C_BadTolls : Addr}
    {C_BadMost : Addr}
    {C_Unlike : Addr}
    {C_Lacking : Addr}
    {C_BadText : Addr}
    {v_FARTHEST_NUMBER : Tok}
    {v_FEWEST_HOUSES : Tok}
    {v_FIGURES : Tok}
    (aC_Ring : PySem.W.nsIn K mainGlobals "Ring" = some (some (.ref C_Ring)))
    (aC_RingError : PySem.W.nsIn K mainGlobals "RingError" = some (some (.ref C_RingError)))
    (aC_BadRing : PySem.W.nsIn K mainGlobals "BadRing" = some (some (.ref C_BadRing)))
    (aC_BadTolls : PySem.W.nsIn K mainGlobals "BadTolls" = some (some (.ref C_BadTolls)))
    (aC_BadMost : PySem.W.nsIn K mainGlobals "BadMost" = some (some (.ref C_BadMost)))
    (aC_Unlike : PySem.W.nsIn K mainGlobals "Unlike" = some (some (.ref C_Unlike)))
    (aC_Lacking : PySem.W.nsIn K mainGlobals "Lacking" = some (some (.ref C_Lacking)))
    (aC_BadText : PySem.W.nsIn K mainGlobals "BadText" = some (some (.ref C_BadText)))
    (a_Lacking_init__ : PySem.W.findIn K (.ref C_Lacking) "__init__" = some (some (.ref f_Lacking_init__)))
    (i_Lacking_init__ : PySem.W.isFn K (.ref f_Lacking_init__) = true)
    (l_Lacking_init__ : K.lookup f_Lacking_init__ = some ⟨oc_Lacking_init__, od_Lacking_init__, .func (PySem.W.fnOf "__init__" "Lacking.__init__" (defArgs s_Lacking_init__) (defBody s_Lacking_init__) (defScope s_Lacking_init__) .none kV_Lacking_init__ dc_Lacking_init__ pm_Lacking_init__ an_Lacking_init__ cd_Lacking_init__ ct_Lacking_init__), sl_Lacking_init__⟩)
    (c_Lacking_init__ : PySem.W.codeIn K cd_Lacking_init__ "Lacking.__init__" = true)
    (k_Lacking_init__ : PySem.W.keepIn K (.ref f_Lacking_init__) = true)
    (a_is_whole_number : PySem.W.nsIn K mainGlobals "is_whole_number" = some (some (.ref f_is_whole_number)))
    (l_is_whole_number : K.lookup f_is_whole_number = some ⟨oc_is_whole_number, od_is_whole_number, .func (PySem.W.fnOf "is_whole_number" "is_whole_number" (defArgs s_is_whole_number) (defBody s_is_whole_number) (defScope s_is_whole_number) .none kV_is_whole_number dc_is_whole_number pm_is_whole_number an_is_whole_number cd_is_whole_number ct_is_whole_number), sl_is_whole_number⟩)
    (c_is_whole_number : PySem.W.codeIn K cd_is_whole_number "is_whole_number" = true)
    (k_is_whole_number : PySem.W.keepIn K (.ref f_is_whole_number) = true)
    (a_is_house : PySem.W.nsIn K mainGlobals "is_house" = some (some (.ref f_is_house)))
    (l_is_house : K.lookup f_is_house = some ⟨oc_is_house, od_is_house, .func (PySem.W.fnOf "is_house" "is_house" (defArgs s_is_house) (defBody s_is_house) (defScope s_is_house) .none kV_is_house dc_is_house pm_is_house an_is_house cd_is_house ct_is_house), sl_is_house⟩)
    (c_is_house : PySem.W.codeIn K cd_is_house "is_house" = true)
    (k_is_house : PySem.W.keepIn K (.ref f_is_house) = true)
    (a_are_houses : PySem.W.nsIn K mainGlobals "are_houses" = some (some (.ref f_are_houses)))
    (l_are_houses : K.lookup f_are_houses = some ⟨oc_are_houses, od_are_houses, .func (PySem.W.fnOf "are_houses" "are_houses" (defArgs s_are_houses) (defBody s_are_houses) (defScope s_are_houses) .none kV_are_houses dc_are_houses pm_are_houses an_are_houses cd_are_houses ct_are_houses), sl_are_houses⟩)
    (c_are_houses : PySem.W.codeIn K cd_are_houses "are_houses" = true)
    (k_are_houses : PySem.W.keepIn K (.ref f_are_houses) = true)
    (a_Ring_init__ : PySem.W.findIn K (.ref C_Ring) "__init__" = some (some (.ref f_Ring_init__)))
    (i_Ring_init__ : PySem.W.isFn K (.ref f_Ring_init__) = true)
    (l_Ring_init__ : K.lookup f_Ring_init__ = some ⟨oc_Ring_init__, od_Ring_init__, .func (PySem.W.fnOf "__init__" "Ring.__init__" (defArgs s_Ring_init__) (defBody s_Ring_init__) (defScope s_Ring_init__) .none kV_Ring_init__ dc_Ring_init__ pm_Ring_init__ an_Ring_init__ cd_Ring_init__ ct_Ring_init__), sl_Ring_init__⟩)
    (c_Ring_init__ : PySem.W.codeIn K cd_Ring_init__ "Ring.__init__" = true)
    (k_Ring_init__ : PySem.W.keepIn K (.ref f_Ring_init__) = true)
    (a_Ring_houses : PySem.W.findIn K (.ref C_Ring) "houses" = some (some (.ref f_Ring_houses)))
    (i_Ring_houses : PySem.W.isFn K (.ref f_Ring_houses) = true)
    (l_Ring_houses : K.lookup f_Ring_houses = some ⟨oc_Ring_houses, od_Ring_houses, .func (PySem.W.fnOf "houses" "Ring.houses" (defArgs s_Ring_houses) (defBody s_Ring_houses) (defScope s_Ring_houses) .none kV_Ring_houses dc_Ring_houses pm_Ring_houses an_Ring_houses cd_Ring_houses ct_Ring_houses), sl_Ring_houses⟩)
    (c_Ring_houses : PySem.W.codeIn K cd_Ring_houses "Ring.houses" = true)
    (k_Ring_houses : PySem.W.keepIn K (.ref f_Ring_houses) = true)
    (a_Ring_whole : PySem.W.findIn K (.ref C_Ring) "whole" = some (some (.ref f_Ring_whole)))
    (i_Ring_whole : PySem.W.isFn K (.ref f_Ring_whole) = true)
    (l_Ring_whole : K.lookup f_Ring_whole = some ⟨oc_Ring_whole, od_Ring_whole, .func (PySem.W.fnOf "whole" "Ring.whole" (defArgs s_Ring_whole) (defBody s_Ring_whole) (defScope s_Ring_whole) .none kV_Ring_whole dc_Ring_whole pm_Ring_whole an_Ring_whole cd_Ring_whole ct_Ring_whole), sl_Ring_whole⟩)
    (c_Ring_whole : PySem.W.codeIn K cd_Ring_whole "Ring.whole" = true)
    (k_Ring_whole : PySem.W.keepIn K (.ref f_Ring_whole) = true)
    (a_written : PySem.W.nsIn K mainGlobals "written" = some (some (.ref f_written)))
    (l_written : K.lookup f_written = some ⟨oc_written, od_written, .func (PySem.W.fnOf "written" "written" (defArgs s_written) (defBody s_written) (defScope s_written) .none kV_written dc_written pm_written an_written cd_written ct_written), sl_written⟩)
    (c_written : PySem.W.codeIn K cd_written "written" = true)
    (k_written : PySem.W.keepIn K (.ref f_written) = true)
    (a_is_written_number : PySem.W.nsIn K mainGlobals "is_written_number" = some (some (.ref f_is_written_number)))
    (l_is_written_number : K.lookup f_is_written_number = some ⟨oc_is_written_number, od_is_written_number, .func (PySem.W.fnOf "is_written_number" "is_written_number" (defArgs s_is_written_number) (defBody s_is_written_number) (defScope s_is_written_number) .none kV_is_written_number dc_is_written_number pm_is_written_number an_is_written_number cd_is_written_number ct_is_written_number), sl_is_written_number⟩)
    (c_is_written_number : PySem.W.codeIn K cd_is_written_number "is_written_number" = true)
    (k_is_written_number : PySem.W.keepIn K (.ref f_is_written_number) = true)
    (a_read : PySem.W.nsIn K mainGlobals "read" = some (some (.ref f_read)))
    (l_read : K.lookup f_read = some ⟨oc_read, od_read, .func (PySem.W.fnOf "read" "read" (defArgs s_read) (defBody s_read) (defScope s_read) .none kV_read dc_read pm_read an_read cd_read ct_read), sl_read⟩)
    (c_read : PySem.W.codeIn K cd_read "read" = true)
    (k_read : PySem.W.keepIn K (.ref f_read) = true)
    (a_law_cell_at : PySem.W.nsIn K mainGlobals "_law_cell_at" = some (some (.ref f_law_cell_at)))
    (l_law_cell_at : K.lookup f_law_cell_at = some ⟨oc_law_cell_at, od_law_cell_at, .func (PySem.W.fnOf "_law_cell_at" "_law_cell_at" (defArgs s_law_cell_at) (defBody s_law_cell_at) (defScope s_law_cell_at) .none kV_law_cell_at dc_law_cell_at pm_law_cell_at an_law_cell_at cd_law_cell_at ct_law_cell_at), sl_law_cell_at⟩)
    (c_law_cell_at : PySem.W.codeIn K cd_law_cell_at "_law_cell_at" = true)
    (k_law_cell_at : PySem.W.keepIn K (.ref f_law_cell_at) = true)
    (a_law_draw : PySem.W.nsIn K mainGlobals "_law_draw" = some (some (.ref f_law_draw)))
    (l_law_draw : K.lookup f_law_draw = some ⟨oc_law_draw, od_law_draw, .func (PySem.W.fnOf "_law_draw" "_law_draw" (defArgs s_law_draw) (defBody s_law_draw) (defScope s_law_draw) .none kV_law_draw dc_law_draw pm_law_draw an_law_draw cd_law_draw ct_law_draw), sl_law_draw⟩)
    (c_law_draw : PySem.W.codeIn K cd_law_draw "_law_draw" = true)
    (k_law_draw : PySem.W.keepIn K (.ref f_law_draw) = true)
    (a_law_houses : PySem.W.nsIn K mainGlobals "_law_houses" = some (some (.ref f_law_houses)))
    (l_law_houses : K.lookup f_law_houses = some ⟨oc_law_houses, od_law_houses, .func (PySem.W.fnOf "_law_houses" "_law_houses" (defArgs s_law_houses) (defBody s_law_houses) (defScope s_law_houses) .none kV_law_houses dc_law_houses pm_law_houses an_law_houses cd_law_houses ct_law_houses), sl_law_houses⟩)
    (c_law_houses : PySem.W.codeIn K cd_law_houses "_law_houses" = true)
    (k_law_houses : PySem.W.keepIn K (.ref f_law_houses) = true)
    (a_law_number : PySem.W.nsIn K mainGlobals "_law_number" = some (some (.ref f_law_number)))
    (l_law_number : K.lookup f_law_number = some ⟨oc_law_number, od_law_number, .func (PySem.W.fnOf "_law_number" "_law_number" (defArgs s_law_number) (defBody s_law_number) (defScope s_law_number) .none kV_law_number dc_law_number pm_law_number an_law_number cd_law_number ct_law_number), sl_law_number⟩)
    (c_law_number : PySem.W.codeIn K cd_law_number "_law_number" = true)
    (k_law_number : PySem.W.keepIn K (.ref f_law_number) = true)
    (a_law_in : PySem.W.nsIn K mainGlobals "_law_in" = some (some (.ref f_law_in)))
    (l_law_in : K.lookup f_law_in = some ⟨oc_law_in, od_law_in, .func (PySem.W.fnOf "_law_in" "_law_in" (defArgs s_law_in) (defBody s_law_in) (defScope s_law_in) .none kV_law_in dc_law_in pm_law_in an_law_in cd_law_in ct_law_in), sl_law_in⟩)
    (c_law_in : PySem.W.codeIn K cd_law_in "_law_in" = true)
    (k_law_in : PySem.W.keepIn K (.ref f_law_in) = true)
    (a_law_refused : PySem.W.nsIn K mainGlobals "_law_refused" = some (some (.ref f_law_refused)))
    (l_law_refused : K.lookup f_law_refused = some ⟨oc_law_refused, od_law_refused, .func (PySem.W.fnOf "_law_refused" "_law_refused" (defArgs s_law_refused) (defBody s_law_refused) (defScope s_law_refused) .none kV_law_refused dc_law_refused pm_law_refused an_law_refused cd_law_refused ct_law_refused), sl_law_refused⟩)
    (c_law_refused : PySem.W.codeIn K cd_law_refused "_law_refused" = true)
    (k_law_refused : PySem.W.keepIn K (.ref f_law_refused) = true)
    (a_law_right : PySem.W.nsIn K mainGlobals "_law_right" = some (some (.ref f_law_right)))
    (l_law_right : K.lookup f_law_right = some ⟨oc_law_right, od_law_right, .func (PySem.W.fnOf "_law_right" "_law_right" (defArgs s_law_right) (defBody s_law_right) (defScope s_law_right) .none kV_law_right dc_law_right pm_law_right an_law_right cd_law_right ct_law_right), sl_law_right⟩)
    (c_law_right : PySem.W.codeIn K cd_law_right "_law_right" = true)
    (k_law_right : PySem.W.keepIn K (.ref f_law_right) = true)
    (a_law_few : PySem.W.nsIn K mainGlobals "_law_few" = some (some (.ref f_law_few)))
    (l_law_few : K.lookup f_law_few = some ⟨oc_law_few, od_law_few, .func (PySem.W.fnOf "_law_few" "_law_few" (defArgs s_law_few) (defBody s_law_few) (defScope s_law_few) .none kV_law_few dc_law_few pm_law_few an_law_few cd_law_few ct_law_few), sl_law_few⟩)
    (c_law_few : PySem.W.codeIn K cd_law_few "_law_few" = true)
    (k_law_few : PySem.W.keepIn K (.ref f_law_few) = true)
    (a_law : PySem.W.nsIn K mainGlobals "law" = some (some (.ref f_law)))
    (l_law : K.lookup f_law = some ⟨oc_law, od_law, .func (PySem.W.fnOf "law" "law" (defArgs s_law) (defBody s_law) (defScope s_law) .none kV_law dc_law pm_law an_law cd_law ct_law), sl_law⟩)
    (c_law : PySem.W.codeIn K cd_law "law" = true)
    (k_law : PySem.W.keepIn K (.ref f_law) = true)
    (pg_Ring : PySem.W.plainGet K C_Ring Str.empty = true)
    (hd_Ring : PySem.W.hasDictIn K C_Ring = true)
    (po_Ring : PySem.W.plainOver K C_Ring = true)
    (sa_Ring : PySem.W.findIn K (.ref C_Ring) "__setattr__" = some (some (.builtin "object.__setattr__")))
    (mk_Ring : PySem.W.makesIn K C_Ring = true)
    (kc_Ring : PySem.W.keepIn K (.ref C_Ring) = true)
    (n_Ring_numbers : PySem.W.findIn K (.ref C_Ring) "numbers" = some none)
    (yx_RingError : PySem.W.excIn K C_RingError bmV "ValueError.__new__" = true)
    (yxm_RingError_RingError : PySem.W.mroIn K C_RingError (.ref C_RingError) = some true)
    (yx_BadRing : PySem.W.excIn K C_BadRing bmV "ValueError.__new__" = true)
    (yxm_BadRing_BadRing : PySem.W.mroIn K C_BadRing (.ref C_BadRing) = some true)
    (yxm_BadRing_RingError : PySem.W.mroIn K C_BadRing (.ref C_RingError) = some true)
    (yx_BadTolls : PySem.W.excIn K C_BadTolls bmV "ValueError.__new__" = true)
    (yxm_BadTolls_BadTolls : PySem.W.mroIn K C_BadTolls (.ref C_BadTolls) = some true)
    (yxm_BadTolls_RingError : PySem.W.mroIn K C_BadTolls (.ref C_RingError) = some true)
    (yx_BadMost : PySem.W.excIn K C_BadMost bmV "ValueError.__new__" = true)
    (yxm_BadMost_BadMost : PySem.W.mroIn K C_BadMost (.ref C_BadMost) = some true)
    (yxm_BadMost_RingError : PySem.W.mroIn K C_BadMost (.ref C_RingError) = some true)
    (yx_Unlike : PySem.W.excIn K C_Unlike bmV "ValueError.__new__" = true)
    (yxm_Unlike_Unlike : PySem.W.mroIn K C_Unlike (.ref C_Unlike) = some true)
    (yxm_Unlike_RingError : PySem.W.mroIn K C_Unlike (.ref C_RingError) = some true)
    (yx_Lacking : excInI K C_Lacking bmV "ValueError.__new__" f_Lacking_init__ = true)
    (yxn_Lacking : PySem.W.isFn K (.ref f_Lacking_init__) = true)
    (ykc_Lacking : PySem.W.keepIn K (.ref C_Lacking) = true)
    (yxs_Lacking : PySem.W.findIn K (.ref C_Lacking) "__setattr__" = some (some (.builtin "object.__setattr__")))
    (yxl_Lacking : PySem.W.lackIn K C_Lacking C_RingError = true)
    (yxa_Lacking_total : PySem.W.findIn K (.ref C_Lacking) "total" = some none)
    (yr1_RingError : PySem.W.specialIn K (.ref C_RingError) "__getattribute__" = some (some (.builtin "type.__getattribute__")))
    (yr2_RingError : PySem.W.readsIn K C_RingError (.type "type") = true)
    (yr3_RingError : PySem.W.findCls K (.ref C_RingError) (.type "type") "__init__" = some (.val (.builtin "ValueError.__init__")))
    (yxm_Lacking_Lacking : PySem.W.mroIn K C_Lacking (.ref C_Lacking) = some true)
    (yxm_Lacking_RingError : PySem.W.mroIn K C_Lacking (.ref C_RingError) = some true)
    (yx_BadText : PySem.W.excIn K C_BadText bmV "ValueError.__new__" = true)
    (ykc_BadText : PySem.W.keepIn K (.ref C_BadText) = true)
    (yxm_BadText_BadText : PySem.W.mroIn K C_BadText (.ref C_BadText) = some true)
    (yxm_BadText_RingError : PySem.W.mroIn K C_BadText (.ref C_RingError) = some true)
    (xk1_RingError : PySem.W.findIn K (.ref C_RingError) "__getattribute__" = some (some (.builtin "BaseException.__getattribute__")))
    (xk2_RingError : PySem.W.findIn K (.ref C_RingError) "__getattr__" = some none)
    (xk3_RingError : PySem.W.mroIn K C_RingError (.type "BaseException") = some true)
    (xk4_RingError : PySem.W.mroIn K C_RingError (.type "object") = some true)
    (xk5_RingError : PySem.W.hasDictIn K C_RingError = true)
    (xk6_RingError : PySem.W.findIn K (.ref C_RingError) "__class__" = some (some (.builtin "object.__class__")))
    (xk1_BadRing : PySem.W.findIn K (.ref C_BadRing) "__getattribute__" = some (some (.builtin "BaseException.__getattribute__")))
    (xk2_BadRing : PySem.W.findIn K (.ref C_BadRing) "__getattr__" = some none)
    (xk3_BadRing : PySem.W.mroIn K C_BadRing (.type "BaseException") = some true)
    (xk4_BadRing : PySem.W.mroIn K C_BadRing (.type "object") = some true)
    (xk5_BadRing : PySem.W.hasDictIn K C_BadRing = true)
    (xk6_BadRing : PySem.W.findIn K (.ref C_BadRing) "__class__" = some (some (.builtin "object.__class__")))
    (xk1_BadTolls : PySem.W.findIn K (.ref C_BadTolls) "__getattribute__" = some (some (.builtin "BaseException.__getattribute__")))
    (xk2_BadTolls : PySem.W.findIn K (.ref C_BadTolls) "__getattr__" = some none)
    (xk3_BadTolls : PySem.W.mroIn K C_BadTolls (.type "BaseException") = some true)
    (xk4_BadTolls : PySem.W.mroIn K C_BadTolls (.type "object") = some true)
    (xk5_BadTolls : PySem.W.hasDictIn K C_BadTolls = true)
    (xk6_BadTolls : PySem.W.findIn K (.ref C_BadTolls) "__class__" = some (some (.builtin "object.__class__")))
    (xk1_BadMost : PySem.W.findIn K (.ref C_BadMost) "__getattribute__" = some (some (.builtin "BaseException.__getattribute__")))
    (xk2_BadMost : PySem.W.findIn K (.ref C_BadMost) "__getattr__" = some none)
    (xk3_BadMost : PySem.W.mroIn K C_BadMost (.type "BaseException") = some true)
    (xk4_BadMost : PySem.W.mroIn K C_BadMost (.type "object") = some true)
    (xk5_BadMost : PySem.W.hasDictIn K C_BadMost = true)
    (xk6_BadMost : PySem.W.findIn K (.ref C_BadMost) "__class__" = some (some (.builtin "object.__class__")))
    (xk1_Unlike : PySem.W.findIn K (.ref C_Unlike) "__getattribute__" = some (some (.builtin "BaseException.__getattribute__")))
    (xk2_Unlike : PySem.W.findIn K (.ref C_Unlike) "__getattr__" = some none)
    (xk3_Unlike : PySem.W.mroIn K C_Unlike (.type "BaseException") = some true)
    (xk4_Unlike : PySem.W.mroIn K C_Unlike (.type "object") = some true)
    (xk5_Unlike : PySem.W.hasDictIn K C_Unlike = true)
    (xk6_Unlike : PySem.W.findIn K (.ref C_Unlike) "__class__" = some (some (.builtin "object.__class__")))
    (xk1_Lacking : PySem.W.findIn K (.ref C_Lacking) "__getattribute__" = some (some (.builtin "BaseException.__getattribute__")))
    (xk2_Lacking : PySem.W.findIn K (.ref C_Lacking) "__getattr__" = some none)
    (xk3_Lacking : PySem.W.mroIn K C_Lacking (.type "BaseException") = some true)
    (xk4_Lacking : PySem.W.mroIn K C_Lacking (.type "object") = some true)
    (xk5_Lacking : PySem.W.hasDictIn K C_Lacking = true)
    (xk6_Lacking : PySem.W.findIn K (.ref C_Lacking) "__class__" = some (some (.builtin "object.__class__")))
    (xk1_BadText : PySem.W.findIn K (.ref C_BadText) "__getattribute__" = some (some (.builtin "BaseException.__getattribute__")))
    (xk2_BadText : PySem.W.findIn K (.ref C_BadText) "__getattr__" = some none)
    (xk3_BadText : PySem.W.mroIn K C_BadText (.type "BaseException") = some true)
    (xk4_BadText : PySem.W.mroIn K C_BadText (.type "object") = some true)
    (xk5_BadText : PySem.W.hasDictIn K C_BadText = true)
    (xk6_BadText : PySem.W.findIn K (.ref C_BadText) "__class__" = some (some (.builtin "object.__class__")))
    (j3 : PySem.W.specialIn K (.builtin "object.__class__") "__get__" = some (some (.builtin "getset_descriptor.__get__")))
    (j4 : PySem.W.takesIn K (.builtin "object.__class__") = some true)
    (isi_BadText_BadMost : PySem.W.kitOne K (.ref C_BadText) (.ref C_BadMost) = some false)
    (isi_BadText_BadRing : PySem.W.kitOne K (.ref C_BadText) (.ref C_BadRing) = some false)
    (isi_BadText_BadTolls : PySem.W.kitOne K (.ref C_BadText) (.ref C_BadTolls) = some false)
    (isi_BadText_Lacking : PySem.W.kitOne K (.ref C_BadText) (.ref C_Lacking) = some false)
    (isi_BadText_Unlike : PySem.W.kitOne K (.ref C_BadText) (.ref C_Unlike) = some false)
    (isi_BadText_ValueError : PySem.W.kitOne K (.ref C_BadText) (.type "ValueError") = some true)
    (isi_BadText_BadText : PySem.W.kitOne K (.ref C_BadText) (.ref C_BadText) = some true)
    (isi_BadRing_BadText : PySem.W.kitOne K (.ref C_BadRing) (.ref C_BadText) = some false)
    (z_ValueError : PySem.W.nsIn K mainGlobals "ValueError" = some none)
    (z_abs : PySem.W.nsIn K mainGlobals "abs" = some none)
    (z_all : PySem.W.nsIn K mainGlobals "all" = some none)
    (z_any : PySem.W.nsIn K mainGlobals "any" = some none)
    (z_bool : PySem.W.nsIn K mainGlobals "bool" = some none)
    (z_int : PySem.W.nsIn K mainGlobals "int" = some none)
    (z_isinstance : PySem.W.nsIn K mainGlobals "isinstance" = some none)
    (z_len : PySem.W.nsIn K mainGlobals "len" = some none)
    (z_list : PySem.W.nsIn K mainGlobals "list" = some none)
    (z_range : PySem.W.nsIn K mainGlobals "range" = some none)
    (z_str : PySem.W.nsIn K mainGlobals "str" = some none)
    (z_sum : PySem.W.nsIn K mainGlobals "sum" = some none)
    (v_FARTHEST_NUMBER_ : PySem.W.nsIn K mainGlobals "FARTHEST_NUMBER" = some (some (.int 1000000 v_FARTHEST_NUMBER)))
    (v_FEWEST_HOUSES_ : PySem.W.nsIn K mainGlobals "FEWEST_HOUSES" = some (some (.int 2 v_FEWEST_HOUSES)))
    (v_FIGURES_ : PySem.W.nsIn K mainGlobals "FIGURES" = some (some (.str "0123456789" v_FIGURES)))
    : ∃ fd : FuncData, (∀ (s : Shared) (v : Value), BindsTo s fd ⟨[v], []⟩ [("_law_script", v)]) ∧ ∀ base : Heap, K.In base → base.Ns mainGlobals mg → FnOk l.prog w K mg base CX0 lawK fa fd ["_law_script"] (sp_law K) := by
  obtain ⟨t, T⟩ := txt_mk X G aC_Ring aC_RingError aC_BadRing aC_BadTolls aC_BadMost aC_Unlike aC_Lacking aC_BadText a_Lacking_init__ i_Lacking_init__ l_Lacking_init__ c_Lacking_init__ k_Lacking_init__ a_is_whole_number l_is_whole_number c_is_whole_number k_is_whole_number a_is_house l_is_house c_is_house k_is_house a_are_houses l_are_houses c_are_houses k_are_houses a_Ring_init__ i_Ring_init__ l_Ring_init__ c_Ring_init__ k_Ring_init__ a_Ring_houses i_Ring_houses l_Ring_houses c_Ring_houses k_Ring_houses a_Ring_whole i_Ring_whole l_Ring_whole c_Ring_whole k_Ring_whole a_written l_written c_written k_written a_is_written_number l_is_written_number c_is_written_number k_is_written_number a_read l_read c_read k_read a_law_cell_at l_law_cell_at c_law_cell_at k_law_cell_at a_law_draw l_law_draw c_law_draw k_law_draw a_law_houses l_law_houses c_law_houses k_law_houses a_law_number l_law_number c_law_number k_law_number a_law_in l_law_in c_law_in k_law_in a_law_refused l_law_refused c_law_refused k_law_refused a_law_right l_law_right c_law_right k_law_right a_law_few l_law_few c_law_few k_law_few a_law l_law c_law k_law pg_Ring hd_Ring po_Ring sa_Ring mk_Ring kc_Ring n_Ring_numbers yx_RingError yxm_RingError_RingError yx_BadRing yxm_BadRing_BadRing yxm_BadRing_RingError yx_BadTolls yxm_BadTolls_BadTolls yxm_BadTolls_RingError yx_BadMost yxm_BadMost_BadMost yxm_BadMost_RingError yx_Unlike yxm_Unlike_Unlike yxm_Unlike_RingError yx_Lacking yxn_Lacking ykc_Lacking yxs_Lacking yxl_Lacking yxa_Lacking_total yr1_RingError yr2_RingError yr3_RingError yxm_Lacking_Lacking yxm_Lacking_RingError yx_BadText ykc_BadText yxm_BadText_BadText yxm_BadText_RingError xk1_RingError xk2_RingError xk3_RingError xk4_RingError xk5_RingError xk6_RingError xk1_BadRing xk2_BadRing xk3_BadRing xk4_BadRing xk5_BadRing xk6_BadRing xk1_BadTolls xk2_BadTolls xk3_BadTolls xk4_BadTolls xk5_BadTolls xk6_BadTolls xk1_BadMost xk2_BadMost xk3_BadMost xk4_BadMost xk5_BadMost xk6_BadMost xk1_Unlike xk2_Unlike xk3_Unlike xk4_Unlike xk5_Unlike xk6_Unlike xk1_Lacking xk2_Lacking xk3_Lacking xk4_Lacking xk5_Lacking xk6_Lacking xk1_BadText xk2_BadText xk3_BadText xk4_BadText xk5_BadText xk6_BadText j3 j4 isi_BadText_BadMost isi_BadText_BadRing isi_BadText_BadTolls isi_BadText_Lacking isi_BadText_Unlike isi_BadText_ValueError isi_BadText_BadText isi_BadRing_BadText z_ValueError z_abs z_all z_any z_bool z_int z_isinstance z_len z_list z_range z_str z_sum v_FARTHEST_NUMBER_ v_FEWEST_HOUSES_ v_FIGURES_
  have e := hfa.symm.trans T.g_law
  cases e
  exact ⟨t.d_law, fun s v => bind1 T.F_law s v, fun base _ _ => ok_law T⟩
theorem walk {l : PySem.W.OpenLaw} {q : Program} {loose : List Str} {XP : (Str → Option Value) → Heap → Prop} {YP : World → Heap → Prop} {d : DefRec} {K : Params → PySem.W.Frag} (hn : l.most = some 63) (hdf : d.params.defaults = [])
    (hY : ∀ (w : World) (h : Heap), YP w h → (K w.params).In h)
    (F : ∀ (w : World) (mg : Str → Option Value) (fa : Addr) (h : Heap), (K w.params).In h → h.Ns mainGlobals mg → mg d.name = some (.ref fa) →
      ∃ fd : FuncData, (∀ (s : Shared) (u : Value), BindsTo s fd ⟨[u], []⟩ [("_law_script", u)]) ∧ ∀ base : Heap, (K w.params).In base → base.Ns mainGlobals mg → FnOk l.prog w (K w.params) mg base CX0 lawK fa fd ["_law_script"] (sp_law (K w.params))) :
    PySem.W.WalkO q loose XP YP l.row.toRowW d [] (fun f vs => PySem.call f vs) :=
  L2.walk_of (n := 63) (k := lawK) (x := "_law_script") (CX := fun _ => CX0) (sp := fun w => sp_law (K w.params)) hn (by decide) hdf ⟨rfl, by decide, by decide⟩ hY F (fun _ _ a ns hl _ hS => ⟨a, ns, rfl, hS, hl, fun _ => rfl⟩) fun _ _ _ _ _ z => z
end Ev
def PySem.W.Fast.tw6779247576230915702 : Unit := ()
def PySem.W.Fast.tw15791186943226829631 : Unit := ()
def PySem.W.Fast.tw2166341582452316753 : Unit := ()
def PySem.W.Fast.tw17625238704995971585 : Unit := ()
def PySem.W.Fast.tw11331950977955379955 : Unit := ()
def PySem.W.Fast.tw17540129691416802234 : Unit := ()
def PySem.W.Fast.tw17572180603378948272 : Unit := ()
def PySem.W.Fast.tw5858051357880081967 : Unit := ()
def PySem.W.Fast.tw11370323806205161028 : Unit := ()
def PySem.W.Fast.tw14537718060035052150 : Unit := ()
def PySem.W.Fast.tw12858914198136772519 : Unit := ()
def PySem.W.Fast.tw6480958239242874066 : Unit := ()
def PySem.W.Fast.tw13982884569170604551 : Unit := ()
def PySem.W.Fast.tw5487380962672813348 : Unit := ()
def PySem.W.Fast.tw6692762179804744018 : Unit := ()
def PySem.W.Fast.tw12380972598477639824 : Unit := ()
def PySem.W.Fast.tw1135639494299872372 : Unit := ()
def PySem.W.Fast.tw14896639220821268503 : Unit := ()
def PySem.W.Fast.tw3516399837149333256 : Unit := ()
def PySem.W.Fast.tw10654339098664375684 : Unit := ()
def PySem.W.Fast.tw17647271998635661246 : Unit := ()
def PySem.W.Fast.tw12342255562128476010 : Unit := ()
def PySem.W.Fast.tw12509308021813344294 : Unit := ()
def PySem.W.Fast.tw5425022476833876705 : Unit := ()
def PySem.W.Fast.tw17250816508099065780 : Unit := ()
def PySem.W.Fast.tw4264693714884483135 : Unit := ()
def PySem.W.Fast.tw8112013816284819684 : Unit := ()
def PySem.W.Fast.tw305876865778723966 : Unit := ()
def PySem.W.Fast.tw14338535036657497831 : Unit := ()
def PySem.W.Fast.tw18072801103759301662 : Unit := ()
def PySem.W.Fast.tw17984302674638950821 : Unit := ()
def PySem.W.Fast.tw15613633321615388791 : Unit := ()
def PySem.W.Fast.tw4207988685176614297 : Unit := ()
def PySem.W.Fast.tw10543674285794807190 : Unit := ()
def PySem.W.Fast.tw10142357057966958735 : Unit := ()
def PySem.W.Fast.tw8326728459462151859 : Unit := ()
def PySem.W.Fast.tw11213857131862067146 : Unit := ()
def PySem.W.Fast.tw530096308446383453 : Unit := ()
def PySem.W.Fast.tw1721260882854989593 : Unit := ()
def PySem.W.Fast.tw9445303693443759736 : Unit := ()
def PySem.W.Fast.tw5662494403421745759 : Unit := ()
def PySem.W.Fast.tw4708437628001499852 : Unit := ()
def PySem.W.Fast.tw9115026503395829450 : Unit := ()
def PySem.W.Fast.tw3340682230235356400 : Unit := ()
def PySem.W.Fast.tw4295184282364601606 : Unit := ()
def PySem.W.Fast.tw10940536874171047621 : Unit := ()
def PySem.W.Fast.tw7455108489472652154 : Unit := ()
def PySem.W.Fast.tw362996621398211100 : Unit := ()
def PySem.W.Fast.tw18093184254168497664 : Unit := ()
def PySem.W.Fast.tw16300926045251538004 : Unit := ()
def PySem.W.Fast.tw16644438242469321293 : Unit := ()
def PySem.W.Fast.tw4322909584711886362 : Unit := ()
def PySem.W.Fast.tw10177644216861343283 : Unit := ()
def PySem.W.Fast.tw2807070386259879828 : Unit := ()
def PySem.W.Fast.tw4370812451056461422 : Unit := ()
def PySem.W.Fast.tw6055350397536672147 : Unit := ()
def PySem.W.Fast.tw13959407021646625761 : Unit := ()
def PySem.W.Fast.tw7382802308217714946 : Unit := ()
def PySem.W.Fast.tw15958693249062106912 : Unit := ()
def PySem.W.Fast.tw6685113339482301151 : Unit := ()
def PySem.W.Fast.tw8528914542657792627 : Unit := ()
def PySem.W.Fast.tw3477048307860479463 : Unit := ()
def PySem.W.Fast.tw14979786853217845631 : Unit := ()
def PySem.W.Fast.tw3408371439658045059 : Unit := ()
def PySem.W.Fast.tw16007742146392021031 : Unit := ()
def PySem.W.Fast.tw5468429112766845825 : Unit := ()
def PySem.W.Fast.tw14917216571661578666 : Unit := ()
def PySem.W.Fast.tw3929110257774769747 : Unit := ()
def PySem.W.Fast.tw6655529742540434846 : Unit := ()
def PySem.W.Fast.tw4874633248455243051 : Unit := ()
def PySem.W.Fast.tw8793936361488338186 : Unit := ()
def PySem.W.Fast.tw17744195951175604809 : Unit := ()
def PySem.W.Fast.tw11897707560082288343 : Unit := ()
def PySem.W.Fast.tw13579532600094842935 : Unit := ()
def PySem.W.Fast.tw5612665497803605606 : Unit := ()
def PySem.W.Fast.tw3789102484222766612 : Unit := ()
def PySem.W.Fast.tw13764406185113456922 : Unit := ()
def PySem.W.Fast.tw12897725835850485146 : Unit := ()
def PySem.W.Fast.tw4076837642703608191 : Unit := ()
def PySem.W.Fast.tw2238726809044765865 : Unit := ()
def PySem.W.Fast.tw9315095183126108402 : Unit := ()
def PySem.W.Fast.tw3891690269240028121 : Unit := ()
def PySem.W.Fast.tw11023037672742160592 : Unit := ()
def PySem.W.Fast.tw17442853500338986391 : Unit := ()
def PySem.W.Fast.tw6076142504401895145 : Unit := ()
def PySem.W.Fast.tw11593634500221642198 : Unit := ()
def PySem.W.Fast.tw746361853361058947 : Unit := ()
def PySem.W.Fast.tw10200692821811864495 : Unit := ()
def PySem.W.Fast.tw2617397257490267200 : Unit := ()
def PySem.W.Fast.tw18153038856896677779 : Unit := ()
def PySem.W.Fast.tw10872331350199584893 : Unit := ()
def PySem.W.Fast.tw9769464667761517057 : Unit := ()
def PySem.W.Fast.tw538072471328459678 : Unit := ()
def PySem.W.Fast.tw14251153394813617349 : Unit := ()
def PySem.W.Fast.tw1554841000576225193 : Unit := ()
def PySem.W.Fast.tw13262509893148993542 : Unit := ()
def PySem.W.Fast.tw2988760926382494425 : Unit := ()
def PySem.W.Fast.tw12994062264635041646 : Unit := ()
def PySem.W.Fast.tw13860519109142184054 : Unit := ()
def PySem.W.Fast.tw7800713346486313158 : Unit := ()
def PySem.W.Fast.tw7957592130819520137 : Unit := ()
def PySem.W.Fast.tw1041089507202510557 : Unit := ()
def PySem.W.Fast.tw6963094334501909238 : Unit := ()
def PySem.W.Fast.tw12515708342169759703 : Unit := ()
def PySem.W.Fast.tw2301542095085310515 : Unit := ()
def PySem.W.Fast.tw5623348935926161523 : Unit := ()
def PySem.W.Fast.tw16640269269169750352 : Unit := ()
def PySem.W.Fast.tw5458211610555868531 : Unit := ()
def PySem.W.Fast.tw2627037012611563603 : Unit := ()
def PySem.W.Fast.tw14319030466417700408 : Unit := ()
def PySem.W.Fast.tw9752958707635004774 : Unit := ()
def PySem.W.Fast.tw14831742040383663551 : Unit := ()
def PySem.W.Fast.tw17830216881416074444 : Unit := ()
def PySem.W.Fast.tw11788235347651061873 : Unit := ()
def PySem.W.Fast.tw1069160990294748974 : Unit := ()
def PySem.W.Fast.tw1930966534985045698 : Unit := ()
def PySem.W.Fast.tw6246321163998528462 : Unit := ()
def PySem.W.Fast.tw5723698257744013152 : Unit := ()
def PySem.W.Fast.tw4891926372327897093 : Unit := ()
def PySem.W.Fast.tw978037574668367903 : Unit := ()
def PySem.W.Fast.tw1678179145975681877 : Unit := ()
def PySem.W.Fast.tw1898198299232692903 : Unit := ()
def PySem.W.Fast.tw11447678202730107612 : Unit := ()
def PySem.W.Fast.tw3425483222550542406 : Unit := ()
def PySem.W.Fast.tw14946011658908763466 : Unit := ()
def PySem.W.Fast.tw1368664558901232621 : Unit := ()
def PySem.W.Fast.tw10629596653269987500 : Unit := ()
def PySem.W.Fast.tw2316801541654654847 : Unit := ()
def PySem.W.Fast.tw14088953875328080677 : Unit := ()
def PySem.W.Fast.tw15903549843887265912 : Unit := ()
def PySem.W.Fast.tw13962369726005222742 : Unit := ()
def PySem.W.Fast.tw5351395793149002618 : Unit := ()
def PySem.W.Fast.tw1143316964212918022 : Unit := ()
def PySem.W.Fast.tw14721768706295110586 : Unit := ()
def PySem.W.Fast.tw1811233038267895904 : Unit := ()
def PySem.W.Fast.tw6781648925930323061 : Unit := ()
def PySem.W.Fast.tw2754928548675204286 : Unit := ()
def PySem.W.Fast.tw8826412950986417014 : Unit := ()
def PySem.W.Fast.tw11574892715239837823 : Unit := ()
def PySem.W.Fast.tw11783885549266179073 : Unit := ()
def PySem.W.Fast.tw11901540264977203547 : Unit := ()
def PySem.W.Fast.tw13593521374466392358 : Unit := ()
def PySem.W.Fast.tw384106996260752396 : Unit := ()
def PySem.W.Fast.tw16097308370149950999 : Unit := ()
def PySem.W.Fast.tw5953548916148224255 : Unit := ()
def PySem.W.Fast.tw14420522993890288436 : Unit := ()
def PySem.W.Fast.tw6065457731668055210 : Unit := ()
def PySem.W.Fast.tw2009410975285650627 : Unit := ()
def PySem.W.Fast.tw5671110436344812922 : Unit := ()
def PySem.W.Fast.tw9880477215030672539 : Unit := ()
def PySem.W.Fast.tw9836762462022893596 : Unit := ()
def PySem.W.Fast.tw4771838677828745279 : Unit := ()
def PySem.W.Fast.tw7851842659921717948 : Unit := ()
def PySem.W.Fast.tw6102598200017131900 : Unit := ()
def PySem.W.Fast.tw10540787761038565225 : Unit := ()
def PySem.W.Fast.tw4186919450375962951 : Unit := ()
def PySem.W.Fast.tw15782028403286498921 : Unit := ()
def PySem.W.Fast.tw5277884907190791784 : Unit := ()
def PySem.W.Fast.tw14634348539859778267 : Unit := ()
def PySem.W.Fast.tw4191954509287049869 : Unit := ()
def PySem.W.Fast.tw15192621036786511410 : Unit := ()
def PySem.W.Fast.tw2080585255829029850 : Unit := ()
def PySem.W.Fast.tw9002036777554335174 : Unit := ()
def PySem.W.Fast.tw11844830282804135396 : Unit := ()
def PySem.W.Fast.tw14777533271620863320 : Unit := ()
def PySem.W.Fast.tw8003851934489216770 : Unit := ()
def PySem.W.Fast.tw6322799859617833849 : Unit := ()
def PySem.W.Fast.tw2258100903070856531 : Unit := ()
def PySem.W.Fast.tw5732273038234451504 : Unit := ()
def PySem.W.Fast.tw11064376196155207736 : Unit := ()
def PySem.W.Fast.tw11119359522104357553 : Unit := ()
def PySem.W.Fast.tw12880261681723691197 : Unit := ()
def PySem.W.Fast.tw15902494354186750515 : Unit := ()
def PySem.W.Fast.tw3897441264318433845 : Unit := ()
def PySem.W.Fast.tw13524894661984269465 : Unit := ()
def PySem.W.Fast.tw8700453104006877758 : Unit := ()
def PySem.W.Fast.tw5349744285536064946 : Unit := ()
def PySem.W.Fast.tw10096114988636441012 : Unit := ()
def PySem.W.Fast.tw16335933062594967670 : Unit := ()
def PySem.W.Fast.tw5162860880652384622 : Unit := ()
def PySem.W.Fast.tw18217045554576603641 : Unit := ()
def PySem.W.Fast.tw3796713501629634231 : Unit := ()
def PySem.W.Fast.tw17250498958144074728 : Unit := ()
def PySem.W.Fast.tw13059754608680883167 : Unit := ()
def PySem.W.Fast.tw11050666896461608092 : Unit := ()
def PySem.W.Fast.tw8166282842860752136 : Unit := ()
def PySem.W.Fast.tw3294818807905147129 : Unit := ()
def PySem.W.Fast.tw12111020878626979668 : Unit := ()
def PySem.W.Fast.tw5108552768948386475 : Unit := ()
def PySem.W.Fast.tw15728780581333166361 : Unit := ()
def PySem.W.Fast.tw15423829168696616455 : Unit := ()
def PySem.W.Fast.tw4416156284888517775 : Unit := ()
def PySem.W.Fast.tw1508624695989179964 : Unit := ()
def PySem.W.Fast.tw18357499963082225512 : Unit := ()
def PySem.W.Fast.tw7676147542775995412 : Unit := ()
def PySem.W.Fast.tw6960840833679253822 : Unit := ()
def PySem.W.Fast.tw8635491873487569289 : Unit := ()
def PySem.W.Fast.tw8927459473049963346 : Unit := ()
def PySem.W.Fast.tw12646738961826393240 : Unit := ()
def PySem.W.Fast.tw15246484825260488552 : Unit := ()
def PySem.W.Fast.tw15683484087065667304 : Unit := ()
def PySem.W.Fast.tw12817780452480740576 : Unit := ()
def PySem.W.Fast.tw14951551621722516255 : Unit := ()
def PySem.W.Fast.tw7441492531301092170 : Unit := ()
def PySem.W.Fast.tw8622709505119435747 : Unit := ()
def PySem.W.Fast.tw10823824931342100984 : Unit := ()
def PySem.W.Fast.tw12275251359737880159 : Unit := ()
def PySem.W.Fast.tw10320015657297266917 : Unit := ()
def PySem.W.Fast.tw9087660722778596020 : Unit := ()
def PySem.W.Fast.tw487732634880821878 : Unit := ()
def PySem.W.Fast.tw5050319701612156077 : Unit := ()
def PySem.W.Fast.tw10305864840932530198 : Unit := ()
def PySem.W.Fast.tw7605600115882240820 : Unit := ()
def PySem.W.Fast.tw854295481906718305 : Unit := ()
def PySem.W.Fast.tw17850373928424562996 : Unit := ()
def PySem.W.Fast.tw15165361115014938191 : Unit := ()
def PySem.W.Fast.tw17121346823388305261 : Unit := ()
def PySem.W.Fast.tw11052594584404822073 : Unit := ()
def PySem.W.Fast.tw13931020926579926392 : Unit := ()
def PySem.W.Fast.tw5500615326698835138 : Unit := ()
def PySem.W.Fast.tw1965716131941349373 : Unit := ()
def PySem.W.Fast.tw8627242107691355789 : Unit := ()
def PySem.W.Fast.tw10787830467844091794 : Unit := ()
def PySem.W.Fast.tw13015838751625987828 : Unit := ()
def PySem.W.Fast.tw15164159065473014131 : Unit := ()
def PySem.W.Fast.tw18144947810452704364 : Unit := ()
def PySem.W.Fast.tw5359434805248463235 : Unit := ()
def PySem.W.Fast.tw12548430914280861562 : Unit := ()
def PySem.W.Fast.tw11461744393541909233 : Unit := ()
def PySem.W.Fast.tw4262206743146096491 : Unit := ()
def PySem.W.Fast.tw4876582226956239481 : Unit := ()
def PySem.W.Fast.tw13114469202338294660 : Unit := ()
def PySem.W.Fast.tw18038516268217462914 : Unit := ()
def PySem.W.Fast.tw10889184847468076017 : Unit := ()
def PySem.W.Fast.tw4353697815720132049 : Unit := ()
def PySem.W.Fast.tw11421717731127625126 : Unit := ()
def PySem.W.Fast.tw4799706807919247998 : Unit := ()
def PySem.W.Fast.tw16110170297536380785 : Unit := ()
def PySem.W.Fast.tw11723304244458060346 : Unit := ()
def PySem.W.Fast.tw9505042554067263991 : Unit := ()
def PySem.W.Fast.tw12694376468949645389 : Unit := ()
def PySem.W.Fast.tw685137871816474368 : Unit := ()
def PySem.W.Fast.tw11476526916700013134 : Unit := ()
def PySem.W.Fast.tw3166829451590568171 : Unit := ()
def PySem.W.Fast.tw12382357238617187971 : Unit := ()
def PySem.W.Fast.tw11245887796248025067 : Unit := ()
def PySem.W.Fast.tw10288788104480643737 : Unit := ()
def PySem.W.Fast.tw446520135857201655 : Unit := ()
def PySem.W.Fast.tw6090490218031089095 : Unit := ()
open PySem PySem.W PyProof.Rows
set_option maxRecDepth 100000 in
set_option maxHeartbeats 0 in
theorem PySem.Challenge.cw_evenring_k06_written_holds : PySem.Challenge.rw_evenring_k06_written.Holds := by
  w_on; o_law; k_head; (case hw => w_witness2)
  k_fill
  refine Ev.walk (l := PySem.Challenge.rw_evenring_k06_written) rfl rfl (fun w h Y => PySem.W.kIn_of Y) ?F
  case F =>
    intro w mg fa h KX G hmg
    refine' Ev.all_mk KX G hmg ?q0 ?q1 ?q2 ?q3 ?q4 ?q5 ?q6 ?q7 ?q8 ?q9 ?q10 ?q11 ?q12 ?q13 ?q14 ?q15 ?q16 ?q17 ?q18 ?q19 ?q20 ?q21 ?q22 ?q23 ?q24 ?q25 ?q26 ?q27 ?q28 ?q29 ?q30 ?q31 ?q32 ?q33 ?q34 ?q35 ?q36 ?q37 ?q38 ?q39 ?q40 ?q41 ?q42 ?q43 ?q44 ?q45 ?q46 ?q47 ?q48 ?q49 ?q50 ?q51 ?q52 ?q53 ?q54 ?q55 ?q56 ?q57 ?q58 ?q59 ?q60 ?q61 ?q62 ?q63 ?q64 ?q65 ?q66 ?q67 ?q68 ?q69 ?q70 ?q71 ?q72 ?q73 ?q74 ?q75 ?q76 ?q77 ?q78 ?q79 ?q80 ?q81 ?q82 ?q83 ?q84 ?q85 ?q86 ?q87 ?q88 ?q89 ?q90 ?q91 ?q92 ?q93 ?q94 ?q95 ?q96 ?q97 ?q98 ?q99 ?q100 ?q101 ?q102 ?q103 ?q104 ?q105 ?q106 ?q107 ?q108 ?q109 ?q110 ?q111 ?q112 ?q113 ?q114 ?q115 ?q116 ?q117 ?q118 ?q119 ?q120 ?q121 ?q122 ?q123 ?q124 ?q125 ?q126 ?q127 ?q128 ?q129 ?q130 ?q131 ?q132 ?q133 ?q134 ?q135 ?q136 ?q137 ?q138 ?q139 ?q140 ?q141 ?q142 ?q143 ?q144 ?q145 ?q146 ?q147 ?q148 ?q149 ?q150 ?q151 ?q152 ?q153 ?q154 ?q155 ?q156 ?q157 ?q158 ?q159 ?q160 ?q161 ?q162 ?q163 ?q164 ?q165 ?q166 ?q167 ?q168 ?q169 ?q170 ?q171 ?q172 ?q173 ?q174 ?q175 ?q176 ?q177 ?q178 ?q179 ?q180 ?q181 ?q182 ?q183 ?q184 ?q185 ?q186 ?q187 ?q188 ?q189 ?q190
    (case q0 => k_is)
    (case q1 => k_is)
    (case q2 => k_is)
    (case q3 => k_is)
    (case q4 => k_is)
    (case q5 => k_is)
    (case q6 => k_is)
    (case q7 => k_is)
    (case q8 => k_is)
    (case q9 => k_is)
    (case q10 => k_is)
    (case q11 => k_is)
    (case q12 => k_is)
    (case q13 => k_is)
    (case q14 => k_is)
    (case q15 => k_is)
    (case q16 => k_is)
    (case q17 => k_is)
    (case q18 => k_is)
    (case q19 => k_is)
    (case q20 => k_is)
    (case q21 => k_is)
    (case q22 => k_is)
    (case q23 => k_is)
    (case q24 => k_is)
    (case q25 => k_is)
    (case q26 => k_is)
    (case q27 => k_is)
    (case q28 => k_is)
    (case q29 => k_is)
    (case q30 => k_is)
    (case q31 => k_is)
    (case q32 => k_is)
    (case q33 => k_is)
    (case q34 => k_is)
    (case q35 => k_is)
    (case q36 => k_is)
    (case q37 => k_is)
    (case q38 => k_is)
    (case q39 => k_is)
    (case q40 => k_is)
    (case q41 => k_is)
    (case q42 => k_is)
    (case q43 => k_is)
    (case q44 => k_is)
    (case q45 => k_is)
    (case q46 => k_is)
    (case q47 => k_is)
    (case q48 => k_is)
    (case q49 => k_is)
    (case q50 => k_is)
    (case q51 => k_is)
    (case q52 => k_is)
    (case q53 => k_is)
    (case q54 => k_is)
    (case q55 => k_is)
    (case q56 => k_is)
    (case q57 => k_is)
    (case q58 => k_is)
    (case q59 => k_is)
    (case q60 => k_is)
    (case q61 => k_is)
    (case q62 => k_is)
    (case q63 => k_is)
    (case q64 => k_is)
    (case q65 => k_is)
    (case q66 => k_is)
    (case q67 => k_is)
    (case q68 => k_is)
    (case q69 => k_is)
    (case q70 => k_is)
    (case q71 => k_is)
    (case q72 => k_is)
    (case q73 => k_is)
    (case q74 => k_is)
    (case q75 => k_is)
    (case q76 => k_is)
    (case q77 => k_is)
    (case q78 => k_is)
    (case q79 => k_is)
    (case q80 => k_is)
    (case q81 => k_is)
    (case q82 => k_is)
    (case q83 => k_is)
    (case q84 => k_is)
    (case q85 => k_is)
    (case q86 => k_is)
    (case q87 => k_is)
    (case q88 => k_is)
    (case q89 => k_is)
    (case q90 => k_is)
    (case q91 => k_is)
    (case q92 => k_is)
    (case q93 => k_is)
    (case q94 => k_is)
    (case q95 => k_exc)
    (case q96 => k_is)
    (case q97 => k_exc)
    (case q98 => k_is)
    (case q99 => k_is)
    (case q100 => k_exc)
    (case q101 => k_is)
    (case q102 => k_is)
    (case q103 => k_exc)
    (case q104 => k_is)
    (case q105 => k_is)
    (case q106 => k_exc)
    (case q107 => k_is)
    (case q108 => k_is)
    (case q109 => kernel_rfl)
    (case q110 => k_is)
    (case q111 => k_is)
    (case q112 => k_is)
    (case q113 => kernel_rfl)
    (case q114 => k_is)
    (case q115 => k_is)
    (case q116 => k_is)
    (case q117 => k_is)
    (case q118 => k_is)
    (case q119 => k_is)
    (case q120 => k_exc)
    (case q121 => k_is)
    (case q122 => k_is)
    (case q123 => k_is)
    (case q124 => k_is)
    (case q125 => k_is)
    (case q126 => k_is)
    (case q127 => k_is)
    (case q128 => k_is)
    (case q129 => k_is)
    (case q130 => k_is)
    (case q131 => k_is)
    (case q132 => k_is)
    (case q133 => k_is)
    (case q134 => k_is)
    (case q135 => k_is)
    (case q136 => k_is)
    (case q137 => k_is)
    (case q138 => k_is)
    (case q139 => k_is)
    (case q140 => k_is)
    (case q141 => k_is)
    (case q142 => k_is)
    (case q143 => k_is)
    (case q144 => k_is)
    (case q145 => k_is)
    (case q146 => k_is)
    (case q147 => k_is)
    (case q148 => k_is)
    (case q149 => k_is)
    (case q150 => k_is)
    (case q151 => k_is)
    (case q152 => k_is)
    (case q153 => k_is)
    (case q154 => k_is)
    (case q155 => k_is)
    (case q156 => k_is)
    (case q157 => k_is)
    (case q158 => k_is)
    (case q159 => k_is)
    (case q160 => k_is)
    (case q161 => k_is)
    (case q162 => k_is)
    (case q163 => k_is)
    (case q164 => k_is)
    (case q165 => k_is)
    (case q166 => k_is)
    (case q167 => k_is)
    (case q168 => kit_is)
    (case q169 => kit_is)
    (case q170 => kit_is)
    (case q171 => kit_is)
    (case q172 => kit_is)
    (case q173 => kit_is)
    (case q174 => kit_is)
    (case q175 => kit_is)
    (case q176 => k_is)
    (case q177 => k_is)
    (case q178 => k_is)
    (case q179 => k_is)
    (case q180 => k_is)
    (case q181 => k_is)
    (case q182 => k_is)
    (case q183 => k_is)
    (case q184 => k_is)
    (case q185 => k_is)
    (case q186 => k_is)
    (case q187 => k_is)
    (case q188 => k_is)
    (case q189 => k_is)
    (case q190 => k_is)


