import PyProof.Rows.All
import Wide.All
import OpenK.AllK
import Wide.FinOn
import Lean
import PyProof.EqAt
import PyProof.EqKinds
import PyProof.TupleCall
import PySem.Challenge.RW_evenring_k07_refused
-- CHANGE: your row's module here, as the last of these rows
set_option Elab.async false
set_option linter.all false
set_option maxRecDepth 100000

namespace L2
open PySem PySem.Spec PyProof.Rows

/-- a key: an int or a str -/
abbrev Key := Sum Int Str
def keyIs : Key → Value → Bool
  | .inl k, v => Value.isInt k v
  | .inr x, v => Value.isStrOf x v
def keyH (w : World) : Key → Int
  | .inl k => hashInt k
  | .inr x => hashStr w x
theorem keyIs_shape : ∀ {k : Key} {v : Value}, keyIs k v = true → (∃ i t, k = Sum.inl i ∧ v = Value.int i t) ∨ (∃ x t, k = Sum.inr x ∧ v = Value.str x t)
  | .inl i, v, h => by
    obtain ⟨t, e⟩ := Value.isInt_shape (k := i) (v := v) h
    exact .inl ⟨i, t, rfl, e⟩
  | .inr x, v, h => by
    obtain ⟨t, e⟩ := Value.isStrOf_shape (x := x) (v := v) h
    exact .inr ⟨x, t, rfl, e⟩
theorem key_ll (a b : Int) : decide ((Sum.inl a : Key) = Sum.inl b) = (a == b) := by
  by_cases e : a = b
  · subst e; simp
  · have h : ¬ (Sum.inl a : Key) = Sum.inl b := fun q => e (Sum.inl.inj q)
    rw [decide_eq_false h]
    exact (beq_eq_false_iff_ne.mpr e).symm
theorem key_rr (a b : Str) : decide ((Sum.inr a : Key) = Sum.inr b) = decide (a = b) := by
  by_cases e : a = b
  · subst e; simp
  · have h : ¬ (Sum.inr a : Key) = Sum.inr b := fun q => e (Sum.inr.inj q)
    rw [decide_eq_false h, decide_eq_false e]
theorem key_lr (a : Int) (b : Str) : decide ((Sum.inl a : Key) = Sum.inr b) = false := decide_eq_false (fun q => nomatch q)
theorem key_rl (a : Str) (b : Int) : decide ((Sum.inr a : Key) = Sum.inl b) = false := decide_eq_false (fun q => nomatch q)

def mixKind (prog : Program) (w : World) : PySem.KeyKind prog w Key where
  is := keyIs
  hash := keyH w
  inj := fun v a b ha hb => by
    rcases keyIs_shape ha with ⟨i, t, rfl, rfl⟩ | ⟨x, t, rfl, rfl⟩
    · rcases keyIs_shape hb with ⟨j, u, rfl, e⟩ | ⟨y, u, rfl, e⟩
      · injection e with e1 _; rw [e1]
      · exact nomatch e
    · rcases keyIs_shape hb with ⟨j, u, rfl, e⟩ | ⟨y, u, rfl, e⟩
      · exact nomatch e
      · injection e with e1 _; rw [e1]
  byValue := fun k v h => by
    rcases keyIs_shape h with ⟨i, t, rfl, rfl⟩ | ⟨x, t, rfl, rfl⟩ <;> rfl
  pyHash := fun hv h => by
    rcases keyIs_shape hv with ⟨i, t, rfl, rfl⟩ | ⟨x, t, rfl, rfl⟩
    · exact wpAny_pyHash_int h
    · exact wpAny_pyHash_str h
  eqBool := fun hu hv h => by
    rcases keyIs_shape hu with ⟨i, t, rfl, rfl⟩ | ⟨x, t, rfl, rfl⟩
    · rcases keyIs_shape hv with ⟨j, u, rfl, rfl⟩ | ⟨y, u, rfl, rfl⟩
      · rw [key_ll] at h; exact wpAny_eqBool_int h
      · rw [key_lr] at h; exact SeqAt.EqAt.int_str i t y u _ _ _ _ h
    · rcases keyIs_shape hv with ⟨j, u, rfl, rfl⟩ | ⟨y, u, rfl, rfl⟩
      · rw [key_rl] at h; exact SeqAt.EqAt.str_int x t j u _ _ _ _ h
      · rw [key_rr] at h; exact wpAny_eqBool_str h
  «strs» := fun k x t v h => by
    rcases keyIs_shape h with ⟨i, u, rfl, e⟩ | ⟨y, u, rfl, e⟩
    · exact nomatch e
    · injection e with e1 _
      subst e1
      cases v <;> rfl

end L2

namespace L2
open PySem PySem.Spec PyProof.Rows

/-- a value, without the heap -/
inductive V where
  | non | bl (b : Bool) | int (i : Int) | str (x : Str) | byt (b : Array UInt8) | flt (b : UInt64) | ref (a : Addr) | ty (n : String)
  deriving DecidableEq

def RelV : V → Value → Prop
  | .non, u => u = Value.none
  | .bl b, u => u = Value.bool b
  | .int i, u => ∃ t, u = Value.int i t
  | .str x, u => ∃ t, u = Value.str x t
  | .byt b, u => ∃ t, u = Value.bytes b t
  | .flt b, u => ∃ t, u = Value.float b t
  | .ref a, u => u = Value.ref a
  | .ty n, u => u = Value.type n

abbrev Vals : List V → List Value → Prop := Paired RelV
theorem Vals.length {xs : List V} {us : List Value} (r : Vals xs us) : xs.length = us.length := Paired.length r
theorem Vals.get : ∀ {xs : List V} {us : List Value} {i : Nat} {x : V}, Vals xs us → xs[i]? = some x → ∃ u, us[i]? = some u ∧ RelV x u
  | _, _, _, _, .nil, e => by simp at e
  | _, _, 0, _, .cons r _, e => by simp at e; subst e; exact ⟨_, rfl, r⟩
  | _, _, i + 1, x, .cons _ t, e => by
    obtain ⟨u, h1, h2⟩ := Vals.get (i := i) (x := x) t (by simpa using e)
    exact ⟨u, by simpa using h1, h2⟩
theorem Vals.set {x : V} {u : Value} (r : RelV x u) : ∀ {xs : List V} {us : List Value} (i : Nat), Vals xs us → Vals (xs.set i x) (us.set i u)
  | _, _, _, .nil => .nil
  | _, _, 0, .cons _ t => .cons r t
  | _, _, i + 1, .cons q t => .cons q (Vals.set r i t)
theorem Vals.append : ∀ {xs ys : List V} {us ws : List Value}, Vals xs us → Vals ys ws → Vals (xs ++ ys) (us ++ ws)
  | _, _, _, _, .nil, s => s
  | _, _, _, _, .cons r t, s => .cons r (Vals.append t s)
theorem Vals.take : ∀ {xs : List V} {us : List Value} (n : Nat), Vals xs us → Vals (xs.take n) (us.take n)
  | _, _, 0, _ => .nil
  | _, _, _ + 1, .nil => .nil
  | _, _, n + 1, .cons r t => .cons r (Vals.take n t)
theorem Vals.drop : ∀ {xs : List V} {us : List Value} (n : Nat), Vals xs us → Vals (xs.drop n) (us.drop n)
  | _, _, 0, r => r
  | _, _, _ + 1, .nil => .nil
  | _, _, n + 1, .cons _ t => Vals.drop n t
theorem Vals.none_of : ∀ {xs : List V} {us : List Value} {i : Nat}, Vals xs us → xs[i]? = none → us[i]? = none := fun {xs us i} r e => by
  have h1 := r.length
  have h2 : xs.length ≤ i := List.getElem?_eq_none_iff.mp e
  exact List.getElem?_eq_none_iff.mpr (by omega)

def RelO : Option V → Option Value → Prop
  | some v, some u => RelV v u
  | none, none => True
  | _, _ => False
def KV {κ : Type} : List (κ × V) → List (κ × Value) → Prop := Paired fun (p : κ × V) (q : κ × Value) => p.1 = q.1 ∧ RelV p.2 q.2

/-- a key of a dict (00_mix): an int or a text -/
def kV : Key → V
  | .inl i => .int i
  | .inr x => .str x

/-- what stands at a tracked address -/
inductive HO where
  /-- a list -/
  | lst (xs : List V)
  /-- a tuple (never changes) -/
  | tup (xs : List V)
  /-- a dict whose keys are ints and texts; one whose keys are tuples of ints and texts (the empty one is both) -/
  | dK (kvs : List (Key × V)) | dT (kvs : List (List Key × V))
  /-- a set of ints: its members, its size -/
  | set (S : Int → Bool) (n : Nat)
  /-- an instance of the class at C, its dict at dx, its attributes -/
  | ins (C dx : Addr) (fs : List (Str × V))
  /-- the dict of the instance at x -/
  | own (x : Addr)
  /-- the dict of an exception -/
  | xd (fs : List (Str × V))
  /-- a bound method, f of x -/
  | met (f x : Addr)
  /-- a range object lo, lo + 1, .. below hi -/
  | rng (lo hi : Int)
  /-- a thing that is known to the object (the script; a dict while a loop walks it): read, never written while it is so -/
  | frz (o : Obj) (u : HO)
  /-- a code object's table -/
  | tbl (ps : Array Value)
  /-- any other thing, by what is true of its one object (a def of one's own: SetO a S n := HO.ext fun h => ..) -/
  | ext (φ : Heap → Prop)

abbrev Hp := Addr → Option HO
def upd (H : Hp) (a : Addr) (o : HO) : Hp := fun b => if b = a then some o else H b
theorem upd_same {H : Hp} {a : Addr} {o : HO} : upd H a o a = some o := by unfold upd; rw [if_pos rfl]
theorem upd_ne {H : Hp} {a b : Addr} {o : HO} (h : b ≠ a) : upd H a o b = H b := by unfold upd; rw [if_neg h]
/-- two objects of different content stand apart -/
theorem ne_of {H : Hp} {a b : Addr} {o u : HO} (h : H a = some o) (h' : H b = some u) (d : o ≠ u) : a ≠ b := by
  intro e; subst e; rw [h] at h'; exact d (Option.some.inj h')
theorem ne_of_none {H : Hp} {a b : Addr} {o : HO} (h : H a = some o) (h' : H b = none) : a ≠ b := by
  intro e; subst e; rw [h] at h'; cases h'

section
variable (P : Program) (w : World)
def ObjOk (H : Hp) (h : Heap) (a : Addr) : HO → Prop
  | .lst xs => xs.length ≤ sizeLine ∧ ∃ (its : List Value) (n : Nat), Vals xs its ∧ h.get? a = some { cls := .type "list", data := .seq its.toArray n }
  | .tup xs => xs.length ≤ sizeLine ∧ ∃ its : List Value, Vals xs its ∧ IsTup h a its.toArray
  | .dK kvs => kvs.length ≤ sizeLine ∧ (a == sysModules) = false ∧ ∃ vs, KV kvs vs ∧ h.DictOf (mixKind P w) a vs
  | .dT kvs => kvs.length ≤ sizeLine ∧ (a == sysModules) = false ∧ ∃ xs : List (List Key × Addr × Value),
      Paired (fun (p : List Key × V) (q : List Key × Addr × Value) => p.1 = q.1 ∧ H q.2.1 = some (.tup (p.1.map kV)) ∧ RelV p.2 q.2.2) kvs xs ∧
      ∃ o es ep, h.get? a = some o ∧ o.ExactDict ∧ o.data = .dict es ep ∧ es.toList = xs.map (entryOfKey (tupleKind (mixKind P w))) ∧ (xs.map (·.1)).Nodup
  | .set S n => h.SetOf (intKind P w) a S n
  | .ins C dx fs => H dx = some (.own a) ∧ fs.length ≤ 1000 ∧ dx ≠ a ∧ h.get? a = some (PySem.W.instObj C dx) ∧
      ∃ mA, h.Ns1 dx mA ∧ (∀ f, RelO (fs.lookup f) (mA f)) ∧ PySem.Within mA (fs.map (·.1))
  | .own _ => ∃ o, h.get? a = some o
  | .xd fs => ∃ mA, h.Ns1 a mA ∧ ∀ f, RelO (fs.lookup f) (mA f)
  | .rng lo hi => ∃ t u v, h.get? a = some { cls := .type "range", data := .fields #[.int lo t, .int hi u, .int 1 v] }
  | .frz o u => h.get? a = some o ∧ ObjOk H h a u
  | .tbl ps => h.get? a = some { cls := .none, data := .fields ps }
  | .met f x => h.get? a = some (PySem.W.methodObj (.ref f) (.ref x))
  | .ext φ => φ h ∧ (∃ o, h.get? a = some o) ∧ ∀ h1 h2 : Heap, φ h1 → (∀ o, h1.get? a = some o → h2.get? a = some o) → φ h2
/-- the abstract heap is held -/
def HOk (H : Hp) (h : Heap) : Prop := ∀ a o, H a = some o → ObjOk P w H h a o
end

section
variable {P : Program} {w : World} {H H' : Hp} {h h' : Heap} {a : Addr} {o : HO}
theorem ObjOk.lt (x : ObjOk P w H h a o) : a < h.objs.size := by
  cases o with
  | lst xs => obtain ⟨_, _, _, _, e⟩ := x; exact Heap.lt_size e
  | tup xs => obtain ⟨_, _, _, p⟩ := x; exact p.lt
  | dK kvs => obtain ⟨_, _, _, _, o, _, _, e, _⟩ := x; exact Heap.lt_size e
  | dT kvs => obtain ⟨_, _, _, _, o, _, _, e, _⟩ := x; exact Heap.lt_size e
  | set S n => obtain ⟨o, _, _, _, e, _⟩ := x; exact Heap.lt_size e
  | ins C dx fs => obtain ⟨_, _, _, e, _⟩ := x; exact Heap.lt_size e
  | own y => obtain ⟨_, e⟩ := x; exact Heap.lt_size e
  | xd fs => obtain ⟨_, ⟨_, _, _, e, _⟩, _⟩ := x; exact Heap.lt_size e
  | rng lo hi => obtain ⟨_, _, _, e⟩ := x; exact Heap.lt_size e
  | frz ob u => obtain ⟨e, _⟩ := x; exact Heap.lt_size e
  | tbl ps => exact Heap.lt_size (show h.get? a = some _ from x)
  | met f y => exact Heap.lt_size (show h.get? a = some _ from x)
  | ext φ => obtain ⟨_, ⟨_, e⟩, _⟩ := x; exact Heap.lt_size e
theorem Paired.mapP {α β : Type} {F G : α → β → Prop} : ∀ {l₁ : List α} {l₂ : List β}, Paired F l₁ l₂ → (∀ a b, F a b → G a b) → Paired G l₁ l₂
  | _, _, .nil, _ => .nil
  | _, _, .cons r t, f => .cons (f _ _ r) (Paired.mapP t f)
/-- what an object's description leans on: its own object, its own dict, the tuples -/
theorem ObjOk.stay (x : ObjOk P w H h a o) (k : ∀ b u, (b = a ∨ H b = some (.own a)) → h.get? b = some u → h'.get? b = some u)
    (ho : ∀ b, H b = some (.own a) → H' b = some (.own a)) (ht : ∀ b xs, H b = some (.tup xs) → H' b = some (.tup xs)) : ObjOk P w H' h' a o := by
  induction o with
  | lst xs => obtain ⟨z, its, n, r, e⟩ := x; exact ⟨z, its, n, r, k _ _ (.inl rfl) e⟩
  | tup xs => obtain ⟨z, its, r, ob, e, c⟩ := x; exact ⟨z, its, r, ob, k _ _ (.inl rfl) e, c⟩
  | dK kvs => obtain ⟨z, y, vs, r, ob, es, ep, e, c⟩ := x; exact ⟨z, y, vs, r, ob, es, ep, k _ _ (.inl rfl) e, c⟩
  | dT kvs =>
    obtain ⟨z, y, xs, r, ob, es, ep, e, c⟩ := x
    exact ⟨z, y, xs, Paired.mapP r fun p q z => ⟨z.1, ht _ _ z.2.1, z.2.2⟩, ob, es, ep, k _ _ (.inl rfl) e, c⟩
  | set S n => obtain ⟨ob, es, ep, t, e, c⟩ := x; exact ⟨ob, es, ep, t, k _ _ (.inl rfl) e, c⟩
  | ins C dx fs =>
    obtain ⟨d, z, ne, e, mA, ⟨od, es, ep, e2, c⟩, r⟩ := x
    exact ⟨ho _ d, z, ne, k _ _ (.inl rfl) e, mA, ⟨od, es, ep, k _ _ (.inr d) e2, c⟩, r⟩
  | own y => obtain ⟨ob, e⟩ := x; exact ⟨ob, k _ _ (.inl rfl) e⟩
  | xd fs => obtain ⟨mA, ⟨od, es, ep, e, c⟩, r⟩ := x; exact ⟨mA, ⟨od, es, ep, k _ _ (.inl rfl) e, c⟩, r⟩
  | rng lo hi => obtain ⟨t, u, v, e⟩ := x; exact ⟨t, u, v, k _ _ (.inl rfl) e⟩
  | frz ob u ih => obtain ⟨e, q⟩ := x; exact ⟨k _ _ (.inl rfl) e, ih q⟩
  | tbl ps =>
    have e : h.get? a = some { cls := .none, data := .fields ps } := x
    show h'.get? a = some { cls := .none, data := .fields ps }
    exact k a _ (.inl rfl) e
  | met f y =>
    have e : h.get? a = some (PySem.W.methodObj (.ref f) (.ref y)) := x
    show h'.get? a = some (PySem.W.methodObj (.ref f) (.ref y))
    exact k a _ (.inl rfl) e
  | ext φ => obtain ⟨p, ⟨o, e⟩, st⟩ := x; exact ⟨st _ _ p fun o q => k _ _ (.inl rfl) q, ⟨o, k _ _ (.inl rfl) e⟩, st⟩
theorem HOk.lt (x : HOk P w H h) (e : H a = some o) : a < h.objs.size := (x a o e).lt
theorem HOk.fresh (x : HOk P w H h) (e : h.objs.size ≤ a) : H a = none := by
  cases q : H a with
  | none => rfl
  | some u => exact absurd (Nat.lt_of_lt_of_le (x.lt q) e) (Nat.lt_irrefl _)
/-- every object of the heap is kept -/
theorem HOk.kept (x : HOk P w H h) (k : ∀ b u, h.get? b = some u → h'.get? b = some u) : HOk P w H h' := fun a o e =>
  (x a o e).stay (fun b u _ q => k b u q) (fun _ q => q) fun _ _ q => q
/-- a new object is laid and tracked -/
theorem HOk.laid (x : HOk P w H h) (k : ∀ b u, h.get? b = some u → h'.get? b = some u) (hp : h.objs.size ≤ a) (new : ObjOk P w (upd H a o) h' a o) : HOk P w (upd H a o) h' := fun b u e => by
  have hn := x.fresh hp
  by_cases hb : b = a
  · subst hb; rw [upd_same] at e; cases e; exact new
  · rw [upd_ne hb] at e
    exact (x b u e).stay (fun c v _ q => k c v q) (fun c q => by rw [upd_ne (ne_of_none q hn)]; exact q) fun c xs q => by rw [upd_ne (ne_of_none q hn)]; exact q
end

/-- what may be read as u: it is u, or a known u -/
def Rd (H : Hp) (a : Addr) (u : HO) : Prop := H a = some u ∨ ∃ o, H a = some (.frz o u)
theorem Rd.of {H : Hp} {a : Addr} {u : HO} (h : H a = some u) : Rd H a u := .inl h
theorem Rd.ok {P : Program} {w : World} {H : Hp} {h : Heap} {a : Addr} {u : HO} (r : Rd H a u) (x : HOk P w H h) : ObjOk P w H h a u := by
  rcases r with r | ⟨o, r⟩
  · exact x a u r
  · obtain ⟨_, q⟩ := x a _ r
    exact q
/-- what may be written -/
def Mut : Option HO → Prop
  | some (.lst _) => True
  | some (.dK _) => True
  | some (.dT _) => True
  | some (.set _ _) => True
  | some (.ins _ _ _) => True
  | some (.ext _) => True
  | _ => False
section
variable {P : Program} {w : World} {H : Hp} {h h' : Heap} {x e : Addr} {o' : HO}
/-- the object at e is changed: x itself, or the dict of the instance x -/
theorem HOk.write (ok : HOk P w H h) (mu : Mut (H x)) (he : e = x ∨ H e = some (.own x)) (k : ∀ b u, b ≠ e → h.get? b = some u → h'.get? b = some u) (heo : ∃ u, h'.get? e = some u)
    (new : ObjOk P w (upd H x o') h' x o') : HOk P w (upd H x o') h' := fun b u q => by
  have nown : ∀ c y, H c = some (.own y) → c ≠ x := fun c y r z => by subst z; rw [r] at mu; exact mu
  have ntup : ∀ c xs, H c = some (.tup xs) → c ≠ x := fun c xs r z => by subst z; rw [r] at mu; exact mu
  by_cases hb : b = x
  · subst hb; rw [upd_same] at q; cases q; exact new
  · rw [upd_ne hb] at q
    by_cases hbe : b = e
    · have q' : H b = some (.own x) := by
        rcases he with z | z
        · exact absurd (hbe.trans z) hb
        · rw [hbe]; exact z
      rw [q] at q'; cases q'
      obtain ⟨v, hv⟩ := heo
      exact ⟨v, by rw [hbe]; exact hv⟩
    · refine (ok b u q).stay (fun c v hc r => k c v ?_ r) (fun c r => by rw [upd_ne (nown c b r)]; exact r) fun c xs r => by rw [upd_ne (ntup c xs r)]; exact r
      rcases hc with rfl | hc
      · exact hbe
      · rintro rfl
        rcases he with z | z
        · exact nown c b hc z
        · rw [hc] at z; cases z; exact hb rfl
end


structure Un (fs ex : List Addr) (H H' : Hp) (h h' : Heap) : Prop where
  keep : ∀ b o, h.get? b = some o → H b = none → b ∉ fs → b ∉ ex → h'.get? b = some o
  slot : ∀ b o, h.get? b = some o → H b = none → b ∈ fs → b ∉ ex → ∃ sl, h'.get? b = some { o with slots := sl }
  free : ∀ b o, h.get? b = some o → H b = none → b ∉ ex → H' b = none
  there : ∀ b o, h.get? b = some o → b ∉ ex → ∃ o', h'.get? b = some o'
  tups : ∀ b xs, H b = some (.tup xs) → H' b = some (.tup xs)
  frzs : ∀ b o u, H b = some (.frz o u) → H' b = some (.frz o u)
  tbls : ∀ b ps, H b = some (.tbl ps) → ∃ more, H' b = some (.tbl (ps ++ more))
section
variable {fs fs' ex ex' : List Addr} {H H1 H2 : Hp} {h h1 h2 h' : Heap} {a x e : Addr} {o : HO}
theorem Un.any (u : Un fs ex H H1 h h1) {b : Addr} {ob : Obj} (q : h.get? b = some ob) (n : H b = none) (hx : b ∉ ex) : ∃ sl, h1.get? b = some { ob with slots := sl } := by
  by_cases hb : b ∈ fs
  · exact u.slot b ob q n hb hx
  · exact ⟨ob.slots, u.keep b ob q n hb hx⟩
theorem Un.trans (a : Un fs ex H H1 h h1) (b : Un fs ex H1 H2 h1 h2) : Un fs ex H H2 h h2 where
  keep := fun c ob q n hc hx => b.keep c ob (a.keep c ob q n hc hx) (a.free c ob q n hx) hc hx
  slot := fun c ob q n hc hx => by
    obtain ⟨sl, e1⟩ := a.slot c ob q n hc hx
    obtain ⟨sl', e2⟩ := b.slot c _ e1 (a.free c ob q n hx) hc hx
    exact ⟨sl', e2⟩
  free := fun c ob q n hx => by
    obtain ⟨o', e1⟩ := a.there c ob q hx
    exact b.free c o' e1 (a.free c ob q n hx) hx
  there := fun c ob q hx => by
    obtain ⟨o', e1⟩ := a.there c ob q hx
    exact b.there c o' e1 hx
  tups := fun c xs q => b.tups c xs (a.tups c xs q)
  frzs := fun c ob xs q => b.frzs c ob xs (a.frzs c ob xs q)
  tbls := fun c ps q => by
    obtain ⟨m1, e1⟩ := a.tbls c ps q
    obtain ⟨m2, e2⟩ := b.tbls c _ e1
    exact ⟨m1 ++ m2, by rw [e2, Array.append_assoc]⟩
theorem Un.kept (k : ∀ b u, h.get? b = some u → h'.get? b = some u) : Un fs ex H H h h' :=
  ⟨fun b ob q _ _ _ => k b ob q, fun b ob q _ _ _ => ⟨ob.slots, k b ob q⟩, fun _ _ _ n _ => n, fun b ob q _ => ⟨ob, k b ob q⟩, fun _ _ q => q, fun _ _ _ q => q, fun _ ps q => ⟨#[], by rw [q]; simp⟩⟩
theorem Un.refl : Un fs ex H H h h := Un.kept fun _ _ q => q
theorem Un.laid (k : ∀ b u, h.get? b = some u → h'.get? b = some u) (hp : h.objs.size ≤ a) (hn : H a = none) : Un fs ex H (upd H a o) h h' where
  keep := fun b u q _ _ _ => k b u q
  slot := fun b u q _ _ _ => ⟨u.slots, k b u q⟩
  free := fun b u q n _ => by rw [upd_ne (Nat.ne_of_lt (Nat.lt_of_lt_of_le (Heap.lt_size q) hp))]; exact n
  there := fun b u q _ => ⟨u, k b u q⟩
  tups := fun b xs q => by rw [upd_ne (ne_of_none q hn)]; exact q
  frzs := fun b u xs q => by rw [upd_ne (ne_of_none q hn)]; exact q
  tbls := fun b ps q => ⟨#[], by rw [upd_ne (ne_of_none q hn), q]; simp⟩
theorem Un.write (mu : Mut (H x)) (he : e = x ∨ H e = some (.own x)) (k : ∀ b u, b ≠ e → h.get? b = some u → h'.get? b = some u) (heo : ∃ u, h'.get? e = some u) : Un fs ex H (upd H x o) h h' := by
  have hx : ∀ b, H b = none → b ≠ x := fun b n z => by subst z; rw [n] at mu; exact mu
  have hb : ∀ b, H b = none → b ≠ e := fun b n z => by
    subst z
    rcases he with r | r
    · exact hx b n r
    · rw [n] at r; cases r
  have hm : ∀ b u, H b = some u → ¬ Mut (some u) → b ≠ x := fun b u q nm z => by subst z; rw [q] at mu; exact nm mu
  refine ⟨fun b u q n _ _ => k b u (hb b n) q, fun b u q n _ _ => ⟨u.slots, k b u (hb b n) q⟩, fun b u q n _ => by rw [upd_ne (hx b n)]; exact n, fun b u q _ => ?_,
    fun b xs q => by rw [upd_ne (hm b _ q fun z => z)]; exact q, fun b u xs q => by rw [upd_ne (hm b _ q fun z => z)]; exact q, fun b ps q => ⟨#[], by rw [upd_ne (hm b _ q fun z => z), q]; simp⟩⟩
  by_cases hbe : b = e
  · subst hbe; exact heo
  · exact ⟨u, k b u hbe q⟩
theorem Un.mono (u : Un fs ex H H1 h h1) (hs : ∀ b ∈ fs, b ∈ fs') (hx : ∀ b ∈ ex, b ∈ ex') : Un fs' ex' H H1 h h1 :=
  ⟨fun b ob q n hb he => u.keep b ob q n (fun z => hb (hs b z)) fun z => he (hx b z), fun _ _ q n _ he => u.any q n fun z => he (hx _ z), fun b ob q n he => u.free b ob q n fun z => he (hx b z), fun b ob q he => u.there b ob q fun z => he (hx b z), u.tups, u.frzs, u.tbls⟩
end


def trk (h : Heap) (H : Hp) : List Addr := (List.range h.objs.size).filter fun a => (H a).isSome
def hidT (h : Heap) (H : Hp) : Heap := PySem.W.hideAll h (trk h H)
theorem hidT_size (h : Heap) (H : Hp) : (hidT h H).objs.size = h.objs.size := PySem.W.hideAll_size _ _
theorem hidT_get {h : Heap} {H : Hp} {b : Addr} {o : Obj} (e : h.get? b = some o) (n : H b = none) : (hidT h H).get? b = some o :=
  PySem.W.hideAll_get _ e fun hm => by
    have q : (H b).isSome = true := (List.mem_filter.mp hm).2
    rw [n] at q; simp at q
theorem of_hidT {h : Heap} {H : Hp} {b : Addr} {o : Obj} (e : (hidT h H).get? b = some o) : h.get? b = some o ∧ H b = none := by
  have e' : h.get? b = some o := PySem.W.of_hideAll (trk h H) e
  refine ⟨e', ?_⟩
  cases q : H b with
  | none => rfl
  | some x =>
    have hm : b ∈ trk h H := List.mem_filter.mpr ⟨List.mem_range.mpr (Heap.lt_size e'), by simp [q]⟩
    have z : (hidT h H).get? b = none := PySem.W.hideAll_none (trk h H) hm
    rw [z] at e; cases e


def allNews (g h : Heap) (L : Addr) : List (Addr × Obj) := (List.range h.objs.size).filterMap fun a => if a = L ∨ (g.get? a).isSome = true then none else (h.get? a).map fun o => (a, o)
def rest (g h : Heap) (L d : Addr) : List (Addr × Obj) := (allNews g h L).filter fun p => decide (p.1 ≠ d)
end L2

namespace L2
open PySem PySem.Spec PyProof.Rows

/-- the module's facts, over the base: the heap at the law's entry without what is tracked there -/
structure Mod (K : PySem.W.Frag) (mg : Str → Option Value) (base : Heap) : Prop where
  kin : K.In base
  glob : base.Ns mainGlobals mg
  blt : ∃ mb, base.Ns builtinsNs mb ∧ ∀ x : Str, x ≠ "__name__" → mb x = bootBuiltins x
  nolimit : base.NoLimit

/-- the context: a def's body (or a comprehension's block) running. base: fixed through the whole law; s₀, H₀: the entry; outer: the frames whose slots others may change (a def's callers); stack: all frames that run;
   ex: iterators that were made ahead of the entry and are walked here (a comprehension's); fn: the names whose cells were made at the entry (a def: all; a comprehension's block: its own); calm: not within an except suite; pn: pins that every state bears; xe: what is wanted of an exception that leaves the code -/
structure Cx where
  prog : Program
  w : World
  K : PySem.W.Frag
  mg : Str → Option Value
  base : Heap
  A : Around
  N : List Str
  s₀ : Shared
  H₀ : Hp
  env : Env
  outer : List Env
  stack : List Env
  ex : List Addr
  fn : Str → Bool
  calm : Bool
  pn : List (Addr × Obj)
  xe : Value → Shared → Prop
/-- the callers' frames -/
def frs (l : List Env) : List Addr := l.filterMap (·.frame)
abbrev Cx.fs (X : Cx) : List Addr := frs X.outer

def Vis (sc : Scope) (x : Str) : Prop := sc.names.lookup x = some .local ∨ sc.names.lookup x = some .cell ∨ sc.names.lookup x = some .free
def Loc (sc : Scope) (x : Str) : Prop := sc.names.lookup x = some .local ∨ sc.names.lookup x = some .cell
def Look (env : Env) (h : Heap) (m : Str → Option Value) (x : Str) (u : Value) : Prop :=
  (env.kindOf x = some .local ∧ m x = some u) ∨ ((env.kindOf x = some .cell ∨ env.kindOf x = some .free) ∧ ∃ c, env.cells.lookup x = some c ∧ h.IsCell c (some u))

structure Cx.Ok (X : Cx) : Prop where
  mod : Mod X.K X.mg X.base
  kind : X.env.scope.kind = .function
  glob : X.env.globals = mainGlobals
  blt : X.env.builtins = builtinsNs
  above : X.s₀.heap.objs.size ≤ X.env.locals
  inj : ∀ x y c, X.env.cells.lookup x = some c → X.env.cells.lookup y = some c → x = y
  has : ∀ x, (X.env.kindOf x = some .cell ∨ X.env.kindOf x = some .free) → ∃ c, X.env.cells.lookup x = some c
  cab : ∀ x c, X.fn x = true → X.env.cells.lookup x = some c → X.s₀.heap.objs.size ≤ c
  hd : X.calm = true → X.A.handled = none
  frames : X.A.frames = some X.stack
  stk : X.stack = X.outer ∨ (X.stack = X.env :: X.outer ∧ X.env.frame = some X.env.locals)
  exf : ∀ b ∈ X.ex, b ≠ X.env.locals ∧ ∀ x c, X.env.cells.lookup x = some c → c ≠ b
  bs : ∀ b o, X.base.get? b = some o → X.s₀.heap.get? b = some o ∧ X.H₀ b = none
  bsz : X.base.objs.size ≤ X.s₀.heap.objs.size
  noex : ∀ b o, X.base.get? b = some o → b ∉ X.ex
  exfs : ∀ b ∈ X.ex, b ∉ X.fs
  funs : X.s₀.heap.FunFrames X.base X.outer
  frf : ∀ b ∈ X.fs, X.H₀ b = none

structure Inv (X : Cx) (pins : List (Addr × Obj)) (σ : List (Option V)) (H : Hp) (s : Shared) : Prop where
  ok : X.Ok
  os : s.os = X.s₀.os
  bare : AllBare s.gens
  base : Un X.fs X.ex X.H₀ H X.s₀.heap s.heap
  loc : ∃ m, s.heap.Ns X.env.locals m ∧ ∀ (i : Nat) (x : Str) (v : V), X.N[i]? = some x → σ[i]? = some (some v) → Vis X.env.scope x → ∃ u, RelV v u ∧ Look X.env s.heap m x u
  cell : ∀ x c, X.env.cells.lookup x = some c → ∃ v, s.heap.IsCell c v
  free : H X.env.locals = none
  freeC : ∀ x c, X.env.cells.lookup x = some c → H c = none
  pin : ∀ p ∈ X.pn ++ pins, s.heap.get? p.1 = some p.2 ∧ H p.1 = none ∧ p.1 ≠ X.env.locals ∧ p.1 ∉ X.fs ∧ ∀ v, p.2.data ≠ .cell v
  hok : HOk X.prog X.w H s.heap
  len : σ.length = X.N.length

section
variable {X : Cx} {pins : List (Addr × Obj)} {σ : List (Option V)} {H H' : Hp} {s : Shared} {h' : Heap}

theorem Cx.Ok.nofr (ok : X.Ok) {b : Addr} {o : Obj} (e : X.base.get? b = some o) : b ∉ X.fs := fun hb => by
  have := (ok.funs.mem hb).1
  rw [e] at this; cases this
theorem Inv.bs (I : Inv X pins σ H s) : ∀ b o, X.base.get? b = some o → s.heap.get? b = some o ∧ H b = none := fun b o e =>
  ⟨I.base.keep b o (I.ok.bs b o e).1 (I.ok.bs b o e).2 (I.ok.nofr e) (I.ok.noex b o e), I.base.free b o (I.ok.bs b o e).1 (I.ok.bs b o e).2 (I.ok.noex b o e)⟩
theorem Inv.bk (I : Inv X pins σ H s) : ∀ b o, X.base.get? b = some o → s.heap.get? b = some o := fun b o e => (I.bs b o e).1
theorem Inv.mod (I : Inv X pins σ H s) : Mod X.K X.mg X.base := I.ok.mod
theorem Inv.kIn (I : Inv X pins σ H s) : X.K.In s.heap := I.ok.mod.kin.keeps I.bk
theorem Inv.nolimit (I : Inv X pins σ H s) : s.heap.NoLimit := I.ok.mod.nolimit.keeps I.bk
/-- the frame over the base: for OpenK's rules (K.In X.base is I.mod.kin) -/
theorem Inv.fr (I : Inv X pins σ H s) : ∃ m, Fr X.base X.env.locals s.heap m :=
  let ⟨m, hn, _⟩ := I.loc
  ⟨m, hn, I.bk, Nat.le_trans I.ok.bsz I.ok.above⟩
theorem Inv.lt (I : Inv X pins σ H s) : X.env.locals < s.heap.objs.size := let ⟨_, hn, _⟩ := I.loc; hn.lt
theorem Inv.sz (I : Inv X pins σ H s) : X.s₀.heap.objs.size ≤ s.heap.objs.size := Nat.le_trans I.ok.above (Nat.le_of_lt I.lt)
theorem Inv.nofs (I : Inv X pins σ H s) {a : Addr} (h : s.heap.objs.size ≤ a) : a ∉ X.fs := fun hb => by
  obtain ⟨_, o, ho, _⟩ := I.ok.funs.mem hb
  exact absurd (Nat.lt_of_lt_of_le (Heap.lt_size ho) (Nat.le_trans I.sz h)) (Nat.lt_irrefl _)
theorem Inv.cne (I : Inv X pins σ H s) : ∀ x c, X.env.cells.lookup x = some c → c ≠ X.env.locals := fun x c e z => by
  obtain ⟨v, o, ho, hd⟩ := I.cell x c e
  obtain ⟨m, ⟨o', es, ep, ho', hd', _⟩, _⟩ := I.loc
  rw [z, ho'] at ho; cases ho; rw [hd'] at hd; cases hd
theorem Inv.funs (I : Inv X pins σ H s) : s.heap.FunFrames X.base X.outer := by
  have all : ∀ (l : List Env), (∀ b ∈ frs l, b ∈ X.fs) → X.s₀.heap.FunFrames X.base l → s.heap.FunFrames X.base l := by
    intro l
    induction l with
    | nil => intro _ _; trivial
    | cons env r ih =>
      intro hs hl
      obtain ⟨hk, ⟨L, o, hf, hn, ho, hd⟩, hr⟩ := hl
      have hL : L ∈ X.fs := hs L (by unfold frs; rw [List.filterMap_cons, hf]; exact List.mem_cons_self)
      obtain ⟨sl, e⟩ := I.base.slot L o ho (I.ok.frf L hL) hL fun z => I.ok.exfs L z hL
      exact ⟨hk, ⟨L, _, hf, hn, e, hd⟩, ih (fun b hb => hs b (by unfold frs; rw [List.filterMap_cons, hf]; exact List.mem_cons_of_mem _ hb)) hr⟩
  exact all X.outer (fun _ hb => hb) I.ok.funs

/-- the frames that run, for a call -/
theorem Inv.stack (I : Inv X pins σ H s) : s.heap.FunFrames X.base X.stack := by
  rcases I.ok.stk with e | ⟨e, hf⟩
  · rw [e]; exact I.funs
  · rw [e]
    obtain ⟨m, hn, _⟩ := I.loc
    refine .cons (by rw [I.ok.kind]; decide) hf hn ?_ I.funs
    exact Heap.get?_none_of_le (Nat.le_trans I.ok.bsz I.ok.above)
theorem Inv.stkSub (I : Inv X pins σ H s) : ∀ b ∈ frs X.stack, b ∈ X.env.locals :: X.fs := fun b hb => by
  rcases I.ok.stk with e | ⟨e, hf⟩
  · rw [e] at hb; exact List.mem_cons_of_mem _ hb
  · rw [e] at hb
    unfold frs at hb
    rw [List.filterMap_cons, hf] at hb
    exact hb
theorem Inv.stkFree (I : Inv X pins σ H s) : ∀ b ∈ frs X.stack, H b = none := fun b hb => by
  rcases List.mem_cons.mp (I.stkSub b hb) with e | hb
  · rw [e]; exact I.free
  · obtain ⟨_, o, ho, _⟩ := I.ok.funs.mem hb
    exact I.base.free b o ho (I.ok.frf b hb) fun z => I.ok.exfs b z hb

/-- THE STEP: the untracked objects but the frame and the records at ch are kept (the callers' frames up to slots), the frame's map is kept, the new abstract heap is held -/
theorem Inv.step {g' : Array GenState} {t' : Nat} {d' : Drawn} {ch : List Addr} (I : Inv X pins σ H s)
    (hch : ∀ b ∈ ch, (b ∈ X.ex ∨ X.s₀.heap.objs.size ≤ b) ∧ b ≠ X.env.locals ∧ (∀ x c, X.env.cells.lookup x = some c → c ≠ b) ∧ ∀ p ∈ X.pn ++ pins, p.1 ≠ b)
    (keep : ∀ b o, b ≠ X.env.locals → b ∉ X.fs → b ∉ ch → s.heap.get? b = some o → H b = none → h'.get? b = some o)
    (slot : ∀ b o, b ≠ X.env.locals → b ∈ X.fs → b ∉ ch → s.heap.get? b = some o → H b = none → ∃ sl, h'.get? b = some { o with slots := sl }) (free : ∀ b o, b ∉ ch → s.heap.get? b = some o → H b = none → H' b = none)
    (there : ∀ b o, b ∉ ch → s.heap.get? b = some o → ∃ o', h'.get? b = some o')
    (tups : ∀ b xs, H b = some (.tup xs) → H' b = some (.tup xs)) (frzs : ∀ b o u, H b = some (.frz o u) → H' b = some (.frz o u)) (tbls : ∀ b ps, H b = some (.tbl ps) → ∃ more, H' b = some (.tbl (ps ++ more)))
    (ns : ∀ m, s.heap.Ns X.env.locals m → h'.Ns X.env.locals m) (hok : HOk X.prog X.w H' h') (hg : AllBare g') :
    Inv X pins σ H' { s with heap := h', gens := g', drawn := d', toks := t' } := by
  have neL : ∀ b o, X.s₀.heap.get? b = some o → b ≠ X.env.locals := fun b o e => Nat.ne_of_lt (Nat.lt_of_lt_of_le (Heap.lt_size e) I.ok.above)
  have neC : ∀ b o, X.s₀.heap.get? b = some o → b ∉ X.ex → b ∉ ch := fun b o e hx hb => by
    rcases (hch b hb).1 with z | z
    · exact hx z
    · exact absurd (Nat.lt_of_lt_of_le (Heap.lt_size e) z) (Nat.lt_irrefl _)
  have cellK : ∀ x c, X.env.cells.lookup x = some c → ∀ v, s.heap.IsCell c v → h'.IsCell c v := fun x c e v ⟨o, ho, hd⟩ => by
    have nch : c ∉ ch := fun z => (hch c z).2.2.1 x c e rfl
    by_cases hc : c ∈ X.fs
    · obtain ⟨sl, q⟩ := slot c o (I.cne x c e) hc nch ho (I.freeC x c e)
      exact ⟨_, q, hd⟩
    · exact ⟨o, keep c o (I.cne x c e) hc nch ho (I.freeC x c e), hd⟩
  refine ⟨I.ok, I.os, hg, ⟨fun b o e n hb hx => ?_, fun b o e n hb hx => ?_, fun b o e n hx => ?_, fun b o e hx => ?_, fun b xs e => tups b xs (I.base.tups b xs e), fun b o xs e => frzs b o xs (I.base.frzs b o xs e), fun b ps e => ?_⟩, ?_, fun x c e => ?_, ?_, fun x c e => ?_, fun p hp => ?_, hok, I.len⟩
  · exact keep b o (neL b o e) hb (neC b o e hx) (I.base.keep b o e n hb hx) (I.base.free b o e n hx)
  · obtain ⟨sl, e1⟩ := I.base.slot b o e n hb hx
    obtain ⟨sl', e2⟩ := slot b _ (neL b o e) hb (neC b o e hx) e1 (I.base.free b o e n hx)
    exact ⟨sl', e2⟩
  · obtain ⟨o', e1⟩ := I.base.there b o e hx
    exact free b o' (neC b o e hx) e1 (I.base.free b o e n hx)
  · obtain ⟨o', e1⟩ := I.base.there b o e hx
    exact there b o' (neC b o e hx) e1
  · obtain ⟨m1, e1⟩ := I.base.tbls b ps e
    obtain ⟨m2, e2⟩ := tbls b _ e1
    exact ⟨m1 ++ m2, by rw [e2, Array.append_assoc]⟩
  · obtain ⟨m, hn, hl⟩ := I.loc
    refine ⟨m, ns m hn, fun i x v e1 e2 e3 => ?_⟩
    obtain ⟨u, r, l⟩ := hl i x v e1 e2 e3
    refine ⟨u, r, ?_⟩
    rcases l with l | ⟨k, c, e, z⟩
    · exact .inl l
    · exact .inr ⟨k, c, e, cellK x c e _ z⟩
  · obtain ⟨v, z⟩ := I.cell x c e
    exact ⟨v, cellK x c e v z⟩
  · obtain ⟨m, ⟨o, _, _, ho, _⟩, _⟩ := I.loc
    exact free _ o (fun z => (hch _ z).2.1 rfl) ho I.free
  · obtain ⟨v, o, ho, hd⟩ := I.cell x c e
    exact free c o (fun z => (hch c z).2.2.1 x c e rfl) ho (I.freeC x c e)
  · obtain ⟨e, n, ne, nf, d⟩ := I.pin p hp
    have nch : p.1 ∉ ch := fun z => (hch p.1 z).2.2.2 p hp rfl
    exact ⟨keep p.1 p.2 ne nf nch e n, free p.1 p.2 nch e n, ne, nf, d⟩
/-- .. where the frame's own object is kept too -/
theorem Inv.un {t' : Nat} (I : Inv X pins σ H s) (u : Un X.fs [] H H' s.heap h') (hok : HOk X.prog X.w H' h') : Inv X pins σ H' { s with heap := h', toks := t' } := by
  obtain ⟨m, ⟨o, es, ep, ho, r⟩, _⟩ := id I.loc
  obtain ⟨sl, hL⟩ := u.any ho I.free (by simp)
  exact I.step (g' := s.gens) (d' := s.drawn) (ch := []) (fun _ z => nomatch z) (fun b o _ hb _ e n => u.keep b o e n hb (by simp)) (fun b o _ hb _ e n => u.slot b o e n hb (by simp)) (fun b o _ e n => u.free b o e n (by simp)) (fun b o _ e => u.there b o e (by simp)) u.tups u.frzs u.tbls (fun m' hm => by
    obtain ⟨o', es', ep', ho', r'⟩ := hm
    rw [ho] at ho'; cases ho'
    exact ⟨_, es', ep', hL, r'⟩) hok I.bare
/-- behind a call (or a comprehension's block): the slots of this frame may have changed too, the records at ch may have turned -/
theorem Inv.call {g' : Array GenState} {t' : Nat} {d' : Drawn} {ch : List Addr} (I : Inv X pins σ H s) (u : Un (frs X.stack) ch H H' s.heap h') (hok : HOk X.prog X.w H' h') (hg : AllBare g')
    (hch : ∀ b ∈ ch, (b ∈ X.ex ∨ X.s₀.heap.objs.size ≤ b) ∧ b ≠ X.env.locals ∧ (∀ x c, X.env.cells.lookup x = some c → c ≠ b) ∧ ∀ p ∈ X.pn ++ pins, p.1 ≠ b) :
    Inv X pins σ H' { s with heap := h', gens := g', drawn := d', toks := t' } := by
  obtain ⟨m, ⟨o, es, ep, ho, r⟩, _⟩ := id I.loc
  obtain ⟨sl, hL⟩ := u.any ho I.free fun z => (hch _ z).2.1 rfl
  exact I.step (ch := ch) hch (fun b o hL hb hc e n => u.keep b o e n (fun z => (List.mem_cons.mp (I.stkSub b z)).elim hL hb) hc) (fun b o _ _ hc e n => u.any e n hc) (fun b o hc e n => u.free b o e n hc) (fun b o hc e => u.there b o e hc) u.tups u.frzs u.tbls (fun m' hm => by
    obtain ⟨o', es', ep', ho', r'⟩ := hm
    rw [ho] at ho'; cases ho'
    exact ⟨_, es', ep', hL, r'⟩) hok hg
/-- an untracked record of ours (an iterator) has turned -/
theorem Inv.turned {t' : Nat} {it : Addr} (I : Inv X pins σ H s) (k : ∀ b o, b ≠ it → s.heap.get? b = some o → h'.get? b = some o) (hn : H it = none) (hL : it ≠ X.env.locals)
    (h1 : it ∈ X.ex ∨ X.s₀.heap.objs.size ≤ it) (h2 : ∀ x c, X.env.cells.lookup x = some c → c ≠ it) (h3 : ∀ p ∈ X.pn ++ pins, p.1 ≠ it) : Inv X pins σ H { s with heap := h', toks := t' } := by
  have nit : ∀ b u, H b = some u → b ≠ it := fun b u e z => by rw [z, hn] at e; cases e
  refine I.step (g' := s.gens) (d' := s.drawn) (ch := [it]) (fun b hb => ?_) (fun b o _ _ hc e _ => k b o (fun z => hc (by simp [z])) e) (fun b o _ _ hc e _ => ⟨o.slots, k b o (fun z => hc (by simp [z])) e⟩) (fun _ _ _ _ n => n)
    (fun b o hc e => ⟨o, k b o (fun z => hc (by simp [z])) e⟩) (fun _ _ e => e) (fun _ _ _ e => e) (fun b ps e => ⟨#[], by rw [e]; simp⟩) (fun m hm => ?_) (fun b u e => ?_) I.bare
  · have e : b = it := by simpa using hb
    subst e
    exact ⟨h1, hL, h2, h3⟩
  · obtain ⟨o, es, ep, ho, r⟩ := hm
    exact ⟨o, es, ep, k _ o (Ne.symm hL) ho, r⟩
  · refine (I.hok b u e).stay (fun c v hc q => k c v ?_ q) (fun _ q => q) fun _ _ q => q
    rcases hc with z | z
    · rw [z]; exact nit b u e
    · exact nit c _ z
theorem Inv.tok (I : Inv X pins σ H s) (t : Nat) : Inv X pins σ H { s with toks := t } := I.un (h' := s.heap) (t' := t) Un.refl I.hok
/-- all objects kept -/
theorem Inv.kept {t' : Nat} (I : Inv X pins σ H s) (k : ∀ b u, s.heap.get? b = some u → h'.get? b = some u) : Inv X pins σ H { s with heap := h', toks := t' } := I.un (Un.kept k) (I.hok.kept k)
/-- a new object laid and tracked -/
theorem Inv.laid {a : Addr} {o : HO} {t' : Nat} (I : Inv X pins σ H s) (k : ∀ b u, s.heap.get? b = some u → h'.get? b = some u) (hp : s.heap.objs.size ≤ a) (new : ObjOk X.prog X.w (upd H a o) h' a o) :
    Inv X pins σ (upd H a o) { s with heap := h', toks := t' } := I.un (Un.laid k hp (I.hok.fresh hp)) (I.hok.laid k hp new)
/-- an object written -/
theorem Inv.write {x e : Addr} {o : HO} {t' : Nat} (I : Inv X pins σ H s) (mu : Mut (H x)) (he : e = x ∨ H e = some (.own x)) (k : ∀ b u, b ≠ e → s.heap.get? b = some u → h'.get? b = some u) (heo : ∃ u, h'.get? e = some u)
    (new : ObjOk X.prog X.w (upd H x o) h' x o) : Inv X pins σ (upd H x o) { s with heap := h', toks := t' } := I.un (Un.write mu he k heo) (I.hok.write mu he k heo new)
/-- forgetting slots, pins -/
theorem Inv.weak {σ' : List (Option V)} (I : Inv X pins σ H s) (hl : σ'.length = σ.length) (w : ∀ (i : Nat) v, σ'[i]? = some (some v) → σ[i]? = some (some v)) : Inv X pins σ' H s :=
  ⟨I.ok, I.os, I.bare, I.base, let ⟨m, hn, hl'⟩ := I.loc; ⟨m, hn, fun i x v e1 e2 e3 => hl' i x v e1 (w i v e2) e3⟩, I.cell, I.free, I.freeC, I.pin, I.hok, hl.trans I.len⟩
theorem Inv.pins_of {pins' : List (Addr × Obj)} (I : Inv X pins σ H s) (h : ∀ p ∈ pins', s.heap.get? p.1 = some p.2 ∧ H p.1 = none ∧ p.1 ≠ X.env.locals ∧ p.1 ∉ X.fs ∧ ∀ v, p.2.data ≠ .cell v) : Inv X pins' σ H s :=
  ⟨I.ok, I.os, I.bare, I.base, I.loc, I.cell, I.free, I.freeC, fun p hp => (List.mem_append.mp hp).elim (fun z => I.pin p (List.mem_append_left _ z)) (h p), I.hok, I.len⟩

theorem nodup_ix {N : List Str} (hN : N.Nodup) {i j : Nat} {x : Str} (a : N[i]? = some x) (b : N[j]? = some x) : i = j := by
  obtain ⟨h1, e1⟩ := List.getElem?_eq_some_iff.mp a
  obtain ⟨h2, e2⟩ := List.getElem?_eq_some_iff.mp b
  exact (List.getElem_inj hN).mp (e1.trans e2.symm)

/-- a name is stored; what changed -/
theorem store_ok2 {M : Model} {A : Around} {E : Value → Shared → Prop} {i : Nat} {x : Str} {v : V} {u : Value} {Q : Unit → Shared → Prop} (I : Inv X pins σ H s) (hN : X.N.Nodup) (hi : X.N[i]? = some x) (hx : Loc X.env.scope x) (r : RelV v u)
    (h : ∀ s', Inv X pins (σ.set i (some v)) H s' → (∃ a, Heap.SameBut a s.heap s'.heap ∧ (a = X.env.locals ∨ X.env.cells.lookup x = some a)) → Q () s') (hf : X.fn x = true ∨ X.env.scope.names.lookup x = some .local := by first | exact .inl rfl | exact .inr rfl | assumption) : wpAny M A (storeName X.env x u) Q E s := by
  obtain ⟨m, hn, hl⟩ := id I.loc
  have hcls : (X.env.scope.kind == .class || (X.env.scope.kind == .module && X.env.locals != X.env.globals)) = false := by rw [I.ok.kind]; rfl
  have hiσ : i < σ.length := by rw [I.len]; exact (List.getElem?_eq_some_iff.mp hi).1
  have cne := I.cne
  have tracked : ∀ {a : Addr} {h' : Heap}, (∃ o, s.heap.get? a = some o ∧ H a = none) → Heap.SameBut a s.heap h' → HOk X.prog X.w H h' := fun {a h'} ha hs b ob e => by
    obtain ⟨_, _, hfree⟩ := ha
    refine (I.hok b ob e).stay (fun c w' hc q => (hs.2 c ?_).trans q) (fun _ q => q) fun _ _ q => q
    rintro rfl
    rcases hc with rfl | hc
    · rw [hfree] at e; cases e
    · rw [hfree] at hc; cases hc
  rcases hx with hk | hk
  · refine wpAny_storeName_local hk hn (fun h' hn' hs => ?_) hcls
    obtain ⟨oL, _, _, hoL, _⟩ := id hn
    refine h _ ⟨I.ok, I.os, I.bare, ⟨fun b o e n hb hx => ?_, fun b o e n hb hx => ?_, I.base.free, fun b o e hx => ?_, I.base.tups, I.base.frzs, I.base.tbls⟩, ⟨_, hn', fun j y v' e1 e2 e3 => ?_⟩, fun y c e => ?_, I.free, I.freeC, fun p hp => ?_, tracked ⟨oL, hoL, I.free⟩ hs, by simpa using I.len⟩ ⟨_, hs, .inl rfl⟩
    · exact (hs.2 b (Nat.ne_of_lt (Nat.lt_of_lt_of_le (Heap.lt_size e) I.ok.above))).trans (I.base.keep b o e n hb hx)
    · obtain ⟨sl, e1⟩ := I.base.slot b o e n hb hx
      exact ⟨sl, (hs.2 b (Nat.ne_of_lt (Nat.lt_of_lt_of_le (Heap.lt_size e) I.ok.above))).trans e1⟩
    · obtain ⟨o', e1⟩ := I.base.there b o e hx
      exact ⟨o', (hs.2 b (Nat.ne_of_lt (Nat.lt_of_lt_of_le (Heap.lt_size e) I.ok.above))).trans e1⟩
    · by_cases hj : j = i
      · subst hj
        rw [hi] at e1; cases e1
        rw [List.getElem?_set_self hiσ] at e2
        cases e2
        exact ⟨u, r, .inl ⟨hk, by simp⟩⟩
      · rw [List.getElem?_set_ne (Ne.symm hj)] at e2
        obtain ⟨u', r', q⟩ := hl j y v' e1 e2 e3
        refine ⟨u', r', ?_⟩
        rcases q with ⟨k, e⟩ | ⟨k, c, e, z⟩
        · refine .inl ⟨k, ?_⟩
          have : y ≠ x := fun e => hj (nodup_ix hN e1 (e ▸ hi))
          simp [this, e]
        · exact .inr ⟨k, c, e, z.sameBut hs (cne y c e)⟩
    · obtain ⟨w', z⟩ := I.cell y c e
      exact ⟨w', z.sameBut hs (cne y c e)⟩
    · obtain ⟨e, n, ne, nf, d⟩ := I.pin p hp
      exact ⟨(hs.2 p.1 ne).trans e, n, ne, nf, d⟩
  · have hfn : X.fn x = true := by
      rcases hf with z | z
      · exact z
      · rw [z] at hk; cases hk
    obtain ⟨c, hc⟩ := I.ok.has x (.inl hk)
    obtain ⟨w', z⟩ := I.cell x c hc
    refine wpAny_storeName_cell I.ok.kind hk hc z (fun h' hc' hs => ?_)
    obtain ⟨oc, hoc, hocd⟩ := id z
    refine h { s with heap := h' } ⟨I.ok, I.os, I.bare, ⟨fun b o e n hb hx => ?_, fun b o e n hb hx => ?_, I.base.free, fun b o e hx => ?_, I.base.tups, I.base.frzs, I.base.tbls⟩, ⟨m, hn.sameBut hs (Ne.symm (cne x c hc)), fun j y v' e1 e2 e3 => ?_⟩, fun y c' e => ?_, I.free, I.freeC, fun p hp => ?_, tracked ⟨oc, hoc, I.freeC x c hc⟩ hs, by simpa using I.len⟩ ⟨c, hs, .inr hc⟩
    · exact (hs.2 b (Nat.ne_of_lt (Nat.lt_of_lt_of_le (Heap.lt_size e) (I.ok.cab x c hfn hc)))).trans (I.base.keep b o e n hb hx)
    · obtain ⟨sl, e1⟩ := I.base.slot b o e n hb hx
      exact ⟨sl, (hs.2 b (Nat.ne_of_lt (Nat.lt_of_lt_of_le (Heap.lt_size e) (I.ok.cab x c hfn hc)))).trans e1⟩
    · obtain ⟨o', e1⟩ := I.base.there b o e hx
      exact ⟨o', (hs.2 b (Nat.ne_of_lt (Nat.lt_of_lt_of_le (Heap.lt_size e) (I.ok.cab x c hfn hc)))).trans e1⟩
    · by_cases hj : j = i
      · subst hj
        rw [hi] at e1; cases e1
        rw [List.getElem?_set_self hiσ] at e2
        cases e2
        exact ⟨u, r, .inr ⟨.inl hk, c, hc, hc'⟩⟩
      · rw [List.getElem?_set_ne (Ne.symm hj)] at e2
        obtain ⟨u', r', q⟩ := hl j y v' e1 e2 e3
        refine ⟨u', r', ?_⟩
        rcases q with q | ⟨k, c', e, z'⟩
        · exact .inl q
        · refine .inr ⟨k, c', e, z'.sameBut hs ?_⟩
          rintro rfl
          exact hj (nodup_ix hN e1 (I.ok.inj _ _ _ e hc ▸ hi))
    · by_cases hcc : c' = c
      · subst hcc; exact ⟨_, hc'⟩
      · obtain ⟨w2, z2⟩ := I.cell y c' e
        exact ⟨w2, z2.sameBut hs hcc⟩
    · obtain ⟨e, n, ne, nf, d⟩ := I.pin p hp
      refine ⟨(hs.2 p.1 ?_).trans e, n, ne, nf, d⟩
      intro q
      rw [q, hoc] at e
      have q' : oc = p.2 := Option.some.inj e
      exact d w' (by rw [← q']; exact hocd)
theorem store_ok {M : Model} {A : Around} {E : Value → Shared → Prop} {i : Nat} {x : Str} {v : V} {u : Value} {Q : Unit → Shared → Prop} (I : Inv X pins σ H s) (hN : X.N.Nodup) (hi : X.N[i]? = some x) (hx : Loc X.env.scope x) (r : RelV v u)
    (h : ∀ s', Inv X pins (σ.set i (some v)) H s' → Q () s') (hf : X.fn x = true ∨ X.env.scope.names.lookup x = some .local := by first | exact .inl rfl | exact .inr rfl | assumption) : wpAny M A (storeName X.env x u) Q E s :=
  store_ok2 I hN hi hx r (fun s' I' _ => h s' I') hf
/-- behind a call or a block, the state as it is -/
theorem Inv.call' {s' : Shared} {ch : List Addr} (I : Inv X pins σ H s) (ho : s'.os = s.os) (u : Un (frs X.stack) ch H H' s.heap s'.heap) (hok : HOk X.prog X.w H' s'.heap) (hg : AllBare s'.gens)
    (hch : ∀ b ∈ ch, (b ∈ X.ex ∨ X.s₀.heap.objs.size ≤ b) ∧ b ≠ X.env.locals ∧ (∀ x c, X.env.cells.lookup x = some c → c ≠ b) ∧ ∀ p ∈ X.pn ++ pins, p.1 ≠ b) : Inv X pins σ H' s' := by
  obtain ⟨h', g', d', t', o'⟩ := s'
  have e : o' = s.os := ho
  subst e
  exact I.call (g' := g') (t' := t') (d' := d') u hok hg hch
end


/-- an exception: its class, its own dict's address (where it has one), the abstract heap behind it -/
abbrev XK := Value → Option Addr → Hp → Prop
abbrev St := List (Option V)
abbrev VK := V → Hp → Prop
/-- an expression's reading; a test's; an argument list's -/
abbrev TE := St → Hp → VK → Prop
abbrev TT := St → Hp → (Bool → Hp → Prop) → Prop
abbrev TA := St → Hp → (List V → Hp → Prop) → Prop
/-- what is wanted behind a statement -/
structure Ends where
  nx : St → Hp → Prop
  rt : VK
  bk : St → Hp → Prop := fun _ _ => False
  ct : St → Hp → Prop := fun _ _ => False
abbrev TS := Ends → St → Hp → Prop

def EP (X : Cx) (pins : List (Addr × Obj)) (σ : St) (Q : VK) (u : Value) (s' : Shared) : Prop := ∃ v H', Inv X pins σ H' s' ∧ RelV v u ∧ Q v H'
def TP (X : Cx) (pins : List (Addr × Obj)) (σ : St) (Q : Bool → Hp → Prop) (b : Bool) (s' : Shared) : Prop := ∃ H', Inv X pins σ H' s' ∧ Q b H'
def AP (X : Cx) (pins : List (Addr × Obj)) (σ : St) (Q : List V → Hp → Prop) (us : List Value) (s' : Shared) : Prop := ∃ vs H', Inv X pins σ H' s' ∧ Vals vs us ∧ Q vs H'
def SP (X : Cx) (pins : List (Addr × Obj)) (D : Ends) (f : Flow) (s' : Shared) : Prop :=
  match f with
  | .next => ∃ σ' H', Inv X pins σ' H' s' ∧ D.nx σ' H'
  | .brk => ∃ σ' H', Inv X pins σ' H' s' ∧ D.bk σ' H'
  | .cont => ∃ σ' H', Inv X pins σ' H' s' ∧ D.ct σ' H'
  | .ret u => ∃ v σ' H', Inv X pins σ' H' s' ∧ RelV v u ∧ D.rt v H'

def PE (X : Cx) (e : Expr) (t : TE) : Prop :=
  ∀ (pins : List (Addr × Obj)) (s : Shared) (σ : St) (H : Hp) (Q : VK), Inv X pins σ H s → t σ H Q → wpAny (model X.prog X.w) X.A (eval e X.env) (EP X pins σ Q) X.xe s
def PT (X : Cx) (e : Expr) (t : TT) : Prop :=
  ∀ (pins : List (Addr × Obj)) (s : Shared) (σ : St) (H : Hp) (Q : Bool → Hp → Prop), Inv X pins σ H s → t σ H Q → wpAny (model X.prog X.w) X.A (isTrue e X.env (eval e X.env)) (TP X pins σ Q) X.xe s
/-- a test whatever its 'whole' is (and, or) -/
def PW (X : Cx) (e : Expr) (t : TT) : Prop :=
  ∀ (whole : Sem Value) (pins : List (Addr × Obj)) (s : Shared) (σ : St) (H : Hp) (Q : Bool → Hp → Prop), Inv X pins σ H s → t σ H Q → wpAny (model X.prog X.w) X.A (isTrue e X.env whole) (TP X pins σ Q) X.xe s
theorem PW.pt {X : Cx} {e : Expr} {t : TT} (h : PW X e t) : PT X e t := h _
/-- an argument list (no star), from the left -/
def PA (X : Cx) (es : List Expr) (t : TA) : Prop :=
  ∀ (pos : Pos) (pins : List (Addr × Obj)) (s : Shared) (σ : St) (H : Hp) (Q : List V → Hp → Prop), Inv X pins σ H s → t σ H Q → wpAny (model X.prog X.w) X.A (spliced (backTo pos (starEach es X.env))) (AP X pins σ Q) X.xe s
def PS (X : Cx) (st : Stmt) (t : TS) : Prop :=
  ∀ (pins : List (Addr × Obj)) (s : Shared) (σ : St) (H : Hp) (D : Ends), Inv X pins σ H s → t D σ H → wpAny (model X.prog X.w) X.A (exec st X.env) (SP X pins D) X.xe s
def PSs (X : Cx) (st : List Stmt) (t : TS) : Prop :=
  ∀ (pins : List (Addr × Obj)) (s : Shared) (σ : St) (H : Hp) (D : Ends), Inv X pins σ H s → t D σ H → wpAny (model X.prog X.w) X.A (execs st X.env) (SP X pins D) X.xe s
/-- weaken the end -/
theorem thn {α : Type} {t : Sem α} {Q Q' : α → Shared → Prop} {M : Model} {A : Around} {E : Value → Shared → Prop} {s : Shared} (h : wpAny M A t Q E s) (hQ : ∀ a s, Q a s → Q' a s) : wpAny M A t Q' E s := wpAny_mono h hQ fun _ _ x => x
end L2

namespace L2
open PySem PySem.Spec PyProof.Rows
section
variable {X : Cx}

def tVar (i : Nat) : TE := fun σ H Q => ∃ v, σ[i]? = some (some v) ∧ Q v H
def tC (v : V) : TE := fun _ H Q => Q v H
theorem pe_var {i : Nat} {x : Str} {pos : Pos} (hN : X.N[i]? = some x) (hv : Vis X.env.scope x) (hd : (x == ("__debug__" : Str)) = false := by decide) (hcd : (x == ("__classdict__" : Str)) = false := by decide) : PE X (.Name x pos) (tVar i) := by
  intro pins s σ H Q I h
  obtain ⟨v, e, h⟩ := h
  obtain ⟨m, hn, hl⟩ := I.loc
  obtain ⟨u, r, l⟩ := hl i x v hN e hv
  have fin : EP X pins σ Q u s := ⟨v, H, I, r, h⟩
  rcases l with ⟨hk, hm⟩ | ⟨hk, c, hc, hcell⟩
  · exact wpAny_Name (wpAny_loadName_local I.ok.kind hk hn hm fin) hd
  · rcases hk with hk | hk
    · exact wpAny_Name (wpAny_loadName_cell I.ok.kind hk hc hcell fin) hd
    · exact wpAny_Name (wpAny_loadName_free I.ok.kind hk hc hcell fin hcd) hd
theorem pe_int {i j pos} : PE X (.Constant (.int i) j pos) (tC (.int i)) := fun _ _ _ H _ I h => wpAny_Constant_int ⟨.int i, H, I.tok _, ⟨_, rfl⟩, h⟩
theorem pe_bl {b j pos} : PE X (.Constant (.bool b) j pos) (tC (.bl b)) := fun _ _ _ H _ I h => Constant_bool ⟨.bl b, H, I, rfl, h⟩
theorem pe_non {j pos} : PE X (.Constant .none j pos) (tC .non) := fun _ _ _ H _ I h => Constant_none ⟨.non, H, I, rfl, h⟩
theorem pe_str {x j pos} : PE X (.Constant (.str x) j pos) (tC (.str x)) := fun _ _ _ H _ I h => Calls.Constant_str ⟨.str x, H, I.tok _, ⟨_, rfl⟩, h⟩

/-- a global name of the def -/
def Gl (X : Cx) (x : Str) : Prop := X.env.kindOf x = some .globalImplicit
theorem ld_glob {E : Value → Shared → Prop} {pins : List (Addr × Obj)} {s : Shared} {σ : St} {H : Hp} {x : Str} {u : Value} {pos : Pos} {Q : Value → Shared → Prop} (I : Inv X pins σ H s) (hg : Gl X x) (hm : X.mg x = some u) (h : Q u s)
    (hd : (x == ("__debug__" : Str)) = false := by decide) : wpAny (model X.prog X.w) X.A (eval (.Name x pos) X.env) Q E s :=
  Calls.Name_function_global I.ok.kind hg (Calls.loadGlobal_global (by rw [I.ok.glob]; exact I.mod.glob.keeps I.bk) hm h) hd
theorem ld_blt {E : Value → Shared → Prop} {pins : List (Addr × Obj)} {s : Shared} {σ : St} {H : Hp} {x : Str} {u : Value} {pos : Pos} {Q : Value → Shared → Prop} (I : Inv X pins σ H s) (hg : Gl X x) (hm : X.mg x = none) (hv : bootBuiltins x = some u) (h : Q u s)
    (hn : x ≠ "__name__" := by decide) (hd : (x == ("__debug__" : Str)) = false := by decide) : wpAny (model X.prog X.w) X.A (eval (.Name x pos) X.env) Q E s := by
  obtain ⟨mb, h1, h2⟩ := I.mod.blt
  exact Calls.Name_function_global I.ok.kind hg (Calls.loadGlobal_builtin (by rw [I.ok.glob]; exact I.mod.glob.keeps I.bk) hm (by rw [I.ok.blt]; exact h1.keeps I.bk) ((h2 x hn).trans hv) h) hd
/-- a module's constant, a class, a function, as a value -/
theorem pe_glob {x : Str} {v : V} {u : Value} {pos : Pos} (hg : Gl X x) (hm : X.mg x = some u) (r : RelV v u) (hd : (x == ("__debug__" : Str)) = false := by decide) : PE X (.Name x pos) (tC v) :=
  fun _ _ _ H _ I h => ld_glob I hg hm ⟨v, H, I, r, h⟩ hd
theorem pe_bltn {x : Str} {v : V} {u : Value} {pos : Pos} (hg : Gl X x) (hm : X.mg x = none) (hv : bootBuiltins x = some u) (r : RelV v u) (hn : x ≠ "__name__" := by decide) (hd : (x == ("__debug__" : Str)) = false := by decide) : PE X (.Name x pos) (tC v) :=
  fun _ _ _ H _ I h => ld_blt I hg hm hv ⟨v, H, I, r, h⟩ hn hd


variable {a b : Expr} {ta tb : TE} {pos : Pos}
/-- a comparison as a value, as a test -/
def tB (t : TE) : TT := fun σ H Q => t σ H fun x H1 => ∃ c, x = .bl c ∧ Q c H1
/-- an expression whose value is a bool, as a test -/
theorem pt_val {e : Expr} {t : TE} (h : PE X e t) (he : ∀ whole, isTrue e X.env whole = (do let v ← whole; standAt e.pos; holding [v] (truthy v)) := by intro _; rfl) : PT X e (tB t) := by
  intro pins s σ H Q I hw
  refine isTrue_plain (thn (h pins s σ H _ I hw) fun v s1 ⟨x, H1, I1, r1, q1⟩ => ?_) (he _)
  obtain ⟨d, rfl, q⟩ := q1
  cases r1
  exact wpAny_truthy_bool ⟨H1, I1, q⟩


variable {tA tB' : TT} {rest : List Expr}
def tOr (t u : TT) : TT := fun σ H Q => t σ H fun c H1 => if c = true then Q true H1 else u σ H1 Q
def tNot (t : TT) : TT := fun σ H Q => t σ H fun c H1 => Q (!c) H1
theorem pw_or1 (ha : PT X a tA) : PW X (.BoolOp .Or [a] pos) tA := by
  intro wh pins s σ H Q I h
  refine isTrue_or (thn (ha pins s σ H Q I h) fun c s1 e => ?_)
  cases c with
  | false => exact isTrue_or_nil e
  | true => exact e
theorem pw_or (ha : PT X a tA) (hb : PW X (.BoolOp .Or (b :: rest) pos) tB') : PW X (.BoolOp .Or (a :: b :: rest) pos) (tOr tA tB') := by
  intro wh pins s σ H Q I h
  refine isTrue_or (thn (ha pins s σ H _ I h) fun c s1 ⟨H1, I1, q1⟩ => ?_)
  cases c with
  | true => exact ⟨H1, I1, q1⟩
  | false => exact hb wh pins s1 σ H1 Q I1 q1
theorem pt_not (ha : PT X a tA) : PT X (.UnaryOp .Not a pos) (tNot tA) := by
  intro pins s σ H Q I h
  exact isTrue_not (ha pins s σ H (fun c H1 => Q (!c) H1) I h)
/-- .. as values (bools) -/
def tAndV (ta tb : TE) : TE := fun σ H Q => ta σ H fun x H1 => ∃ c, x = .bl c ∧ if c = true then tb σ H1 Q else Q (.bl false) H1
def tNotV (ta : TE) : TE := fun σ H Q => ta σ H fun x H1 => ∃ c, x = .bl c ∧ Q (.bl (!c)) H1
theorem pe_one {op} {t : TE} (h : PE X a t) : PE X (.BoolOp op [a] pos) t := fun pins s σ H Q I hw => BoolOp_one (h pins s σ H Q I hw)
theorem pe_and (ha : PE X a ta) (hb : PE X (.BoolOp .And (b :: rest) pos) tb) : PE X (.BoolOp .And (a :: b :: rest) pos) (tAndV ta tb) := by
  intro pins s σ H Q I h
  refine BoolOp_and (thn (ha pins s σ H _ I h) fun v s1 ⟨x, H1, I1, r1, q1⟩ => ?_)
  obtain ⟨c, rfl, q1⟩ := q1
  cases r1
  refine wpAny_truthy_bool ?_
  cases c with
  | true => exact hb pins s1 σ H1 Q I1 q1
  | false => exact ⟨.bl false, H1, I1, rfl, q1⟩
theorem pe_not (ha : PE X a ta) : PE X (.UnaryOp .Not a pos) (tNotV ta) := by
  intro pins s σ H Q I h
  refine UnaryOp_ (thn (ha pins s σ H _ I h) fun v s1 ⟨x, H1, I1, r1, q1⟩ => ?_)
  obtain ⟨c, rfl, q1⟩ := q1
  cases r1
  exact not_of (wpAny_truthy_bool ⟨.bl (!c), H1, I1, rfl, q1⟩)
/-- a if t else b -/
def tIf (t : TT) (ta tb : TE) : TE := fun σ H Q => t σ H fun c H1 => if c = true then ta σ H1 Q else tb σ H1 Q
theorem pe_ifExp {c : Expr} (hc : PT X c tA) (ha : PE X a ta) (hb : PE X b tb) : PE X (.IfExp c a b pos) (tIf tA ta tb) := by
  intro pins s σ H Q I h
  refine wpAny_IfExp (thn (hc pins s σ H _ I h) fun d s1 ⟨H1, I1, q1⟩ => ?_)
  cases d with
  | true => exact ha pins s1 σ H1 Q I1 q1
  | false => exact hb pins s1 σ H1 Q I1 q1
end
end L2

namespace L2
open PySem PySem.Spec PyProof.Rows


def SqL (K : PySem.W.Frag) (H : Hp) (a : Addr) (xs : List V) : Prop :=
  Rd H a (.lst xs) ∨
    ∃ (o : Obj) (its : Array Value) (n : Nat), K.lookup a = some o ∧ o.cls = .type "list" ∧ o.dict = none ∧ o.data = .seq its n ∧ its.size ≤ sizeLine ∧ Vals xs its.toList
def SqT (K : PySem.W.Frag) (H : Hp) (a : Addr) (xs : List V) : Prop :=
  Rd H a (.tup xs) ∨
    ∃ (o : Obj) (its : Array Value) (n : Nat), K.lookup a = some o ∧ o.cls = .type "tuple" ∧ o.data = .seq its n ∧ its.size ≤ sizeLine ∧ Vals xs its.toList
def absV : Value → Option V
  | .none => some .non
  | .bool b => some (.bl b)
  | .int i _ => some (.int i)
  | .str x _ => some (.str x)
  | .bytes b _ => some (.byt b)
  | .float b _ => some (.flt b)
  | .ref a => some (.ref a)
  | .type n => some (.ty n)
  | _ => none
theorem RelV.abs {x : V} {u : Value} (r : RelV x u) : absV u = some x := by
  cases x with
  | non => cases r; rfl
  | bl _ => cases r; rfl
  | int _ => obtain ⟨t, rfl⟩ := r; rfl
  | str _ => obtain ⟨t, rfl⟩ := r; rfl
  | byt _ => obtain ⟨t, rfl⟩ := r; rfl
  | flt _ => obtain ⟨t, rfl⟩ := r; rfl
  | ref _ => cases r; rfl
  | ty _ => cases r; rfl
theorem RelV.inj {x y : V} {u : Value} (r : RelV x u) (q : RelV y u) : x = y := Option.some.inj (r.abs.symm.trans q.abs)
theorem Vals.inj : ∀ {xs ys : List V} {us : List Value}, Vals xs us → Vals ys us → xs = ys
  | _, _, _, .nil, .nil => rfl
  | _, _, _, .cons r t, .cons r' t' => by rw [r.inj r', Vals.inj t t']
section
variable {X : Cx} {pins : List (Addr × Obj)} {σ : St} {H : Hp} {s : Shared} {a : Addr} {xs ys : List V}
theorem SqL.of {K : PySem.W.Frag} (h : H a = some (.lst xs)) : SqL K H a xs := .inl (.inl h)
theorem SqT.of {K : PySem.W.Frag} (h : H a = some (.tup xs)) : SqT K H a xs := .inl (.inl h)
theorem Inv.list (I : Inv X pins σ H s) (h : SqL X.K H a xs) : ∃ its : List Value, Vals xs its ∧ PlainL s.heap a its.toArray ∧ xs.length ≤ sizeLine := by
  rcases h with h | ⟨o, its, n, hk, hc, hd, hs, hz, r⟩
  · obtain ⟨z, its, n, r, e⟩ := h.ok I.hok
    exact ⟨its, r, ⟨_, n, e, rfl, rfl, rfl⟩, z⟩
  · refine ⟨its.toList, r, ⟨o, n, I.kIn a o hk, hc, hd, by simpa using hs⟩, ?_⟩
    have e := r.length
    simp only [Array.length_toList] at e
    omega
theorem Inv.tuple (I : Inv X pins σ H s) (h : SqT X.K H a xs) : ∃ its : List Value, Vals xs its ∧ IsTup s.heap a its.toArray ∧ xs.length ≤ sizeLine := by
  rcases h with h | ⟨o, its, n, hk, hc, hs, hz, r⟩
  · obtain ⟨z, its, r, p⟩ := h.ok I.hok
    exact ⟨its, r, p, z⟩
  · refine ⟨its.toList, r, ⟨o, I.kIn a o hk, hc, n, by simpa using hs⟩, ?_⟩
    have e := r.length
    simp only [Array.length_toList] at e
    omega
theorem Inv.list_inj (I : Inv X pins σ H s) (h : SqL X.K H a xs) (h' : SqL X.K H a ys) : xs = ys := by
  obtain ⟨its, r, ⟨o, n, e, _, _, d⟩, _⟩ := I.list h
  obtain ⟨its', r', ⟨o', n', e', _, _, d'⟩, _⟩ := I.list h'
  rw [e] at e'; cases e'
  rw [d] at d'
  injection d' with d1 _
  have : its = its' := by simpa using congrArg Array.toList d1
  subst this
  exact r.inj r'
theorem Inv.tuple_inj (I : Inv X pins σ H s) (h : SqT X.K H a xs) (h' : SqT X.K H a ys) : xs = ys := by
  obtain ⟨its, r, ⟨o, e, _, n, d⟩, _⟩ := I.tuple h
  obtain ⟨its', r', ⟨o', e', _, n', d'⟩, _⟩ := I.tuple h'
  rw [e] at e'; cases e'
  rw [d] at d'
  injection d' with d1 _
  have : its = its' := by simpa using congrArg Array.toList d1
  subst this
  exact r.inj r'
end


abbrev Cx.wish (X : Cx) (E : Value → Shared → Prop) : Cx := { X with xe := E }
/-- no exception leaves -/
abbrev Cx.nox (X : Cx) : Cx := X.wish fun _ _ => False
theorem Cx.Ok.wish {X : Cx} (ok : X.Ok) (E : Value → Shared → Prop) : (X.wish E).Ok :=
  ⟨ok.mod, ok.kind, ok.glob, ok.blt, ok.above, ok.inj, ok.has, ok.cab, ok.hd, ok.frames, ok.stk, ok.exf, ok.bs, ok.bsz, ok.noex, ok.exfs, ok.funs, ok.frf⟩
theorem Cx.Ok.unwish {X : Cx} {E : Value → Shared → Prop} (ok : (X.wish E).Ok) : X.Ok :=
  ⟨ok.mod, ok.kind, ok.glob, ok.blt, ok.above, ok.inj, ok.has, ok.cab, ok.hd, ok.frames, ok.stk, ok.exf, ok.bs, ok.bsz, ok.noex, ok.exfs, ok.funs, ok.frf⟩
section
variable {X : Cx} {pins : List (Addr × Obj)} {σ : St} {H : Hp} {s : Shared} {E : Value → Shared → Prop}
theorem Inv.wish (I : Inv X pins σ H s) (E : Value → Shared → Prop) : Inv (X.wish E) pins σ H s := ⟨I.ok.wish E, I.os, I.bare, I.base, I.loc, I.cell, I.free, I.freeC, I.pin, I.hok, I.len⟩
theorem Inv.unwish (I : Inv (X.wish E) pins σ H s) : Inv X pins σ H s := ⟨I.ok.unwish, I.os, I.bare, I.base, I.loc, I.cell, I.free, I.freeC, I.pin, I.hok, I.len⟩
theorem SP.unwish {D : Ends} {f : Flow} {s' : Shared} (h : SP (X.wish E) pins D f s') : SP X pins D f s' := by
  cases f with
  | next => obtain ⟨σ', H', I, q⟩ := h; exact ⟨σ', H', I.unwish, q⟩
  | brk => obtain ⟨σ', H', I, q⟩ := h; exact ⟨σ', H', I.unwish, q⟩
  | cont => obtain ⟨σ', H', I, q⟩ := h; exact ⟨σ', H', I.unwish, q⟩
  | ret u => obtain ⟨v, σ', H', I, r, q⟩ := h; exact ⟨v, σ', H', I.unwish, r, q⟩
theorem PE.nox {e : Expr} {t : TE} (h : PE X.nox e t) : PE X e t := fun pins s σ H Q I hw =>
  wpAny_mono (h pins s σ H Q (I.wish _) hw) (fun _ _ ⟨v, H', I', r, q⟩ => ⟨v, H', I'.unwish, r, q⟩) fun _ _ z => False.elim z
theorem PT.nox {e : Expr} {t : TT} (h : PT X.nox e t) : PT X e t := fun pins s σ H Q I hw =>
  wpAny_mono (h pins s σ H Q (I.wish _) hw) (fun _ _ ⟨H', I', q⟩ => ⟨H', I'.unwish, q⟩) fun _ _ z => False.elim z
theorem PSs.nox {st : List Stmt} {t : TS} (h : PSs X.nox st t) : PSs X st t := fun pins s σ H D I hw =>
  wpAny_mono (h pins s σ H D (I.wish _) hw) (fun _ _ q => q.unwish) fun _ _ z => False.elim z
end


section
variable {X : Cx} {st : Stmt} {rest : List Stmt} {t u : TS} {e : Expr} {te : TE} {pos : Pos}
def tNext : TS := fun D σ H => D.nx σ H
def tSeq (t u : TS) : TS := fun D σ H => t { D with nx := u D } σ H
theorem pss_nil : PSs X [] tNext := fun _ _ σ H _ I h => wpAny_execs_nil ⟨σ, H, I, h⟩
theorem pss_cons (h1 : PS X st t) (h2 : PSs X rest u) : PSs X (st :: rest) (tSeq t u) := by
  intro pins s σ H D I h
  refine wpAny_execs_cons (thn (h1 pins s σ H { D with nx := u D } I h) fun f s1 q => ?_)
  cases f with
  | next =>
    obtain ⟨σ', H', I', q⟩ := q
    exact h2 pins s1 σ' H' D I' q
  | ret v => exact q
  | brk => exact q
  | cont => exact q
theorem pss_one (h1 : PS X st t) : PSs X [st] t := by
  intro pins s σ H D I h
  refine wpAny_execs_cons (thn (h1 pins s σ H D I h) fun f s1 q => ?_)
  cases f with
  | next => exact wpAny_execs_nil q
  | ret v => exact q
  | brk => exact q
  | cont => exact q
/-- in a def's body nothing is shown -/
theorem Inv.quiet {pins : List (Addr × Obj)} {σ : St} {H : Hp} {s : Shared} (I : Inv X pins σ H s) : interactive X.env = false := by simp [interactive, I.ok.kind]
/-- an expression whose value is dropped -/
def tDrop (te : TE) : TS := fun D σ H => te σ H fun _ H1 => D.nx σ H1
theorem ps_expr (he : PE X e te) (hs : swapsWith e none pos.line X.env = pure false := by rfl) : PS X (.Expr e pos) (tDrop te) := by
  intro pins s σ H D I h
  exact wpAny_Expr_any (thn (he pins s σ H _ I h) fun v s1 ⟨x, H1, I1, r1, q1⟩ => ⟨σ, H1, I1, q1⟩) I.quiet hs
def tRet (te : TE) : TS := fun D σ H => te σ H D.rt
theorem ps_ret (he : PE X e te) : PS X (.Return (some e) pos) (tRet te) := by
  intro pins s σ H D I h
  exact wpAny_Return_some (thn (he pins s σ H _ I h) fun v s1 ⟨x, H1, I1, r1, q1⟩ => ⟨x, σ, H1, I1, r1, q1⟩)
def tIfS (c : TT) (t u : TS) : TS := fun D σ H => c σ H fun b H1 => if b = true then t D σ H1 else u D σ H1
theorem ps_if {c : Expr} {a b : List Stmt} {tc : TT} (hc : PT X c tc) (ha : PSs X a t) (hb : PSs X b u) : PS X (.If c a b pos) (tIfS tc t u) := by
  intro pins s σ H D I h
  refine wpAny_If (thn (hc pins s σ H _ I h) fun d s1 ⟨H1, I1, q1⟩ => ?_)
  cases d with
  | true => exact ha pins s1 σ H1 D I1 q1
  | false => exact hb pins s1 σ H1 D I1 q1
/-- code that the proof never comes to -/
def tNever : TS := fun _ _ _ => False
theorem ps_never : PS X st tNever := fun _ _ _ _ _ _ h => h.elim
theorem pss_never {sts : List Stmt} : PSs X sts tNever := fun _ _ _ _ _ _ h => h.elim
end


abbrev TG := V → St → Hp → (St → Hp → Prop) → Prop
abbrev TGs := List V → St → Hp → (St → Hp → Prop) → Prop
def PG (X : Cx) (target : Expr) (t : TG) : Prop :=
  ∀ (pins : List (Addr × Obj)) (s : Shared) (σ : St) (H : Hp) (v : V) (u : Value) (Q : St → Hp → Prop), Inv X pins σ H s → RelV v u → t v σ H Q →
    wpAny (model X.prog X.w) X.A (assign target X.env u) (fun _ s' => ∃ σ' H', Inv X pins σ' H' s' ∧ Q σ' H') X.xe s
/-- several targets, one after another -/
def PGs (X : Cx) (ts : List Expr) (t : TGs) : Prop :=
  ∀ (pins : List (Addr × Obj)) (s : Shared) (σ : St) (H : Hp) (vs : List V) (us : List Value) (Q : St → Hp → Prop), Inv X pins σ H s → Vals vs us → t vs σ H Q →
    wpAny (model X.prog X.w) X.A (assignInOrder ((assignEach ts X.env).map (·.2)) us) (fun _ s' => ∃ σ' H', Inv X pins σ' H' s' ∧ Q σ' H') X.xe s
/-- o[i] = v, by values -/
abbrev TSet := V → V → V → Hp → (Hp → Prop) → Prop
def PSet (X : Cx) (t : TSet) : Prop :=
  ∀ (pins : List (Addr × Obj)) (s : Shared) (σ : St) (H : Hp) (o i v : V) (ov iv u : Value) (Q : Hp → Prop), Inv X pins σ H s → RelV o ov → RelV i iv → RelV v u → t o i v H Q →
    wpAny (model X.prog X.w) X.A (setItem ov iv u) (fun _ s' => ∃ H', Inv X pins σ H' s' ∧ Q H') X.xe s
section
variable {X : Cx} {pos : Pos}
def gName (i : Nat) : TG := fun v σ H Q => Q (σ.set i (some v)) H
theorem pg_name {i : Nat} {x : Str} (hN : X.N.Nodup) (hi : X.N[i]? = some x) (hx : Loc X.env.scope x) (hf : X.fn x = true ∨ X.env.scope.names.lookup x = some .local := by first | exact .inl rfl | exact .inr rfl | assumption) : PG X (.Name x pos) (gName i) := by
  intro pins s σ H v u Q I r h
  exact wpAny_assign_Name (store_ok I hN hi hx r (fun s' I' => ⟨_, H, I', h⟩) hf)
def gNil : TGs := fun vs σ H Q => vs = [] ∧ Q σ H
def gCons (t : TG) (u : TGs) : TGs := fun vs σ H Q => ∃ v r, vs = v :: r ∧ t v σ H fun σ' H' => u r σ' H' Q
theorem pgs_nil : PGs X [] gNil := by
  intro pins s σ H vs us Q I r h
  obtain ⟨e, h⟩ := h
  subst e
  cases r
  exact assignInOrder_nil ⟨σ, H, I, h⟩
theorem pgs_cons {e : Expr} {es : List Expr} {t : TG} {u : TGs} (h1 : PG X e t) (h2 : PGs X es u)
    (hs : (assignEach (e :: es) X.env).map (·.2) = assign e X.env :: (assignEach es X.env).map (·.2) := by rfl) : PGs X (e :: es) (gCons t u) := by
  intro pins s σ H vs us Q I r h
  obtain ⟨v, vr, e1, h⟩ := h
  subst e1
  cases r with
  | cons r rr =>
    rw [hs]
    refine assignInOrder_cons (thn (h1 pins s σ H _ _ _ I r h) fun _ s1 ⟨σ1, H1, I1, q1⟩ => ?_)
    exact h2 pins s1 σ1 H1 _ _ Q I1 rr q1
/-- (a, b, ..) = a tuple of that length -/
def gTup (K : PySem.W.Frag) (n : Nat) (t : TGs) : TG := fun v σ H Q => ∃ a xs, v = .ref a ∧ SqT K H a xs ∧ xs.length = n ∧ t xs σ H Q
theorem pg_tup {es : List Expr} {k : Nat} {t : TGs} {n : Nat} (hc : X.calm = true) (h : PGs X es t)
    (hn : (assignEach es X.env).length = n := by rfl) (hst : (assignEach es X.env).findIdx? (·.1) = none := by rfl) : PG X (.Tuple es k pos) (gTup X.K n t) := by
  intro pins s σ H v u Q I r hw
  obtain ⟨a, xs, e1, hq, hl, hw⟩ := hw
  subst e1
  cases r
  obtain ⟨its, rv, ht, hz⟩ := I.tuple hq
  refine assign_Tuple_tuple (I.ok.hd hc) ht (by simp [hn, ← hl, rv.length]) hst fun h' hx => ?_
  have I1 : Inv X pins σ H { s with heap := h' } := I.kept (t' := s.toks) fun b o e => hx b o (Nat.ne_of_lt (Heap.lt_size e)) e
  exact h pins _ σ H xs _ Q I1 (by simpa using rv) hw
/-- target = value -/
def tAsg (te : TE) (g : TG) : TS := fun D σ H => te σ H fun x H1 => g x σ H1 D.nx
/-- name = value -/
theorem ps_set {i : Nat} {x : Str} {e : Expr} {te : TE} {pos' : Pos} (hN : X.N.Nodup) (hi : X.N[i]? = some x) (hx : Loc X.env.scope x) (he : PE X e te) (hs : swapsWith e (some (.Name x pos')) pos.line X.env = pure false := by rfl) (hf : X.fn x = true ∨ X.env.scope.names.lookup x = some .local := by first | exact .inl rfl | exact .inr rfl | assumption) :
    PS X (.Assign [.Name x pos'] e pos) (tAsg te (gName i)) := by
  intro pins s σ H D I h
  refine wpAny_Assign_Name (thn (he pins s σ H _ I h) fun v s1 ⟨y, H1, I1, r1, q1⟩ => ?_) hs
  exact store_ok I1 hN hi hx r1 (fun s2 I2 => ⟨_, H1, I2, q1⟩) hf
/-- a, b = x, y with plain local names: stored from the right; the pair itself is not tracked (the opening rows as in PyProof/Rows/TupAssign.lean:23) -/
def tPar (i j : Nat) (ta : TA) : TS := fun D σ H => ta σ H fun vs H1 => ∃ v w, vs = [v, w] ∧ D.nx ((σ.set i (some v)).set j (some w)) H1
theorem ps_par {i j : Nat} {x y : Str} {a b : Expr} {ta : TA} {px py pt : Pos} {kt k2 pt2} (hc : X.calm = true) (hN : X.N.Nodup) (hi : X.N[i]? = some x) (hj : X.N[j]? = some y) (hij : i ≠ j)
    (hx : X.env.scope.names.lookup x = some .local) (hy : X.env.scope.names.lookup y = some .local) (ha : PA X [a, b] ta)
    (hw : swappedStores [.Tuple [.Name x px, .Name y py] kt pt] (.Tuple [a, b] k2 pt2) X.env = pure (some [x, y]))
    (hs : swapsWithSole [.Tuple [.Name x px, .Name y py] kt pt] (.Tuple [a, b] k2 pt2) pos.line X.env = pure false := by rfl) :
    PS X (.Assign [.Tuple [.Name x px, .Name y py] kt pt] (.Tuple [a, b] k2 pt2) pos) (tPar i j ta) := by
  intro pins s σ H D I h
  rw [exec_Assign_arm]
  refine wpAny_bind (wpAny_standAt ?_)
  rw [hs]
  refine wpAny_bind (wpAny_pure ?_)
  rw [if_neg (by decide)]
  refine wpAny_bind (Tuple_ (thn (ha _ pins s σ H _ I h) fun us s1 ⟨vs, H1, I1, r1, q1⟩ => ?_))
  obtain ⟨v, w, e1, q1⟩ := q1
  subst e1
  obtain ⟨u1, u2, rfl, rv, rw'⟩ : ∃ u1 u2, us = [u1, u2] ∧ RelV v u1 ∧ RelV w u2 := by
    cases r1 with
    | cons p q =>
      cases q with
      | cons p' q' =>
        cases q'
        exact ⟨_, _, rfl, p, p'⟩
  refine wpAny_newObj_type ?_ (by show 2 ≤ sizeLine; decide)
  have I2 : Inv X pins σ H1 { s1 with heap := s1.heap.push { cls := .type "tuple", data := .seq [u1, u2].toArray } } := I1.kept (t' := s1.toks) fun b o e => Heap.get?_push_of_some _ e
  rw [hw]
  refine wpAny_bind (wpAny_pure ?_)
  show wpAny (model X.prog X.w) X.A (do rule "assign.swapped-stores"; let items ← unpackItems (.ref s1.heap.objs.size) 2 none; assignInOrder [fun v => bindName X.env y v, fun v => bindName X.env x v] items.reverse; pure Flow.next) _ _ _
  refine wpAny_bind (wpAny_rule (wpAny_bind (unpackItems_tuple (items := #[u1, u2]) (I.ok.hd hc) (IsTup.new s1.heap _) fun h' hx' => ?_)))
  have I3 := I2.kept (h' := h') (t' := s1.toks) fun b o e => hx' b o (Nat.ne_of_lt (Heap.lt_size e)) e
  show wpAny _ _ (assignInOrder [fun v => bindName X.env y v, fun v => bindName X.env x v] [u2, u1] >>= fun _ => pure Flow.next) _ _ _
  refine wpAny_bind (assignInOrder_cons (wpAny_bindName (store_ok I3 hN hj (.inl hy) rw' (fun s2 I4 => ?_) (.inr hy))))
  refine assignInOrder_cons (wpAny_bindName (store_ok I4 hN hi (.inl hx) rv (fun s3 I5 => assignInOrder_nil (wpAny_pure ?_)) (.inr hx)))
  rw [List.set_comm _ _ (Ne.symm hij)] at I5
  exact ⟨_, H1, I5, q1⟩
end


section
variable {X : Cx} {pos : Pos}
end


/-- at turn i: it yields x (the heap may grow), or it stops -/
structure It where
  go : Nat → Hp → Prop
  yld : Nat → Hp → V → Hp → Prop
  stop : Nat → Hp → Prop
/-- the iterator's own objects may turn: they are not the frame's, not pinned, younger than the entry (or a comprehension's own) -/
def FpOk (X : Cx) (pins : List (Addr × Obj)) (H : Hp) (b : Addr) : Prop :=
  H b = none ∧ b ≠ X.env.locals ∧ b ∉ X.fs ∧ (b ∈ X.ex ∨ X.s₀.heap.objs.size ≤ b) ∧ (∀ x c, X.env.cells.lookup x = some c → c ≠ b) ∧ ∀ p ∈ X.pn ++ pins, p.1 ≠ b
theorem Inv.fpOk {X : Cx} {pins : List (Addr × Obj)} {σ : St} {H H' : Hp} {s : Shared} {b : Addr} (I : Inv X pins σ H s) (hb : s.heap.objs.size ≤ b) (hn : H' b = none) : FpOk X pins H' b := by
  refine ⟨hn, Nat.ne_of_gt (Nat.lt_of_lt_of_le I.lt hb), I.nofs hb, .inr (Nat.le_trans I.sz hb), fun x c e z => ?_, fun p hp z => ?_⟩
  · obtain ⟨v, q⟩ := I.cell x c e
    exact absurd (Nat.lt_of_lt_of_le q.lt (by rw [z]; exact hb)) (Nat.lt_irrefl _)
  · exact absurd (Nat.lt_of_lt_of_le (Heap.lt_size (I.pin p hp).1) (by rw [z]; exact hb)) (Nat.lt_irrefl _)
structure Turn (P : Program) (w : World) (K : PySem.W.Frag) (tg : Expr) (J : It) (fp : List Addr) (it : Addr) (tn : Nat → Heap → Prop) : Prop where
  mem : it ∈ fp
  obj : ∀ i h, tn i h → ∀ b ∈ fp, ∃ o, h.get? b = some o ∧ ∀ v, o.data ≠ .cell v
  keep : ∀ i h h', tn i h → (∀ b ∈ fp, ∀ o, h.get? b = some o → h'.get? b = some o) → tn i h'
  item : ∀ (X : Cx), X.prog = P → X.w = w → X.K = K → X.calm = true → ∀ (i : Nat) (pins : List (Addr × Obj)) (s : Shared) (σ : St) (H : Hp) (E : Value → Shared → Prop), Inv X pins σ H s → (∀ b ∈ fp, FpOk X pins H b) → tn i s.heap → J.go i H →
    wpAny (model P w) X.A (pyNext (.ref it)) (fun r s1 => ∃ u, r = some u ∧
      wpAny (model P w) X.A (letOwnedTupleGo tg (.ref it) u) (fun _ s2 => ∃ x H', Inv X pins σ H' s2 ∧ RelV x u ∧ J.yld i H x H' ∧ tn (i + 1) s2.heap ∧ ∀ b ∈ fp, H' b = none) E s1) E s
  done : ∀ (X : Cx), X.prog = P → X.w = w → X.K = K → X.calm = true → ∀ (i : Nat) (pins : List (Addr × Obj)) (s : Shared) (σ : St) (H : Hp) (E : Value → Shared → Prop), Inv X pins σ H s → (∀ b ∈ fp, FpOk X pins H b) → tn i s.heap → J.stop i H →
    wpAny (model P w) X.A (pyNext (.ref it)) (fun r s1 => r = none ∧ Inv X pins σ H s1) E s
  self : ∀ (A : Around) (i : Nat) (s : Shared) (Q : Value → Shared → Prop) (E : Value → Shared → Prop), tn i s.heap → Q (.ref it) s → wpAny (model P w) A (pyIter (.ref it)) Q E s
abbrev TI := St → Hp → (It → Hp → Prop) → Prop
/-- an iterator has come -/
def PIE (X : Cx) (pins : List (Addr × Obj)) (σ : St) (tg : Expr) (R : It → Hp → Prop) (itv : Value) (s2 : Shared) : Prop :=
  ∃ (it : Addr) (fp : List Addr) (tn : Nat → Heap → Prop) (J : It) (H' : Hp), itv = .ref it ∧ Inv X pins σ H' s2 ∧ Turn X.prog X.w X.K tg J fp it tn ∧ tn 0 s2.heap ∧ (∀ b ∈ fp, FpOk X pins H' b) ∧ R J H'
def PI (X : Cx) (tg iter : Expr) (wi : TI) : Prop :=
  ∀ (pins : List (Addr × Obj)) (s : Shared) (σ : St) (H : Hp) (R : It → Hp → Prop), Inv X pins σ H s → wi σ H R →
    wpAny (model X.prog X.w) X.A (eval iter X.env) (fun v s1 => wpAny (model X.prog X.w) X.A (pyIter v) (PIE X pins σ tg R) X.xe s1) X.xe s

/-- the step ahead of the store is nothing for an iterator that keeps no tuple -/
theorem go_of {M : Model} {A : Around} {E : Value → Shared → Prop} {s : Shared} {tg : Expr} {it : Addr} {u : Value} {o : Obj} {n : String} {vs : Array Value} {Q : Unit → Shared → Prop} (ho : s.heap.get? it = some o) (hc : o.cls = .type n) (hd : o.data = .fields vs)
    (hn : ["enumerate", "zip", "dict_itemiterator", "dict_reverseitemiterator", "odict_iterator", "itertools.zip_longest", "itertools.pairwise"].contains n = false) (hQ : Q () s) : wpAny M A (letOwnedTupleGo tg (.ref it) u) Q E s := by
  unfold letOwnedTupleGo
  cases tg <;> first
    | exact wpAny_pure hQ
    | (cases u <;> first
        | exact wpAny_pure hQ
        | (refine wpAny_bind (wpAny_load ho ?_)
           rw [hc, hd]
           show wpAny M A (if (["enumerate", "zip", "dict_itemiterator", "dict_reverseitemiterator", "odict_iterator", "itertools.zip_longest", "itertools.pairwise"].contains n && vs[0]? == some (rawInt _)) = true then _ else _) Q E s
           rw [if_neg (by intro h; rw [hn, Bool.false_and] at h; cases h)]
           exact wpAny_pure hQ))

/-- the list at a, as it stands at each turn (a loop may append to it) -/
def Itl (K : PySem.W.Frag) (a : Addr) : It :=
  ⟨fun i H => ∃ xs x, SqL K H a xs ∧ xs[i]? = some x, fun i H x H' => H' = H ∧ ∀ xs, SqL K H a xs → xs[i]? = some x, fun i H => ∃ xs, SqL K H a xs ∧ xs.length ≤ i⟩
def Itt (K : PySem.W.Frag) (a : Addr) : It :=
  ⟨fun i H => ∃ xs x, SqT K H a xs ∧ xs[i]? = some x, fun i H x H' => H' = H ∧ ∀ xs, SqT K H a xs → xs[i]? = some x, fun i H => ∃ xs, SqT K H a xs ∧ xs.length ≤ i⟩
/-- lo, lo + 1, .. (n of them) -/
def Itr (lo : Int) (n : Nat) : It := ⟨fun i _ => i < n, fun i H x H' => H' = H ∧ x = .int (lo + i), fun i _ => n ≤ i⟩
theorem turn_list {P : Program} {w : World} {K : PySem.W.Frag} {tg : Expr} (a it : Addr) : Turn P w K tg (Itl K a) [it] it (fun i h => h.IsListIter it a i) where
  mem := by simp
  obj := fun i h st b hb => by
    have e : b = it := by simpa using hb
    subst e
    obtain ⟨o, e, c, d⟩ := st
    exact ⟨o, e, fun v z => by rw [d] at z; cases z⟩
  keep := fun i h h' st k => st.at fun o e => k it (by simp) o e
  item := by
    intro X hP hw hK hc i pins s σ H E I hf st hg
    subst hP hw hK
    obtain ⟨xs, x, hq, hx⟩ := hg
    obtain ⟨its, rv, p, hz⟩ := I.list hq
    obtain ⟨u, hu, ru⟩ := rv.get hx
    obtain ⟨f0, f1, f2, f3, f4, f5⟩ := hf it (by simp)
    refine wpAny_pyNext_list_item st p.isList (x := u) (by simpa using hu) fun h' st' sb => ?_
    have I1 : Inv X pins σ H { s with heap := h' } := I.turned (t' := s.toks) (fun b o hb e => (sb.2 b hb).trans e) f0 f1 f3 f4 f5
    obtain ⟨o, e, c, d⟩ := id st'
    exact ⟨u, rfl, go_of (s := { s with heap := h' }) e c d (by decide) ⟨x, H, I1, ru, ⟨rfl, fun ys hy => by rw [I.list_inj hy hq]; exact hx⟩, st', fun b hb => (hf b hb).1⟩⟩
  done := by
    intro X hP hw hK hc i pins s σ H E I hf st hg
    subst hP hw hK
    obtain ⟨xs, hq, hx⟩ := hg
    obtain ⟨its, rv, p, hz⟩ := I.list hq
    obtain ⟨f0, f1, f2, f3, f4, f5⟩ := hf it (by simp)
    have hl := rv.length
    exact wpAny_pyNext_list_end (I.ok.hd hc) st p.isList (by simp; omega) fun h' eb => ⟨rfl, I.turned (t' := s.toks) (fun b o hb e => eb b o hb e) f0 f1 f3 f4 f5⟩
  self := fun _ _ _ _ _ st h => wpAny_pyIter_listiter st h
theorem turn_tuple {P : Program} {w : World} {K : PySem.W.Frag} {tg : Expr} (a it : Addr) : Turn P w K tg (Itt K a) [it] it (fun i h => h.IsTupleIter it a i) where
  mem := by simp
  obj := fun i h st b hb => by
    have e : b = it := by simpa using hb
    subst e
    obtain ⟨o, e, c, d⟩ := st
    exact ⟨o, e, fun v z => by rw [d] at z; cases z⟩
  keep := fun i h h' st k => st.at fun o e => k it (by simp) o e
  item := by
    intro X hP hw hK hc i pins s σ H E I hf st hg
    subst hP hw hK
    obtain ⟨xs, x, hq, hx⟩ := hg
    obtain ⟨its, rv, p, hz⟩ := I.tuple hq
    obtain ⟨u, hu, ru⟩ := rv.get hx
    obtain ⟨f0, f1, f2, f3, f4, f5⟩ := hf it (by simp)
    refine wpAny_pyNext_tuple_item st (show s.heap.IsTuple a its.toArray from p) (x := u) (by simpa using hu) fun h' st' sb => ?_
    have I1 : Inv X pins σ H { s with heap := h' } := I.turned (t' := s.toks) (fun b o hb e => (sb.2 b hb).trans e) f0 f1 f3 f4 f5
    obtain ⟨o, e, c, d⟩ := id st'
    exact ⟨u, rfl, go_of (s := { s with heap := h' }) e c d (by decide) ⟨x, H, I1, ru, ⟨rfl, fun ys hy => by rw [I.tuple_inj hy hq]; exact hx⟩, st', fun b hb => (hf b hb).1⟩⟩
  done := by
    intro X hP hw hK hc i pins s σ H E I hf st hg
    subst hP hw hK
    obtain ⟨xs, hq, hx⟩ := hg
    obtain ⟨its, rv, p, hz⟩ := I.tuple hq
    obtain ⟨f0, f1, f2, f3, f4, f5⟩ := hf it (by simp)
    have hl := rv.length
    exact wpAny_pyNext_tuple_end (I.ok.hd hc) st (show s.heap.IsTuple a its.toArray from p) (by simp; omega) fun h' eb => ⟨rfl, I.turned (t' := s.toks) (fun b o hb e => eb b o hb e) f0 f1 f3 f4 f5⟩
  self := fun _ _ _ _ _ st h => wpAny_pyIter_tupleiter st h
theorem turn_range {P : Program} {w : World} {K : PySem.W.Frag} {tg : Expr} (it : Addr) (lo : Int) (n : Nat) : Turn P w K tg (Itr lo n) [it] it (fun i h => IsRangeIter h it (lo + (i : Nat) * 1) ((n : Int) - (i : Nat)) 1) where
  mem := by simp
  obj := fun i h st b hb => by
    have e : b = it := by simpa using hb
    subst e
    exact ⟨_, st, fun v z => by
      have z' : Data.fields _ = Data.cell v := z
      cases z'⟩
  keep := fun i h h' st k => k it (by simp) _ st
  item := by
    intro X hP hw hK hc i pins s σ H E I hf st hg
    subst hP hw hK
    obtain ⟨f0, f1, f2, f3, f4, f5⟩ := hf it (by simp)
    have W := Walks.range (prog := X.prog) (w := X.w) (I.ok.hd hc) it lo 1 n
    refine W.item i s _ _ hg st fun v h' tk hv st' kk => ?_
    obtain ⟨t, rfl⟩ := hv
    have I1 : Inv X pins σ H { s with heap := h', toks := tk } := I.turned (fun b o hb e => kk b o (by simpa using hb) e) f0 f1 f3 f4 f5
    refine ⟨_, rfl, go_of (s := { s with heap := h', toks := tk }) (n := "range_iterator") st' rfl rfl (by decide) ⟨.int (lo + i), H, I1, ⟨t, ?_⟩, ⟨rfl, rfl⟩, st', fun b hb => (hf b hb).1⟩⟩
    rw [Int.mul_one]
  done := by
    intro X hP hw hK hc i pins s σ H E I hf st hg
    subst hP hw hK
    obtain ⟨f0, f1, f2, f3, f4, f5⟩ := hf it (by simp)
    exact wpAny_pyNext_range_end (I.ok.hd hc) st (by have : n ≤ i := hg; omega) fun h' eb => ⟨rfl, I.turned (t' := s.toks) (fun b o hb e => eb b o hb e) f0 f1 f3 f4 f5⟩
  self := fun _ _ _ _ _ st h => wpAny_pyIter_rangeiter st h
end L2

namespace L2
open PySem PySem.Spec PyProof.Rows
section
variable {X : Cx} {tg : Expr}
def iList (K : PySem.W.Frag) (tl : TE) : TI := fun σ H R => tl σ H fun x H1 => ∃ a, x = .ref a ∧ (∃ xs, SqL K H1 a xs) ∧ R (Itl K a) H1
def iTup (K : PySem.W.Frag) (tl : TE) : TI := fun σ H R => tl σ H fun x H1 => ∃ a, x = .ref a ∧ (∃ xs, SqT K H1 a xs) ∧ R (Itt K a) H1
theorem pi_list {l : Expr} {tl : TE} (hl : PE X l tl) : PI X tg l (iList X.K tl) := by
  intro pins s σ H R I h
  refine thn (hl pins s σ H _ I h) fun v s1 ⟨x, H1, I1, r1, q1⟩ => ?_
  obtain ⟨a, e, ⟨xs, hq⟩, q⟩ := q1
  subst e
  cases r1
  obtain ⟨its, rv, p, hz⟩ := I1.list hq
  refine wpAny_pyIter_list p.isList ?_
  refine ⟨s1.heap.objs.size, [s1.heap.objs.size], _, _, H1, rfl, I1.kept (t' := s1.toks) fun b o e => Heap.get?_push_of_some _ e, turn_list a _, ⟨_, Heap.get?_push_size _ rfl, rfl, rfl⟩, fun b hb => ?_, q⟩
  have e : b = s1.heap.objs.size := by simpa using hb
  subst e
  exact I1.fpOk (Nat.le_refl _) (I1.hok.fresh (Nat.le_refl _))
theorem pi_tup {l : Expr} {tl : TE} (hl : PE X l tl) : PI X tg l (iTup X.K tl) := by
  intro pins s σ H R I h
  refine thn (hl pins s σ H _ I h) fun v s1 ⟨x, H1, I1, r1, q1⟩ => ?_
  obtain ⟨a, e, ⟨xs, hq⟩, q⟩ := q1
  subst e
  cases r1
  obtain ⟨its, rv, p, hz⟩ := I1.tuple hq
  refine wpAny_pyIter_tuple (show s1.heap.IsTuple a its.toArray from p) ?_
  refine ⟨s1.heap.objs.size, [s1.heap.objs.size], _, _, H1, rfl, I1.kept (t' := s1.toks) fun b o e => Heap.get?_push_of_some _ e, turn_tuple a _, ⟨_, Heap.get?_push_size _ rfl, rfl, rfl⟩, fun b hb => ?_, q⟩
  have e : b = s1.heap.objs.size := by simpa using hb
  subst e
  exact I1.fpOk (Nat.le_refl _) (I1.hok.fresh (Nat.le_refl _))
/-- a range object just made, walked -/
theorem range_it {pins : List (Addr × Obj)} {σ : St} {H : Hp} {s : Shared} {R : It → Hp → Prop} {E : Value → Shared → Prop} {lo hi : Int} {t u v : Tok} {tk : Nat} (I : Inv X pins σ H s) (h1 : -(2 ^ 62) ≤ lo) (h2 : lo < 2 ^ 62) (h3 : -(2 ^ 62) ≤ hi) (h4 : hi < 2 ^ 62)
    (q : R (Itr lo (hi - lo).toNat) H) : wpAny (model X.prog X.w) X.A (pyIter (.ref s.heap.objs.size)) (PIE X pins σ tg R) E { s with heap := s.heap.push { cls := .type "range", data := .fields #[.int lo t, .int hi u, .int 1 v] }, toks := tk } := by
  refine wpAny_pyIter_range (IsRange.new ..) (small_one h1 h2 h3 h4) ?_
  have I1 : Inv X pins σ H { s with heap := s.heap.push { cls := .type "range", data := .fields #[.int lo t, .int hi u, .int 1 v] }, toks := tk } := I.kept fun b o e => Heap.get?_push_of_some _ e
  refine ⟨(s.heap.push { cls := .type "range", data := .fields #[.int lo t, .int hi u, .int 1 v] }).objs.size, [(s.heap.push { cls := .type "range", data := .fields #[.int lo t, .int hi u, .int 1 v] }).objs.size], _, _, H, rfl,
    I1.kept (t' := tk) fun b o e => Heap.get?_push_of_some _ e, turn_range _ lo (hi - lo).toNat, ?_, fun b hb => ?_, q⟩
  · have e1 : lo + ((0 : Nat) : Int) * 1 = lo := by simp
    have e2 : (((hi - lo).toNat : Nat) : Int) - ((0 : Nat) : Int) = Builtin.Range.rangeSize lo hi 1 := by rw [rangeSize_one]; split <;> omega
    show IsRangeIter _ _ (lo + ((0 : Nat) : Int) * 1) ((((hi - lo).toNat : Nat) : Int) - ((0 : Nat) : Int)) 1
    rw [e1, e2]
    exact Heap.get?_push_size _ rfl
  · have e : b = (s.heap.push { cls := .type "range", data := .fields #[.int lo t, .int hi u, .int 1 v] }).objs.size := by simpa using hb
    subst e
    exact I1.fpOk (Nat.le_refl _) (I1.hok.fresh (Nat.le_refl _))
def iRng1 (ta : TA) : TI := fun σ H R => ta σ H fun vs H1 => ∃ j : Int, vs = [.int j] ∧ -(2 ^ 62) ≤ j ∧ j < 2 ^ 62 ∧ R (Itr 0 j.toNat) H1
theorem pi_range1 {a : Expr} {ta : TA} {p pos : Pos} (hg : Gl X "range") (hm : X.mg "range" = none) (ha : PA X [a] ta) (hs : starEach [a] X.env = [(false, eval a X.env)] := by rfl) : PI X tg (.Call (.Name "range" p) [a] [] pos) (iRng1 ta) := by
  intro pins s σ H R I h
  refine Call_ (ld_blt I hg hm boot_range (PyProof.Rows.callWith_type1 (thn (ha pos pins s σ H _ I h) fun us s1 ⟨vs, H1, I1, r1, q1⟩ => ?_) hs rfl))
  obtain ⟨j, e, q1, q2, q⟩ := q1
  subst e
  cases r1 with
  | cons r rr =>
    cases rr
    obtain ⟨t, rfl⟩ := r
    exact call_range_1 (range_it I1 (by omega) (by omega) q1 q2 (by simpa using q))
/-- W: the invariant by the turn and a measure; N: what the body is to reach -/
def tFor (wi : TI) (g : TG) (tb : TS) : TS := fun D σ H => wi σ H fun J H1 => ∃ W : Nat → Nat → St → Hp → Prop, (∃ m, W 0 m σ H1) ∧ ∀ i m σ H, W i m σ H →
  (J.stop i H ∧ D.nx σ H) ∨ (J.go i H ∧ ∃ N : St → Hp → Prop, (∀ σ' H', N σ' H' → ∃ m', m' < m ∧ W (i + 1) m' σ' H') ∧ ∀ x H', J.yld i H x H' → g x σ H' fun σ2 H2 => tb { D with nx := N, ct := N, bk := D.nx } σ2 H2)
/-- the records at fp as they stand -/
def pinsAt (fp : List Addr) (h : Heap) : List (Addr × Obj) := fp.filterMap fun b => (h.get? b).map fun o => (b, o)
theorem mem_pinsAt {fp : List Addr} {h : Heap} {b : Addr} {o : Obj} (hb : b ∈ fp) (e : h.get? b = some o) : (b, o) ∈ pinsAt fp h := List.mem_filterMap.mpr ⟨b, hb, by rw [e]; rfl⟩
theorem of_pinsAt {fp : List Addr} {h : Heap} {p : Addr × Obj} (hp : p ∈ pinsAt fp h) : p.1 ∈ fp ∧ h.get? p.1 = some p.2 := by
  obtain ⟨b, hb, e⟩ := List.mem_filterMap.mp hp
  cases q : h.get? b with
  | none => rw [q] at e; cases e
  | some o =>
    rw [q] at e
    have e' : (b, o) = p := Option.some.inj e
    subst e'
    exact ⟨hb, q⟩
theorem Inv.pinned {pins : List (Addr × Obj)} {σ : St} {H : Hp} {s : Shared} {fp : List Addr} (I : Inv X pins σ H s) (hf : ∀ b ∈ fp, FpOk X pins H b) (ho : ∀ b ∈ fp, ∃ o, s.heap.get? b = some o ∧ ∀ v, o.data ≠ .cell v) : Inv X (pins ++ pinsAt fp s.heap) σ H s :=
  I.pins_of fun p hp => (List.mem_append.mp hp).elim (fun z => I.pin p (List.mem_append_right _ z)) fun z => by
    obtain ⟨hb, e⟩ := of_pinsAt z
    obtain ⟨f0, f1, f2, _⟩ := hf p.1 hb
    obtain ⟨o, e', d⟩ := ho p.1 hb
    rw [e] at e'; cases e'
    exact ⟨e, f0, f1, f2, d⟩
theorem Inv.unpinned {pins pl : List (Addr × Obj)} {σ : St} {H : Hp} {s : Shared} (I : Inv X (pins ++ pl) σ H s) : Inv X pins σ H s := I.pins_of fun p hp => I.pin p (List.mem_append_right _ (List.mem_append_left _ hp))
theorem ps_for {iter : Expr} {body : List Stmt} {wi : TI} {g : TG} {tb : TS} {pos : Pos} (hp : PassesOwn (model X.prog X.w) X.A X.env X.xe) (hc : X.calm = true) (hi : PI X tg iter wi) (hg : PG X tg g) (hb : PSs X body tb)
    (hs : ∀ x, foldedSetIterable iter X.env x = pure x := by intro _; rfl) : PS X (.For tg iter body [] pos) (tFor wi g tb) := by
  intro pins s σ H D I h
  refine wpAny_For (thn (hi pins s σ H _ I h) fun v s1 h1 => thn h1 fun itv s2 h2 => ?_) hs
  obtain ⟨it, fp, tn, J, H2, e, I2, T, st2, f2, W, ⟨m0, w0⟩, turn⟩ := h2
  subst e
  -- what stays true of the iterator's objects through the loop
  have stat : ∀ {H' : Hp}, (∀ b ∈ fp, H' b = none) → ∀ b ∈ fp, FpOk X pins H' b := fun hn b hb => ⟨hn b hb, (f2 b hb).2⟩
  refine codeAny_forLoop_any (fun n s' => ∃ i σ' H', Inv X pins σ' H' s' ∧ tn i s'.heap ∧ (∀ b ∈ fp, H' b = none) ∧ W i n σ' H') ?_ m0 ⟨0, σ, H2, I2, st2, fun b hb => (f2 b hb).1, w0⟩
  rintro n s3 ⟨i, σ3, H3, I3, st3, fr3, w3⟩
  rcases turn i n σ3 H3 w3 with ⟨stop, qn⟩ | ⟨go, N, hN, step⟩
  · refine wpAny_passesOwn hp (thn (T.done X rfl rfl rfl hc i pins s3 σ3 H3 X.xe I3 (stat fr3) st3 stop) fun r s4 ⟨hr, I4⟩ => ?_)
    subst hr
    exact wpAny_execs_nil ⟨σ3, H3, I4, qn⟩
  · refine wpAny_passesOwn hp (thn (T.item X rfl rfl rfl hc i pins s3 σ3 H3 X.xe I3 (stat fr3) st3 go) fun r s4 ⟨u, hr, h4⟩ => ?_)
    subst hr
    refine wpAny_passesOwn hp (thn h4 fun _ s5 ⟨x, H5, I5, r5, y5, st5, fr5⟩ => ?_)
    have I5' := I5.pinned (stat fr5) (T.obj _ _ st5)
    refine wpAny_passesOwn hp (thn (hg _ s5 σ3 H5 x u _ I5' r5 (step x H5 y5)) fun _ s6 ⟨σ6, H6, I6, q6⟩ => ?_)
    refine wpAny_passesOwn hp (thn (hb _ s6 σ6 H6 _ I6 q6) fun f s7 q7 => ?_)
    have again : ∀ {σ7 : St} {H7 : Hp}, Inv X (pins ++ pinsAt fp s5.heap) σ7 H7 s7 → N σ7 H7 → ∃ m, m < n ∧ ∃ i σ' H', Inv X pins σ' H' s7 ∧ tn i s7.heap ∧ (∀ b ∈ fp, H' b = none) ∧ W i m σ' H' := fun {σ7 H7} I7 n7 => by
      obtain ⟨m', hm, w7⟩ := hN σ7 H7 n7
      refine ⟨m', hm, i + 1, σ7, H7, I7.unpinned, T.keep _ _ _ st5 fun b hb o e => (I7.pin (b, o) (List.mem_append_right _ (List.mem_append_right _ (mem_pinsAt hb e)))).1, fun b hb => ?_, w7⟩
      obtain ⟨o, e, d⟩ := T.obj _ _ st5 b hb
      exact (I7.pin (b, o) (List.mem_append_right _ (List.mem_append_right _ (mem_pinsAt hb e)))).2.1
    cases f with
    | next => obtain ⟨σ7, H7, I7, n7⟩ := q7; exact again I7 n7
    | cont => obtain ⟨σ7, H7, I7, n7⟩ := q7; exact again I7 n7
    | brk => obtain ⟨σ7, H7, I7, q7⟩ := q7; exact ⟨σ7, H7, I7.unpinned, q7⟩
    | ret v => obtain ⟨x7, σ7, H7, I7, r7, q7⟩ := q7; exact ⟨x7, σ7, H7, I7.unpinned, r7, q7⟩
end


/-- over a list that the body leaves as it is -/
theorem for_list {K : PySem.W.Frag} {a : Addr} {xs : List V} {g : TG} {tb : TS} {D : Ends} {σ : St} {H : Hp} (Pv : Nat → St → Hp → Prop) (h0 : Pv 0 σ H) (hl : ∀ i σ H, i ≤ xs.length → Pv i σ H → SqL K H a xs)
    (hs : ∀ i x σ H, xs[i]? = some x → Pv i σ H → g x σ H fun σ2 H2 => tb { D with nx := Pv (i + 1), ct := Pv (i + 1), bk := D.nx } σ2 H2) (hd : ∀ σ H, Pv xs.length σ H → D.nx σ H) :
    ∃ W : Nat → Nat → St → Hp → Prop, (∃ m, W 0 m σ H) ∧ ∀ i m σ H, W i m σ H →
      ((Itl K a).stop i H ∧ D.nx σ H) ∨ ((Itl K a).go i H ∧ ∃ N : St → Hp → Prop, (∀ σ' H', N σ' H' → ∃ m', m' < m ∧ W (i + 1) m' σ' H') ∧ ∀ x H', (Itl K a).yld i H x H' → g x σ H' fun σ2 H2 => tb { D with nx := N, ct := N, bk := D.nx } σ2 H2) := by
  refine ⟨fun i m σ H => m = xs.length - i ∧ i ≤ xs.length ∧ Pv i σ H, ⟨xs.length, by simp, Nat.zero_le _, h0⟩, ?_⟩
  rintro i m σ H ⟨rfl, hi, p⟩
  have q := hl i σ H hi p
  by_cases hlt : i < xs.length
  · refine .inr ⟨⟨xs, xs[i], q, by simp [hlt]⟩, Pv (i + 1), fun σ' H' p' => ⟨xs.length - (i + 1), by omega, rfl, hlt, p'⟩, fun x H' y => ?_⟩
    obtain ⟨e, y⟩ := y
    subst e
    exact hs i x σ _ (y xs q) p
  · have e : i = xs.length := by omega
    subst e
    exact .inl ⟨⟨xs, q, Nat.le_refl _⟩, hd σ H p⟩
theorem for_tup {K : PySem.W.Frag} {a : Addr} {xs : List V} {g : TG} {tb : TS} {D : Ends} {σ : St} {H : Hp} (Pv : Nat → St → Hp → Prop) (h0 : Pv 0 σ H) (hl : ∀ i σ H, i ≤ xs.length → Pv i σ H → SqT K H a xs)
    (hs : ∀ i x σ H, xs[i]? = some x → Pv i σ H → g x σ H fun σ2 H2 => tb { D with nx := Pv (i + 1), ct := Pv (i + 1), bk := D.nx } σ2 H2) (hd : ∀ σ H, Pv xs.length σ H → D.nx σ H) :
    ∃ W : Nat → Nat → St → Hp → Prop, (∃ m, W 0 m σ H) ∧ ∀ i m σ H, W i m σ H →
      ((Itt K a).stop i H ∧ D.nx σ H) ∨ ((Itt K a).go i H ∧ ∃ N : St → Hp → Prop, (∀ σ' H', N σ' H' → ∃ m', m' < m ∧ W (i + 1) m' σ' H') ∧ ∀ x H', (Itt K a).yld i H x H' → g x σ H' fun σ2 H2 => tb { D with nx := N, ct := N, bk := D.nx } σ2 H2) := by
  refine ⟨fun i m σ H => m = xs.length - i ∧ i ≤ xs.length ∧ Pv i σ H, ⟨xs.length, by simp, Nat.zero_le _, h0⟩, ?_⟩
  rintro i m σ H ⟨rfl, hi, p⟩
  have q := hl i σ H hi p
  by_cases hlt : i < xs.length
  · refine .inr ⟨⟨xs, xs[i], q, by simp [hlt]⟩, Pv (i + 1), fun σ' H' p' => ⟨xs.length - (i + 1), by omega, rfl, hlt, p'⟩, fun x H' y => ?_⟩
    obtain ⟨e, y⟩ := y
    subst e
    exact hs i x σ _ (y xs q) p
  · have e : i = xs.length := by omega
    subst e
    exact .inl ⟨⟨xs, q, Nat.le_refl _⟩, hd σ H p⟩
theorem for_range {lo : Int} {n : Nat} {g : TG} {tb : TS} {D : Ends} {σ : St} {H : Hp} (Pv : Nat → St → Hp → Prop) (h0 : Pv 0 σ H)
    (hs : ∀ i σ H, i < n → Pv i σ H → g (.int (lo + i)) σ H fun σ2 H2 => tb { D with nx := Pv (i + 1), ct := Pv (i + 1), bk := D.nx } σ2 H2) (hd : ∀ σ H, Pv n σ H → D.nx σ H) :
    ∃ W : Nat → Nat → St → Hp → Prop, (∃ m, W 0 m σ H) ∧ ∀ i m σ H, W i m σ H →
      ((Itr lo n).stop i H ∧ D.nx σ H) ∨ ((Itr lo n).go i H ∧ ∃ N : St → Hp → Prop, (∀ σ' H', N σ' H' → ∃ m', m' < m ∧ W (i + 1) m' σ' H') ∧ ∀ x H', (Itr lo n).yld i H x H' → g x σ H' fun σ2 H2 => tb { D with nx := N, ct := N, bk := D.nx } σ2 H2) := by
  refine ⟨fun i m σ H => m = n - i ∧ i ≤ n ∧ Pv i σ H, ⟨n, by simp, Nat.zero_le _, h0⟩, ?_⟩
  rintro i m σ H ⟨rfl, hi, p⟩
  by_cases hlt : i < n
  · refine .inr ⟨hlt, Pv (i + 1), fun σ' H' p' => ⟨n - (i + 1), by omega, rfl, hlt, p'⟩, fun x H' y => ?_⟩
    obtain ⟨e, y⟩ := y
    subst e y
    exact hs i σ _ hlt p
  · have e : i = n := by omega
    subst e
    exact .inl ⟨Nat.le_refl _, hd σ H p⟩
end L2

namespace L2
open PySem PySem.Spec PyProof.Rows

abbrev R2 := V → V → Hp → VK → Prop
/-- a two-place operation on values: f is binaryOp op, inplaceOp op or compareOp op -/
def OpR (X : Cx) (f : Value → Value → Sem Value) (r : R2) : Prop :=
  ∀ (pins : List (Addr × Obj)) (s : Shared) (σ : St) (H : Hp) (x y : V) (v u : Value) (Q : VK), Inv X pins σ H s → RelV x v → RelV y u → r x y H Q →
    wpAny (model X.prog X.w) X.A (f v u) (EP X pins σ Q) X.xe s
/-- a one-place operation -/
def UnR (X : Cx) (f : Value → Sem Value) (r : V → Hp → VK → Prop) : Prop :=
  ∀ (pins : List (Addr × Obj)) (s : Shared) (σ : St) (H : Hp) (x : V) (v : Value) (Q : VK), Inv X pins σ H s → RelV x v → r x H Q →
    wpAny (model X.prog X.w) X.A (f v) (EP X pins σ Q) X.xe s
/-- a call of a value that is known (a builtin, a type) with values -/
def CallR (X : Cx) (f : Value) (r : List V → Hp → VK → Prop) : Prop :=
  ∀ (pins : List (Addr × Obj)) (s : Shared) (σ : St) (H : Hp) (xs : List V) (us : List Value) (Q : VK), Inv X pins σ H s → Vals xs us → r xs H Q →
    wpAny (model X.prog X.w) X.A (call f us) (EP X pins σ Q) X.xe s
def tOp (r : R2) (ta tb : TE) : TE := fun σ H Q => ta σ H fun x H1 => tb σ H1 fun y H2 => r x y H2 Q
def tUn (r : V → Hp → VK → Prop) (ta : TE) : TE := fun σ H Q => ta σ H fun x H1 => r x H1 Q
/-- ints in, under C, and a value out -/
def rI (C : Int → Int → Prop) (g : Int → Int → V) : R2 := fun x y H Q => ∃ i j, x = .int i ∧ y = .int j ∧ C i j ∧ Q (g i j) H
def rI0 (g : Int → Int → V) : R2 := fun x y H Q => ∃ i j, x = .int i ∧ y = .int j ∧ Q (g i j) H
def rU (g : Int → V) : V → Hp → VK → Prop := fun x H Q => ∃ i, x = .int i ∧ Q (g i) H

section
variable {X : Cx} {a b c : Expr} {ta tb tc : TE} {pos : Pos}

theorem binT (ha : PE X a ta) (hb : PE X b tb) {pins : List (Addr × Obj)} {s : Shared} {σ : St} {H : Hp} {R : V → V → Hp → Prop} (I : Inv X pins σ H s)
    (h : ta σ H fun x H1 => tb σ H1 fun y H2 => R x y H2) {Q : Value → Shared → Prop} {f : Value → Value → Sem Value}
    (hf : ∀ v u s2 x y H2, Inv X pins σ H2 s2 → RelV x v → RelV y u → R x y H2 → wpAny (model X.prog X.w) X.A (f v u) Q X.xe s2) :
    wpAny (model X.prog X.w) X.A (eval a X.env) (fun v s₁ => wpAny (model X.prog X.w) X.A (eval b X.env) (fun u s₂ => wpAny (model X.prog X.w) X.A (f v u) Q X.xe s₂) X.xe s₁) X.xe s := by
  refine thn (ha pins s σ H _ I h) fun v s1 ⟨x, H1, I1, r1, q1⟩ => ?_
  refine thn (hb pins s1 σ H1 _ I1 q1) fun u s2 ⟨y, H2, I2, r2, q2⟩ => ?_
  exact hf v u s2 x y H2 I2 r1 r2 q2

theorem pe_op {op : Operator} {r : R2} (ho : OpR X (binaryOp op) r) (ha : PE X a ta) (hb : PE X b tb) : PE X (.BinOp a op b pos) (tOp r ta tb) := by
  intro pins s σ H Q I h
  exact wpAny_BinOp (binT ha hb I h fun v u s2 x y H2 I2 rx ry q => ho pins s2 σ H2 x y v u Q I2 rx ry q)
theorem pe_un {op : UnaryOp} {r : V → Hp → VK → Prop} (ho : UnR X (unaryOp op) r) (ha : PE X a ta) : PE X (.UnaryOp op a pos) (tUn r ta) := by
  intro pins s σ H Q I h
  exact UnaryOp_ (thn (ha pins s σ H _ I h) fun v s1 ⟨x, H1, I1, r1, q1⟩ => ho pins s1 σ H1 x v Q I1 r1 q1)
theorem opI {f : Value → Value → Sem Value} {C : Int → Int → Prop} {g : Int → Int → Int}
    (rule : ∀ (i j : Int) (t u : Tok) (s : Shared) (Q : Value → Shared → Prop) (E : Value → Shared → Prop), C i j → Q (.int (g i j) s.toks) { s with toks := s.toks + 1 } → wpAny (model X.prog X.w) X.A (f (.int i t) (.int j u)) Q E s) :
    OpR X f (rI C fun i j => .int (g i j)) := by
  intro pins s σ H x y v u Q I rx ry h
  obtain ⟨i, j, rfl, rfl, hc, q⟩ := h
  obtain ⟨t, rfl⟩ := rx
  obtain ⟨t', rfl⟩ := ry
  exact rule i j t t' s _ _ hc ⟨.int (g i j), H, I.tok _, ⟨_, rfl⟩, q⟩
theorem opI0 {f : Value → Value → Sem Value} {g : Int → Int → Int}
    (rule : ∀ (i j : Int) (t u : Tok) (s : Shared) (Q : Value → Shared → Prop) (E : Value → Shared → Prop), Q (.int (g i j) s.toks) { s with toks := s.toks + 1 } → wpAny (model X.prog X.w) X.A (f (.int i t) (.int j u)) Q E s) :
    OpR X f (rI0 fun i j => .int (g i j)) := by
  intro pins s σ H x y v u Q I rx ry h
  obtain ⟨i, j, rfl, rfl, q⟩ := h
  obtain ⟨t, rfl⟩ := rx
  obtain ⟨t', rfl⟩ := ry
  exact rule i j t t' s _ _ ⟨.int (g i j), H, I.tok _, ⟨_, rfl⟩, q⟩
theorem opB0 {f : Value → Value → Sem Value} {g : Int → Int → Bool}
    (rule : ∀ (i j : Int) (t u : Tok) (s : Shared) (Q : Value → Shared → Prop) (E : Value → Shared → Prop), Q (.bool (g i j)) s → wpAny (model X.prog X.w) X.A (f (.int i t) (.int j u)) Q E s) :
    OpR X f (rI0 fun i j => .bl (g i j)) := by
  intro pins s σ H x y v u Q I rx ry h
  obtain ⟨i, j, rfl, rfl, q⟩ := h
  obtain ⟨t, rfl⟩ := rx
  obtain ⟨t', rfl⟩ := ry
  exact rule i j t t' s _ _ ⟨.bl (g i j), H, I, rfl, q⟩

def CDiv (i j : Int) : Prop := 0 < j ∧ j < 1073741824
def CPow (i j : Int) : Prop := 0 ≤ j ∧ j ≤ 1000000 ∧ i.natAbs < 2 ^ 64
def CMul (i j : Int) : Prop := (-(2 ^ 64) < i ∧ i < 2 ^ 64) ∨ (-(2 ^ 64) < j ∧ j < 2 ^ 64)
theorem CMul.ok {i j : Int} (h : CMul i j) : IntMulOk i j := by
  rcases h with ⟨h1, h2⟩ | ⟨h1, h2⟩
  · exact .of_left (intBits_le_64 h1 h2)
  · exact .of_right (intBits_le_64 h1 h2)
theorem op_add : OpR X (binaryOp .Add) (rI0 fun i j => .int (i + j)) := opI0 fun _ _ _ _ _ _ _ q => add_int q
theorem op_sub : OpR X (binaryOp .Sub) (rI0 fun i j => .int (i - j)) := opI0 fun _ _ _ _ _ _ _ q => sub_int q
theorem op_mul : OpR X (binaryOp .Mult) (rI CMul fun i j => .int (i * j)) := opI fun _ _ _ _ _ _ _ hc q => mul_int q hc.ok
/-- // by a positive divisor -/
theorem op_fdiv : OpR X (binaryOp .FloorDiv) (rI CDiv fun i j => .int (i / j)) := opI fun i j _ _ _ _ _ hc q => by
  have h1 : (0 : Int) < j := hc.1
  have h2 : j < 1073741824 := hc.2
  exact floordiv_int (by omega) (by rw [Int.fdiv_eq_ediv_of_nonneg i (by omega)]; exact q) (.inl (PyProof.noPylong_small (by omega)))
/-- % by a positive divisor of any size -/
theorem op_mod : OpR X (binaryOp .Mod) (rI (fun _ j => 0 < j) fun i j => .int (i % j)) := opI fun i j _ _ _ _ _ hc q => by
  have h1 : (0 : Int) < j := hc
  exact mod_int' (by omega) (by rw [Int.fmod_eq_emod_of_nonneg i (by omega)]; exact q)
theorem op_pow : OpR X (binaryOp .Pow) (rI CPow fun i j => .int (i ^ j.toNat)) := opI fun _ _ _ _ _ _ _ hc q => pow_int_small hc.1 hc.2.1 hc.2.2 q
theorem unI {f : Value → Sem Value} {g : Int → Int}
    (rule : ∀ (i : Int) (t : Tok) (s : Shared) (Q : Value → Shared → Prop) (E : Value → Shared → Prop), Q (.int (g i) s.toks) { s with toks := s.toks + 1 } → wpAny (model X.prog X.w) X.A (f (.int i t)) Q E s) :
    UnR X f (rU fun i => .int (g i)) := by
  intro pins s σ H x v Q I rx h
  obtain ⟨i, rfl, q⟩ := h
  obtain ⟨t, rfl⟩ := rx
  exact rule i t s _ _ ⟨.int (g i), H, I.tok _, ⟨_, rfl⟩, q⟩
theorem un_neg : UnR X (unaryOp .USub) (rU fun i => .int (-i)) := unI fun _ _ _ _ _ q => neg_int q
end


/-- the scalars that == tells apart as data does -/
def scal : V → V → Bool
  | .non, .non => true | .non, .int _ => true | .int _, .non => true | .non, .bl _ => true | .bl _, .non => true | .non, .str _ => true | .str _, .non => true
  | .int _, .int _ => true | .bl _, .bl _ => true | .str _, .str _ => true | .byt _, .byt _ => true
  | .int _, .str _ => true | .str _, .int _ => true | .bl _, .str _ => true | .str _, .bl _ => true
  | _, _ => false
def rEq : R2 := fun x y H Q => scal x y = true ∧ Q (.bl (decide (x = y))) H
def rNe : R2 := fun x y H Q => scal x y = true ∧ Q (.bl (!decide (x = y))) H

theorem dec_int {i j : Int} : decide (V.int i = V.int j) = (i == j) := by
  rw [Bool.eq_iff_iff]
  simp
theorem dec_bl {i j : Bool} : decide (V.bl i = V.bl j) = (i == j) := by
  rw [Bool.eq_iff_iff]
  simp
theorem dec_str {i j : Str} : decide (V.str i = V.str j) = (i == j) := by
  rw [Bool.eq_iff_iff]
  simp
theorem dec_byt {i j : Array UInt8} : decide (V.byt i = V.byt j) = (i.toList == j.toList) := by
  rw [Bool.eq_iff_iff]
  cases i
  cases j
  simp

section
variable {X : Cx} {a b c : Expr} {ta tb tc : TE} {pos : Pos}
theorem fin_bl {pins : List (Addr × Obj)} {σ : St} {H : Hp} {s : Shared} {Q : VK} {k k' : Bool} (I : Inv X pins σ H s) (q : Q (.bl k) H) (e : k = k') : EP X pins σ Q (.bool k') s := by
  subst e
  exact ⟨.bl k, H, I, rfl, q⟩
theorem op_eq : OpR X (compareOp .Eq) rEq := by
  intro pins s σ H x y v u Q I rx ry h
  obtain ⟨hs, q⟩ := h
  cases x with
  | non =>
    cases rx
    cases y with
    | non => cases ry; exact PySem.EqNone.eq_none_none (fin_bl I q (by simp))
    | bl j => cases ry; exact PySem.EqNone.eq_none_bool (fin_bl I q (by simp))
    | int j => obtain ⟨t', rfl⟩ := ry; exact PySem.EqNone.eq_none_int (fin_bl I q (by simp))
    | str j => obtain ⟨t', rfl⟩ := ry; exact PySem.EqNone.eq_none_str (fin_bl I q (by simp))
    | _ => exact absurd (show false = true from hs) Bool.false_ne_true
  | bl i =>
    cases rx
    cases y with
    | non => cases ry; exact PySem.EqNone.eq_bool_none (fin_bl I q (by simp))
    | bl j => cases ry; exact eq_bool (fin_bl I q dec_bl)
    | str j => obtain ⟨t', rfl⟩ := ry; exact PySem.EqMixed.eq_bool_str (fin_bl I q (by simp))
    | _ => exact absurd (show false = true from hs) Bool.false_ne_true
  | int i =>
    obtain ⟨t, rfl⟩ := rx
    cases y with
    | non => cases ry; exact PySem.EqNone.eq_int_none (fin_bl I q (by simp))
    | int j => obtain ⟨t', rfl⟩ := ry; exact eq_int (fin_bl I q dec_int)
    | str j => obtain ⟨t', rfl⟩ := ry; exact PySem.EqMixed.eq_int_str (fin_bl I q (by simp))
    | _ => exact absurd (show false = true from hs) Bool.false_ne_true
  | str i =>
    obtain ⟨t, rfl⟩ := rx
    cases y with
    | non => cases ry; exact PySem.EqNone.eq_str_none (fin_bl I q (by simp))
    | bl j => cases ry; exact PySem.EqMixed.eq_str_bool (fin_bl I q (by simp))
    | int j => obtain ⟨t', rfl⟩ := ry; exact PySem.EqMixed.eq_str_int (fin_bl I q (by simp))
    | str j => obtain ⟨t', rfl⟩ := ry; exact eq_str (fin_bl I q dec_str)
    | _ => exact absurd (show false = true from hs) Bool.false_ne_true
  | byt i =>
    obtain ⟨t, rfl⟩ := rx
    cases y with
    | byt j => obtain ⟨t', rfl⟩ := ry; exact PySem.W.eq_bytes (fin_bl I q dec_byt)
    | _ => exact absurd (show false = true from hs) Bool.false_ne_true
  | _ => cases y <;> exact absurd (show false = true from hs) Bool.false_ne_true
theorem op_ne : OpR X (compareOp .NotEq) rNe := by
  intro pins s σ H x y v u Q I rx ry h
  obtain ⟨hs, q⟩ := h
  cases x with
  | non =>
    cases rx
    cases y with
    | non => cases ry; exact PySem.EqNone.ne_none_none (fin_bl I q (by simp))
    | bl j => cases ry; exact PySem.EqNone.ne_none_bool (fin_bl I q (by simp))
    | int j => obtain ⟨t', rfl⟩ := ry; exact PySem.EqNone.ne_none_int (fin_bl I q (by simp))
    | str j => obtain ⟨t', rfl⟩ := ry; exact PySem.EqNone.ne_none_str (fin_bl I q (by simp))
    | _ => exact absurd (show false = true from hs) Bool.false_ne_true
  | bl i =>
    cases rx
    cases y with
    | non => cases ry; exact PySem.EqNone.ne_bool_none (fin_bl I q (by simp))
    | bl j => cases ry; exact ne_bool (fin_bl I q (congrArg not dec_bl))
    | str j => obtain ⟨t', rfl⟩ := ry; exact PySem.EqMixed.ne_bool_str (fin_bl I q (by simp))
    | _ => exact absurd (show false = true from hs) Bool.false_ne_true
  | int i =>
    obtain ⟨t, rfl⟩ := rx
    cases y with
    | non => cases ry; exact PySem.EqNone.ne_int_none (fin_bl I q (by simp))
    | int j => obtain ⟨t', rfl⟩ := ry; exact ne_int (fin_bl I q (congrArg not dec_int))
    | str j => obtain ⟨t', rfl⟩ := ry; exact PySem.EqMixed.ne_int_str (fin_bl I q (by simp))
    | _ => exact absurd (show false = true from hs) Bool.false_ne_true
  | str i =>
    obtain ⟨t, rfl⟩ := rx
    cases y with
    | non => cases ry; exact PySem.EqNone.ne_str_none (fin_bl I q (by simp))
    | bl j => cases ry; exact PySem.EqMixed.ne_str_bool (fin_bl I q (by simp))
    | int j => obtain ⟨t', rfl⟩ := ry; exact PySem.EqMixed.ne_str_int (fin_bl I q (by simp))
    | str j => obtain ⟨t', rfl⟩ := ry; exact ne_str (fin_bl I q (congrArg not dec_str))
    | _ => exact absurd (show false = true from hs) Bool.false_ne_true
  | byt i =>
    obtain ⟨t, rfl⟩ := rx
    cases y with
    | byt j => obtain ⟨t', rfl⟩ := ry; exact PySem.W.ne_bytes (fin_bl I q (congrArg not dec_byt))
    | _ => exact absurd (show false = true from hs) Bool.false_ne_true
  | _ => cases y <;> exact absurd (show false = true from hs) Bool.false_ne_true

theorem op_lt : OpR X (compareOp .Lt) (rI0 fun i j => .bl (decide (i < j))) := opB0 fun _ _ _ _ _ _ _ q => lt_int q
theorem op_le : OpR X (compareOp .LtE) (rI0 fun i j => .bl (decide (i ≤ j))) := opB0 fun _ _ _ _ _ _ _ q => le_int q
theorem op_gt : OpR X (compareOp .Gt) (rI0 fun i j => .bl (decide (j < i))) := opB0 fun _ _ _ _ _ _ _ q => gt_int q
/-- two rules for one operation: by cases -/
theorem OpR.or {f : Value → Value → Sem Value} {r r' : R2} (h : OpR X f r) (h' : OpR X f r') : OpR X f (fun x y H Q => r x y H Q ∨ r' x y H Q) := by
  intro pins s σ H x y v u Q I rx ry q
  rcases q with q | q
  · exact h pins s σ H x y v u Q I rx ry q
  · exact h' pins s σ H x y v u Q I rx ry q

theorem nomark (b : Expr) {op : CmpOp} (h : op ≠ .In := by decide) (h2 : op ≠ .NotIn := by decide) : behindInMarks op b = false := by
  have e1 : (op == CmpOp.In) = false := by cases op <;> first | rfl | exact absurd rfl h
  have e2 : (op == CmpOp.NotIn) = false := by cases op <;> first | rfl | exact absurd rfl h2
  cases b <;> simp [behindInMarks, e1, e2]
/-- a comparison as a value; hm: nomark b, or (for in, not in) by with_unfolding_all rfl -/
theorem pe_cmpR {op : CmpOp} {r : R2} (ho : OpR X (compareOp op) r) (ha : PE X a ta) (hb : PE X b tb) (hm : behindInMarks op b = false) : PE X (.Compare a [op] [b] pos) (tOp r ta tb) := by
  intro pins s σ H Q I h
  exact wpAny_Compare1 (binT ha hb I h fun v u s2 x y H2 I2 rx ry q => ho pins s2 σ H2 x y v u Q I2 rx ry q) hm
/-- a reading of a value as a test -/
def tTest (t : TE) : TT := fun σ H Q => t σ H fun x H' => ∃ k, x = .bl k ∧ Q k H'
theorem pt_cmpR {op : CmpOp} {r : R2} (ho : OpR X (compareOp op) r) (ha : PE X a ta) (hb : PE X b tb) (hm : behindInMarks op b = false) : PT X (.Compare a [op] [b] pos) (tTest (tOp r ta tb)) := by
  intro pins s σ H Q I h
  refine wpAny_isTrue_Compare1 (thn (ha pins s σ H _ I h) fun v s1 ⟨x, H1, I1, r1, q1⟩ => thn (hb pins s1 σ H1 _ I1 q1) fun u s2 ⟨y, H2, I2, r2, q2⟩ =>
    thn (ho pins s2 σ H2 x y v u _ I2 r1 r2 q2) fun c s3 ⟨z, H3, I3, r3, k, e, q3⟩ => ?_) hm
  subst e
  cases r3
  exact wpAny_truthy_bool ⟨H3, I3, q3⟩
/-- a op1 b op2 c -/
def tChain (r r' : R2) (ta tb tc : TE) : TE := fun σ H Q => ta σ H fun x H1 => tb σ H1 fun y H2 => r x y H2 fun z H3 => ∃ k, z = .bl k ∧
  (if k = true then tc σ H3 fun w' H4 => r' y w' H4 Q else Q (.bl false) H3)
theorem pe_chain {op op' : CmpOp} {r r' : R2} (ho : OpR X (compareOp op) r) (ho' : OpR X (compareOp op') r') (ha : PE X a ta) (hb : PE X b tb) (hc : PE X c tc)
    (hm : lastMarks [op, op'] [b, c] = false := by with_unfolding_all rfl) : PE X (.Compare a [op, op'] [b, c] pos) (tChain r r' ta tb tc) := by
  intro pins s σ H Q I h
  refine Compare_chain (thn (ha pins s σ H _ I h) fun v s1 ⟨x, H1, I1, r1, q1⟩ => chain_link (thn (hb pins s1 σ H1 _ I1 q1) fun u s2 ⟨y, H2, I2, r2, q2⟩ =>
    thn (ho pins s2 σ H2 x y v u _ I2 r1 r2 q2) fun d s3 ⟨z, H3, I3, r3, k, e, q3⟩ => ?_)) hm
  subst e
  cases r3
  refine wpAny_truthy_bool ?_
  cases k with
  | false => exact ite_ff ⟨.bl false, H3, I3, rfl, q3⟩
  | true => exact ite_tt (chain_last (thn (hc pins s3 σ H3 _ I3 q3) fun w' s4 ⟨z', H4, I4, r4, q4⟩ => ho' pins s4 σ H4 y z' u w' Q I4 r2 r4 q4))
theorem line63 : (sizeLine : Nat) < 2 ^ 63 := by rw [sizeLine_eq]; decide
theorem vals1 {x : V} {us : List Value} (r : Vals [x] us) : ∃ u, us = [u] ∧ RelV x u := by
  cases r with
  | cons r1 r2 => cases r2; exact ⟨_, rfl, r1⟩
theorem vals2 {x y : V} {us : List Value} (r : Vals [x, y] us) : ∃ u w', us = [u, w'] ∧ RelV x u ∧ RelV y w' := by
  cases r with
  | cons r1 r2 =>
    cases r2 with
    | cons r3 r4 => cases r4; exact ⟨_, _, rfl, r1, r3⟩
theorem call_abs : CallR X (.builtin "abs") (fun xs H Q => ∃ i, xs = [.int i] ∧ Q (.int (if i < 0 then -i else i)) H) := by
  intro pins s σ H xs us Q I r h
  obtain ⟨i, rfl, q⟩ := h
  obtain ⟨u, rfl, t, rfl⟩ := vals1 r
  exact call_abs_int fun u tk => ⟨.int (if i < 0 then -i else i), H, I.tok _, ⟨_, rfl⟩, q⟩
theorem call_max2 (hc : X.calm = true) : CallR X (.builtin "max") (fun xs H Q => ∃ i j, xs = [.int i, .int j] ∧ Q (.int (if j > i then j else i)) H) := by
  intro pins s σ H xs us Q I r h
  obtain ⟨i, j, rfl, q⟩ := h
  obtain ⟨u, w', rfl, ⟨t, rfl⟩, ⟨t', rfl⟩⟩ := vals2 r
  refine max_two_ints (I.ok.hd hc) fun h' tk k => ⟨_, H, I.kept k, ?_, q⟩
  by_cases hj : j > i
  · rw [if_pos hj, if_pos hj]; exact ⟨_, rfl⟩
  · rw [if_neg hj, if_neg hj]; exact ⟨_, rfl⟩
theorem call_min2 (hc : X.calm = true) : CallR X (.builtin "min") (fun xs H Q => ∃ i j, xs = [.int i, .int j] ∧ Q (.int (if j < i then j else i)) H) := by
  intro pins s σ H xs us Q I r h
  obtain ⟨i, j, rfl, q⟩ := h
  obtain ⟨u, w', rfl, ⟨t, rfl⟩, ⟨t', rfl⟩⟩ := vals2 r
  refine min_two_ints (I.ok.hd hc) fun h' tk k => ⟨_, H, I.kept k, ?_, q⟩
  by_cases hj : j < i
  · rw [if_pos hj, if_pos hj]; exact ⟨_, rfl⟩
  · rw [if_neg hj, if_neg hj]; exact ⟨_, rfl⟩
end
end L2

namespace L2
open PySem PySem.Spec PyProof.Rows


structure ObjM (h : Heap) (x dx C : Addr) (mA : Str → Option Value) : Prop where
  obj : h.get? x = some (PySem.W.instObj C dx)
  ns : h.Ns1 dx mA
  ne : dx ≠ x

theorem lookIn_ns {h : Heap} {dx : Addr} {mA : Str → Option Value} (n : h.Ns1 dx mA) : ∃ od, h.get? dx = some od ∧ ∀ name, PySem.W.lookIn name od = some (mA name) := by
  obtain ⟨o, es, ep, ho, hd, hk, _, hm⟩ := n
  refine ⟨o, ho, fun name => ?_⟩
  have e := hm name
  unfold nsFind findBy at e
  rw [← Array.find?_toList] at e
  unfold PySem.W.lookIn
  rw [hd]
  dsimp only
  split
  · rename_i y q
    rw [q] at e
    exact congrArg some e
  · rename_i q
    rw [q] at e
    have a : es.toList.any (·.refKey) = false := by
      rw [List.any_eq_false]
      intro y hy
      obtain ⟨z, t, hkey⟩ := hk y (Array.mem_toList_iff.mp hy)
      simp [DictEntry.refKey, hkey]
    have a' : ¬ es.toList.any (·.refKey) = true := by rw [a]; exact Bool.false_ne_true
    rw [if_neg a']
    exact congrArg some e

theorem ObjM.look {h : Heap} {x dx C : Addr} {mA : Str → Option Value} (I : ObjM h x dx C mA) : ∃ od, PySem.W.InstAt h x (PySem.W.instObj C dx) C (some od) ∧ ∀ name, PySem.W.lookIn name od = some (mA name) :=
  let ⟨od, ho, hl⟩ := lookIn_ns I.ns
  ⟨od, ⟨I.obj, rfl, rfl, ho⟩, hl⟩

section
variable {prog : Program} {w : World} {A : Around} {E : Value → Shared → Prop} {s : Shared} {K : PySem.W.Frag} {x dx C f : Addr} {mA : Str → Option Value} {name : Str} {v : Value}

theorem get_map {expr : Bool} {Q : Value → Shared → Prop} (X : K.In s.heap) (I : ObjM s.heap x dx C mA) (hg : PySem.W.plainGet K C name = true) (hh : PySem.W.hasDictIn K C = true)
    (ha : PySem.W.findIn K (.ref C) name = some none) (hv : mA name = some v) (hv' : PySem.W.handedIn v = true) (h : Q v { s with toks := s.toks + 1 }) :
    wpAny (model prog w) A (getAttr (.ref x) name expr) Q E s := by
  obtain ⟨od, J, hl⟩ := I.look
  exact PySem.W.get_value X J (PySem.W.plainGet_of hg).1 (PySem.W.findObj_own hh ha rfl (by rw [hl, hv])) hv' h

theorem get_meth {pl : Sem Bool} {Q : Value × List Value → Shared → Prop} (X : K.In s.heap) (I : ObjM s.heap x dx C mA) (hg : PySem.W.plainGet K C name = true)
    (hf : PySem.W.findIn K (.ref C) name = some (some (.ref f))) (ht : PySem.W.isFn K (.ref f) = true) (hv : mA name = none) (h : Q (.ref f, [.ref x]) s) :
    wpAny (model prog w) A (getMethod (.ref x) name pl) Q E s := by
  obtain ⟨od, J, hl⟩ := I.look
  exact PySem.W.method_fn X J (PySem.W.plainGet_of hg).1 (PySem.W.plainGet_of hg).2 hf (beq_iff_eq.mp ht) (by show (PySem.W.lookIn name od).map (·.isSome) = some false; rw [hl, hv]; rfl) h

theorem set_map {ns : List Str} {Q : Unit → Shared → Prop} (X : K.In s.heap) (I : ObjM s.heap x dx C mA)
    (hs : PySem.W.findIn K (.ref C) "__setattr__" = some (some (.builtin "object.__setattr__"))) (hp : PySem.W.plainOver K C = true) (ht : PySem.W.takerIn K C name = some none) (hh : PySem.W.hasDictIn K C = true)
    (hw : PySem.Within mA ns) (hsz : ns.length ≤ sizeLine)
    (h : ∀ h', ObjM h' x dx C (fun y => if y = name then some v else mA y) → Heap.SameBut dx s.heap h' → Q () { s with heap := h', toks := s.toks + 2 }) :
    wpAny (model prog w) A (setAttr (.ref x) name v) Q E s := by
  obtain ⟨od, J, hl⟩ := I.look
  refine PySem.W.set_plain X J hs (PySem.W.osa_open (s := { s with toks := s.toks + 1 }) (r := none) X J hp ht fun b => ?_)
  obtain ⟨cd, hc, hd'⟩ := PySem.W.any_some hh
  have hx : s.heap.get? x = some ⟨.ref C, some dx, .plain, #[]⟩ := I.obj
  refine wpAny_bind (wpAny_pure (wpAny_bind (wpAny_bind (wpAny_loadPart hx (wpAny_bind (PySem.W.Looks.here (s := { s with toks := s.toks + 1 }) (PySem.W.looks_clsIn X hc) ?_))))))
  rw [hd']
  refine wpAny_pure (a := some dx) (wpAny_bind (wpAny_pure (wpAny_bind ?_)))
  refine wpAny_nsSet1 (s := { s with toks := s.toks + 1 }) I.ns fun h' hn2 hs2 => ?_
  obtain ⟨oD, esD, epD, hoD, hdD, hcD⟩ := hn2.count (PySem.Within.cons name v hw)
  refine wpAny_bind (wpAny_lookBehind hoD (by rw [hdD]; exact pastItsLine_dict (Nat.le_trans hcD (by rw [List.length_cons]; omega))) ?_)
  exact wpAny_pure (h _ ⟨(hs2.2 _ (Ne.symm I.ne)).trans I.obj, hn2, I.ne⟩ hs2)

/-- C(..): the dict at the heap's end, the instance behind it; then its __init__ -/
theorem make_map {R : Result → Shared → Prop} {vs : List Value} {kw : List (Str × Value)} (X : K.In s.heap) (hm : PySem.W.makesIn K C = true)
    (hi : PySem.W.findIn K (.ref C) "__init__" = some (some (.ref f))) (hf : PySem.W.typeIn K (.ref f) = some (.type "function"))
    (h : codeAny (model prog w) (A.under (.builtin "type.__call__" ⟨.ref C :: vs, kw⟩)) (.call (.ref f) ⟨.ref (s.heap.objs.size + 1) :: vs, kw⟩) (PySem.W.InitBack (s.heap.objs.size + 1) R)
      { s with heap := (s.heap.push PySem.W.emptyDict).push (PySem.W.instObj C s.heap.objs.size) }) :
    codeAny (model prog w) A (.call (.ref C) ⟨vs, kw⟩) R s := by
  obtain ⟨hh, g, d, t, os⟩ := s
  exact PySem.W.make_core (PySem.W.makes_of X hm) (PySem.W.looks_findIn X hi) (fun self => PySem.W.bind_fn X self hf) (.inl rfl) h
end


def putF (f : Str) (v : V) : List (Str × V) → List (Str × V)
  | [] => [(f, v)]
  | (g, x) :: r => if g = f then (g, v) :: r else (g, x) :: putF f v r
theorem lookup_putF (f g : Str) (v : V) : ∀ fs : List (Str × V), (putF f v fs).lookup g = if g = f then some v else fs.lookup g
  | [] => by
    show List.lookup g [(f, v)] = _
    by_cases h : g = f
    · have hb : (g == f) = true := beq_iff_eq.mpr h
      simp only [List.lookup, hb, if_pos h]
    · have hb : (g == f) = false := beq_eq_false_iff_ne.mpr h
      simp only [List.lookup, hb, if_neg h]
  | (k, x) :: r => by
    have ih := lookup_putF f g v r
    rw [show putF f v ((k, x) :: r) = (if k = f then (k, v) :: r else (k, x) :: putF f v r) from rfl]
    by_cases hk : k = f
    · rw [if_pos hk]
      by_cases h : g = k
      · have hb : (g == k) = true := beq_iff_eq.mpr h
        simp only [List.lookup, hb, if_pos (h.trans hk)]
      · have hb : (g == k) = false := beq_eq_false_iff_ne.mpr h
        simp only [List.lookup, hb, if_neg (fun e : g = f => h (e.trans hk.symm))]
    · rw [if_neg hk]
      by_cases h : g = k
      · have hb : (g == k) = true := beq_iff_eq.mpr h
        simp only [List.lookup, hb, if_neg (fun e : g = f => hk (h.symm.trans e))]
      · have hb : (g == k) = false := beq_eq_false_iff_ne.mpr h
        simp only [List.lookup, hb]
        exact ih
theorem keys_putF (f : Str) (v : V) : ∀ fs : List (Str × V), f ∈ (putF f v fs).map (·.1) ∧ ∀ g, g ∈ fs.map (·.1) → g ∈ (putF f v fs).map (·.1)
  | [] => ⟨by simp [putF], fun g h => by simp at h⟩
  | (k, x) :: r => by
    obtain ⟨i1, i2⟩ := keys_putF f v r
    rw [show putF f v ((k, x) :: r) = (if k = f then (k, v) :: r else (k, x) :: putF f v r) from rfl]
    by_cases hk : k = f
    · rw [if_pos hk]
      subst hk
      exact ⟨by simp, fun g h => by simpa using h⟩
    · rw [if_neg hk]
      refine ⟨?_, fun g h => ?_⟩
      · rw [List.map_cons]
        exact List.mem_cons_of_mem _ i1
      · rw [List.map_cons] at h ⊢
        rcases List.mem_cons.mp h with e | e
        · exact List.mem_cons.mpr (.inl e)
        · exact List.mem_cons_of_mem _ (i2 g e)
theorem length_putF (f : Str) (v : V) : ∀ fs : List (Str × V), (putF f v fs).length ≤ fs.length + 1
  | [] => by simp [putF]
  | (k, x) :: r => by
    have ih := length_putF f v r
    rw [show putF f v ((k, x) :: r) = (if k = f then (k, v) :: r else (k, x) :: putF f v r) from rfl]
    by_cases hk : k = f
    · rw [if_pos hk, List.length_cons, List.length_cons]; omega
    · rw [if_neg hk, List.length_cons, List.length_cons]; omega

theorem RelO.some_of {v : V} {o : Option Value} (r : RelO (some v) o) : ∃ u, o = some u ∧ RelV v u := by
  cases o with
  | none => exact (show False from r).elim
  | some u => exact ⟨u, rfl, r⟩
theorem RelO.none_of {o : Option Value} (r : RelO none o) : o = none := by
  cases o with
  | none => rfl
  | some u => exact (show False from r).elim
theorem handed_of {v : V} {u : Value} (r : RelV v u) : PySem.W.handedIn u = true := by
  cases v with
  | non => cases (show u = Value.none from r); rfl
  | bl b => cases (show u = Value.bool b from r); rfl
  | int i => obtain ⟨t, e⟩ := (show ∃ t, u = Value.int i t from r); cases e; rfl
  | str x => obtain ⟨t, e⟩ := (show ∃ t, u = Value.str x t from r); cases e; rfl
  | byt b => obtain ⟨t, e⟩ := (show ∃ t, u = Value.bytes b t from r); cases e; rfl
  | flt b => obtain ⟨t, e⟩ := (show ∃ t, u = Value.float b t from r); cases e; rfl
  | ref a => cases (show u = Value.ref a from r); rfl
  | ty n => cases (show u = Value.type n from r); rfl

section
variable {P : Program} {w : World} {H H' : Hp} {h h' : Heap} {a C dx : Addr} {fs fs' : List (Str × V)}
theorem ins_get (hok : HOk P w H h) (e : H a = some (.ins C dx fs)) : ∃ mA, ObjM h a dx C mA ∧ (∀ f, RelO (fs.lookup f) (mA f)) ∧ PySem.Within mA (fs.map (·.1)) ∧ fs.length ≤ 1000 ∧ H dx = some (.own a) := by
  obtain ⟨d, z, ne, ob, mA, n, r, q⟩ := (show ObjOk P w H h a (.ins C dx fs) from hok a _ e)
  exact ⟨mA, ⟨ob, n, ne⟩, r, q, z, d⟩
end


structure Cls (K : PySem.W.Frag) (C : Addr) : Prop where
  pg : PySem.W.plainGet K C Str.empty = true
  hd : PySem.W.hasDictIn K C = true
  po : PySem.W.plainOver K C = true
  sa : PySem.W.findIn K (.ref C) "__setattr__" = some (some (.builtin "object.__setattr__"))
theorem Cls.get {K : PySem.W.Frag} {C : Addr} (c : Cls K C) (f : Str) : PySem.W.plainGet K C f = true := c.pg
/-- no class of it has the name -/
def NoAttr (K : PySem.W.Frag) (C : Addr) (f : Str) : Prop := PySem.W.findIn K (.ref C) f = some none
theorem NoAttr.taker {K : PySem.W.Frag} {C : Addr} {f : Str} (n : NoAttr K C f) : PySem.W.takerIn K C f = some none := by
  unfold PySem.W.takerIn
  rw [show PySem.W.findIn K (.ref C) f = some none from n]
  rfl
/-- a method: a plain def of the class or of one above it -/
structure Meth (K : PySem.W.Frag) (C : Addr) (m : Str) (f : Addr) : Prop where
  at_ : PySem.W.findIn K (.ref C) m = some (some (.ref f))
  fn : PySem.W.isFn K (.ref f) = true
  kp : PySem.W.keepIn K (.ref f) = true

section
variable {X : Cx} {pins : List (Addr × Obj)} {σ : St} {H : Hp} {s : Shared} {a C dx : Addr} {fs : List (Str × V)} {f : Str} {v : V} {A : Around} {E : Value → Shared → Prop}

theorem getattr_ok {b : Bool} {Q : Value → Shared → Prop} (I : Inv X pins σ H s) (e : H a = some (.ins C dx fs)) (c : Cls X.K C) (n : NoAttr X.K C f) (l : fs.lookup f = some v)
    (h : ∀ u s', Inv X pins σ H s' → RelV v u → Q u s') : wpAny (model X.prog X.w) A (getAttr (.ref a) f b) Q E s := by
  obtain ⟨mA, O, r, _, _, _⟩ := ins_get I.hok e
  obtain ⟨u, hu, ru⟩ := RelO.some_of (v := v) (o := mA f) (by rw [← l]; exact r f)
  exact get_map I.kIn O (c.get f) c.hd n hu (handed_of ru) (h u _ (I.tok _) ru)

theorem getmeth_ok {m : Str} {g : Addr} {pl : Sem Bool} {Q : Value × List Value → Shared → Prop} (I : Inv X pins σ H s) (e : H a = some (.ins C dx fs)) (c : Cls X.K C) (k : Meth X.K C m g) (l : fs.lookup m = none)
    (h : Q (.ref g, [.ref a]) s) : wpAny (model X.prog X.w) A (getMethod (.ref a) m pl) Q E s := by
  obtain ⟨mA, O, r, _, _, _⟩ := ins_get I.hok e
  have hn : mA m = none := RelO.none_of (by rw [← l]; exact r m)
  exact get_meth I.kIn O (c.get m) k.at_ k.fn hn h

theorem setattr_ok {y : V} {u : Value} {Q : Unit → Shared → Prop} (I : Inv X pins σ H s) (e : H a = some (.ins C dx fs)) (c : Cls X.K C) (n : NoAttr X.K C f) (hl : fs.length < 1000) (ry : RelV y u)
    (h : ∀ s', Inv X pins σ (upd H a (.ins C dx (putF f y fs))) s' → Q () s') : wpAny (model X.prog X.w) A (setAttr (.ref a) f u) Q E s := by
  obtain ⟨mA, O, r, wi, _, ho⟩ := ins_get I.hok e
  have hz : (fs.map (·.1)).length ≤ sizeLine := by rw [List.length_map, sizeLine_eq]; omega
  refine set_map I.kIn O c.sa c.po n.taker c.hd wi hz fun h' O' sb => h _ ?_
  have hd : ∃ o, h'.get? dx = some o := let ⟨o, _, _, e', _⟩ := O'.ns; ⟨o, e'⟩
  refine I.write (x := a) (e := dx) (by rw [e]; exact True.intro) (.inr ho) (fun b q hb z => (sb.2 b hb).trans z) hd ?_
  refine ⟨by rw [upd_ne O.ne]; exact ho, ?_, O.ne, O'.obj, _, O'.ns, fun g => ?_, fun g hg => ?_⟩
  · have := length_putF f y fs; omega
  · show RelO ((putF f y fs).lookup g) (if g = f then some u else mA g)
    rw [lookup_putF]
    by_cases q : g = f
    · rw [if_pos q, if_pos q]; exact ry
    · rw [if_neg q, if_neg q]; exact r g
  · by_cases q : g = f
    · rw [q]; exact (keys_putF f y fs).1
    · refine (keys_putF f y fs).2 g (wi g fun z => hg ?_)
      show (if g = f then some u else mA g) = none
      rw [if_neg q]; exact z

/-- a new instance, tracked, without attributes -/
theorem Inv.made (I : Inv X pins σ H s) : Inv X pins σ (upd (upd H s.heap.objs.size (.own (s.heap.objs.size + 1))) (s.heap.objs.size + 1) (.ins C s.heap.objs.size []))
    { s with heap := (s.heap.push PySem.W.emptyDict).push (PySem.W.instObj C s.heap.objs.size) } := by
  have e1 : (s.heap.push PySem.W.emptyDict).get? s.heap.objs.size = some PySem.W.emptyDict := Heap.get?_push_size s.heap rfl
  have e2 : ((s.heap.push PySem.W.emptyDict).push (PySem.W.instObj C s.heap.objs.size)).get? (s.heap.objs.size + 1) = some (PySem.W.instObj C s.heap.objs.size) := by
    have := Heap.get?_push_size (s.heap.push PySem.W.emptyDict) (o := PySem.W.instObj C s.heap.objs.size) rfl
    rwa [Heap.size_push] at this
  have e3 : (s.heap.push PySem.W.emptyDict).Ns s.heap.objs.size (fun _ => none) := ⟨PySem.W.emptyDict, #[], _, e1, rfl, (fun e he => absurd he (by simp)), fun _ => rfl⟩
  have I1 := I.laid (a := s.heap.objs.size) (o := .own (s.heap.objs.size + 1)) (h' := s.heap.push PySem.W.emptyDict) (t' := s.toks) (fun b u q => Heap.get?_push_of_some _ q) (Nat.le_refl _) ⟨_, e1⟩
  refine I1.laid (a := s.heap.objs.size + 1) (o := .ins C s.heap.objs.size []) (t' := s.toks) (fun b u q => Heap.get?_push_of_some _ q) (Nat.le_of_eq (Heap.size_push _ _)) ?_
  have ne : s.heap.objs.size ≠ s.heap.objs.size + 1 := Nat.ne_of_lt (Nat.lt_succ_self _)
  refine ⟨by rw [upd_ne ne, upd_same], Nat.zero_le _, ne, e2, fun _ => none, (Heap.Ns1.of_empty e3).at fun o q => Heap.get?_push_of_some _ q, fun _ => True.intro, fun y hy => absurd rfl hy⟩

/-- e.f where nothing but the object is asked: through attributeBase (super) and the last hold -/
theorem attr_of {prog : Program} {w : World} {env : Env} {e : Expr} {f : Str} {pos : Pos} {s : Shared} {Q : Value → Shared → Prop} (hb : attributeBase e f env (eval e env) = eval e env)
    (h : wpAny (model prog w) A (eval e env) (fun o s₁ => wpAny (model prog w) A (getAttr o f true) Q E s₁) E s) : wpAny (model prog w) A (eval (.Attribute e f pos) env) Q E s :=
  Attribute_any_ h (by rw [arm_eval_Attribute, hb])
end


/-- e.f, an attribute of the instance -/
def tFld (K : PySem.W.Frag) (ta : TE) (f : Str) : TE := fun σ H Q => ta σ H fun x H1 => ∃ a C dx fs v, x = .ref a ∧ H1 a = some (.ins C dx fs) ∧ Cls K C ∧ NoAttr K C f ∧ fs.lookup f = some v ∧ Q v H1
/-- e.f = value -/
def sFld (K : PySem.W.Frag) (ta tv : TE) (f : Str) : TS := fun D σ H => tv σ H fun y H1 => ta σ H1 fun x H2 => ∃ a C dx fs, x = .ref a ∧ H2 a = some (.ins C dx fs) ∧ Cls K C ∧ NoAttr K C f ∧ fs.length < 1000 ∧
  D.nx σ (upd H2 a (.ins C dx (putF f y fs)))
section
variable {X : Cx} {o e value : Expr} {f : Str} {pos pos' tpos : Pos} {ta tv : TE}
theorem pe_fld (he : PE X e ta) (hb : attributeBase e f X.env (eval e X.env) = eval e X.env) : PE X (.Attribute e f pos) (tFld X.K ta f) := by
  intro pins s σ H Q I h
  refine attr_of hb (thn (he pins s σ H _ I h) fun u s1 ⟨x, H1, I1, rx, a, C, dx, fs, v, ex, ea, c, n, l, q⟩ => ?_)
  subst ex
  obtain rfl : u = Value.ref a := rx
  exact getattr_ok I1 ea c n l fun u' s2 I2 ru => ⟨v, H1, I2, ru, q⟩
theorem ps_fld (ha : PE X o ta) (hv : PE X value tv) (hs : swapsWith value (some (.Attribute o f pos')) pos.line X.env = pure false) : PS X (.Assign [.Attribute o f pos'] value pos) (sFld X.K ta tv f) := by
  intro pins s σ H D I h
  refine plainObj_wpAny_Assign_Attribute (thn (hv pins s σ H _ I h) fun u s1 ⟨y, H1, I1, ry, q⟩ => thn (ha pins s1 σ H1 _ I1 q) fun ov s2 ⟨x, H2, I2, rx, a, C, dx, fs, ex, ea, c, n, l, q2⟩ => ?_) hs
  subst ex
  obtain rfl : ov = Value.ref a := rx
  exact setattr_ok I2 ea c n l ry fun s3 I3 => ⟨σ, _, I3, q2⟩
end


section
variable {X : Cx} {pins : List (Addr × Obj)} {σ : St} {H : Hp} {s : Shared} {A : Around} {E : Value → Shared → Prop} {Q : Value → Shared → Prop} {c : Value} {b : Bool}
/-- the type of a value, as the fragment's deciders take it; for an instance its class -/
inductive TyOf (K : PySem.W.Frag) (H : Hp) : V → Value → Prop where
  | non : TyOf K H .non (.type "NoneType")
  | bl (x : Bool) : TyOf K H (.bl x) (.type "bool")
  | int (i : Int) : TyOf K H (.int i) (.type "int")
  | str (x : Str) : TyOf K H (.str x) (.type "str")
  | flt (x : UInt64) : TyOf K H (.flt x) (.type "float")
  | lst {a : Addr} {xs : List V} (e : H a = some (.lst xs)) : TyOf K H (.ref a) (.type "list")
  | frz {a : Addr} {o : Obj} {xs : List V} (e : H a = some (.frz o (.lst xs))) : TyOf K H (.ref a) (.type "list")
  | tup {a : Addr} {xs : List V} (e : H a = some (.tup xs)) : TyOf K H (.ref a) (.type "tuple")
  | dK {a : Addr} {kvs : List (Key × V)} (e : H a = some (.dK kvs)) : TyOf K H (.ref a) (.type "dict")
  | dT {a : Addr} {kvs : List (List Key × V)} (e : H a = some (.dT kvs)) : TyOf K H (.ref a) (.type "dict")
  | ins {a C dx : Addr} {fs : List (Str × V)} (e : H a = some (.ins C dx fs)) (cl : Cls K C) (ha : PySem.W.findIn K (.ref C) "__class__" = some (some (.builtin "object.__class__")))
      (hn : PySem.W.specialIn K (.builtin "object.__class__") "__get__" = some (some (.builtin "getset_descriptor.__get__"))) (htk : PySem.W.takesIn K (.builtin "object.__class__") = some true)
      (hm : PySem.W.mroIn K C (.type "object") = some true) : TyOf K H (.ref a) (.ref C)
/-- isinstance(x, c) for one class c, a built-in or an own one: kitOne's answer -/
theorem isinst_ok {x : V} {u t : Value} (I : Inv X pins σ H s) (rx : RelV x u) (ty : TyOf X.K H x t) (e : PySem.W.kitOne X.K t c = some b) (h : ∀ tk, Q (.bool b) { s with toks := tk }) :
    wpAny (model X.prog X.w) A (call (.builtin "isinstance") [u, c]) Q E s := by
  cases ty with
  | non => cases (show u = Value.none from rx); exact PySem.W.kia_one PySem.W.kitx_none I.kIn True.intro e (fun z => nomatch z) h
  | bl y => cases (show u = Value.bool y from rx); exact PySem.W.kia_one PySem.W.kitx_bool I.kIn True.intro e (fun z => nomatch z) h
  | int i => obtain ⟨t, q⟩ := (show ∃ t, u = Value.int i t from rx); cases q; exact PySem.W.kia_one PySem.W.kitx_int I.kIn True.intro e (fun z => nomatch z) h
  | str y => obtain ⟨t, q⟩ := (show ∃ t, u = Value.str y t from rx); cases q; exact PySem.W.kia_one PySem.W.kitx_str I.kIn True.intro e (fun z => nomatch z) h
  | flt y => obtain ⟨t, q⟩ := (show ∃ t, u = Value.float y t from rx); cases q; exact PySem.W.kia_one PySem.W.kitx_float I.kIn True.intro e (fun z => nomatch z) h
  | @lst a xs ea =>
    cases (show u = Value.ref a from rx)
    obtain ⟨_, _, n, _, h1⟩ := (show ObjOk X.prog X.w H s.heap a (.lst xs) from I.hok a _ ea)
    exact PySem.W.kia_one PySem.W.kitx_list I.kIn ⟨_, h1, rfl⟩ e (fun z => nomatch z) h
  | @frz a ob xs ea =>
    cases (show u = Value.ref a from rx)
    obtain ⟨_, _, _, n, _, h1⟩ := (show ObjOk X.prog X.w H s.heap a (.frz ob (.lst xs)) from I.hok a _ ea)
    exact PySem.W.kia_one PySem.W.kitx_list I.kIn ⟨_, h1, rfl⟩ e (fun z => nomatch z) h
  | @tup a xs ea =>
    cases (show u = Value.ref a from rx)
    obtain ⟨_, _, _, p⟩ := (show ObjOk X.prog X.w H s.heap a (.tup xs) from I.hok a _ ea)
    obtain ⟨o, h1, h2, _⟩ := p
    exact PySem.W.kia_one PySem.W.kitx_tuple I.kIn ⟨o, h1, h2⟩ e (fun z => nomatch z) h
  | @dK a kvs ea =>
    cases (show u = Value.ref a from rx)
    obtain ⟨_, _, vs, _, p⟩ := (show ObjOk X.prog X.w H s.heap a (.dK kvs) from I.hok a _ ea)
    obtain ⟨o, es, ep, h1, h2, _⟩ := p
    exact PySem.W.kia_one PySem.W.kitx_dict I.kIn ⟨o, h1, h2.1⟩ e (fun z => nomatch z) h
  | @dT a kvs ea =>
    cases (show u = Value.ref a from rx)
    obtain ⟨_, _, xs, _, o, es, ep, h1, h2, _⟩ := (show ObjOk X.prog X.w H s.heap a (.dT kvs) from I.hok a _ ea)
    exact PySem.W.kia_one PySem.W.kitx_dict I.kIn ⟨o, h1, h2.1⟩ e (fun z => nomatch z) h
  | @ins a C dx fs ea cl ha hn htk hm =>
    cases (show u = Value.ref a from rx)
    obtain ⟨mA, O, _⟩ := ins_get I.hok ea
    obtain ⟨od, J, _⟩ := O.look
    exact PySem.W.kia_one (PySem.W.kitx_own (cl.get _) cl.hd ha hn htk hm) I.kIn J e (fun z => nomatch z) h
end
end L2

namespace L2
open PySem PySem.Spec PyProof.Rows


structure Room (k : Nat) (A : Around) : Prop where
  hd : A.handled = none
  dp : A.depth + 3 * k + 5 < recursionLimit
  un : A.units + 16 * k + 200 < cLine
theorem Room.mono {j k : Nat} {A : Around} (r : Room k A) (h : j ≤ k) : Room j A := ⟨r.hd, by have := r.dp; omega, by have := r.un; omega⟩
theorem Room.deeper {k : Nat} {A : Around} (r : Room (k + 1) A) (env : Env) : Room k (A.deeper env) :=
  ⟨r.hd, by have := r.dp; show A.depth + 1 + 3 * k + 5 < _; omega, by have := r.un; show A.units + 3 + 16 * k + 200 < _; omega⟩
theorem Room.in1 {k : Nat} {A : Around} (r : Room (k + 1) A) : Room k A.in1 :=
  ⟨r.hd, by have := r.dp; show A.depth + 3 * k + 5 < _; omega, by have := r.un; show A.units + 1 + 16 * k + 200 < _; omega⟩
theorem make_depth {A : Around} {C : Addr} {us : List Value} {kw : List (Str × Value)} : (A.under (.builtin "type.__call__" ⟨.ref C :: us, kw⟩)).depth = A.depth + 1 := by
  first | rfl | simp [Around.under, Code.weight, Code.isCreation, Code.isGuard, Code.isCaller, Code.frames, Code.isFrame, guardIds]
theorem make_units {A : Around} {C : Addr} {us : List Value} {kw : List (Str × Value)} : (A.under (.builtin "type.__call__" ⟨.ref C :: us, kw⟩)).units = A.units + 1 := by
  first | rfl | simp [Around.under, Code.cUnits, Code.frames, Code.isFrame]
theorem Room.make {k : Nat} {A : Around} (r : Room (k + 1) A) (C : Addr) (us : List Value) (kw : List (Str × Value)) : Room k (A.under (.builtin "type.__call__" ⟨.ref C :: us, kw⟩)) :=
  ⟨r.hd, by have := r.dp; rw [make_depth]; omega, by have := r.un; rw [make_units]; omega⟩
theorem Room.depth {k : Nat} {A : Around} (r : Room k A) : A.depth < recursionLimit := by have := r.dp; omega
theorem Room.units {k : Nat} {A : Around} (r : Room k A) : A.units + 64 < cLine := by have := r.un; omega
theorem Room.units0 {k : Nat} {A : Around} (r : Room k A) : A.units < cLine := by have := r.un; omega


def tNil : TA := fun _ H Q => Q [] H
def tCons (ta : TE) (tr : TA) : TA := fun σ H Q => ta σ H fun x H1 => tr σ H1 fun xs H2 => Q (x :: xs) H2
section
variable {X : Cx} {e : Expr} {es : List Expr} {te : TE} {t : TA} {pos : Pos}
theorem pa_nil : PA X [] tNil := fun _ _ _ _ H Q I h => Calls.spliced_nil ⟨[], H, I, .nil, h⟩
theorem pa_cons (ha : PE X e te) (hr : PA X es t) (hs : starEach (e :: es) X.env = (false, eval e X.env) :: starEach es X.env := by rfl) : PA X (e :: es) (tCons te t) := by
  intro pos pins s σ H Q I h
  rw [hs]
  show wpAny _ _ (spliced ((false, eval e X.env) :: backTo pos (starEach es X.env))) _ _ s
  refine Calls.spliced_cons (thn (ha pins s σ H _ I h) fun u s1 ⟨x, H1, I1, r1, q1⟩ => ?_)
  exact thn (hr pos pins s1 σ H1 _ I1 q1) fun us s2 ⟨xs, H2, I2, r2, q2⟩ => ⟨x :: xs, H2, I2, .cons r1 r2, q2⟩

/-- a tuple, a list of written items -/
def tTup (t : TA) : TE := fun σ H Q => t σ H fun xs H1 => xs.length ≤ sizeLine ∧ ∀ p, H1 p = none → Q (.ref p) (upd H1 p (.tup xs))
def tLst (t : TA) : TE := fun σ H Q => t σ H fun xs H1 => xs.length ≤ sizeLine ∧ ∀ p, H1 p = none → Q (.ref p) (upd H1 p (.lst xs))
theorem pe_tup {x1} (h : PA X es t) : PE X (.Tuple es x1 pos) (tTup t) := by
  intro pins s σ H Q I hq
  refine wpAny_Tuple_spliced (thn (h pos pins s σ H _ I hq) fun us s1 ⟨xs, H1, I1, r, z, q⟩ => ⟨by rw [← r.length]; exact z, ?_⟩)
  have hf : H1 s1.heap.objs.size = none := I1.hok.fresh (Nat.le_refl _)
  refine ⟨.ref s1.heap.objs.size, upd H1 s1.heap.objs.size (.tup xs), I1.laid (t' := s1.toks) (fun b u e => Heap.get?_push_of_some _ e) (Nat.le_refl _) ?_, rfl, q _ hf⟩
  exact ⟨z, us, r, ⟨_, Heap.get?_push_size _ rfl, rfl, _, rfl⟩⟩
theorem pe_lst (h : PA X es t) : PE X (.List es pos) (tLst t) := by
  intro pins s σ H Q I hq
  refine wpAny_List_spliced (thn (h pos pins s σ H _ I hq) fun us s1 ⟨xs, H1, I1, r, z, q⟩ => ⟨by rw [← r.length]; exact z, ?_⟩)
  have hf : H1 s1.heap.objs.size = none := I1.hok.fresh (Nat.le_refl _)
  refine ⟨.ref s1.heap.objs.size, upd H1 s1.heap.objs.size (.lst xs), I1.laid (t' := s1.toks) (fun b u e => Heap.get?_push_of_some _ e) (Nat.le_refl _) ?_, rfl, q _ hf⟩
  exact ⟨z, us, 0, r, Heap.get?_push_size _ rfl⟩
end


/-- a def's promise: the bound arguments in the parameters' order, the heap, the wanted end, the wanted exception -/
abbrev Sp := List V → Hp → VK → XK → Prop
/-- how an exception lies behind a call (file 08 gives it): the callers' frames, abstract heap and state ahead of the call, the wish, the exception, the state -/
abbrev CXT := List Env → Hp → Shared → XK → Value → Shared → Prop

/-- the state at a call -/
structure Env0 (P : Program) (w : World) (K : PySem.W.Frag) (mg : Str → Option Value) (base : Heap) (A : Around) (outer : List Env) (s : Shared) (H : Hp) : Prop where
  frames : A.frames = some outer
  mod : Mod K mg base
  bs : ∀ b o, base.get? b = some o → s.heap.get? b = some o ∧ H b = none
  bsz : base.objs.size ≤ s.heap.objs.size
  funs : s.heap.FunFrames base outer
  frf : ∀ b ∈ frs outer, H b = none
  hok : HOk P w H s.heap
  bare : AllBare s.gens
/-- a call's end -/
def CE (outer : List Env) (P : Program) (w : World) (H : Hp) (s : Shared) (Q : VK) (u : Value) (s' : Shared) : Prop :=
  ∃ v H', s'.os = s.os ∧ AllBare s'.gens ∧ Un (frs outer) [] H H' s.heap s'.heap ∧ HOk P w H' s'.heap ∧ RelV v u ∧ Q v H'
def CR (CX : CXT) (outer : List Env) (P : Program) (w : World) (H : Hp) (s : Shared) (Q : VK) (E : XK) (r : Result) (s' : Shared) : Prop :=
  match r with
  | .ok (.ret u) => CE outer P w H s Q u s'
  | .ok _ => False
  | .error e => CX outer H s E e s'
structure FnOk (P : Program) (w : World) (K : PySem.W.Frag) (mg : Str → Option Value) (base : Heap) (CX : CXT) (k : Nat) (f : Addr) (fd : FuncData) (ps : List Str) (sp : Sp) : Prop where
  len : ∀ vs H Q E, sp vs H Q E → vs.length = ps.length
  run : ∀ (A : Around) (outer : List Env) (s : Shared) (H : Hp) (args : Args) (us : List Value) (vs : List V) (Q : VK) (E : XK), Room k A → Env0 P w K mg base A outer s H → BindsTo s fd args (ps.zip us) → Vals vs us → sp vs H Q E →
    codeAny (model P w) A (.call (.ref f) args) (CR CX outer P w H s Q E) s
theorem FnOk.mono {P : Program} {w : World} {K : PySem.W.Frag} {mg : Str → Option Value} {base : Heap} {CX : CXT} {j k : Nat} {f : Addr} {fd : FuncData} {ps : List Str} {sp : Sp} (F : FnOk P w K mg base CX j f fd ps sp) (h : j ≤ k) :
    FnOk P w K mg base CX k f fd ps sp := ⟨F.len, fun A outer s H args us vs Q E hr => F.run A outer s H args us vs Q E (hr.mono h)⟩
theorem Env0.make {P : Program} {w : World} {K : PySem.W.Frag} {mg : Str → Option Value} {base : Heap} {A : Around} {outer : List Env} {s : Shared} {H : Hp} (e : Env0 P w K mg base A outer s H) (C : Addr) (us : List Value) (kw : List (Str × Value)) :
    Env0 P w K mg base (A.under (.builtin "type.__call__" ⟨.ref C :: us, kw⟩)) outer s H := ⟨by first | exact e.frames | (simpa [Around.under, Code.envs, Code.isFrame, pushEnvs] using e.frames), e.mod, e.bs, e.bsz, e.funs, e.frf, e.hok, e.bare⟩
theorem Env0.in1 {P : Program} {w : World} {K : PySem.W.Frag} {mg : Str → Option Value} {base : Heap} {A : Around} {outer : List Env} {s : Shared} {H : Hp} (e : Env0 P w K mg base A outer s H) :
    Env0 P w K mg base A.in1 outer s H := ⟨e.frames, e.mod, e.bs, e.bsz, e.funs, e.frf, e.hok, e.bare⟩

section
variable {X : Cx} {pins : List (Addr × Obj)} {σ : St} {H : Hp} {s s' : Shared}
/-- from a body: what a callee wants -/
theorem Inv.env0 (I : Inv X pins σ H s) : Env0 X.prog X.w X.K X.mg X.base X.A X.stack s H :=
  ⟨I.ok.frames, I.ok.mod, I.bs, Nat.le_trans I.ok.bsz I.sz, I.stack, I.stkFree, I.hok, I.bare⟩
/-- behind a call -/
theorem Inv.after {Q : VK} {u : Value} (I : Inv X pins σ H s) (h : CE X.stack X.prog X.w H s Q u s') : EP X pins σ Q u s' := by
  obtain ⟨v, H', os, bare, un, hok, r, q⟩ := h
  obtain ⟨hh, g, d, t, os'⟩ := s'
  obtain rfl : os' = s.os := os
  exact ⟨v, H', I.call (h' := hh) (g' := g) (d' := d) (t' := t) (ch := []) un hok bare (fun b z => absurd z (by simp)), r, q⟩
end


/-- f(..): the written arguments, then the defaults dvs; E: what is wanted of an exception -/
def tCall (sp : Sp) (dvs : List V) (E : XK) (t : TA) : TE := fun σ H Q => t σ H fun vs H1 => sp (vs ++ dvs) H1 Q E
/-- o.m(..) of an instance of the class at C -/
def tMeth (C : Addr) (m : Str) (sp : Sp) (dvs : List V) (E : XK) (ta : TE) (t : TA) : TE := fun σ H Q => ta σ H fun x H1 => ∃ a dx fs, x = .ref a ∧ H1 a = some (.ins C dx fs) ∧ fs.lookup m = none ∧
  t σ H1 fun vs H2 => sp (x :: (vs ++ dvs)) H2 Q E
/-- C(..): a new instance and its dict, then __init__ -/
def tMake (C : Addr) (sp : Sp) (dvs : List V) (E : XK) (t : TA) : TE := fun σ H Q => t σ H fun vs H1 => ∀ x dx, H1 x = none → H1 dx = none → dx ≠ x →
  sp (.ref x :: (vs ++ dvs)) (upd (upd H1 dx (.own x)) x (.ins C dx [])) (fun v H2 => v = .non ∧ Q (.ref x) H2) E

/-- how the parameters are bound: us the positional arguments, kw the keywords' values by name, ds the defaults that fill up -/
def Binds (K : PySem.W.Frag) (fd : FuncData) (ps : List Str) (ds : List Value) : Prop :=
  ∀ (s : Shared) (us : List Value), K.In s.heap → (us ++ ds).length = ps.length → BindsTo s fd ⟨us, []⟩ (ps.zip (us ++ ds))
/-- every parameter is given -/
theorem Binds.all {K : PySem.W.Frag} {fd : FuncData} {ps : List Str} (h : ∀ us : List Value, us.length = ps.length → bindArgs fd ⟨us, []⟩ = pure (ps.zip us)) : Binds K fd ps [] := fun s us _ hl => by
  rw [List.append_nil] at hl ⊢
  exact .of_eq (h us hl)

/-- an exception of a callee reaches what this body wants of exceptions -/
def Passes (CX : CXT) (X : Cx) (E : XK) : Prop := ∀ (pins : List (Addr × Obj)) (σ : St) (H : Hp) (s : Shared) (e : Value) (s' : Shared), Inv X pins σ H s → CX X.stack H s E e s' → X.xe e s'

section
variable {X : Cx} {CX : CXT} {k : Nat} {f C : Addr} {fd : FuncData} {ps : List Str} {sp : Sp} {dvs : List V} {ds : List Value} {E : XK} {x m : Str} {p pos apos : Pos} {e o : Expr} {es : List Expr} {ta : TE} {t : TA}

/-- the callee runs -/
theorem run_fn {pins : List (Addr × Obj)} {σ : St} {H : Hp} {s : Shared} {Q : VK} {us : List Value} {vs : List V} (F : FnOk X.prog X.w X.K X.mg X.base CX k f fd ps sp) (hr : Room k X.A) (hb : Binds X.K fd ps ds) (hd : Vals dvs ds) (hx : Passes CX X E)
    (I : Inv X pins σ H s) (r : Vals vs us) (h : sp (vs ++ dvs) H Q E) : wpAny (model X.prog X.w) X.A (call (.ref f) us) (EP X pins σ Q) X.xe s := by
  have r2 : Vals (vs ++ dvs) (us ++ ds) := r.append hd
  have hl : (us ++ ds).length = ps.length := by rw [← r2.length]; exact F.len _ _ _ _ h
  refine wpAny_call (codeAny_mono (F.run X.A X.stack s H ⟨us, []⟩ (us ++ ds) (vs ++ dvs) Q E hr I.env0 (hb s us I.kIn hl) r2 h) fun r s' hq => ?_)
  cases r with
  | error e => exact hx pins σ H s e s' I hq
  | ok fl =>
    cases fl with
    | ret u => exact I.after hq
    | next => exact False.elim hq
    | brk => exact False.elim hq
    | cont => exact False.elim hq

theorem pe_call (F : FnOk X.prog X.w X.K X.mg X.base CX k f fd ps sp) (hr : Room k X.A) (hg : Gl X x) (hm : X.mg x = some (.ref f)) (hk : PySem.W.keepIn X.K (.ref f) = true) (hb : Binds X.K fd ps ds) (hd : Vals dvs ds) (hx : Passes CX X E)
    (ha : PA X (e :: es) t) (hdb : (x == ("__debug__" : Str)) = false := by decide) (he : starEach (e :: es) X.env = (false, eval e X.env) :: starEach es X.env := by rfl) (hpl : (backTo pos (starEach es X.env)).any (·.1) = false := by rfl) :
    PE X (.Call (.Name x p) (e :: es) [] pos) (tCall sp dvs E t) := by
  intro pins s σ H Q I h
  refine wpAny_Call_Name_kw (ld_glob I hg hm ?_ hdb)
  refine PySem.W.callWith_K (h₀ := X.base) I.ok.mod.kin hk (thn (ha pos pins s σ H _ I h) fun us s1 ⟨vs, H1, I1, r, q⟩ => ⟨I1.kIn, ?_⟩) he hpl
  exact run_fn F hr hb hd hx I1 r q
/-- o.m() -/
theorem pe_meth0 {pl : Sem Bool} (he : PE X o ta) (c : Cls X.K C) (hm : Meth X.K C m f) (F : FnOk X.prog X.w X.K X.mg X.base CX k f fd ps sp) (hr : Room k X.A) (hb : Binds X.K fd ps ds) (hd : Vals dvs ds) (hx : Passes CX X E)
    (ht : eval (.Call (.Attribute o m apos) [] [] pos) X.env = (do
      let ov ← eval o X.env
      standAt apos.atName
      let (f, first) ← holding [ov] (getMethod ov m pl)
      callWith pos f first (backTo pos (starEach [] X.env)) (backToKw pos (keywordEach [] X.env))) := by rfl) :
    PE X (.Call (.Attribute o m apos) [] [] pos) (tMeth C m sp dvs E ta tNil) := by
  intro pins s σ H Q I h
  refine PySem.W.methodCall_KW (pl := pl) (thn (he pins s σ H _ I h) fun u s1 ⟨x, H1, I1, rx, a, dx, fs, ex, ea, l, q⟩ => ?_) ht
  subst ex
  obtain rfl : u = Value.ref a := rx
  refine getmeth_ok I1 ea c hm l ?_
  exact PySem.W.callWith_K0 (first := [.ref a]) I1.kIn hm.kp (run_fn (us := [.ref a]) (vs := [.ref a]) F hr hb hd hx I1 (.cons rfl .nil) q)

/-- what a class must have to be made -/
structure Mk (K : PySem.W.Frag) (C f : Addr) : Prop where
  makes : PySem.W.makesIn K C = true
  init : PySem.W.findIn K (.ref C) "__init__" = some (some (.ref f))
  fn : PySem.W.isFn K (.ref f) = true
  kp : PySem.W.keepIn K (.ref C) = true

theorem run_make {pins : List (Addr × Obj)} {σ : St} {H : Hp} {s : Shared} {Q : VK} {us : List Value} {vs : List V} (M : Mk X.K C f) (F : FnOk X.prog X.w X.K X.mg X.base CX k f fd ps sp) (hr : Room (k + 1) X.A) (hb : Binds X.K fd ps ds) (hd : Vals dvs ds)
    (hx : Passes CX X E) (I : Inv X pins σ H s) (r : Vals vs us)
    (h : ∀ x dx, H x = none → H dx = none → dx ≠ x → sp (.ref x :: (vs ++ dvs)) (upd (upd H dx (.own x)) x (.ins C dx [])) (fun v H2 => v = .non ∧ Q (.ref x) H2) E) :
    wpAny (model X.prog X.w) X.A (call (.ref C) us) (EP X pins σ Q) X.xe s := by
  have hq := h (s.heap.objs.size + 1) s.heap.objs.size (I.hok.fresh (Nat.le_succ _)) (I.hok.fresh (Nat.le_refl _)) (Nat.ne_of_lt (Nat.lt_succ_self _))
  have I2 := Inv.made (C := C) I
  have r2 : Vals (V.ref (s.heap.objs.size + 1) :: (vs ++ dvs)) (Value.ref (s.heap.objs.size + 1) :: (us ++ ds)) := .cons rfl (r.append hd)
  have hl : (Value.ref (s.heap.objs.size + 1) :: us ++ ds).length = ps.length := by
    have e := r2.length
    rw [F.len _ _ _ _ hq] at e
    exact e.symm
  refine wpAny_call (make_map (f := f) I.kIn M.makes M.init (beq_iff_eq.mp M.fn) (codeAny_mono (F.run _ X.stack _ _ ⟨Value.ref (s.heap.objs.size + 1) :: us, []⟩ (Value.ref (s.heap.objs.size + 1) :: (us ++ ds)) _ _ E (hr.make C us [])
    (I2.env0.make C us []) (hb _ (Value.ref (s.heap.objs.size + 1) :: us) I2.kIn hl) r2 hq) fun r s' hq' => ?_))
  cases r with
  | error e => exact hx pins σ _ _ e s' I2 hq'
  | ok fl =>
    cases fl with
    | ret u =>
      obtain ⟨v, H', I3, rv, ev, q3⟩ := I2.after hq'
      subst ev
      exact ⟨rv, ⟨V.ref (s.heap.objs.size + 1), H', I3, rfl, q3⟩⟩
    | next => exact False.elim hq'
    | brk => exact False.elim hq'
    | cont => exact False.elim hq'
theorem pe_make (M : Mk X.K C f) (F : FnOk X.prog X.w X.K X.mg X.base CX k f fd ps sp) (hr : Room (k + 1) X.A) (hg : Gl X x) (hm : X.mg x = some (.ref C)) (hb : Binds X.K fd ps ds) (hd : Vals dvs ds) (hx : Passes CX X E)
    (ha : PA X (e :: es) t) (hdb : (x == ("__debug__" : Str)) = false := by decide) (he : starEach (e :: es) X.env = (false, eval e X.env) :: starEach es X.env := by rfl) (hpl : (backTo pos (starEach es X.env)).any (·.1) = false := by rfl) :
    PE X (.Call (.Name x p) (e :: es) [] pos) (tMake C sp dvs E t) := by
  intro pins s σ H Q I h
  refine wpAny_Call_Name_kw (ld_glob I hg hm ?_ hdb)
  refine PySem.W.callWith_K (h₀ := X.base) I.ok.mod.kin M.kp (thn (ha pos pins s σ H _ I h) fun us s1 ⟨vs, H1, I1, r, q⟩ => ⟨I1.kIn, ?_⟩) he hpl
  exact run_make M F hr hb hd hx I1 r q
end


section
variable {X : Cx} {CX : CXT} {k : Nat} {f C : Addr} {fd : FuncData} {ps ks : List Str} {sp : Sp} {E : XK} {x m : Str} {p pos apos kpos : Pos} {e o : Expr} {es : List Expr} {kws : List Keyword} {te ta : TE} {t tk : TA} {nm : Option Str}
variable {g : List Value → List Value → List Value} {gV : List V → List V → List V}
end


/-- names: the parameters first -/
structure FnScope (N P : List Str) (sc : Scope) : Prop where
  kind : sc.kind = .function
  co : sc.isCoroutine = false
  gen : sc.isGenerator = false
  nd : N.Nodup
  pre : N.take P.length = P
  par : ∀ x ∈ P, sc.names.lookup x = some .local ∨ sc.names.lookup x = some .cell
  nofree : ∀ y ∈ sc.names, y.2 ≠ .free

theorem bindL_out {kindOf : Str → Option NameKind} {x : Str} : ∀ {binds : List (Str × Value)} {m : Str → Option Value}, (∀ v, (x, v) ∉ binds) → bindL kindOf binds m x = m x
  | [], _, _ => rfl
  | (n, v) :: r, m, h => by
    unfold bindL
    rw [bindL_out fun w hw => h w (List.mem_cons_of_mem _ hw)]
    split
    · have : x ≠ n := by rintro rfl; exact h v List.mem_cons_self
      simp [this]
    · rfl
theorem bindC_out {kindOf : Str → Option NameKind} {x : Str} : ∀ {binds : List (Str × Value)} {m : Str → Option Value}, (∀ v, (x, v) ∉ binds) → bindC kindOf binds m x = m x
  | [], _, _ => rfl
  | (n, v) :: r, m, h => by
    unfold bindC
    rw [bindC_out fun w hw => h w (List.mem_cons_of_mem _ hw)]
    split
    · rfl
    · have : x ≠ n := by rintro rfl; exact h v List.mem_cons_self
      simp [this]
theorem bindL_get {kindOf : Str → Option NameKind} {x : Str} {v : Value} : ∀ {P : List Str} {vs : List Value} {i : Nat} {m : Str → Option Value}, P.Nodup → P[i]? = some x → vs[i]? = some v → kindOf x = some .local →
    bindL kindOf (P.zip vs) m x = some v
  | [], _, _, _, _, h, _, _ => by simp at h
  | _ :: _, [], _, _, _, _, h, _ => by simp at h
  | p :: P, w :: vs, 0, m, nd, h1, h2, hk => by
    simp at h1 h2; subst h1; subst h2
    show bindL kindOf ((p, w) :: P.zip vs) m p = _
    unfold bindL
    rw [bindL_out fun v hv => (List.nodup_cons.mp nd).1 (List.of_mem_zip hv).1, if_pos hk]
    simp
  | p :: P, w :: vs, i + 1, m, nd, h1, h2, hk => by
    show bindL kindOf ((p, w) :: P.zip vs) m x = _
    unfold bindL
    exact bindL_get (i := i) (List.nodup_cons.mp nd).2 (by simpa using h1) (by simpa using h2) hk
theorem bindC_get {kindOf : Str → Option NameKind} {x : Str} {v : Value} : ∀ {P : List Str} {vs : List Value} {i : Nat} {m : Str → Option Value}, P.Nodup → P[i]? = some x → vs[i]? = some v → kindOf x ≠ some .local →
    bindC kindOf (P.zip vs) m x = some v
  | [], _, _, _, _, h, _, _ => by simp at h
  | _ :: _, [], _, _, _, _, h, _ => by simp at h
  | p :: P, w :: vs, 0, m, nd, h1, h2, hk => by
    simp at h1 h2; subst h1; subst h2
    show bindC kindOf ((p, w) :: P.zip vs) m p = _
    unfold bindC
    rw [bindC_out fun v hv => (List.nodup_cons.mp nd).1 (List.of_mem_zip hv).1, if_neg hk]
    simp
  | p :: P, w :: vs, i + 1, m, nd, h1, h2, hk => by
    show bindC kindOf ((p, w) :: P.zip vs) m x = _
    unfold bindC
    exact bindC_get (i := i) (List.nodup_cons.mp nd).2 (by simpa using h1) (by simpa using h2) hk

/-- the names' values at the entry -/
def start (N : List Str) (vs : List V) : St := vs.map some ++ List.replicate (N.length - vs.length) none

/-- the context of a def's body, at its entry; an exception leaves the frame, then lies as CX says -/
def cxOf (CX : CXT) (P : Program) (w : World) (K : PySem.W.Frag) (mg : Str → Option Value) (base : Heap) (N : List Str) (qual : Str) (scope : Scope) (f : Addr) (cd : Value) (A : Around) (outer : List Env) (s : Shared) (H : Hp) (E : XK) : Cx where
  prog := P
  w := w
  K := K
  mg := mg
  base := base
  A := A.deeper (envOfC qual scope s.heap.objs.size f cd)
  N := N
  s₀ := s
  H₀ := H
  env := envOfC qual scope s.heap.objs.size f cd
  outer := outer
  stack := envOfC qual scope s.heap.objs.size f cd :: outer
  ex := []
  calm := true
  fn := fun _ => true
  pn := []
  xe := fun e s' => wpAny (model P w) (A.deeper (envOfC qual scope s.heap.objs.size f cd)) (leaving (envOfC qual scope s.heap.objs.size f cd) e) (fun _ s'' => CX outer H s E e s'') (fun e' s'' => CX outer H s E e' s'') s'

theorem cell_has {sc : Scope} {n : Nat} {x : Str} (h : sc.names.lookup x = some .cell) : ∃ c, (cellsFrom n sc.names []).lookup x = some c := by
  have q := PySem.W.cellsFrom_some sc.names n [] (.inl h)
  exact Option.isSome_iff_exists.mp q

theorem inv_start {CX : CXT} {P : Program} {w : World} {K : PySem.W.Frag} {mg : Str → Option Value} {base : Heap} {N ps : List Str} {qual : Str} {scope : Scope} {f : Addr} {cd : Value} {A : Around} {outer : List Env} {s s1 : Shared} {H : Hp} {E : XK} {us : List Value} {vs : List V}
    (S : FnScope N ps scope) (hd : A.handled = none) (e0 : Env0 P w K mg base A outer s H) (hl : vs.length = ps.length) (r : Vals vs us)
    (x : InCallC s s.heap.objs.size (bindL (envOfC qual scope s.heap.objs.size f cd).kindOf (ps.zip us) fun _ => none) (cellsFrom (s.heap.objs.size + 1) scope.names []) (bindC (envOfC qual scope s.heap.objs.size f cd).kindOf (ps.zip us) fun _ => none) s1) :
    Inv (cxOf CX P w K mg base N qual scope f cd A outer s H E) [] (start N vs) H s1 := by
  have hpl : ps.length ≤ N.length := by have := congrArg List.length S.pre; rw [List.length_take] at this; omega
  obtain ⟨h1, tk, rfl, hk⟩ := x.done
  have noA : ∀ b : Addr, b ∉ (cxOf CX P w K mg base N qual scope f cd A outer s H E).ex := fun b z => absurd (show b ∈ ([] : List Addr) from z) (by simp)
  refine ⟨⟨e0.mod, S.kind, rfl, rfl, Nat.le_refl _, fun y z c h1 h2 => ?_, fun y hy => ?_, fun y c _ h => ?_, fun _ => hd, Around.frames_deeper e0.frames, .inr ⟨rfl, rfl⟩, fun b z => absurd z (noA b), e0.bs, e0.bsz, fun b _ _ => noA b, fun b z => absurd z (noA b), e0.funs, e0.frf⟩,
    rfl, e0.bare, Un.kept hk, ⟨_, x.toInCall.ns, fun i y v h1 h2 h3 => ?_⟩, fun y c h => ⟨_, x.cell y c h⟩, e0.hok.fresh (Nat.le_refl _), fun y c h => ?_, fun p hp => absurd (show p ∈ ([] : List (Addr × Obj)) from hp) (by simp), e0.hok.kept hk, ?_⟩
  · exact name_of_addr x.apart (PySem.mem_of_lookup h1) (PySem.mem_of_lookup h2)
  · have hy : scope.names.lookup y = some .cell ∨ scope.names.lookup y = some .free := hy
    rcases hy with hy | hy
    · exact cell_has hy
    · exact absurd rfl (S.nofree _ (PySem.mem_of_lookup hy))
  · exact Nat.le_of_lt (x.above y c (PySem.mem_of_lookup h))
  · have hi : i < vs.length := by
      unfold start at h2
      by_cases hi : i < vs.length
      · exact hi
      · rw [List.getElem?_append_right (by simpa using hi)] at h2
        rw [List.getElem?_replicate] at h2
        split at h2 <;> cases h2
    have ha : vs[i]? = some v := by
      unfold start at h2
      rw [List.getElem?_append_left (by simpa using hi), List.getElem?_map] at h2
      cases e : vs[i]? with
      | none => rw [e] at h2; cases h2
      | some a => rw [e] at h2; cases h2; rfl
    obtain ⟨u, hu, rv⟩ := r.get ha
    have hp : ps[i]? = some y := by
      rw [← S.pre, List.getElem?_take_of_lt (by omega)]; exact h1
    have ndP : ps.Nodup := by rw [← S.pre]; exact S.nd.sublist (List.take_sublist _ _)
    refine ⟨u, rv, ?_⟩
    rcases S.par y (List.mem_of_getElem? hp) with k | k
    · exact .inl ⟨k, bindL_get ndP hp hu k⟩
    · obtain ⟨c, e⟩ := cell_has (n := s.heap.objs.size + 1) k
      refine .inr ⟨.inl k, c, e, ?_⟩
      have q := x.cell y c e
      rw [bindC_get ndP hp hu (by show scope.names.lookup y ≠ _; rw [k]; decide)] at q
      exact q
  · exact e0.hok.fresh (Nat.le_of_lt (x.above y c (PySem.mem_of_lookup h)))
  · unfold start
    show _ = N.length
    rw [List.length_append, List.length_map, List.length_replicate]
    omega

/-- THE RULE: a def (or a method) of the text, by its body. The body's reading t is chosen for each entry; it is run at the parameters' values -/
theorem fn_of {CX : CXT} {P : Program} {w : World} {K : PySem.W.Frag} {mg : Str → Option Value} {base : Heap} {k : Nat} {f : Addr} {name qual : Str} {params : Arguments} {body : List Stmt} {scope : Scope} {dV kV doc pm cdv ct oc : Value} {an od : Option Addr}
    {osl : Array (Option Value)} {N ps : List Str} {sp : Sp} (lk : K.lookup f = some ⟨oc, od, .func (PySem.W.fnOf name qual params body scope dV kV doc pm an cdv ct), osl⟩) (hcd : PySem.W.codeIn K cdv qual = true) (S : FnScope N ps scope)
    (len : ∀ vs H Q E, sp vs H Q E → vs.length = ps.length)
    (hbody : ∀ (A : Around) (outer : List Env) (s : Shared) (H : Hp) (vs : List V) (Q : VK) (E : XK), Room k (A.deeper (envOfC qual scope s.heap.objs.size f cdv)) → sp vs H Q E →
      ∃ t, PSs (cxOf CX P w K mg base N qual scope f cdv A outer s H E) body t ∧ t { nx := fun _ H' => Q .non H', rt := Q } (start N vs) H) :
    FnOk P w K mg base CX (k + 1) f (PySem.W.fnOf name qual params body scope dV kV doc pm an cdv ct) ps sp := by
  refine ⟨len, fun A outer s H args us vs Q E hr e0 hb r hsp => ?_⟩
  have hl := len _ _ _ _ hsp
  have KX : K.In s.heap := e0.mod.kin.keeps fun b o e => (e0.bs b o e).1
  have lim : s.heap.NoLimit := e0.mod.nolimit.keeps fun b o e => (e0.bs b o e).1
  have hkind : ∀ y ∈ ps.zip us, scope.names.lookup y.1 = some .local ∨ (scope.names.lookup y.1 = some .cell ∧ ((cellsFrom (s.heap.objs.size + 1) scope.names []).lookup y.1).isSome = true) := fun ⟨n, v⟩ hy => by
    rcases S.par n (List.of_mem_zip hy).1 with q | q
    · exact .inl q
    · exact .inr ⟨q, PySem.W.cellsFrom_some _ _ _ (.inl q)⟩
  refine codeAny_call_function hr.depth (KX _ _ lk) rfl S.co S.gen rfl (PySem.W.codeRec_of KX hcd) (hb _ _ _ _ ?_)
  refine wpAny_newFunctionEnv_cells S.kind hkind fun env he s1 x => ?_
  subst he
  refine ⟨lim.keeps x.toInCall.keep, codeAny_func ?_⟩
  obtain ⟨t, ht, hq⟩ := hbody A outer s H vs Q E (hr.deeper _) hsp
  have I : Inv (cxOf CX P w K mg base N qual scope f cdv A outer s H E) [] (start N vs) H s1 := inv_start S hr.hd e0 hl r x
  refine wpAny_mono (ht [] s1 (start N vs) H _ I hq) (fun fl s' hs => ?_) fun e s' hs => hs
  have fin : ∀ {σ' : St} {H' : Hp} {v : V} {u : Value}, Inv (cxOf CX P w K mg base N qual scope f cdv A outer s H E) [] σ' H' s' → RelV v u → Q v H' → CE outer P w H s Q u s' :=
    fun {σ' H' v u} J rv q => ⟨v, H', J.os, J.bare, J.base, J.hok, rv, q⟩
  cases fl with
  | ret u =>
    obtain ⟨v, σ', H', J, rv, q⟩ := hs
    exact fin J rv q
  | next =>
    obtain ⟨σ', H', J, q⟩ := hs
    exact fin (v := V.non) (u := Value.none) J rfl q
  | brk =>
    obtain ⟨_, _, _, q⟩ := hs
    exact False.elim q
  | cont =>
    obtain ⟨_, _, _, q⟩ := hs
    exact False.elim q
end L2

namespace L2
open PySem PySem.Spec PyProof.Rows
section
variable {X : Cx} {x : Str} {p pos : Pos} {e : Expr} {es : List Expr} {t : TA} {id T : String} {r : List V → Hp → VK → Prop}

def tCB (r : List V → Hp → VK → Prop) (t : TA) : TE := fun σ H Q => t σ H fun vs H1 => r vs H1 Q
/-- f(e, ..), f a built-in function -/
theorem pe_callB (hc : CallR X (.builtin id) r) (hg : Gl X x) (hm : X.mg x = none) (hv : bootBuiltins x = some (.builtin id)) (ha : PA X (e :: es) t) (hn : x ≠ "__name__" := by decide) (hdb : (x == ("__debug__" : Str)) = false := by decide)
    (he : starEach (e :: es) X.env = (false, eval e X.env) :: starEach es X.env := by rfl) (hpl : (backTo pos (starEach es X.env)).any (·.1) = false := by rfl) : PE X (.Call (.Name x p) (e :: es) [] pos) (tCB r t) := by
  intro pins s σ H Q I h
  refine wpAny_Call_Name_kw (ld_blt I hg hm hv ?_ hn hdb)
  exact PyProof.Rows.callWith_builtin1 (thn (ha pos pins s σ H _ I h) fun us s1 ⟨vs, H1, I1, r1, q1⟩ => hc pins s1 σ H1 vs us Q I1 r1 q1) he hpl
/-- T(e, ..), T a built-in type -/
theorem pe_callTy (hc : CallR X (.type T) r) (hg : Gl X x) (hm : X.mg x = none) (hv : bootBuiltins x = some (.type T)) (ha : PA X (e :: es) t) (hn : x ≠ "__name__" := by decide) (hdb : (x == ("__debug__" : Str)) = false := by decide)
    (he : starEach (e :: es) X.env = (false, eval e X.env) :: starEach es X.env := by rfl) (hpl : (backTo pos (starEach es X.env)).any (·.1) = false := by rfl) : PE X (.Call (.Name x p) (e :: es) [] pos) (tCB r t) := by
  intro pins s σ H Q I h
  refine wpAny_Call_Name_kw (ld_blt I hg hm hv ?_ hn hdb)
  exact PyProof.Rows.callWith_type1 (thn (ha pos pins s σ H _ I h) fun us s1 ⟨vs, H1, I1, r1, q1⟩ => hc pins s1 σ H1 vs us Q I1 r1 q1) he hpl
end
end L2

namespace HT
open PySem PyProof.Rows

section
open PySem.SeqAt
open PySem.AutoSeq1 (wpAny_loadPart')
open PySem.MeetsSeq PySem.MeetsSeq2 PySem.MeetsSeq3

end

section
variable {prog : Program} {w : World} {A : Around} {E : Value → Shared → Prop} {s : Shared}

/-- a slice's bound as a place among n (d where it is left out) -/
def sIx (n d : Nat) : Option Int → Nat
  | none => d
  | some v => if v < 0 then (v + (n : Int)).toNat else min v.toNat n
theorem sIx_none (n d : Nat) : sIx n d none = d := rfl
theorem sIx_nat (n d k : Nat) : sIx n d (some (k : Int)) = min k n := by
  show (if (k : Int) < 0 then ((k : Int) + (n : Int)).toNat else min (k : Int).toNat n) = min k n
  rw [if_neg (by omega), Int.toNat_natCast]
end
end HT

namespace L2
open PySem PySem.Spec PyProof.Rows


abbrev TO := St → Hp → (Option Int → Hp → Prop) → Prop
/-- a slice's part (left out, or an int) -/
def PO (X : Cx) (e : Option Expr) (t : TO) : Prop :=
  ∀ (pins : List (Addr × Obj)) (s : Shared) (σ : St) (H : Hp) (Q : Option Int → Hp → Prop), Inv X pins σ H s → t σ H Q →
    wpAny (model X.prog X.w) X.A (evalPart e X.env) (fun u s' => ∃ o H', Inv X pins σ H' s' ∧ IsPart u o ∧ Q o H') X.xe s
def tNoPart : TO := fun _ H Q => Q none H
def tPart (t : TE) : TO := fun σ H Q => t σ H fun x H1 => ∃ i, x = .int i ∧ Q (some i) H1

section
variable {X : Cx} {e : Expr} {te : TE} {lo hi : Option Expr} {tl th : TO} {pos p2 : Pos}

theorem po_none : PO X none tNoPart := by
  intro pins s σ H Q I h
  rw [evalPart_none]
  exact wpAny_pure ⟨none, H, I, .none, h⟩
theorem po_some (h : PE X e te) : PO X (some e) (tPart te) := by
  intro pins s σ H Q I hw
  rw [evalPart_some]
  refine thn (h pins s σ H _ I hw) fun u s1 ⟨x, H1, I1, r1, q1⟩ => ?_
  obtain ⟨i, rfl, q⟩ := q1
  obtain ⟨t, rfl⟩ := r1
  exact ⟨some i, H1, I1, .int i t, q⟩

/-- what a slice of a value is, by values: the slice object stands at sl -/
def SlR (X : Cx) (r : V → Option Int → Option Int → Hp → VK → Prop) : Prop :=
  ∀ (pins : List (Addr × Obj)) (s : Shared) (σ : St) (H : Hp) (x : V) (v vl vu : Value) (lo hi : Option Int) (sl : Addr) (Q : VK), Inv X pins σ H s → RelV x v → s.heap.IsSliceOf sl vl vu .none → IsPart vl lo → IsPart vu hi → r x lo hi H Q →
    ∃ T id, typeLookup (.type T) "__getitem__" = pure (some (.builtin id)) ∧ s.TypeIs v T ∧ wpAny (model X.prog X.w) X.A (getItem v (.ref sl)) (EP X pins σ Q) X.xe s
theorem SlR.or {r r' : V → Option Int → Option Int → Hp → VK → Prop} (h : SlR X r) (h' : SlR X r') : SlR X (fun x lo hi H Q => r x lo hi H Q ∨ r' x lo hi H Q) := by
  intro pins s σ H x v vl vu lo hi sl Q I rx hs pl pu q
  rcases q with q | q
  · exact h pins s σ H x v vl vu lo hi sl Q I rx hs pl pu q
  · exact h' pins s σ H x v vl vu lo hi sl Q I rx hs pl pu q
def tSl (r : V → Option Int → Option Int → Hp → VK → Prop) (te : TE) (tl th : TO) : TE := fun σ H Q => te σ H fun x H1 => tl σ H1 fun l H2 => th σ H2 fun u H3 => r x l u H3 Q
/-- a[lo:hi], any a -/
theorem pe_slice {r : V → Option Int → Option Int → Hp → VK → Prop} (hr : SlR X r) (he : PE X e te) (hl : PO X lo tl) (hu : PO X hi th) : PE X (.Subscript e (.Slice lo hi none p2) pos) (tSl r te tl th) := by
  intro pins s σ H Q I h
  refine Subscript_ (thn (he pins s σ H _ I h) fun v s1 ⟨x, H1, I1, r1, q1⟩ => ?_)
  refine wpAny_Slice (thn (hl pins s1 σ H1 _ I1 q1) fun vl s2 ⟨l, H2, I2, pl, q2⟩ => thn (hu pins s2 σ H2 _ I2 q2) fun vu s3 ⟨u, H3, I3, pu, q3⟩ => ?_)
  rw [evalPart_none]
  refine wpAny_pure ?_
  have I4 : Inv X pins σ H3 { s3 with heap := s3.heap.push { cls := .type "slice", data := .fields #[vl, vu, .none] } } := I3.kept (t' := s3.toks) fun b ob q => Heap.get?_push_of_some _ q
  obtain ⟨T, id, hT, ht, hg⟩ := hr pins { s3 with heap := s3.heap.push { cls := .type "slice", data := .fields #[vl, vu, .none] } } σ H3 x v vl vu l u s3.heap.objs.size Q I4 r1 (Heap.IsSliceOf.new ..) pl pu q3
  show wpAny (model X.prog X.w) X.A (subscriptTail e (.Slice lo hi none p2) v (.ref s3.heap.objs.size)) (EP X pins σ Q) X.xe { s3 with heap := s3.heap.push { cls := .type "slice", data := .fields #[vl, vu, .none] } }
  exact tail_any (ops := [.ref s3.heap.objs.size, v]) ht hT hg (by with_unfolding_all rfl)

/-- the items of xs[lo:hi] -/
def cutV (xs : List V) (lo hi : Option Int) : List V := (xs.drop (HT.sIx xs.length 0 lo)).take (HT.sIx xs.length xs.length hi - HT.sIx xs.length 0 lo)
theorem cutV_length (xs : List V) (lo hi : Option Int) : (cutV xs lo hi).length ≤ xs.length := by
  unfold cutV
  rw [List.length_take, List.length_drop]
  omega
end
end L2

namespace L2
open PySem PySem.Spec PyProof.Rows


/-- the place that an index of any sign means -/
def ixN (n : Nat) (i : Int) : Option Nat := if 0 ≤ i then (if i < n then some i.toNat else none) else if -(n : Int) ≤ i then some (i + n).toNat else none
def atI {α : Type} (xs : List α) (i : Int) : Option α := (ixN xs.length i).bind fun j => xs[j]?
theorem ixN_seq {n : Nat} {i : Int} {j : Nat} (h : ixN n i = some j) : seqIndex? i n = some j ∧ j < n ∧ -(n : Int) ≤ i ∧ i < n := by
  unfold ixN at h
  by_cases h0 : 0 ≤ i
  · rw [if_pos h0] at h
    by_cases h1 : i < n
    · rw [if_pos h1] at h
      have e : i.toNat = j := Option.some.inj h
      exact ⟨by rw [seqIndex_of h0 h1, e], by omega, by omega, h1⟩
    · rw [if_neg h1] at h; cases h
  · rw [if_neg h0] at h
    by_cases h1 : -(n : Int) ≤ i
    · rw [if_pos h1] at h
      have e : (i + n).toNat = j := Option.some.inj h
      exact ⟨by rw [seqIndex_neg (by omega) h1, e], by omega, h1, by omega⟩
    · rw [if_neg h1] at h; cases h
theorem atI_get {α : Type} {xs : List α} {i : Int} {v : α} (h : atI xs i = some v) : ∃ j, seqIndex? i xs.length = some j ∧ xs[j]? = some v ∧ j < xs.length ∧ -(xs.length : Int) ≤ i ∧ i < xs.length := by
  unfold atI at h
  cases e : ixN xs.length i with
  | none => rw [e] at h; cases h
  | some j =>
    rw [e] at h
    obtain ⟨h1, h2, h3, h4⟩ := ixN_seq e
    exact ⟨j, h1, h, h2, h3, h4⟩
theorem atI_nat {α : Type} {xs : List α} {j : Nat} {v : α} (h : xs[j]? = some v) : atI xs (j : Int) = some v := by
  have hj : j < xs.length := (List.getElem?_eq_some_iff.mp h).1
  have e : ixN xs.length (j : Int) = some j := by
    unfold ixN
    rw [if_pos (by omega), if_pos (by omega)]; simp
  unfold atI; rw [e]; exact h
/-- what stands as an index of a plain subscript -/
def PlainIx (b : Expr) : Prop := ∀ o i, subscripted b false o i = operate [o, i] (getItem o i)
/-- a subscript by values -/
def IxR (X : Cx) (r : R2) : Prop :=
  ∀ (value slice : Expr) (pins : List (Addr × Obj)) (s : Shared) (σ : St) (H : Hp) (x y : V) (v u : Value) (Q : VK), Inv X pins σ H s → RelV x v → RelV y u → r x y H Q →
    subscripted slice false v u = operate [v, u] (getItem v u) → wpAny (model X.prog X.w) X.A (subscriptTail value slice v u) (EP X pins σ Q) X.xe s
/-- a call of a builtin's method by values: the receiver, the arguments -/
def MtR (X : Cx) (id : String) (r : V → List V → Hp → VK → Prop) : Prop :=
  ∀ (pins : List (Addr × Obj)) (s : Shared) (σ : St) (H : Hp) (x : V) (xs : List V) (v : Value) (us : List Value) (Q : VK), Inv X pins σ H s → RelV x v → Vals xs us → r x xs H Q →
    wpAny (model X.prog X.w) X.A (call (.builtin id) (v :: us)) (EP X pins σ Q) X.xe s
section
variable {X : Cx} {a b : Expr} {ta tb : TE} {pos : Pos}
theorem IxR.or {r r' : R2} (h : IxR X r) (h' : IxR X r') : IxR X (fun x y H Q => r x y H Q ∨ r' x y H Q) := by
  intro value slice pins s σ H x y v u Q I rx ry q hs
  rcases q with q | q
  · exact h value slice pins s σ H x y v u Q I rx ry q hs
  · exact h' value slice pins s σ H x y v u Q I rx ry q hs
theorem MtR.or {id : String} {r r' : V → List V → Hp → VK → Prop} (h : MtR X id r) (h' : MtR X id r') : MtR X id (fun x xs H Q => r x xs H Q ∨ r' x xs H Q) := by
  intro pins s σ H x xs v us Q I rx rs q
  rcases q with q | q
  · exact h pins s σ H x xs v us Q I rx rs q
  · exact h' pins s σ H x xs v us Q I rx rs q
/-- a[b] -/
theorem pe_ix {r : R2} (hr : IxR X r) (ha : PE X a ta) (hb : PE X b tb) (hs : PlainIx b) : PE X (.Subscript a b pos) (tOp r ta tb) := by
  intro pins s σ H Q I h
  exact Subscript_ (binT ha hb I h fun v u s2 x y H2 I2 rx ry q => hr a b pins s2 σ H2 x y v u Q I2 rx ry q (hs _ _))

def rIxL (K : PySem.W.Frag) : R2 := fun x y H Q => ∃ p xs i v, x = .ref p ∧ y = .int i ∧ SqL K H p xs ∧ atI xs i = some v ∧ Q v H
def rIxT (K : PySem.W.Frag) : R2 := fun x y H Q => ∃ p xs i v, x = .ref p ∧ y = .int i ∧ SqT K H p xs ∧ atI xs i = some v ∧ Q v H
theorem ix_list : IxR X (rIxL X.K) := by
  intro value slice pins s σ H x y v u Q I rx ry h hs
  obtain ⟨p, xs, i, z, rfl, rfl, hq, he, q⟩ := h
  cases rx
  obtain ⟨t, rfl⟩ := ry
  obtain ⟨its, r, pl, hz⟩ := I.list hq
  obtain ⟨j, h1, h2, h3, h4, h5⟩ := atI_get he
  obtain ⟨w, ew, rw'⟩ := r.get h2
  have hl := r.length
  have hn := line63
  have fin : EP X pins σ Q w s := ⟨z, H, I, rw', q⟩
  by_cases h0 : 0 ≤ i
  · have hj : i.toNat = j := by
      rw [seqIndex_of h0 h5] at h1
      exact Option.some.inj h1
    exact item_listR pl.isList h0 (by omega) (by rw [hj]; simpa using ew) fin hs
  · have hj : (i + (its.toArray.size : Int)).toNat = j := by
      rw [seqIndex_neg (by omega) h4] at h1
      rw [List.size_toArray, ← hl]
      exact Option.some.inj h1
    exact subscriptTail_builtinR (x := w) pl.isList.typeIs slot_list_getitem.lookup
      (wpAny_getItem_list_neg (Q := fun r s' => r = w ∧ EP X pins σ Q r s') pl.isList (by omega) (by rw [List.size_toArray] <;> omega) (by omega) (by rw [hj]; simpa using ew) ⟨rfl, fin⟩) hs
theorem ix_tup : IxR X (rIxT X.K) := by
  intro value slice pins s σ H x y v u Q I rx ry h hs
  obtain ⟨p, xs, i, z, rfl, rfl, hq, he, q⟩ := h
  cases rx
  obtain ⟨t, rfl⟩ := ry
  obtain ⟨its, r, pl, hz⟩ := I.tuple hq
  obtain ⟨j, h1, h2, h3, h4, h5⟩ := atI_get he
  obtain ⟨w, ew, rw'⟩ := r.get h2
  have hl := r.length
  have hn := line63
  have fin : EP X pins σ Q w s := ⟨z, H, I, rw', q⟩
  exact subscriptTail_builtinR (x := w) pl.typeIs slot_tuple_getitem.lookup
    (getItem_tuple (j := j) (Q := fun r s' => r = w ∧ EP X pins σ Q r s') pl (by omega) (by omega) (by rw [List.size_toArray, ← hl]; exact h1) (by simpa using ew) ⟨rfl, fin⟩) hs
theorem Inv.lst {pins : List (Addr × Obj)} {σ : St} {H : Hp} {s : Shared} {p : Addr} {xs : List V} (I : Inv X pins σ H s) (h : H p = some (.lst xs)) :
    ∃ (its : List Value) (n : Nat), Vals xs its ∧ s.heap.get? p = some { cls := .type "list", data := .seq its.toArray n } ∧ xs.length ≤ sizeLine := by
  obtain ⟨z, its, n, r, e⟩ := I.hok p _ h
  exact ⟨its, n, r, e, z⟩
theorem slice_bounds (lo hi : Option Int) (n : Nat) : (sliceBounds lo hi none n).1 = ((HT.sIx n 0 lo : Nat) : Int) ∧ (sliceBounds lo hi none n).2.1 = ((HT.sIx n n hi : Nat) : Int) ∧ (sliceBounds lo hi none n).2.2 = 1 := by
  refine ⟨?_, ?_, rfl⟩
  · cases lo with
    | none => simp [sliceBounds, HT.sIx]
    | some i =>
      simp only [sliceBounds, HT.sIx, Option.getD_none, show (1 : Int) > 0 by decide, if_true]
      by_cases h : i < 0
      · simp only [h, if_true] <;> omega
      · simp only [h, if_false] <;> omega
  · cases hi with
    | none => simp [sliceBounds, HT.sIx]
    | some i =>
      simp only [sliceBounds, HT.sIx, Option.getD_none, show (1 : Int) > 0 by decide, if_true]
      by_cases h : i < 0
      · simp only [h, if_true] <;> omega
      · simp only [h, if_false] <;> omega
theorem slicePick_cut (its : List Value) (lo hi : Option Int) : slicePick its.toArray lo hi none = ((its.drop (HT.sIx its.length 0 lo)).take (HT.sIx its.length its.length hi - HT.sIx its.length 0 lo)).toArray := by
  obtain ⟨h1, h2, h3⟩ := slice_bounds lo hi its.toArray.size
  unfold slicePick
  rw [h1, h2, h3]
  simp only [sliceRange_one, pick_run, List.size_toArray] <;> rfl
/-- xs[lo:hi] of a list: a new list -/
def rSlL (K : PySem.W.Frag) : V → Option Int → Option Int → Hp → VK → Prop := fun x lo hi H Q => ∃ a xs, x = .ref a ∧ SqL K H a xs ∧ ∀ p, H p = none → Q (.ref p) (upd H p (.lst (cutV xs lo hi)))
theorem sl_list : SlR X (rSlL X.K) := by
  intro pins s σ H x v vl vu lo hi sl Q I rx hs pl pu h
  obtain ⟨a, xs, rfl, hx, q⟩ := h
  cases rx
  obtain ⟨its, r, ht, hz⟩ := I.list hx
  have hlen := r.length
  refine ⟨"list", _, slot_list_getitem.lookup, ht.isList.typeIs, ?_⟩
  refine wpAny_getItem_list_slice ht.isList hs pl pu .none (by simp) ?_ (by rw [List.size_toArray] <;> omega)
  rw [slicePick_cut, ← hlen]
  refine ⟨.ref s.heap.objs.size, _, I.laid (t' := s.toks) (o := .lst (cutV xs lo hi)) (fun b ob q => Heap.get?_push_of_some _ q) (Nat.le_refl _) ?_, rfl, q _ (I.hok.fresh (Nat.le_refl _))⟩
  exact ⟨Nat.le_trans (cutV_length xs lo hi) hz, _, 0, (r.drop (HT.sIx xs.length 0 lo)).take (HT.sIx xs.length xs.length hi - HT.sIx xs.length 0 lo), Heap.get?_push_size _ rfl⟩


def flatV : V → Bool
  | .non => true
  | .bl _ => true
  | .int _ => true
  | .str _ => true
  | _ => false
/-- == of flat values -/
def eqV : V → V → Bool
  | .non, .non => true
  | .bl a, .bl b => a == b
  | .bl a, .int b => (if a then 1 else 0) == b
  | .int a, .bl b => a == (if b then 1 else 0)
  | .int a, .int b => a == b
  | .str a, .str b => a == b
  | _, _ => false
theorem eqAt_V {A : Around} {s : Shared} {y x : V} {u v : Value} (ry : RelV y u) (rx : RelV x v) (fy : flatV y = true) (fx : flatV x = true) : SeqAt.EqAt A s u v (eqV y x) := by
  cases y with
  | non =>
    cases ry
    cases x with
    | non => cases rx; exact SeqAt.EqAt.same _
    | bl b => cases rx; exact SeqAt.EqAt.none_bool b
    | int b => obtain ⟨t, rfl⟩ := rx; exact SeqAt.EqAt.none_int b t
    | str b => obtain ⟨t, rfl⟩ := rx; exact SeqAt.EqAt.none_str b t
    | _ => exact absurd (show false = true from fx) Bool.false_ne_true
  | bl a =>
    cases ry
    cases x with
    | non => cases rx; exact SeqAt.EqAt.bool_none a
    | bl b => cases rx; exact SeqAt.EqAt.bool_bool a b
    | int b => obtain ⟨t, rfl⟩ := rx; exact SeqAt.EqAt.bool_int a b t
    | str b => obtain ⟨t, rfl⟩ := rx; exact SeqAt.EqAt.bool_str a b t
    | _ => exact absurd (show false = true from fx) Bool.false_ne_true
  | int a =>
    obtain ⟨t', rfl⟩ := ry
    cases x with
    | non => cases rx; exact SeqAt.EqAt.int_none a t'
    | bl b => cases rx; exact SeqAt.EqAt.int_bool a t' b
    | int b => obtain ⟨t, rfl⟩ := rx; exact SeqAt.EqAt.int_int a t' b t
    | str b => obtain ⟨t, rfl⟩ := rx; exact SeqAt.EqAt.int_str a t' b t
    | _ => exact absurd (show false = true from fx) Bool.false_ne_true
  | str a =>
    obtain ⟨t', rfl⟩ := ry
    cases x with
    | non => cases rx; exact SeqAt.EqAt.str_none a t'
    | bl b => cases rx; exact SeqAt.EqAt.str_bool a t' b
    | int b => obtain ⟨t, rfl⟩ := rx; exact SeqAt.EqAt.str_int a t' b t
    | str b => obtain ⟨t, rfl⟩ := rx; exact SeqAt.EqAt.str_str a t' b t
    | _ => exact absurd (show false = true from fx) Bool.false_ne_true
  | _ => exact absurd (show false = true from fy) Bool.false_ne_true
/-- the items' answers, read off the values (a value's own answer does not lean on its token) -/
def eqU (x : V) (u : Value) : Bool := match u with
  | .none => eqV .non x
  | .bool b => eqV (.bl b) x
  | .int i _ => eqV (.int i) x
  | .str z _ => eqV (.str z) x
  | _ => false
theorem eqU_of {x y : V} {u : Value} (r : RelV y u) (f : flatV y = true) : eqU x u = eqV y x := by
  cases y with
  | non => cases r; rfl
  | bl b => cases r; rfl
  | int i => obtain ⟨t, rfl⟩ := r; rfl
  | str z => obtain ⟨t, rfl⟩ := r; rfl
  | _ => exact absurd (show false = true from f) Bool.false_ne_true
theorem any_eqU {x : V} : ∀ {xs : List V} {us : List Value}, Vals xs us → xs.all flatV = true → us.any (eqU x) = xs.any fun y => eqV y x
  | _, _, .nil, _ => rfl
  | y :: xs, u :: us, .cons r t, f => by
    rw [List.all_cons, Bool.and_eq_true] at f
    rw [List.any_cons, List.any_cons, eqU_of r f.1, any_eqU t f.2]
theorem mem_eqAt {A : Around} {s : Shared} {x : V} {v : Value} (rx : RelV x v) (fx : flatV x = true) : ∀ {xs : List V} {us : List Value}, Vals xs us → xs.all flatV = true → ∀ u ∈ us, SeqAt.EqAt A s u v (eqU x u)
  | _, _, .nil, _ => fun u hu => by cases hu
  | y :: xs, u :: us, .cons r t, f => fun u' hu => by
    rw [List.all_cons, Bool.and_eq_true] at f
    rcases List.mem_cons.mp hu with rfl | hu
    · rw [eqU_of r f.1]; exact eqAt_V r rx f.1 fx
    · exact mem_eqAt rx fx t f.2 u' hu
def inV (x : V) (xs : List V) : Bool := xs.any fun y => eqV y x
/-- x in a list or tuple of flat items -/
def rIn (K : PySem.W.Frag) (neg : Bool) : R2 := fun x y H Q => ∃ p xs, y = .ref p ∧ (SqL K H p xs ∨ SqT K H p xs) ∧ flatV x = true ∧ xs.all flatV = true ∧ Q (.bl (if neg then !inV x xs else inV x xs)) H
theorem op_in_seq : OpR X (compareOp .In) (rIn X.K false) := by
  intro pins s σ H x y v u Q I rx ry h
  obtain ⟨p, xs, rfl, hq, fx, fs, q⟩ := h
  cases ry
  rcases hq with hq | hq
  · obtain ⟨its, r, pl, hz⟩ := I.list hq
    refine SeqAt.in_listAt (eqU x) pl.isList (fun w hw => mem_eqAt rx fx r fs w (by simpa using hw)) ⟨.bl _, H, I, rfl, ?_⟩
    rw [show its.toArray.any (eqU x) = its.any (eqU x) by simp, any_eqU r fs]
    exact q
  · obtain ⟨its, r, pl, hz⟩ := I.tuple hq
    refine SeqAt.in_tupleAt (eqU x) pl (fun w hw => mem_eqAt rx fx r fs w (by simpa using hw)) ⟨.bl _, H, I, rfl, ?_⟩
    rw [show its.toArray.any (eqU x) = its.any (eqU x) by simp, any_eqU r fs]
    exact q
theorem op_notIn_seq : OpR X (compareOp .NotIn) (rIn X.K true) := by
  intro pins s σ H x y v u Q I rx ry h
  obtain ⟨p, xs, rfl, hq, fx, fs, q⟩ := h
  cases ry
  rcases hq with hq | hq
  · obtain ⟨its, r, pl, hz⟩ := I.list hq
    refine SeqAt.notIn_listAt (eqU x) pl.isList (fun w hw => mem_eqAt rx fx r fs w (by simpa using hw)) ⟨.bl _, H, I, rfl, ?_⟩
    rw [show its.toArray.any (eqU x) = its.any (eqU x) by simp, any_eqU r fs]
    exact q
  · obtain ⟨its, r, pl, hz⟩ := I.tuple hq
    refine SeqAt.notIn_tupleAt (eqU x) pl (fun w hw => mem_eqAt rx fx r fs w (by simpa using hw)) ⟨.bl _, H, I, rfl, ?_⟩
    rw [show its.toArray.any (eqU x) = its.any (eqU x) by simp, any_eqU r fs]
    exact q
theorem call_len_seq : CallR X (.builtin "len") (fun xs H Q => ∃ p ys, xs = [.ref p] ∧ (SqL X.K H p ys ∨ SqT X.K H p ys) ∧ Q (.int ys.length) H) := by
  intro pins s σ H xs us Q I r h
  obtain ⟨p, ys, rfl, hq, q⟩ := h
  obtain ⟨u, rfl, rx⟩ := vals1 r
  cases rx
  have hn := line63
  rcases hq with hq | hq
  · obtain ⟨its, r', pl, hz⟩ := I.list hq
    have hlen := r'.length
    exact Calls.call_len_list pl.isList (by simp only [List.size_toArray] <;> omega) ⟨.int ys.length, H, I.tok _, ⟨s.toks + 1, by rw [List.size_toArray, hlen]⟩, q⟩
  · obtain ⟨its, r', pl, hz⟩ := I.tuple hq
    have hlen := r'.length
    exact len_tuple pl (by simp only [List.size_toArray] <;> omega) ⟨.int ys.length, H, I.tok _, ⟨s.toks + 1, by rw [List.size_toArray, hlen]⟩, q⟩
theorem CallR.or {f : Value} {r r' : List V → Hp → VK → Prop} (h : CallR X f r) (h' : CallR X f r') : CallR X f (fun xs H Q => r xs H Q ∨ r' xs H Q) := by
  intro pins s σ H xs us Q I rs q
  rcases q with q | q
  · exact h pins s σ H xs us Q I rs q
  · exact h' pins s σ H xs us Q I rs q
theorem call_list_of : CallR X (.type "list") (fun xs H Q => ∃ p ys, xs = [.ref p] ∧ (SqL X.K H p ys ∨ SqT X.K H p ys) ∧ ∀ l, H l = none → Q (.ref l) (upd H l (.lst ys))) := by
  intro pins s σ H xs us Q I r h
  obtain ⟨p, ys, rfl, hq, q⟩ := h
  obtain ⟨u, rfl, rx⟩ := vals1 r
  cases rx
  have fin : ∀ (its : List Value), Vals ys its → ys.length ≤ sizeLine → ∀ (h' : Heap) (c' : Nat), (∀ b o', s.heap.get? b = some o' → h'.get? b = some o') →
      h'.get? s.heap.objs.size = some { cls := .type "list", dict := none, data := .seq its.toArray c', slots := #[] } → EP X pins σ Q (.ref s.heap.objs.size) { s with heap := h' } := fun its r' hz h' c' kp e =>
    ⟨.ref s.heap.objs.size, _, I.laid (t' := s.toks) kp (Nat.le_refl _) (show ObjOk X.prog X.w _ h' _ (.lst ys) from ⟨hz, its, c', r', e⟩), rfl, q _ (I.hok.fresh (Nat.le_refl _))⟩
  rcases hq with hq | hq
  · obtain ⟨its, r', pl, hz⟩ := I.list hq
    have hlen := r'.length
    obtain ⟨o, ho, hc, n, hd⟩ := pl.isList
    exact call_list_seq p (.inl rfl) ho hc hd (fun h' c' kp e => fin its r' hz h' c' kp e) (by simp only [List.size_toArray] <;> omega)
  · obtain ⟨its, r', pl, hz⟩ := I.tuple hq
    have hlen := r'.length
    obtain ⟨o, ho, hc, n, hd⟩ := pl
    exact call_list_seq p (.inr rfl) ho hc hd (fun h' c' kp e => fin its r' hz h' c' kp e) (by simp only [List.size_toArray] <;> omega)
/-- the value is of that builtin type -/
def tyV (K : PySem.W.Frag) (T : String) (x : V) (H : Hp) : Prop := match x with
  | .str _ => T = "str"
  | .int _ => T = "int"
  | .ref p => (T = "list" ∧ ∃ xs, SqL K H p xs) ∨ (T = "tuple" ∧ ∃ o, K.lookup p = some o ∧ o.cls = .type "tuple" ∧ o.dict = none) ∨
      (T = "dict" ∧ ((∃ kvs, H p = some (.dK kvs)) ∨ ∃ kvs, H p = some (.dT kvs))) ∨ (T = "set" ∧ ∃ S n, H p = some (.set S n))
  | _ => False
theorem tyV_is {pins : List (Addr × Obj)} {σ : St} {H : Hp} {s : Shared} {T : String} {x : V} {v : Value} (I : Inv X pins σ H s) (r : RelV x v) (ty : tyV X.K T x H) :
    s.TypeIs v T ∧ ∀ a, v = .ref a → ∃ ob, s.heap.get? a = some ob ∧ ob.dict = none := by
  cases x with
  | str z =>
    obtain ⟨t, rfl⟩ := r
    cases (show T = "str" from ty)
    exact ⟨typeIs_str s z t, fun _ e => nomatch e⟩
  | int i =>
    obtain ⟨t, rfl⟩ := r
    cases (show T = "int" from ty)
    exact ⟨typeIs_int s i t, fun _ e => nomatch e⟩
  | ref p =>
    cases r
    rcases ty with ⟨rfl, xs, hq⟩ | ⟨rfl, o, hk, hc, hd⟩ | ⟨rfl, hk⟩ | ⟨rfl, S, n, hk⟩
    · obtain ⟨its, _, pl, _⟩ := I.list hq
      refine ⟨pl.isList.typeIs, fun a e => ?_⟩
      cases e
      obtain ⟨o, n, e, c, hd, _⟩ := pl
      exact ⟨o, e, hd⟩
    · refine ⟨⟨o, I.kIn p o hk, hc⟩, fun a e => ?_⟩
      cases e
      exact ⟨o, I.kIn _ o hk, hd⟩
    · have z : ∃ o, s.heap.get? p = some o ∧ o.ExactDict := by
        rcases hk with ⟨kvs, hk⟩ | ⟨kvs, hk⟩
        · obtain ⟨_, _, _, _, o, _, _, e, ex, _⟩ := I.hok p _ hk
          exact ⟨o, e, ex⟩
        · obtain ⟨_, _, _, _, o, _, _, e, ex, _⟩ := I.hok p _ hk
          exact ⟨o, e, ex⟩
      obtain ⟨o, e, ex⟩ := z
      refine ⟨⟨o, e, ex.1⟩, fun a e2 => ?_⟩
      cases e2
      exact ⟨o, e, ex.2.1⟩
    · obtain ⟨o, _, _, _, e, ex, _⟩ := I.hok p _ hk
      refine ⟨⟨o, e, ex.1⟩, fun a e2 => ?_⟩
      cases e2
      exact ⟨o, e, ex.2.1⟩
  | _ => exact False.elim ty
def tBM0 (K : PySem.W.Frag) (T : String) (r : V → List V → Hp → VK → Prop) (to : TE) : TE := fun σ H Q => to σ H fun x H1 => tyV K T x H1 ∧ r x [] H1 Q
def tBM (K : PySem.W.Frag) (T : String) (r : V → List V → Hp → VK → Prop) (to : TE) (t : TA) : TE := fun σ H Q => to σ H fun x H1 => tyV K T x H1 ∧ t σ H1 fun xs H2 => r x xs H2 Q
variable {o e : Expr} {es : List Expr} {to : TE} {t : TA} {name : Str} {apos cpos : Pos} {T id : String} {r : V → List V → Hp → VK → Prop}
theorem pe_bm0 (pa : PlainAttrs T) (slot : Slot T name id) (hty : typeOf (.builtin id) = pure (.type "method_descriptor")) (hm : MtR X id r) (ho : PE X o to)
    (hbase : attributeBase o name X.env (eval o X.env) = eval o X.env := by rfl) (hline : (apos.endLine == cpos.line) = true := by rfl) : PE X (.Call (.Attribute o name apos) [] [] cpos) (tBM0 X.K T r to) := by
  intro pins s σ H Q I h
  refine wpAny_Call_method0_late hbase hline (thn (ho pins s σ H _ I h) fun v s1 ⟨x, H1, I1, r1, ty, q1⟩ => ?_)
  obtain ⟨h1, h2⟩ := tyV_is I1 r1 ty
  exact ⟨T, id, pa, slot, hty, h1, h2, Calls.callWith_builtin rfl (PySem.evalArgs_none (hm pins s1 σ H1 x [] v [] Q I1 r1 .nil q1))⟩
theorem pe_bm (pa : PlainAttrs T) (slot : Slot T name id) (hty : typeOf (.builtin id) = pure (.type "method_descriptor")) (hm : MtR X id r) (ho : PE X o to) (ha : PA X (e :: es) t)
    (hbase : attributeBase o name X.env (eval o X.env) = eval o X.env := by rfl)
    (hfew : ((backTo cpos (starEach (e :: es) X.env)).all (fun x => !x.1) && (backToKw cpos (keywordEach [] X.env)).all (fun x => x.1.isSome)
      && decide ((e :: es).length + ([] : List Keyword).length + (if ([] : List Keyword).isEmpty then 0 else 1) < 30)) = true := by rfl)
    (hline : (apos.endLine == cpos.line) = true := by rfl) (hs : starEach (e :: es) X.env = (false, eval e X.env) :: starEach es X.env := by rfl) (hplain : (backTo cpos (starEach es X.env)).any (·.1) = false := by rfl) :
    PE X (.Call (.Attribute o name apos) (e :: es) [] cpos) (tBM X.K T r to t) := by
  intro pins s σ H Q I h
  refine wpAny_Call_method_late hbase hfew hline rfl (thn (ho pins s σ H _ I h) fun v s1 ⟨x, H1, I1, r1, ty, q1⟩ => ?_)
  obtain ⟨h1, h2⟩ := tyV_is I1 r1 ty
  refine ⟨T, id, pa, slot, hty, h1, h2, ?_⟩
  have hA := ha cpos pins s1 σ H1 _ I1 q1
  rw [hs] at hA ⊢
  refine Calls.callWith_builtin (by show (false || (backTo cpos (starEach es X.env)).any (·.1)) = false; rw [hplain] <;> rfl) (Calls.evalArgs_plain ?_)
  exact thn hA fun us s2 ⟨vs, H2, I2, r2, q2⟩ => hm pins s2 σ H2 x vs v us Q I2 r1 r2 q2

end
end L2

namespace L2
open PySem PySem.Spec PyProof.Rows

def MtM (X : Cx) (id : String) (r : V → List V → Hp → VK → Prop) : Prop :=
  ∀ (pins : List (Addr × Obj)) (s : Shared) (σ : St) (H : Hp) (x : V) (xs : List V) (v : Value) (us : List Value) (Q : VK), Inv X pins σ H s → RelV x v → Vals xs us → r x xs H Q →
    wpAny (model X.prog X.w) X.A (call (.builtin id) (v :: us)) (EP X pins σ Q) X.xe s


theorem Vals.one : ∀ {x : V} {us : List Value}, Vals [x] us → ∃ u, us = [u] ∧ RelV x u
  | _, _, .cons r .nil => ⟨_, rfl, r⟩
theorem Vals.two : ∀ {x y : V} {us : List Value}, Vals [x, y] us → ∃ u v, us = [u, v] ∧ RelV x u ∧ RelV y v
  | _, _, _, .cons r (.cons q .nil) => ⟨_, _, rfl, r, q⟩
theorem Vals.zero : ∀ {us : List Value}, Vals [] us → us = []
  | _, .nil => rfl
theorem Vals.dropLast {xs : List V} {us : List Value} (h : Vals xs us) : Vals xs.dropLast us.dropLast := by
  induction h with
  | nil => exact .nil
  | cons r t ih =>
    cases t with
    | nil => exact .nil
    | cons q t' => exact .cons r ih
theorem Vals.eraseIdx : ∀ {xs : List V} {us : List Value} (i : Nat), Vals xs us → Vals (xs.eraseIdx i) (us.eraseIdx i)
  | _, _, _, .nil => .nil
  | _, _, 0, .cons _ t => t
  | _, _, i + 1, .cons r t => .cons r (Vals.eraseIdx i t)
theorem Vals.reverse {xs : List V} {us : List Value} (h : Vals xs us) : Vals xs.reverse us.reverse := by
  induction h with
  | nil => exact .nil
  | cons r t ih => rw [List.reverse_cons, List.reverse_cons]; exact Vals.append ih (.cons r .nil)
theorem Vals.rep {xs : List V} {us : List Value} (h : Vals xs us) : ∀ k : Nat, Vals (List.replicate k xs).flatten (List.replicate k us).flatten
  | 0 => .nil
  | k + 1 => by
    rw [List.replicate_succ, List.replicate_succ, List.flatten_cons, List.flatten_cons]
    exact Vals.append h (Vals.rep h k)
theorem erase_last {α : Type} (l : List α) : l.eraseIdx (l.length - 1) = l.dropLast := by
  induction l with
  | nil => rfl
  | cons a r ih =>
    cases r with
    | nil => rfl
    | cons b r =>
      have e : (a :: b :: r).length - 1 = ((b :: r).length - 1) + 1 := by
        have h1 : (a :: b :: r).length = r.length + 2 := rfl
        have h2 : (b :: r).length = r.length + 1 := rfl
        omega
      rw [e, List.eraseIdx_cons_succ, ih]
      all_goals rfl
theorem foldl_rep (its : List Value) : ∀ (k : Nat) (acc : List Value),
    List.foldl (fun x1 x2 => x1 ++ x2) acc.toArray (List.replicate k its.toArray) = (acc ++ (List.replicate k its).flatten).toArray
  | 0, acc => by simp
  | k + 1, acc => by
    have e : acc.toArray ++ its.toArray = (acc ++ its).toArray := by simp
    have e2 : (acc ++ its) ++ (List.replicate k its).flatten = acc ++ (List.replicate (k + 1) its).flatten := by
      rw [List.replicate_succ, List.flatten_cons, List.append_assoc]
    rw [← e2, ← foldl_rep its k (acc ++ its), ← e, List.replicate_succ, List.foldl_cons]

section
variable {X : Cx} {pins : List (Addr × Obj)} {σ : St} {H : Hp} {s : Shared} {l b : Addr} {xs ys zs : List V}


theorem Inv.lset {its its' : List Value} {n : Nat} {f : Array Value → Array Value} {t' : Nat} (I : Inv X pins σ H s) (hH : H l = some (.lst xs))
    (e : s.heap.get? l = some { cls := .type "list", data := .seq its.toArray n }) (hf : f its.toArray = its'.toArray) (hv : Vals ys its') (hz : ys.length ≤ sizeLine) :
    Inv X pins σ (upd H l (.lst ys)) { s with heap := s.heap.update l (Obj.mapSeq f), toks := t' } := by
  have q := PySem.IsL.update e f
  rw [hf] at q
  refine I.write (x := l) (e := l) (by rw [hH]; exact trivial) (.inl rfl) (fun b' u hb hu => (Heap.get?_update_other s.heap (Obj.mapSeq f) (Ne.symm hb)).trans hu) ⟨_, q⟩ ?_
  exact ⟨hz, its', _, hv, q⟩
theorem Inv.lnew {its : List Value} {t' : Nat} (I : Inv X pins σ H s) (hv : Vals ys its) (hz : ys.length ≤ sizeLine) :
    Inv X pins σ (upd H s.heap.objs.size (.lst ys)) { s with heap := s.heap.push { cls := .type "list", data := .seq its.toArray }, toks := t' } :=
  I.laid (fun _ _ q => Heap.get?_push_of_some _ q) (Nat.le_refl _) ⟨hz, its, 0, hv, Heap.get?_push_size _ rfl⟩
theorem Inv.fresh (I : Inv X pins σ H s) : H s.heap.objs.size = none := I.hok.fresh (Nat.le_refl _)
theorem Inv.lstM (I : Inv X pins σ H s) (hH : H l = some (.lst xs)) : xs.length ≤ sizeLine ∧ ∃ (its : List Value) (n : Nat), Vals xs its ∧ xs.length = its.length ∧ s.heap.get? l = some { cls := .type "list", data := .seq its.toArray n } := by
  obtain ⟨z, its, n, r, e⟩ := I.hok l _ hH
  exact ⟨z, its, n, r, r.length, e⟩

theorem notLongL {n : Nat} (h : n ≤ sizeLine) : Builtin.List.listTooLong n = false := by
  unfold Builtin.List.listTooLong
  exact decide_eq_false (by omega)
end

section
variable {X : Cx}


def rAppend : V → List V → Hp → VK → Prop := fun x vs H Q => ∃ l xs y, x = .ref l ∧ vs = [y] ∧ H l = some (.lst xs) ∧ xs.length < sizeLine ∧ Q .non (upd H l (.lst (xs ++ [y])))
theorem mt_append : MtM X "list.append" rAppend := by
  intro pins s σ H x vs v us Q I rx rv h
  obtain ⟨l, xs, y, rfl, rfl, hH, hz, q⟩ := h
  cases rx
  obtain ⟨u, rfl, ru⟩ := rv.one
  obtain ⟨z, its, n, r, hl, e⟩ := I.lstM hH
  refine call_meets F.slot_list_append ⟨_, e, rfl⟩ F.entry_list_append (F.args_list_append_2 _ _) (PySem.list_append l its.toArray n u (by rw [List.size_toArray]; omega)) ⟨e, ?_⟩
  refine ⟨.non, _, I.lset (its' := its ++ [u]) hH e (by simp) (r.append (.cons ru .nil)) ?_, rfl, q⟩
  rw [List.length_append, List.length_singleton]
  omega

def rExtend : V → List V → Hp → VK → Prop := fun x vs H Q => ∃ l b xs zs, x = .ref l ∧ vs = [.ref b] ∧ H l = some (.lst xs) ∧ H b = some (.lst zs) ∧ xs.length + zs.length ≤ sizeLine ∧ Q .non (upd H l (.lst (xs ++ zs)))
theorem mt_extend : MtM X "list.extend" rExtend := by
  intro pins s σ H x vs v us Q I rx rv h
  obtain ⟨l, b, xs, zs, rfl, rfl, hH, hB, hz, q⟩ := h
  cases rx
  obtain ⟨u, rfl, ru⟩ := rv.one
  cases ru
  obtain ⟨z, its, n, r, hl, e⟩ := I.lstM hH
  obtain ⟨z2, its2, n2, r2, hl2, e2⟩ := I.lstM hB
  have hsz : its.toArray.size + its2.toArray.size ≤ sizeLine := by rw [List.size_toArray, List.size_toArray]; omega
  have hlong : ¬ (!its.toArray.isEmpty && Builtin.List.listTooLong (its.toArray.size + its2.toArray.size)) = true := by
    rw [notLongL hsz, Bool.and_false]
    exact Bool.false_ne_true
  refine call_meets F.slot_list_extend ⟨_, e, rfl⟩ F.entry_list_extend (F.args_list_extend_2 _ _)
    (AutoSeq1.list_extend_list_list_0 l its.toArray n b its2.toArray n2 hlong (by rw [List.size_toArray]; omega) (by omega)) ⟨e, e2, ?_⟩
  refine ⟨.non, _, I.lset (its' := its ++ its2) hH e (by simp) (r.append r2) ?_, rfl, q⟩
  rw [List.length_append]
  omega

def rPop : V → List V → Hp → VK → Prop := fun x vs H Q => ∃ l xs y, x = .ref l ∧ vs = [] ∧ H l = some (.lst xs) ∧ xs[xs.length - 1]? = some y ∧ Q y (upd H l (.lst xs.dropLast))
theorem mt_pop : MtM X "list.pop" rPop := by
  intro pins s σ H x vs v us Q I rx rv h
  obtain ⟨l, xs, y, rfl, rfl, hH, hy, q⟩ := h
  cases rx
  have hus := rv.zero
  subst hus
  obtain ⟨z, its, n, r, hl, e⟩ := I.lstM hH
  obtain ⟨u, hu, ru⟩ := r.get hy
  have hy' : its.toArray[its.toArray.size - 1]? = some u := by
    show its.toArray[its.length - 1]? = some u
    rw [← Array.getElem?_toList, ← hl]
    exact hu
  refine call_meets F.slot_list_pop ⟨_, e, rfl⟩ F.entry_list_pop (F.args_list_pop_1 _) (MeetsSeq.list_pop_last l its.toArray n u hy' (by rw [List.size_toArray]; omega)) ⟨e, ?_⟩
  refine ⟨y, _, I.lset (its' := its.dropLast) hH e ?_ r.dropLast ?_, ru, q⟩
  · show its.toArray.eraseIdxIfInBounds (its.toArray.size - 1) = its.dropLast.toArray
    rw [List.size_toArray, List.eraseIdxIfInBounds_toArray, erase_last]
  · rw [List.length_dropLast]
    omega

def rReverse : V → List V → Hp → VK → Prop := fun x vs H Q => ∃ l xs, x = .ref l ∧ vs = [] ∧ H l = some (.lst xs) ∧ Q .non (upd H l (.lst xs.reverse))
theorem mt_reverse : MtM X "list.reverse" rReverse := by
  intro pins s σ H x vs v us Q I rx rv h
  obtain ⟨l, xs, rfl, rfl, hH, q⟩ := h
  cases rx
  have hus := rv.zero
  subst hus
  obtain ⟨z, its, n, r, hl, e⟩ := I.lstM hH
  refine call_meets F.slot_list_reverse ⟨_, e, rfl⟩ F.entry_list_reverse (F.args_list_reverse_1 _) (AutoSeq1.list_reverse_list_0 l its.toArray n (by rw [List.size_toArray]; omega)) ⟨e, ?_⟩
  refine ⟨.non, _, I.lset (its' := its.reverse) hH e (by simp) r.reverse ?_, rfl, q⟩
  rw [List.length_reverse]
  omega

def rClear : V → List V → Hp → VK → Prop := fun x vs H Q => ∃ l xs, x = .ref l ∧ vs = [] ∧ H l = some (.lst xs) ∧ Q .non (upd H l (.lst []))
theorem mt_clear : MtM X "list.clear" rClear := by
  intro pins s σ H x vs v us Q I rx rv h
  obtain ⟨l, xs, rfl, rfl, hH, q⟩ := h
  cases rx
  have hus := rv.zero
  subst hus
  obtain ⟨z, its, n, r, hl, e⟩ := I.lstM hH
  refine call_meets F.slot_list_clear ⟨_, e, rfl⟩ F.entry_list_clear (F.args_list_clear_1 _) (AutoSeq1.list_clear_list_0 l its.toArray n (by rw [List.size_toArray]; omega)) ⟨e, ?_⟩
  exact ⟨.non, _, I.lset (its' := []) (ys := []) hH e rfl .nil (Nat.zero_le _), rfl, q⟩


def rCat : R2 := fun x y H Q => ∃ l b xs zs, x = .ref l ∧ y = .ref b ∧ H l = some (.lst xs) ∧ H b = some (.lst zs) ∧ xs.length + zs.length ≤ sizeLine ∧ ∀ p, H p = none → Q (.ref p) (upd H p (.lst (xs ++ zs)))
theorem op_cat : OpR X (binaryOp .Add) rCat := by
  intro pins s σ H x y v u Q I rx ry h
  obtain ⟨l, b, xs, zs, rfl, rfl, hH, hB, hz, q⟩ := h
  cases rx
  cases ry
  obtain ⟨z, its, n, r, hl, e⟩ := I.lstM hH
  obtain ⟨z2, its2, n2, r2, hl2, e2⟩ := I.lstM hB
  refine PySem.P.add_list e e2 ?_ (by rw [List.size_toArray, List.size_toArray]; omega)
  have ea : its.toArray ++ its2.toArray = (its ++ its2).toArray := by simp
  rw [ea]
  exact ⟨.ref _, _, I.lnew (t' := s.toks) (r.append r2) (by rw [List.length_append]; omega), rfl, q _ I.fresh⟩
/-- a list times an int (a negative one is nothing) -/
def rRep : R2 := fun x y H Q => ∃ l k xs, x = .ref l ∧ y = .int k ∧ H l = some (.lst xs) ∧ -(2 ^ 63) ≤ k ∧ k < 2 ^ 63 ∧ xs.length * k.toNat ≤ sizeLine ∧
  ∀ p, H p = none → Q (.ref p) (upd H p (.lst (List.replicate k.toNat xs).flatten))
theorem len_rep {α : Type} (xs : List α) (k : Nat) : (List.replicate k xs).flatten.length = k * xs.length := by
  induction k with
  | zero => simp
  | succ k ih => rw [List.replicate_succ, List.flatten_cons, List.length_append, ih, Nat.succ_mul, Nat.add_comm]
theorem op_rep : OpR X (binaryOp .Mult) rRep := by
  intro pins s σ H x y v u Q I rx ry h
  obtain ⟨l, k, xs, rfl, rfl, hH, h1, h2, hz, q⟩ := h
  cases rx
  obtain ⟨t, rfl⟩ := ry
  obtain ⟨z, its, n, r, hl, e⟩ := I.lstM hH
  have hlen : its.toArray.size * k.toNat ≤ sizeLine := by rw [List.size_toArray, ← hl]; exact hz
  have hcap : ¬ its.toArray.size * k.toNat > (2 ^ 63 - 1) / 8 := by
    have : (sizeLine : Nat) ≤ (2 ^ 63 - 1) / 8 := by decide
    omega
  have hfit : ¬ (!Builtin.List.listFitsIndex k) = true := by
    rw [fitsIndex_both h1 h2]
    exact Bool.false_ne_true
  have hlong : ¬ Builtin.List.listTooLong (its.toArray.size * k.toNat) = true := by
    rw [notLongL hlen]
    exact Bool.false_ne_true
  have hnew : List.foldl (fun x1 x2 => x1 ++ x2) #[] (List.replicate (if its.toArray.isEmpty = true then 0 else k.toNat) its.toArray) = (List.replicate k.toNat its).flatten.toArray := by
    have f0 : ∀ m : Nat, List.foldl (fun x1 x2 => x1 ++ x2) #[] (List.replicate m its.toArray) = (List.replicate m its).flatten.toArray := fun m => by
      have := foldl_rep its m []
      rw [List.nil_append] at this
      exact this
    rw [f0]
    cases its with
    | nil => simp
    | cons a r' => rw [if_neg (by simp)]
  refine wpAny_binaryOp_repeat_ref (T := "list") (U := "int") (by decide) ⟨_, e, rfl⟩ (fun s' => typeIs_int s' k t) noFill_list_mul F.fills_int_mul F.slot_int_rmul repeat_list F.slot_int_index.lookup
    (call_meets F.slot_int_rmul (typeIs_int s k t) F.entry_int_rmul (F.args_int_rmul_2 _ _) (int___rmul___int_list k t l its.toArray n)
      ⟨e, rfl, ⟨_, e, rfl⟩, call_meets F.slot_list_mul ⟨_, e, rfl⟩ F.entry_list_mul (F.args_list_mul_2 _ _) (AutoListH.list___mul___list_int_3 l its.toArray n k t hfit hcap hlong) ⟨e, ?_⟩⟩)
  rw [hnew]
  exact ⟨.ref _, _, I.lnew (t' := s.toks) (r.rep k.toNat) (by rw [len_rep, Nat.mul_comm]; exact hz), rfl, q _ I.fresh⟩


end


section
variable {prog : Program} {w : World} {A : Around} {E : Value → Shared → Prop} {s : Shared}
set_option maxRecDepth 100000 in
end

section
variable {X : Cx}
end
end L2

namespace Att
open PySem PySem.W PySem.Calls PyProof.Rows


theorem ints_of_wellAll {P : Params} {h : Heap} : ∀ (ns : List Int) (vs : List Value), WellAll P h vs (ns.map WData.int) → IntsAre vs ns := by
  intro ns
  induction ns with
  | nil =>
    intro vs w
    rw [List.map_nil] at w
    cases w
    exact .nil
  | cons n ns ih =>
    intro vs w
    rw [List.map_cons] at w
    cases w with
    | cons a b =>
      cases a
      exact .cons _ _ (ih _ b)

theorem script_of {l : OpenLaw} {n : Nat} (hn : l.most = some n) {P : Params} {h : Heap} {args : List WData} {vals : List Value}
    (hpre : l.row.toRowW.claim.pre args = true) (hwl : WellAll P h vals args) :
    ∃ a vs ns, vals = [Value.ref a] ∧ args = [WData.list (ns.map WData.int)] ∧ h.get? a = some { cls := .type "list", data := .seq vs.toArray } ∧ IntsAre vs ns ∧ ns.length ≤ n := by
  have hsh : WShape.hasAll [] args [.list .int] = true := (pre_splitW hpre).1
  have hc : l.pre.holds [] { args := args } = true := (pre_splitW hpre).2
  obtain ⟨d, r, rfl, h1, h2⟩ := hasAllW_cons hsh
  obtain rfl := hasAllW_nil h2
  obtain ⟨xs, rfl, h3⟩ := hasW_list h1
  obtain ⟨ns, rfl⟩ := items_int h3
  have hlen : ns.length ≤ n := by
    unfold OpenLaw.pre at hc
    have h4 : (WTm.not (.lt (.lit (.int (n : Int))) (.len (.arg 0)))).holds [] { args := [.list (ns.map .int)] } = true := by
      have h4 := (holds_andW hc).1
      rw [hn] at h4
      exact h4
    have h5 := condW_of h4 (w_not (w_lt w_lit (w_len_list (w_arg rfl))))
    rw [List.length_map] at h5
    refine Nat.le_of_not_lt fun q => ?_
    have q' : (n : Int) < ((ns.length : Nat) : Int) := by omega
    first
      | (rw [decide_eq_true q'] at h5; exact absurd h5 (by decide))
      | (simp at h5; omega)
  cases hwl with
  | cons w1 w2 =>
    cases w2
    cases w1 with
    | list ho hall => exact ⟨_, _, ns, rfl, rfl, ho, ints_of_wellAll ns _ hall, hlen⟩

theorem post_true (l : OpenLaw) (args : List WData) : l.row.toRowW.claim.post args (.bool true) args = true :=
  postW_of (r := l.row.toRowW) (X := (true == true))
    (show WShape.has [] (.bool true) .bool = true by first | rfl | decide | simp [WShape.has, WShape.arms, WShape.armsAll])
    (show (WTm.eq .res (.lit (.bool true))).value [] { args := args, res := some (.bool true), after := args } = some (.bool (true == true)) from w_eq_bool (w_res rfl) w_lit) rfl


/-- the same from a codeAny of the CALL (for a layer whose function contracts speak of calls) -/
theorem attach_call {l : OpenLaw} {n : Nat} {q : Program} {loose : List Str} {XP : (Str → Option Value) → Heap → Prop} {YP : World → Heap → Prop} {d : DefRec}
    (hn : l.most = some n) (hdf : d.params.defaults = [])
    (call : ∀ (w : World) (s₀ s₁ : Shared) (mg mb : Str → Option Value) (fa : Addr) (o : Obj) (pm cd doc : Value) (a : Addr) (vs : List Value) (ns : List Int),
      Ground q loose [] XP w s₀ mg mb s₁.heap → YP w s₁.heap →
      s₁.heap.get? fa = some o → o.data = .func (docDef d.name d.params d.body d.scope pm cd doc) → s₁.heap.CodeRec cd d.name → mg d.name = some (.ref fa) →
      s₁.heap.get? a = some { cls := .type "list", data := .seq vs.toArray } → IntsAre vs ns → ns.length ≤ n → s₁.gens = #[] →
      codeAny (model l.prog w) callerA (.call (.ref fa) ⟨[.ref a], []⟩) (fun r s' => r = .ok (.ret (.bool true)) ∧ OldK s₁.heap s'.heap ∧ s'.os = s₁.os ∧ AllBare s'.gens) s₁) :
    WalkO q loose XP YP l.row.toRowW d [] (fun f vs => PySem.call f vs) := by
  intro w s₀ s₁ mg mb G Y fa o pm cd doc dV kV ho hd hcd hD hmg hg args vals as hpre hlay hrd hwl hlo
  obtain rfl : dV = .none := Dflts.none hD hdf
  obtain rfl : kV = .none := Dflts.noKw hD
  obtain ⟨a, vs, ns, rfl, rfl, hobj, hints, hlen⟩ := script_of hn hpre hwl
  refine enter_call (codeAny_mono (call w s₀ s₁ mg mb fa o pm cd doc a vs ns G Y ho (fd_plain hd) hcd hmg hobj hints hlen hg) fun r s' hq => ?_)
  obtain ⟨rfl, h2, h3, h4⟩ := hq
  exact ⟨.inl ⟨.bool true, .bool true, [], rfl, fun _ => rfl, .bool true, post_true l _, fun _ => ⟨List.Pairwise.nil, fun _ hm => (nomatch hm)⟩⟩, h2, h3, h4⟩

section
variable {prog : Program} {w : World} {A : Around} {E : Value → Shared → Prop} {s : Shared} {K : Frag}

end
end Att

namespace L2
open PySem PySem.Spec PyProof.Rows

theorem vals_ints : ∀ {vs : List Value} {ns : List Int}, IntsAre vs ns → Vals (ns.map V.int) vs
  | _, _, .nil => .nil
  | _, _, .cons n t h => .cons ⟨t, rfl⟩ (vals_ints h)

/-- nothing is tracked but the script, known to the object (or it is an object of the module) -/
def Only (H : Hp) : Prop := ∀ b, H b = none ∨ ∃ o xs, H b = some (.frz o (.lst xs))

/-- THE HEAD: the law's promise, at the heap behind the top. F, the promise of the law's def, may use that base is part of the heap (so K.In base, base.Ns mainGlobals mg stand in Mod) -/
theorem law_call {P : Program} {w : World} {K : PySem.W.Frag} {mg mb : Str → Option Value} {CX : CXT} {k : Nat} {fa a : Addr} {fd : FuncData} {x : Str} {sp : Sp} {s₁ : Shared} {vs : List Value} {ns : List Int}
    (KX : K.In s₁.heap) (hns : s₁.heap.Ns mainGlobals mg) (hb : s₁.heap.Ns builtinsNs mb) (hbb : ∀ x : Str, x ≠ "__name__" → mb x = bootBuiltins x) (hlim : s₁.heap.NoLimit) (hg : s₁.gens = #[])
    (ha : s₁.heap.get? a = some { cls := .type "list", data := .seq vs.toArray }) (hi : IntsAre vs ns) (hl : ns.length ≤ sizeLine) (hr : Room k callerA)
    (F : ∀ base : Heap, K.In base → base.Ns mainGlobals mg → FnOk P w K mg base CX k fa fd [x] sp) (hbind : ∀ (s : Shared) (u : Value), BindsTo s fd ⟨[u], []⟩ [(x, u)])
    (hsp : ∀ H : Hp, Only H → SqL K H a (ns.map V.int) → sp [.ref a] H (fun v _ => v = .bl true) fun _ _ _ => False)
    (hCX : ∀ H e s', CX [] H s₁ (fun _ _ _ => False) e s' → False) :
    codeAny (model P w) callerA (.call (.ref fa) ⟨[.ref a], []⟩) (fun r s' => r = .ok (.ret (.bool true)) ∧ OldK s₁.heap s'.heap ∧ s'.os = s₁.os ∧ AllBare s'.gens) s₁ := by
  have rv := vals_ints hi
  have lenV := hi.length
  -- from an abstract heap in which nothing but the script may be tracked
  have core : ∀ H : Hp, Only H → SqL K H a (ns.map V.int) → HOk P w H s₁.heap → (∀ b, H b ≠ none → b = a) → (H a ≠ none → K.lookup a = none) →
      codeAny (model P w) callerA (.call (.ref fa) ⟨[.ref a], []⟩) (fun r s' => r = .ok (.ret (.bool true)) ∧ OldK s₁.heap s'.heap ∧ s'.os = s₁.os ∧ AllBare s'.gens) s₁ := by
    intro H hO hS hok hA hK
    have base_of : ∀ {b : Addr} {o : Obj}, s₁.heap.get? b = some o → H b = none → (hidT s₁.heap H).get? b = some o := fun e n => hidT_get e n
    have noA : ∀ {b : Addr} {o : Obj} {es : Array DictEntry} {ep : Nat}, s₁.heap.get? b = some o → o.data = .dict es ep → H b = none := fun {b o es ep} e d => by
      cases q : H b with
      | none => rfl
      | some u =>
        have e' : b = a := hA b (by rw [q]; simp)
        subst e'
        rw [ha] at e; cases e
        have d' : Data.seq vs.toArray _ = Data.dict es ep := d
        cases d'
    have nsK : ∀ {b : Addr} {m : Str → Option Value}, s₁.heap.Ns b m → (hidT s₁.heap H).Ns b m := fun {b m} ⟨o, es, ep, e, d, r⟩ => ⟨o, es, ep, base_of e (noA e d), d, r⟩
    have hKb : K.In (hidT s₁.heap H) := fun b o e => base_of (KX b o e) (by
      cases q : H b with
      | none => rfl
      | some u =>
        have e' : b = a := hA b (by rw [q]; simp)
        subst e'
        rw [hK (by rw [q]; simp)] at e; cases e)
    have hM : Mod K mg (hidT s₁.heap H) := ⟨hKb, nsK hns, ⟨mb, nsK hb, hbb⟩, let ⟨mc, h1, h2⟩ := hlim; ⟨mc, nsK h1, h2⟩⟩
    have e0 : Env0 P w K mg (hidT s₁.heap H) callerA [] s₁ H := ⟨rfl, hM, fun b o e => of_hidT e, Nat.le_of_eq (hidT_size _ _), trivial, fun b hb => absurd (show b ∈ ([] : List Addr) from hb) (by simp), hok, .of_eq hg⟩
    refine codeAny_mono ((F _ hKb (nsK hns)).run callerA [] s₁ H ⟨[.ref a], []⟩ [.ref a] [.ref a] _ _ hr e0 (hbind s₁ (.ref a)) (.cons rfl .nil) (hsp H hO hS)) fun r s' h => ?_
    cases r with
    | error e => exact (hCX H e s' h).elim
    | ok fl =>
      cases fl with
      | next => exact False.elim h
      | brk => exact False.elim h
      | cont => exact False.elim h
      | ret u =>
        obtain ⟨v, H', os, bare, un, hok', r', q⟩ := h
        have q' : v = .bl true := q
        subst q'
        obtain rfl : u = Value.bool true := r'
        refine ⟨rfl, OldK.of_keep fun b o e => ?_, os, bare⟩
        cases q : H b with
        | none => exact un.keep b o e q (by intro z; exact absurd (show b ∈ ([] : List Addr) from z) (by simp)) (by simp)
        | some u =>
          rcases hO b with z | ⟨ob, xs, z⟩
          · rw [q] at z; cases z
          · have z2 := un.frzs b ob _ z
            obtain ⟨e1, _⟩ := hok b _ z
            obtain ⟨e2, _⟩ := hok' b _ z2
            rw [e] at e1; cases e1
            exact e2
  cases hk : K.lookup a with
  | some o =>
    -- the script is one of the module's own objects
    have e := KX a o hk
    rw [ha] at e
    cases e
    refine core (fun _ => none) (fun _ => .inl rfl) (.inr ⟨_, vs.toArray, _, hk, rfl, rfl, rfl, by rw [List.size_toArray, lenV]; exact hl, by simpa using rv⟩) (fun b u z => by have z' : (none : Option HO) = some u := z; cases z') (fun b z => absurd rfl z) fun z => absurd rfl z
  | none =>
    refine core (fun b => if b = a then some (.frz { cls := .type "list", data := .seq vs.toArray } (.lst (ns.map V.int))) else none) (fun b => ?_) (.inl (.inr ⟨{ cls := .type "list", data := .seq vs.toArray }, if_pos rfl⟩)) (fun b u z => ?_) (fun b z => ?_) fun _ => hk
    · by_cases hb : b = a
      · exact .inr ⟨_, _, if_pos hb⟩
      · exact .inl (if_neg hb)
    · by_cases hb : b = a
      · have z' := (if_pos hb).symm.trans z
        cases z'
        subst hb
        exact ⟨ha, by rw [List.length_map]; exact hl, vs, _, rv, ha⟩
      · have z' := (if_neg hb).symm.trans z
        cases z'
    · by_cases hb : b = a
      · exact hb
      · exact absurd (if_neg hb) z
end L2

namespace L2
open PySem PySem.Spec PyProof.Rows

/-- the goal that k_head leaves (case hc), from the law's promise. F gives the function object fd (K's own) once, then the promise over every base -/
theorem walk_of {l : PySem.W.OpenLaw} {n k : Nat} {q : Program} {loose : List Str} {XP : (Str → Option Value) → Heap → Prop} {YP : World → Heap → Prop} {d : DefRec} {K : Params → PySem.W.Frag} {CX : World → CXT} {sp : World → Sp} {x : Str}
    (hn : l.most = some n) (hn2 : n ≤ sizeLine) (hdf : d.params.defaults = []) (hr : Room k callerA)
    (hY : ∀ (w : World) (h : Heap), YP w h → (K w.params).In h)
    (F : ∀ (w : World) (mg : Str → Option Value) (fa : Addr) (h : Heap), (K w.params).In h → h.Ns mainGlobals mg → mg d.name = some (.ref fa) →
      ∃ fd : FuncData, (∀ (s : Shared) (u : Value), BindsTo s fd ⟨[u], []⟩ [(x, u)]) ∧
        ∀ base : Heap, (K w.params).In base → base.Ns mainGlobals mg → FnOk l.prog w (K w.params) mg base (CX w) k fa fd [x] (sp w))
    (hsp : ∀ (w : World) (H : Hp) (a : Addr) (ns : List Int), ns.length ≤ n → Only H → SqL (K w.params) H a (ns.map V.int) → sp w [.ref a] H (fun v _ => v = .bl true) fun _ _ _ => False)
    (hCX : ∀ (w : World) (H : Hp) (s : Shared) (e : Value) (s' : Shared), CX w [] H s (fun _ _ _ => False) e s' → False) :
    PySem.W.WalkO q loose XP YP l.row.toRowW d [] (fun f vs => PySem.call f vs) := by
  refine Att.attach_call hn hdf fun w s₀ s₁ mg mb fa o pm cd doc a vs ns G Y ho hd hcd hmg hobj hints hlen hg => ?_
  have KX := hY w _ Y
  obtain ⟨fd, hb, hF⟩ := F w mg fa _ KX G.T.g hmg
  exact law_call KX G.T.g G.T.b G.T.builtins G.T.nolimit hg hobj hints (Nat.le_trans hlen hn2) hr hF hb (fun H hO hS => hsp w H a ns hlen hO hS) fun H e s' => hCX w H s₁ e s'
end L2




namespace L2
open PySem PySem.Spec PyProof.Rows


/-- the j-th statement of a class's body -/
def inClass (s : Stmt) (j : Nat) : Stmt := match s with
  | .ClassDef _ _ _ body _ _ _ _ _ _ _ => body.getD j (.Pass ⟨0, 0, 0, 0⟩)
  | _ => .Pass ⟨0, 0, 0, 0⟩
def defArgs (s : Stmt) : Arguments := match s with
  | .FunctionDef _ a _ _ _ _ _ _ _ _ => a
  | _ => { posonlyargs := [], args := [], vararg := none, kwonlyargs := [], kw_defaults := [], kwarg := none, defaults := [] }
def defBody (s : Stmt) : List Stmt := match s with
  | .FunctionDef _ _ b _ _ _ _ _ _ _ => b
  | _ => []
def defScope (s : Stmt) : Scope := match s with
  | .FunctionDef _ _ _ _ _ _ sc _ _ _ => sc
  | _ => { kind := .function, names := [], isGenerator := false, isCoroutine := false }


abbrev CX0 : CXT := fun _ _ _ _ _ _ => False
abbrev E0 : XK := fun _ _ _ => False
theorem pass0 {X : Cx} : Passes CX0 X E0 := fun _ _ _ _ _ _ _ h => h.elim


structure Fun (K : PySem.W.Frag) (x qual : Str) (st : Stmt) (f : Addr) (fd : FuncData) : Prop where
  ex : ∃ (oc : Value) (od : Option Addr) (kV doc pm : Value) (an : Option Addr) (cdv ct : Value) (osl : Array (Option Value)),
    fd = PySem.W.fnOf x qual (defArgs st) (defBody st) (defScope st) .none kV doc pm an cdv ct ∧ K.lookup f = some ⟨oc, od, .func fd, osl⟩ ∧ PySem.W.codeIn K cdv qual = true
  kp : PySem.W.keepIn K (.ref f) = true
section
variable {P : Program} {w : World} {K : PySem.W.Frag} {mg : Str → Option Value} {base : Heap}
/-- THE RULE for a def: its body as a term of rules, and the reading of that term -/
theorem Fun.ok {x qual : Str} {st : Stmt} {f : Addr} {fd : FuncData} {N ps : List Str} {k : Nat} {sp : Sp} (F : Fun K x qual st f fd) (S : FnScope N ps (defScope st)) (len : ∀ vs H Q E, sp vs H Q E → vs.length = ps.length)
    (hbody : ∀ (cdv : Value) (A : Around) (outer : List Env) (s : Shared) (H : Hp) (vs : List V) (Q : VK) (E : XK), Room k (A.deeper (envOfC qual (defScope st) s.heap.objs.size f cdv)) → sp vs H Q E →
      ∃ t, PSs (cxOf CX0 P w K mg base N qual (defScope st) f cdv A outer s H E).nox (defBody st) t ∧ t { nx := fun _ H' => Q .non H', rt := Q } (start N vs) H) : FnOk P w K mg base CX0 (k + 1) f fd ps sp := by
  obtain ⟨oc, od, kV, doc, pm, an, cdv, ct, osl, rfl, lk, hcd⟩ := F.ex
  refine fn_of lk hcd S len fun A outer s H vs Q E hr hsp => ?_
  obtain ⟨t, h, q⟩ := hbody cdv A outer s H vs Q E hr hsp
  exact ⟨t, h.nox, q⟩
/-- how its arguments bind (no defaults): h is «fun _ _ _ _ _ _ us hl => match us, hl with | [_, _], _ => rfl», one _ a parameter -/
theorem Fun.binds {x qual : Str} {st : Stmt} {f : Addr} {fd : FuncData} {ps : List Str} (F : Fun K x qual st f fd)
    (h : ∀ (kV doc pm : Value) (an : Option Addr) (cdv ct : Value) (us : List Value), us.length = ps.length → bindArgs (PySem.W.fnOf x qual (defArgs st) (defBody st) (defScope st) .none kV doc pm an cdv ct) ⟨us, []⟩ = pure (ps.zip us)) : Binds K fd ps [] := by
  obtain ⟨oc, od, kV, doc, pm, an, cdv, ct, osl, rfl, lk, hcd⟩ := F.ex
  exact .all (h kV doc pm an cdv ct)
theorem fun_mk {x qual : Str} {st : Stmt} {f : Addr} {oc : Value} {od an : Option Addr} {osl : Array (Option Value)} {kV doc pm cdv ct : Value} (l : K.lookup f = some ⟨oc, od, .func (PySem.W.fnOf x qual (defArgs st) (defBody st) (defScope st) .none kV doc pm an cdv ct), osl⟩)
    (c : PySem.W.codeIn K cdv qual = true) (k : PySem.W.keepIn K (.ref f) = true) : Fun K x qual st f (PySem.W.fnOf x qual (defArgs st) (defBody st) (defScope st) .none kV doc pm an cdv ct) := ⟨⟨oc, od, kV, doc, pm, an, cdv, ct, osl, rfl, l, c⟩, k⟩
end
section
variable {X : Cx}
theorem pv (i : Nat) {x : Str} {pos : Pos} (hN : X.N[i]? = some x := by rfl) (hv : Vis X.env.scope x := by first | exact Or.inl rfl | exact Or.inr (Or.inl rfl) | exact Or.inr (Or.inr rfl)) (hd : (x == ("__debug__" : Str)) = false := by decide)
    (hcd : (x == ("__classdict__" : Str)) = false := by decide) : PE X (.Name x pos) (tVar i) := pe_var hN hv hd hcd
end


theorem iteF {A B : Prop} (h : B) : if false = true then A else B := by
  rw [if_neg Bool.false_ne_true]
  exact h
theorem iteT {A B : Prop} (h : A) : if true = true then A else B := by
  rw [if_pos rfl]
  exact h
theorem ite2 {c A B : Prop} [Decidable c] (h1 : c → A) (h2 : ¬ c → B) : if c then A else B := by
  by_cases h : c
  · rw [if_pos h]
    exact h1 h
  · rw [if_neg h]
    exact h2 h
/-- all that was tracked is as it was -/
def Same (H H' : Hp) : Prop := ∀ b o, H b = some o → H' b = some o
theorem Same.refl (H : Hp) : Same H H := fun _ _ h => h
theorem Same.trans {H H1 H2 : Hp} (a : Same H H1) (b : Same H1 H2) : Same H H2 := fun c o h => b c o (a c o h)
theorem Same.free {H H' : Hp} (e : Same H H') {l : Addr} (h : H' l = Option.none) : H l = Option.none := by
  cases q : H l with
  | none => rfl
  | some o =>
    rw [e l o q] at h
    cases h
theorem Same.seq {K : PySem.W.Frag} {H H' : Hp} {a : Addr} {xs : List V} (e : Same H H') (h : SqL K H a xs) : SqL K H' a xs := by
  rcases h with (h | ⟨o, h⟩) | h
  · exact .inl (.inl (e _ _ h))
  · exact .inl (.inr ⟨o, e _ _ h⟩)
  · exact .inr h

end L2

set_option Elab.async false
set_option linter.all false
set_option maxRecDepth 100000
noncomputable section
/-! Comprehensions over the hand layer: a block of its own, its iterator, its list. -/
namespace L2
open PySem PySem.Spec PyProof.Rows

/-! ### the cells that a block takes along -/
def closL (cells : List (Str × Addr)) : List (Str × NameKind) → List (Str × Addr) → List (Str × Addr)
  | [], acc => acc
  | (n, k) :: r, acc => if (k == NameKind.free) = true then closL cells r ((n, (cells.lookup n).getD 0) :: acc) else closL cells r acc

theorem closure_go {env : Env} : ∀ (names : List (Str × NameKind)) (acc : List (Str × Addr)), (∀ x ∈ names, x.2 = .free → ∃ c, env.cells.lookup x.1 = some c) →
    (forIn names acc fun (x : Str × NameKind) cs => (do
      if (x.2 == NameKind.free) = true then do
        let c ← cellOf env x.1
        pure (ForInStep.yield ((x.1, c) :: cs))
      else pure (ForInStep.yield cs) : Sem (ForInStep (List (Str × Addr))))) = pure (closL env.cells names acc) := by
  intro names
  induction names with
  | nil => intro acc _; rfl
  | cons x r ih =>
    intro acc h
    obtain ⟨n, k⟩ := x
    rw [List.forIn_cons]
    by_cases hk : k = .free
    · subst hk
      obtain ⟨c, hc⟩ := h (n, .free) List.mem_cons_self rfl
      have hc' : env.cells.lookup n = some c := hc
      have e1 : cellOf env n = pure c := by unfold cellOf; rw [hc']
      have e2 : closL env.cells ((n, NameKind.free) :: r) acc = closL env.cells r ((n, c) :: acc) := by
        show (if (NameKind.free == NameKind.free) = true then _ else _) = _
        rw [if_pos (by decide), hc']; rfl
      rw [e2, ← ih ((n, c) :: acc) fun y hy => h y (List.mem_cons_of_mem _ hy)]
      simp only [beq_self_eq_true, if_true, e1]
      rfl
    · have hb : (k == NameKind.free) = false := by simpa using hk
      have e2 : closL env.cells ((n, k) :: r) acc = closL env.cells r acc := by
        show (if (k == NameKind.free) = true then _ else _) = _
        rw [hb]; rfl
      rw [e2, ← ih acc fun y hy => h y (List.mem_cons_of_mem _ hy)]
      simp only [hb, Bool.false_eq_true, if_false]
      rfl
theorem closureFor_eq {scope : Scope} {env : Env} (h : ∀ x ∈ scope.names, x.2 = .free → ∃ c, env.cells.lookup x.1 = some c) : closureFor scope env = pure (closL env.cells scope.names []) := by
  have e := closure_go (env := env) scope.names [] h
  simp only [closureFor]
  first
    | exact e
    | (rw [← e]; rfl)
    | (have e' := congrArg (fun m => m >>= pure) e; simpa using e')
theorem closL_of {cells : List (Str × Addr)} : ∀ {names : List (Str × NameKind)} {acc : List (Str × Addr)} {x : Str} {c : Addr}, (closL cells names acc).lookup x = some c → (∀ y ∈ names, y.2 = .free → ∃ c, cells.lookup y.1 = some c) →
    (∀ d, acc.lookup x = some d → cells.lookup x = some d) → cells.lookup x = some c
  | [], _, _, _, e, _, ha => ha _ e
  | (n, k) :: r, acc, x, c, e, h, ha => by
    have e' : (if (k == NameKind.free) = true then closL cells r ((n, (cells.lookup n).getD 0) :: acc) else closL cells r acc).lookup x = some c := e
    by_cases hk : k = .free
    · subst hk
      rw [if_pos (by decide)] at e'
      refine closL_of e' (fun y hy => h y (List.mem_cons_of_mem _ hy)) fun d hd => ?_
      obtain ⟨c0, hc0⟩ := h (n, .free) List.mem_cons_self rfl
      have hc1 : cells.lookup n = some c0 := hc0
      rw [List.lookup_cons] at hd
      cases hx : x == n with
      | true =>
        rw [hx] at hd
        have hxn : x = n := by simpa using hx
        subst hxn
        rw [hc1] at hd ⊢
        exact hd
      | false =>
        rw [hx] at hd
        exact ha d hd
    · have hb : (k == NameKind.free) = false := by simpa using hk
      rw [hb, if_neg Bool.false_ne_true] at e'
      exact closL_of e' (fun y hy => h y (List.mem_cons_of_mem _ hy)) ha
theorem closL_has {cells : List (Str × Addr)} : ∀ {names : List (Str × NameKind)} {acc : List (Str × Addr)} {x : Str}, ((∃ d, acc.lookup x = some d) ∨ ∃ y ∈ names, y.1 = x ∧ y.2 = .free) → ∃ c, (closL cells names acc).lookup x = some c
  | [], _, _, h => by
    rcases h with h | ⟨y, hy, _⟩
    · exact h
    · cases hy
  | (n, k) :: r, acc, x, h => by
    show ∃ c, (if (k == NameKind.free) = true then closL cells r ((n, (cells.lookup n).getD 0) :: acc) else closL cells r acc).lookup x = some c
    by_cases hk : k = .free
    · subst hk
      rw [if_pos (by decide)]
      refine closL_has ?_
      by_cases hx : x = n
      · exact .inl ⟨_, by rw [hx, List.lookup_cons]; simp; rfl⟩
      · rcases h with ⟨d, hd⟩ | ⟨y, hy, e1, e2⟩
        · refine .inl ⟨d, ?_⟩
          rw [List.lookup_cons]
          have : (x == n) = false := by simpa using hx
          rw [this]; exact hd
        · rcases List.mem_cons.mp hy with z | z
          · subst z; exact absurd e1.symm hx
          · exact .inr ⟨y, z, e1, e2⟩
    · have hb : (k == NameKind.free) = false := by simpa using hk
      rw [hb, if_neg Bool.false_ne_true]
      refine closL_has ?_
      rcases h with h | ⟨y, hy, e1, e2⟩
      · exact .inl h
      · rcases List.mem_cons.mp hy with z | z
        · subst z; exact absurd e2 hk
        · exact .inr ⟨y, z, e1, e2⟩

/-! ### names of the block -/
/-- at a turn's start: the block's own names (t of them) forgotten, then those of around that it reads, by their places there -/
def capt (t : Nat) (ix : List Nat) (σ : St) : St := List.replicate t none ++ ix.map fun j => (σ[j]?).join

/-- the block's names from place t on are those of around at the places ix -/
def compAt (XN : List Str) (scope : Scope) (N' : List Str) (t : Nat) (ix : List Nat) : Bool :=
  (List.range ix.length).all fun k => match ix[k]?, N'[t + k]? with
    | some j, some x => decide (XN[j]? = some x) && decide (scope.names.lookup x = some .free)
    | _, _ => false
theorem compAt_get {XN : List Str} {scope : Scope} {N' : List Str} {t : Nat} {ix : List Nat} (h : compAt XN scope N' t ix = true) {k : Nat} (hk : k < ix.length) :
    ∃ j x, ix[k]? = some j ∧ N'[t + k]? = some x ∧ XN[j]? = some x ∧ scope.names.lookup x = some .free := by
  have q := List.all_eq_true.mp h k (List.mem_range.mpr hk)
  cases e1 : ix[k]? with
  | none => rw [e1] at q; simp at q
  | some j =>
    cases e2 : N'[t + k]? with
    | none => rw [e1, e2] at q; simp at q
    | some x =>
      rw [e1, e2] at q
      have q' : (decide (XN[j]? = some x) && decide (scope.names.lookup x = some .free)) = true := q
      rw [Bool.and_eq_true] at q'
      exact ⟨j, x, rfl, rfl, of_decide_eq_true q'.1, of_decide_eq_true q'.2⟩
structure CompScope (sc : Scope) (XN : List Str) (scope : Scope) (N' : List Str) (t : Nat) (ix : List Nat) : Prop where
  kind : scope.kind = .function
  nocell : ∀ y ∈ scope.names, y.2 ≠ .cell
  names : ∀ y ∈ scope.names, y.2 = .local → scope.names.lookup y.1 = some .local
  fr : ∀ y ∈ scope.names, y.2 = .free → sc.names.lookup y.1 = some .cell ∨ sc.names.lookup y.1 = some .free
  nd : N'.Nodup
  len : N'.length = t + ix.length
  at_ : compAt XN scope N' t ix = true

/-- the context of a block: no exception leaves it -/
def cxComp (X : Cx) (N' : List Str) (scope : Scope) (cl : List (Str × Addr)) (C : Addr) (s₀ : Shared) (H₀ : Hp) (fp : List Addr) : Cx where
  prog := X.prog
  w := X.w
  K := X.K
  mg := X.mg
  base := X.base
  A := X.A
  N := N'
  s₀ := s₀
  H₀ := H₀
  env := compEnvC scope cl C X.env
  outer := X.stack
  stack := X.stack
  ex := fp
  fn := fun _ => false
  calm := X.calm
  pn := []
  xe := fun _ _ => False

theorem lookup_relabel_kind {env : Env} : ∀ {names : List (Str × NameKind)} {x : Str} {k : NameKind},
    (names.map fun (n, k) => if (k == NameKind.free && env.scope.kind == .function && env.kindOf n == some .cell) = true then (n, NameKind.cell) else (n, k)).lookup x = some k → k = .cell ∨ k = .free →
    (∀ y ∈ names, y.2 ≠ .cell) → ∃ y ∈ names, y.1 = x ∧ y.2 = .free
  | [], _, _, h, _, _ => by simp at h
  | (n, k0) :: r, x, k, h, hk, hc => by
    have h' : List.lookup x ((if (k0 == NameKind.free && env.scope.kind == .function && env.kindOf n == some .cell) = true then (n, NameKind.cell) else (n, k0)) ::
      (r.map fun (n, k) => if (k == NameKind.free && env.scope.kind == .function && env.kindOf n == some .cell) = true then (n, NameKind.cell) else (n, k))) = some k := h
    have hcr : ∀ y ∈ r, y.2 ≠ .cell := fun y hy => hc y (List.mem_cons_of_mem _ hy)
    by_cases hq : (k0 == NameKind.free && env.scope.kind == .function && env.kindOf n == some .cell) = true
    · have hk0 : k0 = .free := by
        have := (Bool.and_eq_true_iff.mp (Bool.and_eq_true_iff.mp hq).1).1
        simpa using this
      rw [if_pos hq, List.lookup_cons] at h'
      cases hx : x == n with
      | true =>
        have hxn : x = n := by simpa using hx
        exact ⟨(n, k0), List.mem_cons_self, hxn.symm, hk0⟩
      | false =>
        rw [hx] at h'
        obtain ⟨y, hy, e1, e2⟩ := lookup_relabel_kind h' hk hcr
        exact ⟨y, List.mem_cons_of_mem _ hy, e1, e2⟩
    · rw [if_neg hq, List.lookup_cons] at h'
      cases hx : x == n with
      | true =>
        rw [hx] at h'
        have hxn : x = n := by simpa using hx
        have e : k0 = k := by simpa using h'
        subst e
        rcases hk with e | e
        · exact absurd e (hc (n, k0) List.mem_cons_self)
        · exact ⟨(n, k0), List.mem_cons_self, hxn.symm, e⟩
      | false =>
        rw [hx] at h'
        obtain ⟨y, hy, e1, e2⟩ := lookup_relabel_kind h' hk hcr
        exact ⟨y, List.mem_cons_of_mem _ hy, e1, e2⟩
theorem lookup_relabel_free {env : Env} : ∀ {names : List (Str × NameKind)} {x : Str}, names.lookup x = some .free →
    (names.map fun (n, k) => if (k == NameKind.free && env.scope.kind == .function && env.kindOf n == some .cell) = true then (n, NameKind.cell) else (n, k)).lookup x = some .cell ∨
    (names.map fun (n, k) => if (k == NameKind.free && env.scope.kind == .function && env.kindOf n == some .cell) = true then (n, NameKind.cell) else (n, k)).lookup x = some .free
  | [], _, h => by simp at h
  | (n, k0) :: r, x, h => by
    show List.lookup x ((if (k0 == NameKind.free && env.scope.kind == .function && env.kindOf n == some .cell) = true then (n, NameKind.cell) else (n, k0)) :: _) = _ ∨
      List.lookup x ((if (k0 == NameKind.free && env.scope.kind == .function && env.kindOf n == some .cell) = true then (n, NameKind.cell) else (n, k0)) :: _) = _
    rw [List.lookup_cons] at h
    by_cases hq : (k0 == NameKind.free && env.scope.kind == .function && env.kindOf n == some .cell) = true
    · rw [if_pos hq, List.lookup_cons]
      cases hx : x == n with
      | true => exact .inl rfl
      | false => rw [hx] at h; exact lookup_relabel_free h
    · rw [if_neg hq, List.lookup_cons]
      cases hx : x == n with
      | true => rw [hx] at h; exact .inr h
      | false => rw [hx] at h; exact lookup_relabel_free h

section
variable {X : Cx} {pins : List (Addr × Obj)} {σ : St} {H : Hp} {s : Shared} {sc scope : Scope} {XN N' : List Str} {t : Nat} {ix : List Nat} {fp : List Addr} {C : Addr}

theorem CompScope.cells (S : CompScope sc XN scope N' t ix) (hsc : X.env.scope.names = sc.names) (I : Inv X pins σ H s) : ∀ y ∈ scope.names, y.2 = .free → ∃ c, X.env.cells.lookup y.1 = some c := fun y hy hf => by
  have := S.fr y hy hf
  rw [← hsc] at this
  exact I.ok.has y.1 this
theorem cells_up (S : CompScope sc XN scope N' t ix) (hsc : X.env.scope.names = sc.names) (I : Inv X pins σ H s) {x : Str} {c : Addr} (e : (closL X.env.cells scope.names []).lookup x = some c) : X.env.cells.lookup x = some c :=
  closL_of e (S.cells hsc I) fun d hd => by simp at hd

/-- the block's context stands -/
theorem comp_ok (S : CompScope sc XN scope N' t ix) (hsc : X.env.scope.names = sc.names) (I : Inv X pins σ H s) (hf : ∀ b ∈ fp, FpOk X pins H b) (ho : ∀ b ∈ fp, b < s.heap.objs.size) (hC : s.heap.objs.size ≤ C) :
    (cxComp X N' scope (closL X.env.cells scope.names []) C s H fp).Ok where
  mod := I.ok.mod
  kind := S.kind
  glob := I.ok.glob
  blt := I.ok.blt
  above := hC
  inj := fun x y c h1 h2 => I.ok.inj x y c (cells_up S hsc I h1) (cells_up S hsc I h2)
  has := fun x hx => by
    have hk : ∃ k, (k = NameKind.cell ∨ k = .free) ∧ (relabel scope X.env).names.lookup x = some k := by
      rcases hx with z | z
      · exact ⟨_, .inl rfl, z⟩
      · exact ⟨_, .inr rfl, z⟩
    obtain ⟨k, hk, e⟩ := hk
    exact closL_has (.inr (lookup_relabel_kind e hk S.nocell))
  cab := fun x c h => by cases h
  hd := I.ok.hd
  frames := I.ok.frames
  stk := .inl rfl
  exf := fun b hb => ⟨Nat.ne_of_lt (Nat.lt_of_lt_of_le (ho b hb) hC), fun x c e => (hf b hb).2.2.2.2.1 x c (cells_up S hsc I e)⟩
  bs := I.bs
  bsz := Nat.le_trans I.ok.bsz I.sz
  noex := fun b o e hb => by
    rcases (hf b hb).2.2.2.1 with z | z
    · exact I.ok.noex b o e z
    · exact absurd (Nat.lt_of_lt_of_le (Heap.lt_size (I.ok.bs b o e).1) z) (Nat.lt_irrefl _)
  exfs := fun b hb z => by
    rcases List.mem_cons.mp (I.stkSub b z) with e | e
    · exact (hf b hb).2.1 e
    · exact (hf b hb).2.2.1 e
  funs := I.stack
  frf := I.stkFree

/-- the block's state at its entry -/
theorem comp_inv {h₁ : Heap} {m : Str → Option Value} {D : Addr} {tk : Nat} (S : CompScope sc XN scope N' t ix) (hsc : X.env.scope.names = sc.names) (hXN : X.N = XN) (I : Inv X pins σ H s) (hf : ∀ b ∈ fp, FpOk X pins H b) (ho : ∀ b ∈ fp, b < s.heap.objs.size)
    (hD : s.heap.objs.size ≤ D) (hC : s.heap.objs.size ≤ C) (hDC : C ≠ D) (keep : ∀ b o, s.heap.get? b = some o → h₁.get? b = some o) (hn : h₁.Ns C m) (hl : ∃ n, h₁.get? D = some { cls := .type "list", data := .seq ([] : List Value).toArray n }) :
    Inv (cxComp X N' scope (closL X.env.cells scope.names []) C s H fp) [] (capt t ix σ) (upd H D (.lst [])) { s with heap := h₁, toks := tk } := by
  have fD : H D = none := I.hok.fresh hD
  refine ⟨comp_ok S hsc I hf ho hC, rfl, I.bare, Un.laid keep hD fD, ⟨m, hn, fun i x v e1 e2 e3 => ?_⟩, fun x c e => ?_, ?_, fun x c e => ?_, fun p hp => absurd (show p ∈ ([] : List (Addr × Obj)) from hp) (by simp), ?_, ?_⟩
  · have e1' : N'[i]? = some x := e1
    unfold capt at e2
    by_cases hi : i < t
    · rw [List.getElem?_append_left (by simpa using hi), List.getElem?_replicate] at e2
      rw [if_pos hi] at e2
      cases e2
    · rw [List.getElem?_append_right (by simpa using hi), List.getElem?_map, List.length_replicate] at e2
      have hk : i - t < ix.length := by
        rcases Nat.lt_or_ge (i - t) ix.length with q | q
        · exact q
        · rw [List.getElem?_eq_none q] at e2; cases e2
      obtain ⟨j, y, hj, ey, hNj, hx⟩ := compAt_get S.at_ hk
      have hti : t + (i - t) = i := by omega
      rw [hti, e1'] at ey
      obtain rfl : x = y := Option.some.inj ey
      rw [hj] at e2
      have e2' : (σ[j]?).join = some v := by simpa using e2
      have e2'' : σ[j]? = some (some v) := by
        cases q : σ[j]? with
        | none => rw [q] at e2'; cases e2'
        | some o => rw [q] at e2'; simpa using e2'
      have hN : X.N[j]? = some x := by rw [hXN]; exact hNj
      have hmem : (x, NameKind.free) ∈ scope.names := PySem.mem_of_lookup hx
      have hvis0 := S.fr (x, .free) hmem rfl
      rw [← hsc] at hvis0
      have hvis : Vis X.env.scope x := .inr hvis0
      obtain ⟨mX, hnX, hlX⟩ := I.loc
      obtain ⟨u, ru, l⟩ := hlX j x v hN e2'' hvis
      refine ⟨u, ru, ?_⟩
      rcases l with ⟨lk, _⟩ | ⟨_, c, hc, z⟩
      · have lk' : X.env.scope.names.lookup x = some .local := lk
        rcases hvis0 with q | q <;> · have q' : X.env.scope.names.lookup x = _ := q; rw [lk'] at q'; cases q'
      · obtain ⟨c', hc'⟩ := closL_has (cells := X.env.cells) (names := scope.names) (acc := []) (x := x) (.inr ⟨(x, .free), hmem, rfl, rfl⟩)
        have hcc : c' = c := by
          have := cells_up S hsc I hc'
          rw [hc] at this
          exact (Option.some.inj this).symm
        subst hcc
        obtain ⟨o, eo, ed⟩ := z
        exact .inr ⟨lookup_relabel_free hx, c', hc', o, keep c' o eo, ed⟩
  · obtain ⟨v, o, eo, ed⟩ := I.cell x c (cells_up S hsc I e)
    exact ⟨v, o, keep c o eo, ed⟩
  · show upd H D (.lst []) C = none
    rw [upd_ne hDC]
    exact I.hok.fresh hC
  · have hc := cells_up S hsc I e
    obtain ⟨v, o, eo, ed⟩ := I.cell x c hc
    show upd H D (.lst []) c = none
    rw [upd_ne (Nat.ne_of_lt (Nat.lt_of_lt_of_le (Heap.lt_size eo) hD))]
    exact I.freeC x c hc
  · obtain ⟨n, el⟩ := hl
    exact I.hok.laid keep hD ⟨by simp, [], n, .nil, el⟩
  · show (capt t ix σ).length = N'.length
    unfold capt
    rw [List.length_append, List.length_replicate, List.length_map, S.len]
end

theorem codeAny_compLoop_go {prog : Program} {w : World} {A : Around} {R : Result → Shared → Prop} {s : Shared} {elt target iter : Expr} {scope : Scope} {pos : Pos} {it acc : Value} {env : Env} (I : Nat → Shared → Prop)
    (turn : ∀ n s, I n s → wpAny (model prog w) A (pyNext it) (fun r s₁ => match r with
      | none => R (.ok .next) s₁
      | some v => wpAny (model prog w) A (letOwnedTupleGo target it v) (fun _ s₂ => wpAny (model prog w) A (assign target env v) (fun _ s₃ => wpAny (model prog w) A (eval elt env) (fun x s₄ =>
          wpAny (model prog w) A (call (.builtin "list.append") [acc, x]) (fun _ s₅ => ∃ m, m < n ∧ I m s₅) (fun _ _ => False) s₄) (fun _ _ => False) s₃) (fun _ _ => False) s₂) (fun _ _ => False) s₁) (fun _ _ => False) s)
    (n : Nat) (h : I n s) : codeAny (model prog w) A (.compLoop (.ListComp elt [⟨target, iter, [], 0⟩] scope pos) 0 it acc env) R s := by
  refine codeAny_loop rfl I (fun n s hI => ?_) n h
  show wpAny _ _ ((compTurn (.ListComp elt [⟨target, iter, [], 0⟩] scope pos) 0 it acc env).onRaise (fun x => do noteFrame x env; theTreesLotGoes x)) _ _ s
  refine wpAny_noted ?_
  rw [compTurn_list1]
  refine wpAny_bind (wpAny_standAt (wpAny_bind (wpAny_mono (turn n s hI) (fun r s₁ h₁ => ?_) fun _ _ h' => False.elim h')))
  cases r with
  | none => exact wpAny_pure h₁
  | some v =>
    refine wpAny_bind (wpAny_mono h₁ (fun _ s₂ h₂ => ?_) fun _ _ h' => False.elim h')
    exact wpAny_bind (wpAny_mono h₂ (fun _ s₃ h₃ => wpAny_bind (wpAny_bind (wpAny_mono h₃ (fun x s₄ h₄ => wpAny_bind (wpAny_mono h₄
      (fun _ s₅ h₅ => wpAny_pure (wpAny_pure ⟨rfl, h₅⟩)) fun _ _ h' => False.elim h')) fun _ _ h' => False.elim h'))) fun _ _ h' => False.elim h')

/-- W: the invariant by the turn, a measure and what the list holds -/
def CompIt (J : It) (g : TG) (te : TE) (τ : St) (H1 : Hp) (Q : VK) (D : Addr) : Prop :=
  ∃ W : Nat → Nat → List V → Hp → Prop, (∃ m, W 0 m [] (upd H1 D (.lst []))) ∧ ∀ i m ys H2, W i m ys H2 → H2 D = some (.lst ys) →
    (J.stop i H2 ∧ Q (.ref D) H2) ∨ (J.go i H2 ∧ ys.length < sizeLine ∧ ∀ x H', J.yld i H2 x H' → g x τ H' fun σ3 H3 => (∀ (j : Nat) v, τ[j]? = some (some v) → σ3[j]? = some (some v)) ∧ te σ3 H3 fun y H4 => H4 D = some (.lst ys) ∧ ∃ m', m' < m ∧ W (i + 1) m' (ys ++ [y]) (upd H4 D (.lst (ys ++ [y]))))
def tComp (wi : TI) (g : TG) (te : TE) (cp : St → St) : TE := fun σ H Q => wi σ H fun J H1 => ∀ D, H1 D = none → CompIt J g te (cp σ) H1 Q D

section
variable {X : Cx} {pins : List (Addr × Obj)} {σ : St} {H : Hp} {s : Shared} {sc scope : Scope} {XN N' : List Str} {t : Nat} {ix : List Nat} {elt iter tg : Expr} {pos pc : Pos} {wi : TI} {g : TG} {te : TE}

theorem comp_run {use : Option (Value → Sem Unit)} {Q : Value → Shared → Prop} {Z : VK} (hc : X.calm = true) (S : CompScope sc XN scope N' t ix) (hsc : X.env.scope.names = sc.names) (hXN : X.N = XN)
    (hi : PI X tg iter wi) (hg : ∀ cl C s₀ H₀ fp, PG (cxComp X N' scope cl C s₀ H₀ fp) tg g) (he : ∀ cl C s₀ H₀ fp, PE (cxComp X N' scope cl C s₀ H₀ fp) elt te)
    (I : Inv X pins σ H s) (h : tComp wi g te (capt t ix) σ H Z)
    (fin : ∀ D C s' H', Inv X pins σ H' s' → Z (.ref D) H' → (∃ m, s'.heap.Ns C m) → H' C = none → C ≠ X.env.locals → X.s₀.heap.objs.size ≤ C → (∀ x c, X.env.cells.lookup x = some c → c ≠ C) → (∀ p ∈ X.pn ++ pins, p.1 ≠ C) →
      compPost (model X.prog X.w) X.A X.xe use Q (.ref D) C (.ok .next) s')
    (hs : ∀ x, foldedSetIterable iter X.env x = pure x := by intro _; rfl) :
    wpAny (model X.prog X.w) X.A (comprehension (.ListComp elt [⟨tg, iter, [], 0⟩] scope pos) scope X.env pc (newList []) false (eval iter X.env) use) Q X.xe s := by
  refine wpAny_comprehension_free (use := use) rfl hs (closureFor_eq (S.cells hsc I)) S.kind S.names ?_
  refine thn (hi pins s σ H _ I h) fun v s1 h1 => thn h1 fun itv s2 h2 => ?_
  obtain ⟨it, fp, tn, J, H2, e, I2, T, st2, f2, hD⟩ := h2
  subst e
  have ho : ∀ b ∈ fp, b < s2.heap.objs.size := fun b hb => by
    obtain ⟨o, e, _⟩ := T.obj _ _ st2 b hb
    exact Heap.lt_size e
  refine wpAny_newObj_type (wpAny_newFunctionEnv S.nocell (by intro y hy; simp at hy) (fun h₁ hns₁ hsb₁ => ?_) S.kind)
  dsimp only at hns₁ hsb₁ ⊢
  generalize hH2 : s2.heap.push { cls := .type "list", dict := none, data := .seq ([] : List Value).toArray } = HH at hns₁ hsb₁ ⊢
  have hC : HH.objs.size = s2.heap.objs.size + 1 := by rw [← hH2, Heap.size_push]
  have hDC : HH.objs.size ≠ s2.heap.objs.size := by rw [hC]; exact Nat.succ_ne_self _
  have hCle : s2.heap.objs.size ≤ HH.objs.size := by rw [hC]; exact Nat.le_succ _
  have old : ∀ b o, s2.heap.get? b = some o → h₁.get? b = some o := fun b o e =>
    hsb₁.extBut b o (by rw [hC]; exact Nat.ne_of_lt (Nat.lt_succ_of_lt (Heap.lt_size e))) (Heap.get?_push_of_some _ (hH2 ▸ Heap.get?_push_of_some _ e))
  have hacc : ∃ n, h₁.get? s2.heap.objs.size = some { cls := .type "list", data := .seq ([] : List Value).toArray n } := ⟨_, hsb₁.extBut _ _ (Ne.symm hDC) (Heap.get?_push_of_some _ (hH2 ▸ Heap.get?_push_size _ rfl))⟩
  obtain ⟨W, ⟨m0, w0⟩, turn⟩ := hD s2.heap.objs.size (I2.hok.fresh (Nat.le_refl _))
  have I4 := comp_inv (tk := s2.toks + ([] : List (Str × Value)).length) S hsc hXN I2 f2 ho (Nat.le_refl _) hCle hDC old hns₁ hacc
  have fpX : ∀ {H' : Hp}, (∀ b ∈ fp, H' b = none) → ∀ b ∈ fp, FpOk (cxComp X N' scope (closL X.env.cells scope.names []) HH.objs.size s2 H2 fp) [] H' b := fun hn b hb =>
    ⟨hn b hb, (I4.ok.exf b hb).1, I4.ok.exfs b hb, .inl hb, fun x c e => (I4.ok.exf b hb).2 x c e, fun p hp => absurd (show p ∈ ([] : List (Addr × Obj)) from hp) (by simp)⟩
  have loop : ∀ s3 : Shared, s3 = { s2 with heap := h₁, toks := s2.toks + ([] : List (Str × Value)).length } →
      codeAny (model X.prog X.w) X.A (.compLoop (.ListComp elt [⟨tg, iter, [], 0⟩] scope pos) 0 (.ref it) (.ref s2.heap.objs.size) (compEnvC scope (closL X.env.cells scope.names []) HH.objs.size X.env))
        (compPost (model X.prog X.w) X.A X.xe use Q (.ref s2.heap.objs.size) HH.objs.size) s3 := by
    rintro s3 rfl
    refine codeAny_compLoop_go (fun n s' => ∃ i ys H', Inv (cxComp X N' scope (closL X.env.cells scope.names []) HH.objs.size s2 H2 fp) [] (capt t ix σ) H' s' ∧ tn i s'.heap ∧ (∀ b ∈ fp, H' b = none) ∧ H' s2.heap.objs.size = some (.lst ys) ∧ W i n ys H') ?_ m0
      ⟨0, [], _, I4, T.keep _ _ _ st2 fun b _ o e => old b o e, fun b hb => ?_, upd_same, w0⟩
    · rintro n s3 ⟨i, ys, H3, I3, st3, fr3, hl3, w3⟩
      rcases turn i n ys H3 w3 hl3 with ⟨stop, qn⟩ | ⟨go, hsz, step⟩
      · refine thn (T.done (cxComp X N' scope (closL X.env.cells scope.names []) HH.objs.size s2 H2 fp) rfl rfl rfl hc i [] s3 (capt t ix σ) H3 _ I3 (fpX fr3) st3 stop) fun r s4 ⟨hr, I4'⟩ => ?_
        subst hr
        have IX : Inv X pins σ H3 s4 := I2.call' (ch := fp) I4'.os I4'.base I4'.hok I4'.bare fun b hb => ⟨(f2 b hb).2.2.2.1, (f2 b hb).2.1, (f2 b hb).2.2.2.2.1, (f2 b hb).2.2.2.2.2⟩
        obtain ⟨mC, hnC, _⟩ := I4'.loc
        refine fin _ _ _ _ IX qn ⟨mC, hnC⟩ I4'.free (Nat.ne_of_gt (Nat.lt_of_lt_of_le I2.lt hCle)) (Nat.le_trans I2.sz hCle) (fun x c e z => ?_) fun p hp z => ?_
        · obtain ⟨vc, oc, eo, _⟩ := I2.cell x c e
          exact absurd (Nat.lt_of_lt_of_le (Heap.lt_size eo) hCle) (by rw [z]; exact Nat.lt_irrefl _)
        · exact absurd (Nat.lt_of_lt_of_le (Heap.lt_size (I2.pin p hp).1) hCle) (by rw [z]; exact Nat.lt_irrefl _)
      · refine thn (T.item (cxComp X N' scope (closL X.env.cells scope.names []) HH.objs.size s2 H2 fp) rfl rfl rfl hc i [] s3 (capt t ix σ) H3 _ I3 (fpX fr3) st3 go) fun r s4 ⟨u, hr, h4⟩ => ?_
        subst hr
        refine thn h4 fun _ s5 ⟨x, H5, I5, r5, y5, st5, fr5⟩ => ?_
        have I5' := I5.pinned (fpX fr5) (T.obj _ _ st5)
        refine thn (hg _ _ _ _ _ _ s5 (capt t ix σ) H5 x u _ I5' r5 (step x H5 y5)) fun _ s6 ⟨σ6, H6, I6, k6, q6⟩ => ?_
        refine thn (he _ _ _ _ _ _ s6 σ6 H6 _ I6 q6) fun yv s7 ⟨y, H7, I7, r7, q7⟩ => ?_
        obtain ⟨hl7, m', hm, w7⟩ := q7
        have app := mt_append (X := cxComp X N' scope (closL X.env.cells scope.names []) HH.objs.size s2 H2 fp) _ s7 σ6 H7 (.ref s2.heap.objs.size) [y] (.ref s2.heap.objs.size) [yv]
          (fun _ H8 => H8 = upd H7 s2.heap.objs.size (.lst (ys ++ [y]))) I7 rfl (.cons r7 .nil) ⟨_, ys, y, rfl, rfl, hl7, hsz, rfl⟩
        refine thn app fun _ s8 ⟨v8, H8, I8, _, e8⟩ => ?_
        subst e8
        have I9 := I8.weak (σ' := capt t ix σ) (by rw [I8.len, I4.len]) k6
        · refine ⟨m', hm, i + 1, ys ++ [y], _, I9.unpinned, T.keep _ _ _ st5 fun b hb o e => (I9.pin (b, o) (List.mem_append_right _ (List.mem_append_right _ (mem_pinsAt hb e)))).1, fun b hb => ?_, upd_same, w7⟩
          obtain ⟨o, e, d⟩ := T.obj _ _ st5 b hb
          exact (I9.pin (b, o) (List.mem_append_right _ (List.mem_append_right _ (mem_pinsAt hb e)))).2.1
    · rw [upd_ne (Nat.ne_of_lt (ho b hb))]
      exact (f2 b hb).1
  exact codeAny_compStart_list (loop _ rfl) (T.self _ 0 _ _ _ (T.keep _ _ _ st2 fun b _ o e => old b o e) (loop _ rfl))
end
end L2

end
noncomputable section
namespace L2
open PySem PySem.Spec PyProof.Rows
section
variable {X : Cx} {sc scope : Scope} {XN N' : List Str} {t : Nat} {ix : List Nat} {elt iter tg : Expr} {pos pc : Pos} {wi : TI} {g : TG} {te : TE}

/-- [elt for tg in iter] -/
theorem pe_comp (hc : X.calm = true) (S : CompScope sc XN scope N' t ix) (hsc : X.env.scope.names = sc.names) (hXN : X.N = XN)
    (hi : PI X tg iter wi) (hg : ∀ cl C s₀ H₀ fp, PG (cxComp X N' scope cl C s₀ H₀ fp) tg g) (he : ∀ cl C s₀ H₀ fp, PE (cxComp X N' scope cl C s₀ H₀ fp) elt te)
    (hs : ∀ x, foldedSetIterable iter X.env x = pure x := by intro _; rfl) : PE X (.ListComp elt [⟨tg, iter, [], 0⟩] scope pos) (tComp wi g te (capt t ix)) := by
  intro pins s σ H Q I h
  rw [eval_ListComp]
  refine comp_run (use := none) (Z := Q) hc S hsc hXN hi hg he I h (fun D C s' H' I' q hn hf hL hz hcl hp => ?_) hs
  obtain ⟨m, hn⟩ := hn
  refine ⟨m, hn, fun h' hb => ⟨.ref D, H', ?_, rfl, q⟩⟩
  exact I'.turned (it := C) (t' := s'.toks) (fun b o hbc e => (hb.2 b hbc).trans e) hf hL (.inr hz) hcl hp

/-- name = [elt for tg in iter], the name a plain local: the store comes ahead of the block's end -/
def tSetComp (i : Nat) (tc : TE) : TS := fun D σ H => tc σ H fun v H1 => D.nx (σ.set i (some v)) H1
theorem ps_setComp {i : Nat} {x : Str} {px : Pos} (hc : X.calm = true) (S : CompScope sc XN scope N' t ix) (hsc : X.env.scope.names = sc.names) (hXN : X.N = XN) (hN : X.N.Nodup) (hi' : X.N[i]? = some x) (hx : X.env.scope.names.lookup x = some .local)
    (hi : PI X tg iter wi) (hg : ∀ cl C s₀ H₀ fp, PG (cxComp X N' scope cl C s₀ H₀ fp) tg g) (he : ∀ cl C s₀ H₀ fp, PE (cxComp X N' scope cl C s₀ H₀ fp) elt te)
    (hsw : swapsWith (.ListComp elt [⟨tg, iter, [], 0⟩] scope pos) (some (.Name x px)) pc.line X.env = pure true)
    (hs : ∀ x, foldedSetIterable iter X.env x = pure x := by intro _; rfl) : PS X (.Assign [.Name x px] (.ListComp elt [⟨tg, iter, [], 0⟩] scope pos) pc) (tSetComp i (tComp wi g te (capt t ix))) := by
  intro pins s σ H D I h
  rw [exec_Assign_Name_used _ _ _ _ hsw]
  refine wpAny_bind (wpAny_standAt (wpAny_bind ?_))
  show wpAny _ X.A (do let _ ← comprehension (.ListComp elt [⟨tg, iter, [], 0⟩] scope pos) scope X.env _ (newList []) false (eval iter X.env) (some (assign (.Name x px) X.env))) _ _ s
  refine wpAny_bind (wpAny_mono (comp_run (use := some (assign (.Name x px) X.env)) (Q := fun _ s' => SP X pins D .next s') (Z := fun v H1 => D.nx (σ.set i (some v)) H1) hc S hsc hXN hi hg he I h (fun Dd C s' H' I' q hn hf hL hz hcl hp => ?_) hs)
    (fun _ s' hq => wpAny_pure (wpAny_pure hq)) fun _ _ e => e)
  obtain ⟨m, hn⟩ := hn
  show wpAny _ X.A (assign (.Name x px) X.env (.ref Dd)) _ _ _
  refine wpAny_assign_Name (store_ok2 I' hN hi' (.inl hx) (v := .ref Dd) rfl (fun s'' I'' ⟨a, sb, ha⟩ => ?_) (.inr hx))
  have hne : C ≠ a := by
    rcases ha with z | z
    · rw [z]; exact hL
    · exact fun e => hcl x a z e.symm
  refine ⟨m, hn.sameBut sb hne, fun h' hb => ⟨_, H', ?_, q⟩⟩
  exact I''.turned (it := C) (t' := s''.toks) (fun b o hbc e => (hb.2 b hbc).trans e) hf hL (.inr hz) hcl hp
end

/-! ### the forms one uses: the elements change nothing that was tracked -/
theorem Same.upd {H H' : Hp} {a : Addr} {o : HO} (e : Same H H') (h : H a = none) : Same H (upd H' a o) := fun b u q => by
  rw [upd_ne (ne_of_none q h)]; exact e b u q
theorem same_upd {H : Hp} {a : Addr} {o : HO} (h : H a = none) : Same H (L2.upd H a o) := Same.upd (Same.refl H) h
theorem Same.sqT {K : PySem.W.Frag} {H H' : Hp} {a : Addr} {xs : List V} (e : Same H H') (h : SqT K H a xs) : SqT K H' a xs := by
  rcases h with (h | ⟨o, h⟩) | h
  · exact .inl (.inl (e _ _ h))
  · exact .inl (.inr ⟨o, e _ _ h⟩)
  · exact .inr h
theorem capt_set {t : Nat} {ix : List Nat} {σ : St} {i : Nat} {v : V} (hi : i < t) : ∀ (j : Nat) w, (capt t ix σ)[j]? = some (some w) → ((capt t ix σ).set i (some v))[j]? = some (some w) := fun j w e => by
  by_cases hj : j < t
  · unfold capt at e
    rw [List.getElem?_append_left (by simpa using hj), List.getElem?_replicate, if_pos hj] at e
    cases e
  · rw [List.getElem?_set_ne (by omega)]; exact e
theorem capt_set2 {t : Nat} {ix : List Nat} {σ : St} {i k : Nat} {v u : V} (hi : i < t) (hk : k < t) : ∀ (j : Nat) w, (capt t ix σ)[j]? = some (some w) → (((capt t ix σ).set i (some v)).set k (some u))[j]? = some (some w) := fun j w e => by
  by_cases hj : j < t
  · unfold capt at e
    rw [List.getElem?_append_left (by simpa using hj), List.getElem?_replicate, if_pos hj] at e
    cases e
  · rw [List.getElem?_set_ne (by omega), List.getElem?_set_ne (by omega)]; exact e

section
variable {te : TE} {t : Nat} {ix : List Nat} {σ : St} {H1 : Hp} {Q : VK} {D : Addr}
/-- over a range: the k-th element is f k -/
theorem comp_range {lo : Int} {n : Nat} (f : Nat → V) (hn : n ≤ sizeLine) (ht : 0 < t) (hD : H1 D = none)
    (hs : ∀ (k : Nat) (H2 : Hp) (Z : VK), k < n → Same H1 H2 → (∀ H3, Same H2 H3 → Z (f k) H3) → te ((capt t ix σ).set 0 (some (.int (lo + k)))) H2 Z)
    (hq : ∀ H', Same H1 H' → H' D = some (.lst ((List.range n).map f)) → Q (.ref D) H') :
    CompIt (Itr lo n) (gName 0) te (capt t ix σ) H1 Q D := by
  refine ⟨fun i m ys H2 => m = n - i ∧ i ≤ n ∧ ys = (List.range i).map f ∧ Same H1 H2, ⟨n, by simp, Nat.zero_le _, rfl, same_upd hD⟩, ?_⟩
  rintro i m ys H2 ⟨rfl, hi, rfl, sm⟩ hl
  by_cases hlt : i < n
  · refine .inr ⟨hlt, by simp; omega, fun x H' y => ?_⟩
    obtain ⟨e, y⟩ := y
    subst e y
    refine ⟨capt_set ht, hs i _ _ hlt sm fun H4 s4 => ⟨s4 _ _ hl, n - (i + 1), by omega, rfl, hlt, ?_, (sm.trans s4).upd hD⟩⟩
    rw [List.range_succ, List.map_append]; rfl
  · have e : i = n := by omega
    subst e
    exact .inl ⟨Nat.le_refl _, hq _ sm hl⟩
/-- over a list that stays: the element of x is f x -/
theorem comp_list {K : PySem.W.Frag} {a : Addr} {xs : List V} (f : V → V) (hn : xs.length ≤ sizeLine) (ht : 0 < t) (hD : H1 D = none) (ha : SqL K H1 a xs)
    (hs : ∀ (k : Nat) (x : V) (H2 : Hp) (Z : VK), xs[k]? = some x → Same H1 H2 → (∀ H3, Same H2 H3 → Z (f x) H3) → te ((capt t ix σ).set 0 (some x)) H2 Z)
    (hq : ∀ H', Same H1 H' → H' D = some (.lst (xs.map f)) → Q (.ref D) H') :
    CompIt (Itl K a) (gName 0) te (capt t ix σ) H1 Q D := by
  refine ⟨fun i m ys H2 => m = xs.length - i ∧ i ≤ xs.length ∧ ys = (xs.take i).map f ∧ Same H1 H2, ⟨xs.length, by simp, Nat.zero_le _, by simp, same_upd hD⟩, ?_⟩
  rintro i m ys H2 ⟨rfl, hi, rfl, sm⟩ hl
  have q := sm.seq ha
  by_cases hlt : i < xs.length
  · refine .inr ⟨⟨xs, xs[i], q, by simp [hlt]⟩, by simp; omega, fun x H' y => ?_⟩
    obtain ⟨e, y⟩ := y
    subst e
    have hx := y xs q
    refine ⟨capt_set ht, hs i x _ _ hx sm fun H4 s4 => ⟨s4 _ _ hl, xs.length - (i + 1), by omega, rfl, hlt, ?_, (sm.trans s4).upd hD⟩⟩
    rw [List.take_add_one, List.map_append, hx]; rfl
  · have e : i = xs.length := by omega
    subst e
    exact .inl ⟨⟨xs, q, Nat.le_refl _⟩, hq _ sm (by rw [hl]; simp)⟩
/-- over a tuple that stays -/
theorem comp_tup {K : PySem.W.Frag} {a : Addr} {xs : List V} (f : V → V) (hn : xs.length ≤ sizeLine) (ht : 0 < t) (hD : H1 D = none) (ha : SqT K H1 a xs)
    (hs : ∀ (k : Nat) (x : V) (H2 : Hp) (Z : VK), xs[k]? = some x → Same H1 H2 → (∀ H3, Same H2 H3 → Z (f x) H3) → te ((capt t ix σ).set 0 (some x)) H2 Z)
    (hq : ∀ H', Same H1 H' → H' D = some (.lst (xs.map f)) → Q (.ref D) H') :
    CompIt (Itt K a) (gName 0) te (capt t ix σ) H1 Q D := by
  refine ⟨fun i m ys H2 => m = xs.length - i ∧ i ≤ xs.length ∧ ys = (xs.take i).map f ∧ Same H1 H2, ⟨xs.length, by simp, Nat.zero_le _, by simp, same_upd hD⟩, ?_⟩
  rintro i m ys H2 ⟨rfl, hi, rfl, sm⟩ hl
  have q := sm.sqT ha
  by_cases hlt : i < xs.length
  · refine .inr ⟨⟨xs, xs[i], q, by simp [hlt]⟩, by simp; omega, fun x H' y => ?_⟩
    obtain ⟨e, y⟩ := y
    subst e
    have hx := y xs q
    refine ⟨capt_set ht, hs i x _ _ hx sm fun H4 s4 => ⟨s4 _ _ hl, xs.length - (i + 1), by omega, rfl, hlt, ?_, (sm.trans s4).upd hD⟩⟩
    rw [List.take_add_one, List.map_append, hx]; rfl
  · have e : i = xs.length := by omega
    subst e
    exact .inl ⟨⟨xs, q, Nat.le_refl _⟩, hq _ sm (by rw [hl]; simp)⟩
end
end L2

end
noncomputable section
namespace L2
open PySem PySem.Spec PyProof.Rows

/-! ### several records of ours have turned; one new thing is tracked -/
section
variable {X : Cx} {pins : List (Addr × Obj)} {σ : St} {H : Hp} {s : Shared} {h' : Heap} {ch : List Addr}
theorem Inv.turnedL {t' : Nat} (I : Inv X pins σ H s) (k : ∀ b o, b ∉ ch → s.heap.get? b = some o → h'.get? b = some o) (hf : ∀ b ∈ ch, FpOk X pins H b) : Inv X pins σ H { s with heap := h', toks := t' } := by
  have nit : ∀ b u, H b = some u → b ∉ ch := fun b u e z => by rw [(hf b z).1] at e; cases e
  refine I.step (g' := s.gens) (d' := s.drawn) (ch := ch) (fun b hb => ⟨(hf b hb).2.2.2.1, (hf b hb).2.1, (hf b hb).2.2.2.2.1, (hf b hb).2.2.2.2.2⟩) (fun b o _ _ hc e _ => k b o hc e) (fun b o _ _ hc e _ => ⟨o.slots, k b o hc e⟩) (fun _ _ _ _ n => n)
    (fun b o hc e => ⟨o, k b o hc e⟩) (fun _ _ e => e) (fun _ _ _ e => e) (fun b ps e => ⟨#[], by rw [e]; simp⟩) (fun m hm => ?_) (fun b u e => ?_) I.bare
  · obtain ⟨o, es, ep, ho, r⟩ := hm
    exact ⟨o, es, ep, k _ o (fun z => (hf _ z).2.1 rfl) ho, r⟩
  · refine (I.hok b u e).stay (fun c v hc q => k c v ?_ q) (fun _ q => q) fun _ _ q => q
    rcases hc with z | z
    · rw [z]; exact nit b u e
    · exact nit c _ z
theorem Inv.turnedNew {t' : Nat} {a : Addr} {ob : HO} (I : Inv X pins σ H s) (k : ∀ b o, b ∉ ch → s.heap.get? b = some o → h'.get? b = some o) (hf : ∀ b ∈ ch, FpOk X pins H b) (ha : s.heap.objs.size ≤ a) (new : ObjOk X.prog X.w (upd H a ob) h' a ob) :
    Inv X pins σ (upd H a ob) { s with heap := h', toks := t' } := by
  have hn : H a = none := I.hok.fresh ha
  have nit : ∀ b u, H b = some u → b ∉ ch := fun b u e z => by rw [(hf b z).1] at e; cases e
  refine I.step (g' := s.gens) (d' := s.drawn) (ch := ch) (fun b hb => ⟨(hf b hb).2.2.2.1, (hf b hb).2.1, (hf b hb).2.2.2.2.1, (hf b hb).2.2.2.2.2⟩) (fun b o _ _ hc e _ => k b o hc e) (fun b o _ _ hc e _ => ⟨o.slots, k b o hc e⟩)
    (fun b o _ e n => by rw [upd_ne (Nat.ne_of_lt (Nat.lt_of_lt_of_le (Heap.lt_size e) ha))]; exact n)
    (fun b o hc e => ⟨o, k b o hc e⟩) (fun b xs e => by rw [upd_ne (ne_of_none e hn)]; exact e) (fun b o u e => by rw [upd_ne (ne_of_none e hn)]; exact e) (fun b ps e => ⟨#[], by rw [upd_ne (ne_of_none e hn), e]; simp⟩) (fun m hm => ?_) (fun b u e => ?_) I.bare
  · obtain ⟨o, es, ep, ho, r⟩ := hm
    exact ⟨o, es, ep, k _ o (fun z => (hf _ z).2.1 rfl) ho, r⟩
  · by_cases hb : b = a
    · subst hb; rw [upd_same] at e; cases e; exact new
    · rw [upd_ne hb] at e
      refine (I.hok b u e).stay (fun c v hc q => k c v ?_ q) (fun c q => by rw [upd_ne (ne_of_none q hn)]; exact q) fun c xs q => by rw [upd_ne (ne_of_none q hn)]; exact q
      rcases hc with z | z
      · rw [z]; exact nit b u e
      · exact nit c _ z
end

/-! ### zip of two lists -/
def Itz (K : PySem.W.Frag) (a b : Addr) : It :=
  ⟨fun i H => ∃ xs ys x y, SqL K H a xs ∧ SqL K H b ys ∧ xs[i]? = some x ∧ ys[i]? = some y,
   fun i H v H' => ∃ T x y, v = .ref T ∧ H T = none ∧ H' = upd H T (.tup [x, y]) ∧ (∀ xs, SqL K H a xs → xs[i]? = some x) ∧ ∀ ys, SqL K H b ys → ys[i]? = some y,
   fun i H => ∃ xs ys, SqL K H a xs ∧ SqL K H b ys ∧ (xs.length ≤ i ∨ ys.length ≤ i)⟩
theorem tyne {a b : String} (h : a ≠ b) : Value.type a ≠ Value.type b := fun e => h (by injection e)
theorem zip_apart {h : Heap} {z TI TO i1 i2 l1 l2 : Addr} {f0 a b : Value} {k1 k2 : Nat} {xs ys : Array Value} (hz : IsZip h z TI TO f0) (hTI : IsPair h TI (.ref i1) (.ref i2)) (hTO : IsPair h TO a b) (h1 : h.IsListIter i1 l1 k1) (h2 : h.IsListIter i2 l2 k2)
    (p1 : h.IsList l1 xs) (p2 : h.IsList l2 ys) (n1 : TI ≠ TO) (n2 : i1 ≠ i2) : ZipApart z TI TO i1 i2 l1 l2 := by
  have cls : ∀ {b c : Addr} {o u : Obj}, h.get? b = some o → h.get? c = some u → o.cls ≠ u.cls → b ≠ c := fun {b c o u} e e' d z => by
    subst z; rw [e] at e'; cases e'; exact d rfl
  obtain ⟨o1, e1, c1, _⟩ := h1
  obtain ⟨o2, e2, c2, _⟩ := h2
  obtain ⟨q1, f1, d1, _⟩ := p1
  obtain ⟨q2, f2, d2, _⟩ := p2
  have ne1 : Value.type "tuple" ≠ Value.type "zip" := tyne (by decide)
  have ne2 : Value.type "list_iterator" ≠ Value.type "zip" := tyne (by decide)
  have ne3 : Value.type "tuple" ≠ Value.type "list_iterator" := tyne (by decide)
  have ne4 : Value.type "list" ≠ Value.type "zip" := tyne (by decide)
  have ne5 : Value.type "list" ≠ Value.type "tuple" := tyne (by decide)
  have ne6 : Value.type "list" ≠ Value.type "list_iterator" := tyne (by decide)
  refine ⟨cls hTI hz ne1, cls hTO hz ne1, cls e1 hz (by rw [c1]; exact ne2), cls e2 hz (by rw [c2]; exact ne2), n1, cls hTI e1 (by rw [c1]; exact ne3), cls hTI e2 (by rw [c2]; exact ne3), cls hTO e1 (by rw [c1]; exact ne3), cls hTO e2 (by rw [c2]; exact ne3), n2,
    cls f1 hz (by rw [d1]; exact ne4), cls f1 hTO (by rw [d1]; exact ne5), cls f1 e1 (by rw [d1, c1]; exact ne6), cls f1 e2 (by rw [d1, c2]; exact ne6), cls f2 hz (by rw [d2]; exact ne4), cls f2 hTO (by rw [d2]; exact ne5), cls f2 e1 (by rw [d2, c1]; exact ne6), cls f2 e2 (by rw [d2, c2]; exact ne6)⟩
theorem turn_zip {P : Program} {w : World} {K : PySem.W.Frag} {elts : List Expr} {kt : Nat} {pt : Pos} (a b z TI TO i1 i2 : Addr) (n1 : TI ≠ TO) (n2 : i1 ≠ i2) : Turn P w K (.Tuple elts kt pt) (Itz K a b) [z, TI, TO, i1, i2] z
    (fun i h => IsZip h z TI TO .none ∧ IsPair h TI (.ref i1) (.ref i2) ∧ (∃ u v, IsPair h TO u v) ∧ h.IsListIter i1 a i ∧ h.IsListIter i2 b i) where
  mem := by simp
  obj := fun i h st c hc => by
    obtain ⟨hz, hTI, ⟨u, v, hTO⟩, ⟨o1, e1, _, d1⟩, ⟨o2, e2, _, d2⟩⟩ := st
    simp only [List.mem_cons, List.not_mem_nil, or_false] at hc
    rcases hc with rfl | rfl | rfl | rfl | rfl
    · exact ⟨_, hz, fun v z => by cases z⟩
    · exact ⟨_, hTI, fun v z => by cases z⟩
    · exact ⟨_, hTO, fun v z => by cases z⟩
    · exact ⟨_, e1, fun v z => by rw [d1] at z; cases z⟩
    · exact ⟨_, e2, fun v z => by rw [d2] at z; cases z⟩
  keep := fun i h h' st k => by
    obtain ⟨hz, hTI, ⟨u, v, hTO⟩, h1, h2⟩ := st
    exact ⟨k z (by simp) _ hz, k TI (by simp) _ hTI, ⟨u, v, k TO (by simp) _ hTO⟩, h1.at fun o e => k i1 (by simp) o e, h2.at fun o e => k i2 (by simp) o e⟩
  item := by
    intro X hP hw hK hc i pins s σ H E I hf st hg
    subst hP hw hK
    obtain ⟨hz, hTI, ⟨u, v, hTO⟩, h1, h2⟩ := st
    obtain ⟨xs, ys, x, y, hq1, hq2, hx, hy⟩ := hg
    obtain ⟨its1, r1, p1, _⟩ := I.list hq1
    obtain ⟨its2, r2, p2, _⟩ := I.list hq2
    obtain ⟨u1, e1, ru1⟩ := r1.get hx
    obtain ⟨u2, e2, ru2⟩ := r2.get hy
    have D := zip_apart hz hTI hTO h1 h2 p1.isList p2.isList n1 n2
    refine wpAny_pyNext_zip_item D hz hTI hTO h1 h2 p1.isList p2.isList (x := u1) (y := u2) (by simpa using e1) (by simpa using e2) fun h' b1 b2 b3 b4 b5 b6 hk => ?_
    refine ⟨_, rfl, wpAny_letOwnedTupleGo_zip b1 fun h'' hz'' hs'' => ?_⟩
    have zT : s.heap.objs.size ≠ z := Nat.ne_of_gt (Heap.lt_size hz)
    have T2 : h''.get? s.heap.objs.size = some { cls := .type "tuple", data := .seq #[u1, u2] } := hs''.extBut _ _ zT b5
    have kk : ∀ c o, c ∉ [z, TI, TO, i1, i2] → s.heap.get? c = some o → h''.get? c = some o := fun c o hc e =>
      hs''.extBut _ _ (fun q => hc (by simp [q])) (hk c o (fun q => hc (by simp [q])) (fun q => hc (by simp [q])) (fun q => hc (by simp [q])) (fun q => hc (by simp [q])) e)
    have I' : Inv X pins σ (upd H s.heap.objs.size (.tup [x, y])) { s with heap := h'' } := I.turnedNew (t' := s.toks) (ch := [z, TI, TO, i1, i2]) kk hf (Nat.le_refl _)
      ⟨by show 2 ≤ sizeLine; decide, [u1, u2], .cons ru1 (.cons ru2 .nil), _, T2, rfl, _, rfl⟩
    have fT : H s.heap.objs.size = none := I.hok.fresh (Nat.le_refl _)
    refine ⟨.ref s.heap.objs.size, _, I', rfl, ⟨_, x, y, rfl, fT, rfl, fun xs' q => by rw [I.list_inj q hq1]; exact hx, fun ys' q => by rw [I.list_inj q hq2]; exact hy⟩,
      ⟨hz'', hs''.extBut _ _ D.TIz (hk _ _ D.TIz D.TITO D.TIi1 D.TIi2 hTI), ⟨_, _, hs''.extBut _ _ D.TOz b2⟩, b3.extBut hs''.extBut D.i1z, b4.extBut hs''.extBut D.i2z⟩, fun c hc' => ?_⟩
    rw [upd_ne (fun q => ?_)]
    · exact (hf c hc').1
    · subst q
      obtain ⟨o1, g1, _⟩ := h1
      obtain ⟨o2, g2, _⟩ := h2
      simp only [List.mem_cons, List.not_mem_nil, or_false] at hc'
      rcases hc' with q | q | q | q | q
      · exact absurd (Heap.lt_size hz) (by rw [← q]; exact Nat.lt_irrefl _)
      · exact absurd (Heap.lt_size hTI) (by rw [← q]; exact Nat.lt_irrefl _)
      · exact absurd (Heap.lt_size hTO) (by rw [← q]; exact Nat.lt_irrefl _)
      · exact absurd (Heap.lt_size g1) (by rw [← q]; exact Nat.lt_irrefl _)
      · exact absurd (Heap.lt_size g2) (by rw [← q]; exact Nat.lt_irrefl _)
  done := by
    intro X hP hw hK hc i pins s σ H E I hf st hg
    subst hP hw hK
    obtain ⟨hz, hTI, ⟨u, v, hTO⟩, h1, h2⟩ := st
    obtain ⟨xs, ys, hq1, hq2, hend⟩ := hg
    obtain ⟨its1, r1, p1, _⟩ := I.list hq1
    obtain ⟨its2, r2, p2, _⟩ := I.list hq2
    have D := zip_apart hz hTI hTO h1 h2 p1.isList p2.isList n1 n2
    have l1 := r1.length
    have l2 := r2.length
    refine wpAny_pyNext_zip_end (I.ok.hd hc) D hz hTI hTO h1 h2 p1.isList p2.isList ?_ fun h' hk => ⟨rfl, I.turnedL (t' := s.toks) (ch := [z, TI, TO, i1, i2]) (fun c o hc e => hk c o (fun q => hc (by simp [q])) (fun q => hc (by simp [q])) (fun q => hc (by simp [q])) (fun q => hc (by simp [q])) e) hf⟩
    rcases hend with q | q
    · exact .inl (by simp; omega)
    · exact .inr (by simp; omega)
  self := fun _ _ _ _ _ st h => wpAny_pyIter_zip st.1 h
def iZip (K : PySem.W.Frag) (ta : TA) : TI := fun σ H R => ta σ H fun vs H1 => ∃ a b, vs = [.ref a, .ref b] ∧ (∃ xs, SqL K H1 a xs) ∧ (∃ ys, SqL K H1 b ys) ∧ R (Itz K a b) H1
theorem boot_zip : bootBuiltins "zip" = some (.type "zip") := by decide +kernel
theorem pi_zip {X : Cx} {elts : List Expr} {kt : Nat} {pt p pos : Pos} {a b : Expr} {ta : TA} (hg : Gl X "zip") (hm : X.mg "zip" = none) (ha : PA X [a, b] ta)
    (hs : starEach [a, b] X.env = [(false, eval a X.env), (false, eval b X.env)] := by rfl) (hs2 : starEach [b] X.env = [(false, eval b X.env)] := by rfl) :
    PI X (.Tuple elts kt pt) (.Call (.Name "zip" p) [a, b] [] pos) (iZip X.K ta) := by
  intro pins s σ H R I h
  refine Call_ (ld_blt I hg hm boot_zip (PyProof.Rows.callWith_type1 (thn (ha pos pins s σ H _ I h) fun us s1 ⟨vs, H1, I1, r1, q1⟩ => ?_) (by rw [hs, hs2]) (by rw [hs2]; rfl)))
  obtain ⟨a, b, e, ⟨xs, hx⟩, ⟨ys, hy⟩, q⟩ := q1
  subst e
  obtain ⟨u, v, rfl, ru, rv⟩ := r1.two
  cases ru
  cases rv
  obtain ⟨its1, _, p1, _⟩ := I1.list hx
  obtain ⟨its2, _, p2, _⟩ := I1.list hy
  refine call_zip_2 p1.isList p2.isList fun h' b1 b2 b3 b4 b5 b6 hk => ?_
  refine wpAny_pyIter_zip b1 ?_
  have I2 : Inv X pins σ H1 { s1 with heap := h' } := I1.kept (t' := s1.toks) hk
  refine ⟨_, _, _, _, H1, rfl, I2, turn_zip a b (s1.heap.objs.size + 4) (s1.heap.objs.size + 2) (s1.heap.objs.size + 3) s1.heap.objs.size (s1.heap.objs.size + 1) (Nat.ne_of_lt (Nat.lt_succ_self _)) (Nat.ne_of_lt (Nat.lt_succ_self _)), ⟨b1, b2, ⟨_, _, b3⟩, b4, b5⟩, fun c hc => ?_, q⟩
  have hle : s1.heap.objs.size ≤ c := by
    simp only [List.mem_cons, List.not_mem_nil, or_false] at hc
    rcases hc with rfl | rfl | rfl | rfl | rfl
    · exact Nat.le_add_right _ _
    · exact Nat.le_add_right _ _
    · exact Nat.le_add_right _ _
    · exact Nat.le_refl _
    · exact Nat.le_add_right _ _
  exact I1.fpOk hle (I1.hok.fresh hle)
theorem comp_zip {te : TE} {t : Nat} {ix : List Nat} {σ : St} {H1 : Hp} {Q : VK} {D : Addr} {K : PySem.W.Frag} {a b : Addr} {xs ys : List V} (f : V → V → V) (hn : xs.length ≤ sizeLine) (ht : 1 < t) (hD : H1 D = none) (ha : SqL K H1 a xs) (hb : SqL K H1 b ys)
    (hs : ∀ (k : Nat) (x y : V) (H2 : Hp) (Z : VK), xs[k]? = some x → ys[k]? = some y → Same H1 H2 → (∀ H3, Same H2 H3 → Z (f x y) H3) → te (((capt t ix σ).set 0 (some x)).set 1 (some y)) H2 Z)
    (hq : ∀ H', Same H1 H' → H' D = some (.lst (List.zipWith f xs ys)) → Q (.ref D) H') :
    CompIt (Itz K a b) (gTup K 2 (gCons (gName 0) (gCons (gName 1) gNil))) te (capt t ix σ) H1 Q D := by
  refine ⟨fun i m zs H2 => m = min xs.length ys.length - i ∧ i ≤ min xs.length ys.length ∧ zs = (List.zipWith f xs ys).take i ∧ Same H1 H2, ⟨_, rfl, Nat.zero_le _, by simp, same_upd hD⟩, ?_⟩
  rintro i m zs H2 ⟨rfl, hi, rfl, sm⟩ hl
  have qa := sm.seq ha
  have qb := sm.seq hb
  by_cases hlt : i < min xs.length ys.length
  · have hx : xs[i]? = some (xs[i]'(by omega)) := by rw [List.getElem?_eq_getElem]
    have hy : ys[i]? = some (ys[i]'(by omega)) := by rw [List.getElem?_eq_getElem]
    refine .inr ⟨⟨xs, ys, _, _, qa, qb, hx, hy⟩, by simp; omega, fun v H' y => ?_⟩
    obtain ⟨T, x, y, e1, e2, e3, y1, y2⟩ := y
    subst e1 e3
    have hx' := y1 xs qa
    have hy' := y2 ys qb
    refine ⟨T, [x, y], rfl, SqT.of upd_same, rfl, x, [y], rfl, y, [], rfl, rfl, ?_⟩
    refine ⟨capt_set2 (by omega) ht, hs i x y _ _ hx' hy' (sm.upd (sm.free e2)) fun H4 s4 => ⟨s4 _ _ ?_, min xs.length ys.length - (i + 1), by omega, rfl, hlt, ?_, ?_⟩⟩
    · rw [upd_ne (ne_of_none hl e2)]; exact hl
    · rw [List.take_add_one, List.getElem?_zipWith, hx', hy']; rfl
    · exact ((sm.upd (sm.free e2)).trans s4).upd hD
  · have e : i = min xs.length ys.length := by omega
    subst e
    refine .inl ⟨⟨xs, ys, qa, qb, by omega⟩, hq _ sm ?_⟩
    rw [hl, List.take_of_length_le (by simp)]

/-! ### sum, all, any, max, min of a list -/
theorem preSum_list (ns : List Int) : ∀ k, preSum (fun i => ns.getD i 0) k = (ns.take k).sum
  | 0 => by simp [preSum]
  | k + 1 => by rw [preSum, preSum_list ns k, PySem.sum_take_succ]
theorem vals_int_at {ns : List Int} {us : List Value} (r : Vals (ns.map V.int) us) {i : Nat} {v : Value} (e : us[i]? = some v) : ∃ t, v = .int (ns.getD i 0) t := by
  have hl := r.length
  rw [List.length_map] at hl
  have hi : i < ns.length := by
    have := (List.getElem?_eq_some_iff.mp e).1
    omega
  obtain ⟨u, e', ru⟩ := r.get (i := i) (x := .int (ns[i])) (by simp [hi])
  rw [e] at e'; cases e'
  obtain ⟨t, rfl⟩ := ru
  exact ⟨t, by simp [List.getD, hi]⟩
theorem vals_bool_at {bs : List Bool} {us : List Value} (r : Vals (bs.map V.bl) us) {i : Nat} {v : Value} (e : us[i]? = some v) : v = .bool (bs.getD i false) := by
  have hl := r.length
  rw [List.length_map] at hl
  have hi : i < bs.length := by
    have := (List.getElem?_eq_some_iff.mp e).1
    omega
  obtain ⟨u, e', ru⟩ := r.get (i := i) (x := .bl (bs[i])) (by simp [hi])
  rw [e] at e'; cases e'
  have ru' : v = Value.bool bs[i] := ru
  rw [ru']; simp [List.getD, hi]
theorem range_all (bs : List Bool) : (List.range bs.length).all (fun i => bs.getD i false) = bs.all id := by
  rw [Bool.eq_iff_iff, List.all_eq_true, List.all_eq_true]
  constructor
  · intro h b hb
    obtain ⟨i, hi, e⟩ := List.mem_iff_getElem.mp hb
    have := h i (List.mem_range.mpr hi)
    simp [List.getD, hi, e] at this
    exact this
  · intro h i hi
    have hi' := List.mem_range.mp hi
    have := h bs[i] (List.getElem_mem hi')
    simp [List.getD, hi']
    exact this
theorem range_any (bs : List Bool) : (List.range bs.length).any (fun i => bs.getD i false) = bs.any id := by
  rw [Bool.eq_iff_iff, List.any_eq_true, List.any_eq_true]
  constructor
  · rintro ⟨i, hi, e⟩
    have hi' := List.mem_range.mp hi
    exact ⟨bs[i], List.getElem_mem hi', by simpa [List.getD, hi'] using e⟩
  · rintro ⟨b, hb, e⟩
    obtain ⟨i, hi, e'⟩ := List.mem_iff_getElem.mp hb
    exact ⟨i, List.mem_range.mpr hi, by simp [List.getD, hi, e']; exact e⟩
section
variable {X : Cx}
/-- the iterator that a built-in makes of a list -/
theorem list_walk {pins : List (Addr × Obj)} {σ : St} {H : Hp} {s : Shared} {a : Addr} {xs : List V} (hc : X.calm = true) (I : Inv X pins σ H s) (hq : SqL X.K H a xs) :
    ∃ its : List Value, Vals xs its ∧ its.length = xs.length ∧ s.heap.IsList a its.toArray ∧ a ≠ s.heap.objs.size ∧
      Walks X.prog X.w X.A.in1 s.heap.objs.size [s.heap.objs.size, a] [s.heap.objs.size] its.toArray.size (fun i v => its.toArray[i]? = some v) (fun i h => h.IsListIter s.heap.objs.size a i ∧ h.IsList a its.toArray) ∧
      (let h₂ := s.heap.push { cls := .type "list_iterator", data := .fields #[.ref a, .int 0 0] }
       (h₂.IsListIter s.heap.objs.size a 0 ∧ h₂.IsList a its.toArray) ∧ (∀ b ∈ [s.heap.objs.size, a], b < h₂.objs.size) ∧
       ∀ h' tk, (∀ b o, b ∉ [s.heap.objs.size] → h₂.get? b = some o → h'.get? b = some o) → Inv X pins σ H { s with heap := h', toks := tk }) := by
  obtain ⟨its, r, p, _⟩ := I.list hq
  obtain ⟨o, n, eo, hcl, hdt, hsq⟩ := id p
  have hlt : a < s.heap.objs.size := Heap.lt_size eo
  refine ⟨its, r, r.length.symm, p.isList, Nat.ne_of_lt hlt, Walks.list (A := X.A.in1) (I.ok.hd hc) _ a (Nat.ne_of_lt hlt) its.toArray, ⟨⟨_, Heap.get?_push_size _ rfl, rfl, rfl⟩, p.isList.push _⟩, fun b hb => ?_, fun h' tk k => ?_⟩
  · rw [Heap.size_push]
    simp only [List.mem_cons, List.not_mem_nil, or_false] at hb
    rcases hb with rfl | rfl
    · exact Nat.lt_succ_self _
    · exact Nat.lt_succ_of_lt hlt
  · exact I.kept fun b u e => k b u (by simp; exact Nat.ne_of_lt (Heap.lt_size e)) (Heap.get?_push_of_some _ e)
theorem call_sumL (hc : X.calm = true) : CallR X (.builtin "sum") (fun xs H Q => ∃ (a : Addr) (ns : List Int), xs = [.ref a] ∧ SqL X.K H a (ns.map V.int) ∧ Q (.int ns.sum) H) := by
  intro pins s σ H xs us Q I r h
  obtain ⟨a, ns, rfl, hq, q⟩ := h
  obtain ⟨u, rfl, ru⟩ := r.one
  cases ru
  obtain ⟨its, rv, hl, p, hne, W, st, hfp, fin⟩ := list_walk hc I hq
  refine call_sum_walkG (wpAny_pyIter_list p ⟨_, _, _, _, _, _, fun i => ns.getD i 0, rfl, W, st, hfp, fun i v e => vals_int_at rv (by simpa using e), fun h' tk t' k => ⟨.int ns.sum, H, fin h' tk k, ⟨t', ?_⟩, q⟩⟩)
  rw [preSum_list, List.take_of_length_le (by rw [List.size_toArray, hl, List.length_map]; exact Nat.le_refl _)]
theorem call_allL (hc : X.calm = true) : CallR X (.builtin "all") (fun xs H Q => ∃ (a : Addr) (bs : List Bool), xs = [.ref a] ∧ SqL X.K H a (bs.map V.bl) ∧ Q (.bl (bs.all id)) H) := by
  intro pins s σ H xs us Q I r h
  obtain ⟨a, bs, rfl, hq, q⟩ := h
  obtain ⟨u, rfl, ru⟩ := r.one
  cases ru
  obtain ⟨its, rv, hl, p, hne, W, st, hfp, fin⟩ := list_walk hc I hq
  refine call_all_walk (wpAny_pyIter_list p ⟨_, _, _, _, _, _, fun i => bs.getD i false, rfl, W, st, fun i v s' Q' E' e hQ => ?_, fun h' tk k => ⟨.bl (bs.all id), H, fin h' tk k, ?_, q⟩⟩)
  · have ev := vals_bool_at rv (i := i) (v := v) (by simpa using e)
    rw [ev]
    exact wpAny_truthy_bool hQ
  · rw [List.size_toArray, hl, List.length_map, range_all]; rfl
theorem call_anyL (hc : X.calm = true) : CallR X (.builtin "any") (fun xs H Q => ∃ (a : Addr) (bs : List Bool), xs = [.ref a] ∧ SqL X.K H a (bs.map V.bl) ∧ Q (.bl (bs.any id)) H) := by
  intro pins s σ H xs us Q I r h
  obtain ⟨a, bs, rfl, hq, q⟩ := h
  obtain ⟨u, rfl, ru⟩ := r.one
  cases ru
  obtain ⟨its, rv, hl, p, hne, W, st, hfp, fin⟩ := list_walk hc I hq
  refine call_any_walk (wpAny_pyIter_list p ⟨_, _, _, _, _, _, fun i => bs.getD i false, rfl, W, st, fun i v s' Q' E' e hQ => ?_, fun h' tk k => ⟨.bl (bs.any id), H, fin h' tk k, ?_, q⟩⟩)
  · have ev := vals_bool_at rv (i := i) (v := v) (by simpa using e)
    rw [ev]
    exact wpAny_truthy_bool hQ
  · rw [List.size_toArray, hl, List.length_map, range_any]; rfl
theorem getD_mem {ns : List Int} {i : Nat} (h : i < ns.length) : ns.getD i 0 ∈ ns := by
  have : ns.getD i 0 = ns[i] := by simp [List.getD, h]
  rw [this]; exact List.getElem_mem h
theorem mem_getD {ns : List Int} {a : Int} (h : a ∈ ns) : ∃ i, i < ns.length ∧ ns.getD i 0 = a := by
  obtain ⟨i, hi, e⟩ := List.mem_iff_getElem.mp h
  exact ⟨i, hi, by simp [List.getD, hi, e]⟩
theorem call_maxL (hc : X.calm = true) : CallR X (.builtin "max") (fun xs H Q => ∃ (a : Addr) (ns : List Int), xs = [.ref a] ∧ SqL X.K H a (ns.map V.int) ∧ ns ≠ [] ∧ ∀ M, M ∈ ns → (∀ b ∈ ns, b ≤ M) → Q (.int M) H) := by
  intro pins s σ H xs us Q I r h
  obtain ⟨a, ns, rfl, hq, hne0, q⟩ := h
  obtain ⟨u, rfl, ru⟩ := r.one
  cases ru
  obtain ⟨its, rv, hl, p, hne, W, st, hfp, fin⟩ := list_walk hc I hq
  rw [List.length_map] at hl
  have hpos : 0 < ns.length := List.length_pos_iff.mpr hne0
  obtain ⟨b1, b2⟩ := argBest_gt (fun i => ns.getD i 0) (ns.length - 1)
  refine call_max_walk (wpAny_pyIter_list p ⟨_, _, _, _, _, _, fun i j => decide (ns.getD i 0 > ns.getD j 0), rfl, W, st, hfp, by rw [List.size_toArray, hl]; exact hpos, fun i j vi vj s' Q' E' ei ej hQ => ?_, fun v h' tk e k => ?_⟩)
  · obtain ⟨t1, rfl⟩ := vals_int_at rv (i := i) (v := vi) (by simpa using ei)
    obtain ⟨t2, rfl⟩ := vals_int_at rv (i := j) (v := vj) (by simpa using ej)
    exact (PyProof.Rows.gt_int hQ : wpAny _ _ (compareOp .Gt _ _) _ _ _)
  · rw [List.size_toArray, hl, List.getElem?_toArray] at e
    obtain ⟨t1, rfl⟩ := vals_int_at rv e
    refine ⟨.int _, H, fin h' tk k, ⟨t1, rfl⟩, q _ (getD_mem (by omega)) fun b hb => ?_⟩
    obtain ⟨i, hi, e'⟩ := mem_getD hb
    rw [← e']
    exact b2 i (by omega)
theorem call_minL (hc : X.calm = true) : CallR X (.builtin "min") (fun xs H Q => ∃ (a : Addr) (ns : List Int), xs = [.ref a] ∧ SqL X.K H a (ns.map V.int) ∧ ns ≠ [] ∧ ∀ M, M ∈ ns → (∀ b ∈ ns, M ≤ b) → Q (.int M) H) := by
  intro pins s σ H xs us Q I r h
  obtain ⟨a, ns, rfl, hq, hne0, q⟩ := h
  obtain ⟨u, rfl, ru⟩ := r.one
  cases ru
  obtain ⟨its, rv, hl, p, hne, W, st, hfp, fin⟩ := list_walk hc I hq
  rw [List.length_map] at hl
  have hpos : 0 < ns.length := List.length_pos_iff.mpr hne0
  obtain ⟨b1, b2⟩ := argBest_lt (fun i => ns.getD i 0) (ns.length - 1)
  refine call_min_walk (wpAny_pyIter_list p ⟨_, _, _, _, _, _, fun i j => decide (ns.getD i 0 < ns.getD j 0), rfl, W, st, hfp, by rw [List.size_toArray, hl]; exact hpos, fun i j vi vj s' Q' E' ei ej hQ => ?_, fun v h' tk e k => ?_⟩)
  · obtain ⟨t1, rfl⟩ := vals_int_at rv (i := i) (v := vi) (by simpa using ei)
    obtain ⟨t2, rfl⟩ := vals_int_at rv (i := j) (v := vj) (by simpa using ej)
    exact (PyProof.Rows.lt_int hQ : wpAny _ _ (compareOp .Lt _ _) _ _ _)
  · rw [List.size_toArray, hl, List.getElem?_toArray] at e
    obtain ⟨t1, rfl⟩ := vals_int_at rv e
    refine ⟨.int _, H, fin h' tk k, ⟨t1, rfl⟩, q _ (getD_mem (by omega)) fun b hb => ?_⟩
    obtain ⟨i, hi, e'⟩ := mem_getD hb
    rw [← e']
    exact b2 i (by omega)

/-! ### == and != of two lists of flat values -/
def eqVs : List V → List V → Bool
  | [], [] => true
  | x :: xs, y :: ys => eqV x y && eqVs xs ys
  | _, _ => false
theorem eqVs_len : ∀ {xs ys : List V}, xs.length ≠ ys.length → eqVs xs ys = false
  | [], [], h => absurd rfl h
  | [], _ :: _, _ => rfl
  | _ :: _, [], _ => rfl
  | x :: xs, y :: ys, h => by
    show (eqV x y && eqVs xs ys) = false
    rw [eqVs_len (xs := xs) (ys := ys) (fun e => h (by simp [e])), Bool.and_false]
theorem eqVs_all : ∀ {xs ys : List V}, xs.length = ys.length → eqVs xs ys = (List.range xs.length).all fun i => match xs[i]?, ys[i]? with | some x, some y => eqV x y | _, _ => false
  | [], [], _ => rfl
  | [], _ :: _, h => by simp at h
  | _ :: _, [], h => by simp at h
  | x :: xs, y :: ys, h => by
    show (eqV x y && eqVs xs ys) = _
    rw [eqVs_all (xs := xs) (ys := ys) (by simpa using h), List.length_cons, List.range_succ_eq_map, List.all_cons, List.all_map]
    rfl
theorem eqVs_ints (ns ms : List Int) : eqVs (ns.map V.int) (ms.map V.int) = decide (ns = ms) := by
  induction ns generalizing ms with
  | nil => cases ms <;> simp [eqVs]
  | cons n ns ih =>
    cases ms with
    | nil => simp [eqVs]
    | cons m ms =>
      show (eqV (.int n) (.int m) && eqVs (ns.map V.int) (ms.map V.int)) = _
      rw [ih]
      show ((n == m) && decide (ns = ms)) = _
      by_cases h : n = m <;> simp [h]
theorem eqVs_bools (ns ms : List Bool) : eqVs (ns.map V.bl) (ms.map V.bl) = decide (ns = ms) := by
  induction ns generalizing ms with
  | nil => cases ms <;> simp [eqVs]
  | cons n ns ih =>
    cases ms with
    | nil => simp [eqVs]
    | cons m ms =>
      show (eqV (.bl n) (.bl m) && eqVs (ns.map V.bl) (ms.map V.bl)) = _
      rw [ih]
      show ((n == m) && decide (ns = ms)) = _
      by_cases h : n = m <;> simp [h]
def rEqL (K : PySem.W.Frag) (neg : Bool) : R2 := fun x y H Q => ∃ a b xs ys, x = .ref a ∧ y = .ref b ∧ SqL K H a xs ∧ SqL K H b ys ∧ xs.all flatV = true ∧ ys.all flatV = true ∧ Q (.bl (neg ^^ eqVs xs ys)) H
theorem op_eqL (hu : X.A.units < cLine) : OpR X (compareOp .Eq) (rEqL X.K false) := by
  intro pins s σ H x y v u Q I rx ry h
  obtain ⟨a, b, xs, ys, rfl, rfl, ha, hb, fx, fy, q⟩ := h
  cases rx
  cases ry
  obtain ⟨its, r1, p1, _⟩ := I.list ha
  obtain ⟨its2, r2, p2, _⟩ := I.list hb
  have l1 := r1.length
  have l2 := r2.length
  rw [Bool.false_xor] at q
  by_cases hl : xs.length = ys.length
  · refine SeqAt.eq_listAt (e := fun i => match xs[i]?, ys[i]? with | some x, some y => eqV x y | _, _ => false) p1.isList p2.isList (by simp; omega) hu (fun j h1 h2 => ?_) ?_
    · rw [List.size_toArray] at h1 h2
      have ex : xs[j]? = some (xs[j]'(by omega)) := by rw [List.getElem?_eq_getElem]
      have ey : ys[j]? = some (ys[j]'(by omega)) := by rw [List.getElem?_eq_getElem]
      obtain ⟨u1, e1, ru1⟩ := r1.get ex
      obtain ⟨u2, e2, ru2⟩ := r2.get ey
      have q1 : its.toArray[j] = u1 := by
        have := (List.getElem?_eq_some_iff.mp e1).2
        simpa using this
      have q2 : its2.toArray[j] = u2 := by
        have := (List.getElem?_eq_some_iff.mp e2).2
        simpa using this
      rw [q1, q2]
      simp only [ex, ey]
      exact eqAt_V ru1 ru2 (List.all_eq_true.mp fx _ (List.getElem_mem _)) (List.all_eq_true.mp fy _ (List.getElem_mem _))
    · rw [eqVs_all hl] at q
      rw [List.size_toArray, ← l1]
      exact ⟨.bl _, H, I, rfl, q⟩
  · rw [eqVs_len hl] at q
    exact SeqAt.eq_list_lengthsAt p1.isList p2.isList (by simp; omega) hu ⟨.bl _, H, I, rfl, q⟩
theorem op_neL (hu : X.A.units < cLine) : OpR X (compareOp .NotEq) (rEqL X.K true) := by
  intro pins s σ H x y v u Q I rx ry h
  obtain ⟨a, b, xs, ys, rfl, rfl, ha, hb, fx, fy, q⟩ := h
  cases rx
  cases ry
  obtain ⟨its, r1, p1, _⟩ := I.list ha
  obtain ⟨its2, r2, p2, _⟩ := I.list hb
  have l1 := r1.length
  have l2 := r2.length
  rw [Bool.true_xor] at q
  by_cases hl : xs.length = ys.length
  · refine SeqAt.RcNeAt.lists (e := fun i => match xs[i]?, ys[i]? with | some x, some y => eqV x y | _, _ => false) p1.isList p2.isList (by simp; omega) hu (fun j h1 h2 => ?_) _ _ _ _ ?_
    · rw [List.size_toArray] at h1 h2
      have ex : xs[j]? = some (xs[j]'(by omega)) := by rw [List.getElem?_eq_getElem]
      have ey : ys[j]? = some (ys[j]'(by omega)) := by rw [List.getElem?_eq_getElem]
      obtain ⟨u1, e1, ru1⟩ := r1.get ex
      obtain ⟨u2, e2, ru2⟩ := r2.get ey
      have q1 : its.toArray[j] = u1 := by
        have := (List.getElem?_eq_some_iff.mp e1).2
        simpa using this
      have q2 : its2.toArray[j] = u2 := by
        have := (List.getElem?_eq_some_iff.mp e2).2
        simpa using this
      rw [q1, q2]
      simp only [ex, ey]
      exact eqAt_V ru1 ru2 (List.all_eq_true.mp fx _ (List.getElem_mem _)) (List.all_eq_true.mp fy _ (List.getElem_mem _))
    · rw [eqVs_all hl] at q
      rw [List.size_toArray, ← l1]
      exact ⟨.bl _, H, I, rfl, q⟩
  · rw [eqVs_len hl] at q
    exact SeqAt.RcNeAt.lists_lengths p1.isList p2.isList (by simp; omega) hu _ _ _ _ ⟨.bl _, H, I, rfl, q⟩

/-! ### is, is not of bools -/
theorem op_isB : OpR X (compareOp .Is) (fun x y H Q => ∃ c d, x = .bl c ∧ y = .bl d ∧ Q (.bl (c == d)) H) := by
  intro pins s σ H x y v u Q I rx ry h
  obtain ⟨c, d, rfl, rfl, q⟩ := h
  cases rx
  cases ry
  exact is_bool ⟨.bl _, H, I, rfl, q⟩
theorem op_isnotB : OpR X (compareOp .IsNot) (fun x y H Q => ∃ c d, x = .bl c ∧ y = .bl d ∧ Q (.bl (c != d)) H) := by
  intro pins s σ H x y v u Q I rx ry h
  obtain ⟨c, d, rfl, rfl, q⟩ := h
  cases rx
  cases ry
  exact isnot_bool ⟨.bl _, H, I, rfl, q⟩

/-! ### isinstance(x, C) -/
def clsV : V → Option Value
  | .ty n => some (.type n)
  | .ref a => some (.ref a)
  | _ => none
theorem call_isinst : CallR X (.builtin "isinstance") (fun xs H Q => ∃ x c t cv b, xs = [x, c] ∧ clsV c = some cv ∧ TyOf X.K H x t ∧ PySem.W.kitOne X.K t cv = some b ∧ Q (.bl b) H) := by
  intro pins s σ H xs us Q I r h
  obtain ⟨x, c, t, cv, b, rfl, hc, ty, e, q⟩ := h
  obtain ⟨u, v, rfl, ru, rv⟩ := r.two
  have hv : v = cv := by
    cases c with
    | ty n => cases rv; exact Option.some.inj hc
    | ref a => cases rv; exact Option.some.inj hc
    | _ => cases hc
  subst hv
  exact isinst_ok I ru ty e fun tk => ⟨.bl b, H, I.tok tk, rfl, q⟩
end
end L2

end
noncomputable section
namespace L2
open PySem PySem.Spec PyProof.Rows
/-! ### small things -/
theorem PE.or {X : Cx} {e : Expr} {t u : TE} (h : PE X e t) (h' : PE X e u) : PE X e (fun σ H Q => t σ H Q ∨ u σ H Q) := by
  intro pins s σ H Q I q
  rcases q with q | q
  · exact h pins s σ H Q I q
  · exact h' pins s σ H Q I q
theorem bt_len : bootBuiltins "len" = some (.builtin "len") := by decide +kernel
theorem bt_abs : bootBuiltins "abs" = some (.builtin "abs") := by decide +kernel
theorem bt_sum : bootBuiltins "sum" = some (.builtin "sum") := by decide +kernel
theorem bt_all : bootBuiltins "all" = some (.builtin "all") := by decide +kernel
theorem bt_any : bootBuiltins "any" = some (.builtin "any") := by decide +kernel
theorem bt_max : bootBuiltins "max" = some (.builtin "max") := by decide +kernel
theorem bt_min : bootBuiltins "min" = some (.builtin "min") := by decide +kernel
theorem bt_isinstance : bootBuiltins "isinstance" = some (.builtin "isinstance") := by decide +kernel
theorem bt_list : bootBuiltins "list" = some (.type "list") := by decide +kernel
theorem bt_tuple : bootBuiltins "tuple" = some (.type "tuple") := by decide +kernel
theorem bt_int : bootBuiltins "int" = some (.type "int") := by decide +kernel
theorem bt_bool : bootBuiltins "bool" = some (.type "bool") := by decide +kernel
theorem bt_str : bootBuiltins "str" = some (.type "str") := by decide +kernel
theorem Binds.one {K : PySem.W.Frag} {fd : FuncData} {x : Str} (b : Binds K fd [x] []) (s : Shared) (v : Value) (h : K.In s.heap) : BindsTo s fd ⟨[v], []⟩ [(x, v)] := b s [v] h rfl
theorem atI_ints {ns : List Int} {i : Int} (h0 : 0 ≤ i) (h1 : i < ns.length) : atI (ns.map V.int) i = some (.int (ns.getD i.toNat 0)) := by
  have hj : i.toNat < ns.length := by omega
  have e : (ns.map V.int)[i.toNat]? = some (.int (ns.getD i.toNat 0)) := by simp [hj]
  have := atI_nat e
  rwa [Int.toNat_of_nonneg h0] at this
/-- xs[k - 1] with k = 0 the last one -/
theorem atI_back {ns : List Int} {k : Nat} (h1 : k < ns.length) : atI (ns.map V.int) ((k : Int) - 1) = some (.int (ns.getD ((k + ns.length - 1) % ns.length) 0)) := by
  unfold atI
  have hl : (ns.map V.int).length = ns.length := List.length_map ..
  rw [hl]
  cases k with
  | zero =>
    have e : ixN ns.length (((0 : Nat) : Int) - 1) = some (ns.length - 1) := by
      unfold ixN
      rw [if_neg (by decide), if_pos (by omega)]
      congr 1
      omega
    rw [e]
    have hm : (0 + ns.length - 1) % ns.length = ns.length - 1 := by rw [Nat.zero_add]; exact Nat.mod_eq_of_lt (by omega)
    rw [hm]
    show (ns.map V.int)[ns.length - 1]? = _
    simp [show ns.length - 1 < ns.length by omega]
  | succ k =>
    have e : ixN ns.length (((k + 1 : Nat) : Int) - 1) = some k := by
      unfold ixN
      rw [if_pos (by omega), if_pos (by omega)]
      congr 1
      omega
    rw [e]
    have hm : (k + 1 + ns.length - 1) % ns.length = k := by
      have : k + 1 + ns.length - 1 = k + ns.length := by omega
      rw [this, Nat.add_mod_right]; exact Nat.mod_eq_of_lt (by omega)
    rw [hm]
    show (ns.map V.int)[k]? = _
    simp [show k < ns.length by omega]
end L2

end
noncomputable section
namespace L2
open PySem PySem.Spec PyProof.Rows
/-! ### the rules with the written part K by name (a block's context must not stand in a reading) -/
section
variable {X : Cx} (K : PySem.W.Frag)
theorem ixK (h : X.K = K := by rfl) : IxR X (fun x y H Q => rIxL K x y H Q ∨ rIxT K x y H Q) := by subst h; exact ix_list.or ix_tup
theorem slK (h : X.K = K := by rfl) : SlR X (rSlL K) := by subst h; exact sl_list
theorem lenK (h : X.K = K := by rfl) : CallR X (.builtin "len") (fun xs H Q => ∃ p ys, xs = [.ref p] ∧ (SqL K H p ys ∨ SqT K H p ys) ∧ Q (.int ys.length) H) := by subst h; exact call_len_seq
theorem listK (h : X.K = K := by rfl) : CallR X (.type "list") (fun xs H Q => ∃ p ys, xs = [.ref p] ∧ (SqL K H p ys ∨ SqT K H p ys) ∧ ∀ l, H l = none → Q (.ref l) (upd H l (.lst ys))) := by subst h; exact call_list_of
theorem sumK (hc : X.calm = true) (h : X.K = K := by rfl) : CallR X (.builtin "sum") (fun xs H Q => ∃ (a : Addr) (ns : List Int), xs = [.ref a] ∧ SqL K H a (ns.map V.int) ∧ Q (.int ns.sum) H) := by subst h; exact call_sumL hc
theorem allK (hc : X.calm = true) (h : X.K = K := by rfl) : CallR X (.builtin "all") (fun xs H Q => ∃ (a : Addr) (bs : List Bool), xs = [.ref a] ∧ SqL K H a (bs.map V.bl) ∧ Q (.bl (bs.all id)) H) := by subst h; exact call_allL hc
theorem anyK (hc : X.calm = true) (h : X.K = K := by rfl) : CallR X (.builtin "any") (fun xs H Q => ∃ (a : Addr) (bs : List Bool), xs = [.ref a] ∧ SqL K H a (bs.map V.bl) ∧ Q (.bl (bs.any id)) H) := by subst h; exact call_anyL hc
theorem maxK (hc : X.calm = true) (h : X.K = K := by rfl) : CallR X (.builtin "max") (fun xs H Q => ∃ (a : Addr) (ns : List Int), xs = [.ref a] ∧ SqL K H a (ns.map V.int) ∧ ns ≠ [] ∧ ∀ M, M ∈ ns → (∀ b ∈ ns, b ≤ M) → Q (.int M) H) := by subst h; exact call_maxL hc
theorem minK (hc : X.calm = true) (h : X.K = K := by rfl) : CallR X (.builtin "min") (fun xs H Q => ∃ (a : Addr) (ns : List Int), xs = [.ref a] ∧ SqL K H a (ns.map V.int) ∧ ns ≠ [] ∧ ∀ M, M ∈ ns → (∀ b ∈ ns, M ≤ b) → Q (.int M) H) := by subst h; exact call_minL hc
theorem eqK (hu : X.A.units < cLine) (h : X.K = K := by rfl) : OpR X (compareOp .Eq) (fun x y H Q => rEq x y H Q ∨ rEqL K false x y H Q) := by subst h; exact op_eq.or (op_eqL hu)
theorem neK (hu : X.A.units < cLine) (h : X.K = K := by rfl) : OpR X (compareOp .NotEq) (fun x y H Q => rNe x y H Q ∨ rEqL K true x y H Q) := by subst h; exact op_ne.or (op_neL hu)
theorem inK (h : X.K = K := by rfl) : OpR X (compareOp .In) (rIn K false) := by subst h; exact op_in_seq
theorem notInK (h : X.K = K := by rfl) : OpR X (compareOp .NotIn) (rIn K true) := by subst h; exact op_notIn_seq
theorem isiK (h : X.K = K := by rfl) : CallR X (.builtin "isinstance") (fun xs H Q => ∃ x c t cv b, xs = [x, c] ∧ clsV c = some cv ∧ TyOf K H x t ∧ PySem.W.kitOne K t cv = some b ∧ Q (.bl b) H) := by subst h; exact call_isinst
theorem fldK {e : Expr} {f : Str} {pos : Pos} {ta : TE} (he : PE X e ta) (hb : attributeBase e f X.env (eval e X.env) = eval e X.env := by rfl) (h : X.K = K := by rfl) : PE X (.Attribute e f pos) (tFld K ta f) := by subst h; exact pe_fld he hb
theorem piL {tg l : Expr} {tl : TE} (hl : PE X l tl) (h : X.K = K := by rfl) : PI X tg l (iList K tl) := by subst h; exact pi_list hl
theorem piT {tg l : Expr} {tl : TE} (hl : PE X l tl) (h : X.K = K := by rfl) : PI X tg l (iTup K tl) := by subst h; exact pi_tup hl
theorem piZ {elts : List Expr} {kt : Nat} {pt p pos : Pos} {a b : Expr} {ta : TA} (hg : Gl X "zip") (hm : X.mg "zip" = none) (ha : PA X [a, b] ta)
    (hs : starEach [a, b] X.env = [(false, eval a X.env), (false, eval b X.env)] := by rfl) (hs2 : starEach [b] X.env = [(false, eval b X.env)] := by rfl) (h : X.K = K := by rfl) :
    PI X (.Tuple elts kt pt) (.Call (.Name "zip" p) [a, b] [] pos) (iZip K ta) := by subst h; exact pi_zip hg hm ha hs hs2
theorem pgT {es : List Expr} {k : Nat} {t : TGs} {n : Nat} {pos : Pos} (hc : X.calm = true) (h : PGs X es t)
    (hn : (assignEach es X.env).length = n := by rfl) (hst : (assignEach es X.env).findIdx? (·.1) = none := by rfl) (hk : X.K = K := by rfl) : PG X (.Tuple es k pos) (gTup K n t) := by subst hk; exact pg_tup hc h hn hst
theorem bmK {o e : Expr} {es : List Expr} {to : TE} {t : TA} {name : Str} {apos cpos : Pos} {T id : String} {r : V → List V → Hp → VK → Prop} (pa : PlainAttrs T) (slot : Slot T name id) (hty : typeOf (.builtin id) = pure (.type "method_descriptor")) (hm : MtR X id r) (ho : PE X o to) (ha : PA X (e :: es) t)
    (hbase : attributeBase o name X.env (eval o X.env) = eval o X.env := by rfl)
    (hfew : ((backTo cpos (starEach (e :: es) X.env)).all (fun x => !x.1) && (backToKw cpos (keywordEach [] X.env)).all (fun x => x.1.isSome)
      && decide ((e :: es).length + ([] : List Keyword).length + (if ([] : List Keyword).isEmpty then 0 else 1) < 30)) = true := by rfl)
    (hline : (apos.endLine == cpos.line) = true := by rfl) (hs : starEach (e :: es) X.env = (false, eval e X.env) :: starEach es X.env := by rfl) (hplain : (backTo cpos (starEach es X.env)).any (·.1) = false := by rfl) (h : X.K = K := by rfl) :
    PE X (.Call (.Attribute o name apos) (e :: es) [] cpos) (tBM K T r to t) := by subst h; exact pe_bm pa slot hty hm ho ha hbase hfew hline hs hplain
theorem bm0K {o : Expr} {to : TE} {name : Str} {apos cpos : Pos} {T id : String} {r : V → List V → Hp → VK → Prop} (pa : PlainAttrs T) (slot : Slot T name id) (hty : typeOf (.builtin id) = pure (.type "method_descriptor")) (hm : MtR X id r) (ho : PE X o to)
    (hbase : attributeBase o name X.env (eval o X.env) = eval o X.env := by rfl) (hline : (apos.endLine == cpos.line) = true := by rfl) (h : X.K = K := by rfl) : PE X (.Call (.Attribute o name apos) [] [] cpos) (tBM0 K T r to) := by subst h; exact pe_bm0 pa slot hty hm ho hbase hline
end
end L2

end
noncomputable section
namespace L2
open PySem PySem.Spec PyProof.Rows
/-! ### an argument that is no star, by its kind -/
section
variable {es : List Expr} {env : Env} {pos : Pos}
theorem se_Name {x : Str} : starEach (.Name x pos :: es) env = (false, eval (.Name x pos) env) :: starEach es env := rfl
theorem se_Constant {c j} : starEach (.Constant c j pos :: es) env = (false, eval (.Constant c j pos) env) :: starEach es env := rfl
theorem se_BinOp {a op b} : starEach (.BinOp a op b pos :: es) env = (false, eval (.BinOp a op b pos) env) :: starEach es env := rfl
theorem se_UnaryOp {op b} : starEach (.UnaryOp op b pos :: es) env = (false, eval (.UnaryOp op b pos) env) :: starEach es env := rfl
theorem se_Call {f a k} : starEach (.Call f a k pos :: es) env = (false, eval (.Call f a k pos) env) :: starEach es env := rfl
theorem se_Subscript {a b} : starEach (.Subscript a b pos :: es) env = (false, eval (.Subscript a b pos) env) :: starEach es env := rfl
theorem se_Attribute {a b} : starEach (.Attribute a b pos :: es) env = (false, eval (.Attribute a b pos) env) :: starEach es env := rfl
theorem se_List {a} : starEach (.List a pos :: es) env = (false, eval (.List a pos) env) :: starEach es env := rfl
theorem se_Tuple {a k} : starEach (.Tuple a k pos :: es) env = (false, eval (.Tuple a k pos) env) :: starEach es env := rfl
theorem se_ListComp {a b c} : starEach (.ListComp a b c pos :: es) env = (false, eval (.ListComp a b c pos) env) :: starEach es env := rfl
theorem se_IfExp {a b c} : starEach (.IfExp a b c pos :: es) env = (false, eval (.IfExp a b c pos) env) :: starEach es env := rfl
theorem se_Compare {a b c} : starEach (.Compare a b c pos :: es) env = (false, eval (.Compare a b c pos) env) :: starEach es env := rfl
theorem se_BoolOp {a b} : starEach (.BoolOp a b pos :: es) env = (false, eval (.BoolOp a b pos) env) :: starEach es env := rfl
theorem se_JoinedStr {a} : starEach (.JoinedStr a pos :: es) env = (false, eval (.JoinedStr a pos) env) :: starEach es env := rfl
end
section
variable {X : Cx}
theorem mtr_append : MtR X "list.append" rAppend := mt_append
theorem mtr_clear : MtR X "list.clear" rClear := mt_clear
theorem mtr_extend : MtR X "list.extend" rExtend := mt_extend
theorem mtr_pop : MtR X "list.pop" rPop := mt_pop
theorem mtr_reverse : MtR X "list.reverse" rReverse := mt_reverse
end
theorem big : 100000 ≤ sizeLine := by decide
/-! ### ranges from 0 -/
theorem comp_range0 {te : TE} {t : Nat} {ix : List Nat} {σ : St} {H1 : Hp} {Q : VK} {D : Addr} {n : Nat} (f : Nat → V) (hn : n ≤ sizeLine) (ht : 0 < t) (hD : H1 D = none)
    (hs : ∀ (k : Nat) (H2 : Hp) (Z : VK), k < n → Same H1 H2 → (∀ H3, Same H2 H3 → Z (f k) H3) → te ((capt t ix σ).set 0 (some (.int (k : Int)))) H2 Z)
    (hq : ∀ H', Same H1 H' → H' D = some (.lst ((List.range n).map f)) → Q (.ref D) H') :
    CompIt (Itr 0 n) (gName 0) te (capt t ix σ) H1 Q D :=
  comp_range f hn ht hD (fun k H2 Z h1 h2 h3 => by rw [Int.zero_add]; exact hs k H2 Z h1 h2 h3) hq
theorem for_range0 {n : Nat} {g : TG} {tb : TS} {D : Ends} {σ : St} {H : Hp} (Pv : Nat → St → Hp → Prop) (h0 : Pv 0 σ H)
    (hs : ∀ i σ H, i < n → Pv i σ H → g (.int (i : Int)) σ H fun σ2 H2 => tb { D with nx := Pv (i + 1), ct := Pv (i + 1), bk := D.nx } σ2 H2) (hd : ∀ σ H, Pv n σ H → D.nx σ H) :
    ∃ W : Nat → Nat → St → Hp → Prop, (∃ m, W 0 m σ H) ∧ ∀ i m σ H, W i m σ H →
      ((Itr 0 n).stop i H ∧ D.nx σ H) ∨ ((Itr 0 n).go i H ∧ ∃ N : St → Hp → Prop, (∀ σ' H', N σ' H' → ∃ m', m' < m ∧ W (i + 1) m' σ' H') ∧ ∀ x H', (Itr 0 n).yld i H x H' → g x σ H' fun σ2 H2 => tb { D with nx := N, ct := N, bk := D.nx } σ2 H2) :=
  for_range Pv h0 (fun i σ H h1 h2 => by rw [Int.zero_add]; exact hs i σ H h1 h2) hd
theorem kit_b (K : PySem.W.Frag) (a b : String) (r : Bool) (h : (if (Value.type a == Value.type b) = true then some true else if PySem.W.kitMeta b = true then Option.map (fun x => x.contains (.type b)) (fastBuiltinMro a) else none) = some r) : PySem.W.kitOne K (.type a) (.type b) = some r := h
/-! ### xs[::-1] -/
def tRev (K : PySem.W.Frag) (te : TE) : TE := fun σ H Q => te σ H fun x H1 => ∃ a xs, x = .ref a ∧ SqL K H1 a xs ∧ ∀ p, H1 p = none → Q (.ref p) (upd H1 p (.lst xs.reverse))
theorem pe_rev {X : Cx} (K : PySem.W.Frag) {e : Expr} {te : TE} {j : Nat} {p1 p2 p3 pos : Pos} (he : PE X e te) (h : X.K = K := by rfl) :
    PE X (.Subscript e (.Slice none none (some (.UnaryOp .USub (.Constant (.int 1) j p1) p3)) p2) pos) (tRev K te) := by
  subst h
  intro pins s σ H Q I hw
  refine Subscript_ (thn (he pins s σ H _ I hw) fun v s1 ⟨x, H1, I1, r1, a, xs, ex, hx, q⟩ => ?_)
  subst ex
  cases r1
  refine wpAny_Slice ?_
  rw [evalPart_none]
  refine wpAny_pure ?_
  refine wpAny_pure ?_
  rw [evalPart_some]
  refine thn (pe_un un_neg pe_int pins s1 σ H1 (fun x H' => x = .int (-1) ∧ H' = H1) I1 ⟨_, rfl, rfl, rfl⟩) fun u s2 ⟨y, H2, I2, r2, ey, eH⟩ => ?_
  subst ey eH
  obtain ⟨t, rfl⟩ := r2
  have I4 : Inv X pins σ H2 { s2 with heap := s2.heap.push { cls := .type "slice", data := .fields #[.none, .none, .int (-1) t] } } := I2.kept (t' := s2.toks) fun b ob q => Heap.get?_push_of_some _ q
  obtain ⟨its, r, ht, hz⟩ := I4.list hx
  have hlen := r.length
  show wpAny (model X.prog X.w) X.A (subscriptTail e (.Slice none none (some (.UnaryOp .USub (.Constant (.int 1) j p1) p3)) p2) (.ref a) (.ref s2.heap.objs.size)) (EP X pins σ Q) X.xe { s2 with heap := s2.heap.push { cls := .type "slice", data := .fields #[.none, .none, .int (-1) t] } }
  refine tail_any (ops := [.ref a, .ref s2.heap.objs.size]) ht.isList.typeIs slot_list_getitem.lookup ?_ (by with_unfolding_all rfl)
  refine wpAny_getItem_list_slice ht.isList (Heap.IsSliceOf.new ..) .none .none (.int (-1) t) (by simp) ?_ (by rw [List.size_toArray] <;> omega)
  rw [PySem.W.krv_pick]
  refine ⟨.ref _, _, I4.laid (t' := s2.toks) (o := .lst xs.reverse) (fun b ob q => Heap.get?_push_of_some _ q) (Nat.le_refl _) ?_, rfl, q _ (I4.hok.fresh (Nat.le_refl _))⟩
  exact ⟨by rw [List.length_reverse]; exact hz, _, 0, r.reverse, Heap.get?_push_size _ rfl⟩
end L2

end
noncomputable section
namespace L2
open PySem PySem.Spec PyProof.Rows
/-! ### enumerate of a list -/
def Ite (K : PySem.W.Frag) (a : Addr) : It :=
  ⟨fun i H => ∃ xs x, SqL K H a xs ∧ xs[i]? = some x, fun i H v H' => ∃ T x, v = .ref T ∧ H T = none ∧ H' = upd H T (.tup [.int (i : Int), x]) ∧ ∀ xs, SqL K H a xs → xs[i]? = some x, fun i H => ∃ xs, SqL K H a xs ∧ xs.length ≤ i⟩
theorem turn_enum {P : Program} {w : World} {K : PySem.W.Frag} {elts : List Expr} {kt : Nat} {pt : Pos} (a e it : Addr) (n1 : e ≠ it) : Turn P w K (.Tuple elts kt pt) (Ite K a) [e, it] e
    (fun i h => (∃ old, IsEnum h e it i old) ∧ h.IsListIter it a i) where
  mem := by simp
  obj := fun i h st c hc => by
    obtain ⟨⟨old, he⟩, ⟨o1, e1, _, d1⟩⟩ := st
    simp only [List.mem_cons, List.not_mem_nil, or_false] at hc
    rcases hc with rfl | rfl
    · exact ⟨_, he, fun v z => by cases z⟩
    · exact ⟨_, e1, fun v z => by rw [d1] at z; cases z⟩
  keep := fun i h h' st k => by
    obtain ⟨⟨old, he⟩, h1⟩ := st
    exact ⟨⟨old, k e (by simp) _ he⟩, h1.at fun o q => k it (by simp) o q⟩
  item := by
    intro X hP hw hK hc i pins s σ H E I hf st hg
    subst hP hw hK
    obtain ⟨⟨old, he⟩, h1⟩ := st
    obtain ⟨xs, x, hq1, hx⟩ := hg
    obtain ⟨its1, r1, p1, _⟩ := I.list hq1
    obtain ⟨u1, e1, ru1⟩ := r1.get hx
    refine wpAny_pyNext_enum_item he h1 p1.isList (x := u1) (by simpa using e1) n1 fun h' b1 b3 b5 b6 hk => ?_
    refine ⟨_, rfl, wpAny_letOwnedTupleGo_enum b1 fun h'' hz'' hs'' => ?_⟩
    have zT : s.heap.objs.size ≠ e := Nat.ne_of_gt (Heap.lt_size he)
    have T2 : h''.get? s.heap.objs.size = some { cls := .type "tuple", data := .seq #[.int i s.toks, u1] } := hs''.extBut _ _ zT b5
    have kk : ∀ c o, c ∉ [e, it] → s.heap.get? c = some o → h''.get? c = some o := fun c o hc q =>
      hs''.extBut _ _ (fun q => hc (by simp [q])) (hk c o (fun q => hc (by simp [q])) (fun q => hc (by simp [q])) q)
    have I' : Inv X pins σ (upd H s.heap.objs.size (.tup [.int (i : Int), x])) { s with heap := h'', toks := s.toks + 1 } := I.turnedNew (t' := s.toks + 1) (ch := [e, it]) kk hf (Nat.le_refl _)
      ⟨by show 2 ≤ sizeLine; decide, [.int i s.toks, u1], .cons ⟨_, rfl⟩ (.cons ru1 .nil), _, T2, rfl, _, rfl⟩
    have fT : H s.heap.objs.size = none := I.hok.fresh (Nat.le_refl _)
    refine ⟨.ref s.heap.objs.size, _, I', rfl, ⟨_, x, rfl, fT, rfl, fun xs' q => by rw [I.list_inj q hq1]; exact hx⟩, ⟨⟨_, by have := hz''; rw [show ((i : Int) + 1) = ((i + 1 : Nat) : Int) by omega] at this; exact this⟩, b3.extBut hs''.extBut n1.symm⟩, fun c hc' => ?_⟩
    rw [upd_ne (fun q => ?_)]
    · exact (hf c hc').1
    · subst q
      obtain ⟨o1, g1, _⟩ := h1
      simp only [List.mem_cons, List.not_mem_nil, or_false] at hc'
      rcases hc' with q | q
      · exact absurd (Heap.lt_size he) (by rw [← q]; exact Nat.lt_irrefl _)
      · exact absurd (Heap.lt_size g1) (by rw [← q]; exact Nat.lt_irrefl _)
  done := by
    intro X hP hw hK hc i pins s σ H E I hf st hg
    subst hP hw hK
    obtain ⟨⟨old, he⟩, h1⟩ := st
    obtain ⟨xs, hq1, hend⟩ := hg
    obtain ⟨its1, r1, p1, _⟩ := I.list hq1
    have l1 := r1.length
    exact wpAny_pyNext_enum_end (I.ok.hd hc) he h1 p1.isList (by simp; omega) fun h' hk => ⟨rfl, I.turnedL (t' := s.toks) (ch := [e, it]) (fun c o hc q => hk c o (fun q => hc (by simp [q])) q) hf⟩
  self := fun _ _ _ _ _ st h => let ⟨⟨_, he⟩, _⟩ := st; wpAny_pyIter_enum he h
def iEnum (K : PySem.W.Frag) (ta : TA) : TI := fun σ H R => ta σ H fun vs H1 => ∃ a, vs = [.ref a] ∧ (∃ xs, SqL K H1 a xs) ∧ R (Ite K a) H1
theorem boot_enumerate : bootBuiltins "enumerate" = some (.type "enumerate") := by decide +kernel
theorem piE {X : Cx} (K : PySem.W.Frag) {elts : List Expr} {kt : Nat} {pt p pos : Pos} {a : Expr} {ta : TA} (hg : Gl X "enumerate") (hm : X.mg "enumerate" = none) (ha : PA X [a] ta)
    (hs : starEach [a] X.env = [(false, eval a X.env)] := by rfl) (h : X.K = K := by rfl) :
    PI X (.Tuple elts kt pt) (.Call (.Name "enumerate" p) [a] [] pos) (iEnum K ta) := by
  subst h
  intro pins s σ H R I h
  refine Call_ (ld_blt I hg hm boot_enumerate (PyProof.Rows.callWith_type1 (thn (ha pos pins s σ H _ I h) fun us s1 ⟨vs, H1, I1, r1, q1⟩ => ?_) (by rw [hs]; rfl) rfl))
  obtain ⟨a, e, ⟨xs, hx⟩, q⟩ := q1
  subst e
  obtain ⟨u, rfl, ru⟩ := r1.one
  cases ru
  obtain ⟨its1, _, p1, _⟩ := I1.list hx
  refine call_enumerate_list p1.isList fun h' b1 b4 b6 hk => ?_
  refine wpAny_pyIter_enum b1 ?_
  have I2 : Inv X pins σ H1 { s1 with heap := h' } := I1.kept (t' := s1.toks) hk
  refine ⟨_, _, _, _, H1, rfl, I2, turn_enum a (s1.heap.objs.size + 1) s1.heap.objs.size (Nat.ne_of_gt (Nat.lt_succ_self _)), ⟨⟨_, b1⟩, b4⟩, fun c hc => ?_, q⟩
  have hle : s1.heap.objs.size ≤ c := by
    simp only [List.mem_cons, List.not_mem_nil, or_false] at hc
    rcases hc with rfl | rfl
    · exact Nat.le_add_right _ _
    · exact Nat.le_refl _
  exact I1.fpOk hle (I1.hok.fresh hle)
theorem for_enum {K : PySem.W.Frag} {a : Addr} {xs : List V} {g : TG} {tb : TS} {D : Ends} {σ : St} {H : Hp} (Pv : Nat → St → Hp → Prop) (h0 : Pv 0 σ H) (hl : ∀ i σ H, Pv i σ H → SqL K H a xs)
    (hs : ∀ (i : Nat) (x : V) σ H T, xs[i]? = some x → Pv i σ H → H T = none → g (.ref T) σ (upd H T (.tup [.int (i : Int), x])) fun σ2 H2 => tb { D with nx := Pv (i + 1), ct := Pv (i + 1), bk := D.nx } σ2 H2) (hd : ∀ σ H, Pv xs.length σ H → D.nx σ H) :
    ∃ W : Nat → Nat → St → Hp → Prop, (∃ m, W 0 m σ H) ∧ ∀ i m σ H, W i m σ H →
      ((Ite K a).stop i H ∧ D.nx σ H) ∨ ((Ite K a).go i H ∧ ∃ N : St → Hp → Prop, (∀ σ' H', N σ' H' → ∃ m', m' < m ∧ W (i + 1) m' σ' H') ∧ ∀ x H', (Ite K a).yld i H x H' → g x σ H' fun σ2 H2 => tb { D with nx := N, ct := N, bk := D.nx } σ2 H2) := by
  refine ⟨fun i m σ H => m = xs.length - i ∧ i ≤ xs.length ∧ Pv i σ H, ⟨_, rfl, Nat.zero_le _, h0⟩, ?_⟩
  rintro i m σ H ⟨rfl, hi, p⟩
  have qa := hl i σ H p
  by_cases hlt : i < xs.length
  · have hx : xs[i]? = some (xs[i]'(by omega)) := by rw [List.getElem?_eq_getElem]
    refine .inr ⟨⟨xs, _, qa, hx⟩, Pv (i + 1), fun σ' H' p' => ⟨xs.length - (i + 1), by omega, rfl, hlt, p'⟩, fun v H' y => ?_⟩
    obtain ⟨T, x, e1, e2, e3, y1⟩ := y
    subst e1 e3
    exact hs i x σ H T (y1 xs qa) p e2
  · have e : i = xs.length := by omega
    subst e
    exact .inl ⟨⟨xs, qa, Nat.le_refl _⟩, hd σ H p⟩
/-! ### xs.index(x) -/
def rIndex : V → List V → Hp → VK → Prop := fun x vs H Q => ∃ (l : Addr) (ns : List Int) (i : Int) (j : Nat), x = .ref l ∧ vs = [.int i] ∧ H l = some (.lst (ns.map V.int)) ∧ ns[j]? = some i ∧ (∀ m, m < j → ns[m]? ≠ some i) ∧ Q (.int (j : Int)) H
theorem mtr_index {X : Cx} : MtR X "list.index" rIndex := by
  intro pins s σ H x vs v us Q I rx rv h
  obtain ⟨l, ns, i, j, rfl, rfl, hH, hj, hno, q⟩ := h
  cases rx
  obtain ⟨u, rfl, ru⟩ := rv.one
  obtain ⟨t, rfl⟩ := ru
  obtain ⟨z, its, n, r, hl, e⟩ := I.lstM hH
  rw [List.length_map] at z hl
  have hjl := (List.getElem?_eq_some_iff.mp hj).1
  have at_ : ∀ (m : Nat) (hm : m < its.toArray.size), ∃ t, its.toArray[m] = .int (ns.getD m 0) t := fun m hm => by
    have hm' : m < its.length := by simpa using hm
    exact vals_int_at r (v := its.toArray[m]) (i := m) (by simp [hm'])
  refine call_meets F.slot_list_index ⟨_, e, rfl⟩ F.entry_list_index (F.args_list_index_2 _ _) (MeetsSeq.list_index l its.toArray n (.int i t) (fun y => numOf y == i) (fun y hy => ?_) j (by rw [List.size_toArray]; omega) ?_ ?_ ?_) ⟨e, ?_⟩
  · obtain ⟨m, hm, rfl⟩ := Array.mem_iff_getElem.mp hy
    obtain ⟨t', e'⟩ := at_ m hm
    rw [e']
    exact MeetsSeq.EqGives.int _ _ _ _
  · have : sizeLine < 2 ^ 63 - 1 := by decide
    omega
  · obtain ⟨t', e'⟩ := at_ j (by rw [List.size_toArray]; omega)
    rw [e']
    have : ns.getD j 0 = i := by simp [List.getD, hj]
    show ((ns.getD j 0) == i) = true
    rw [this]
    exact beq_self_eq_true i
  · intro m hm hlt
    obtain ⟨t', e'⟩ := at_ m hm
    rw [e']
    have h1 := hno m hlt
    have hm' : m < ns.length := by omega
    have : ns.getD m 0 ≠ i := fun q => h1 (by simp [List.getD, List.getElem?_eq_getElem hm'] at q ⊢; exact q)
    simpa [numOf] using this
  · exact ⟨.int j, H, I.kept (t' := s.toks + 1) fun _ _ q => q, ⟨_, rfl⟩, q⟩
end L2

end
noncomputable section
namespace L2
open PySem PySem.Spec PyProof.Rows
/-! ### exceptions: the object and its trace -/
/-- the exception at e: its class, its dict, its first field, its trace's head and where that flies -/
structure Xo (h : Heap) (e : Addr) (C : Value) (dx : Option Addr) (a0 : Value) (T : Option (Addr × Value)) : Prop where
  ob : ∃ oe vs, h.get? e = some oe ∧ oe.cls = C ∧ oe.dict = dx ∧ oe.data = .fields vs ∧ 1 < vs.size ∧ vs[0]? = some a0 ∧ match T with
    | none => vs[1]? = some .none
    | some (t, fl) => vs[1]? = some (.ref t) ∧ t ≠ e ∧ ∃ oT ts, h.get? t = some oT ∧ oT.data = .fields ts ∧ ts[3]? = some fl
/-- what noting an exception may change: the slots of the frames at fr, the exception, its trace's head -/
structure Chg (fr : List Addr) (e : Addr) (T : Option Addr) (h h' : Heap) : Prop where
  keep : ∀ b o, b ∉ fr → b ≠ e → T ≠ some b → h.get? b = some o → h'.get? b = some o
  slot : ∀ b o, b ∈ fr → b ≠ e → T ≠ some b → h.get? b = some o → ∃ sl, h'.get? b = some { o with slots := sl }
theorem Chg.any {fr : List Addr} {e : Addr} {T : Option Addr} {h h' : Heap} (c : Chg fr e T h h') {b : Addr} {o : Obj} (h1 : b ≠ e) (h2 : T ≠ some b) (q : h.get? b = some o) : ∃ sl, h'.get? b = some { o with slots := sl } := by
  by_cases z : b ∈ fr
  · exact c.slot b o z h1 h2 q
  · exact ⟨o.slots, c.keep b o z h1 h2 q⟩
section
variable {M : Model} {A : Around} {E : Value → Shared → Prop} {s : Shared}
/-- where the trace's head flies is set -/
theorem flight_ {e t : Addr} {C a0 fl : Value} {dx : Option Addr} {fr : Option Addr} {Q : Unit → Shared → Prop} (x : Xo s.heap e C dx a0 (some (t, fl)))
    (h : ∀ h', Xo h' e C dx a0 (some (t, fr.elim .none fun f => rawInt f)) → (∀ b o, b ≠ t → s.heap.get? b = some o → h'.get? b = some o) → Q () { s with heap := h' }) : wpAny M A (setFlight (.ref e) fr) Q E s := by
  obtain ⟨oe, vs, he, hc, hdx, hd, hsz, h0, h1, hte, oT, ts, hT, hdT, h3⟩ := x.ob
  unfold setFlight
  refine wpAny_bind (wpAny_field he hd h1 ?_)
  rw [if_pos (show (Value.ref t != Value.none) = true from by simp)]
  refine wpAny_setField hT hdT (Array.getElem?_eq_some_iff.mp h3).1 (h _ ⟨oe, vs, ?_, hc, hdx, hd, hsz, h0, h1, hte, _, _, Heap.get?_update_self _ hT (Obj.isFreed_of_fields (Obj.data_mapFields hdT _)), Obj.data_mapFields hdT _, ?_⟩ fun b o hb q => ?_)
  · exact (Heap.get?_update_other _ _ hte).trans he
  · have := (Array.getElem?_eq_some_iff.mp h3).1
    simp [this]
  · exact (Heap.get?_update_other _ _ (Ne.symm hb)).trans q
/-- an entry for this frame is laid -/
theorem entry_ {base : Heap} {env : Env} {outer : List Env} {L e : Addr} {C a0 head : Value} {dx : Option Addr} {T : Option (Addr × Value)} {hn : Bool} {Q : Unit → Shared → Prop} (hfr : A.frames = some (env :: outer)) (hl : s.heap.FunFrames base (env :: outer)) (hf : env.frame = some L)
    (x : Xo s.heap e C dx a0 T)
    (h : ∀ h' t, Xo h' e C dx a0 (some (t, rawInt L)) → s.heap.get? t = none → Chg (frs (env :: outer)) e none s.heap h' → Q () { s with heap := h' }) :
    wpAny M A (do let a ← frameOf env; let pl ← entryPlaceOf L hn; let b ← EntryCells.newEntry head a .none (rawInt L) .none pl; setField (.ref e) 1 b) Q E s := by
  obtain ⟨oe, vs, he, hc, hdx, hd, hsz, h0, _⟩ := x.ob
  have nfr : e ∉ (env :: outer).filterMap (·.frame) := fun hm => by
    obtain ⟨_, o, ho, hnf⟩ := hl.mem hm
    rw [he] at ho
    cases ho
    exact hnf vs hd
  refine wpAny_bind (wpAny_frameOf_fun hfr hl hf fun h₁ hs₁ => ?_)
  refine wpAny_bind (wpAny_entryPlaceOf fun pl hpl => ?_)
  unfold EntryCells.newEntry newFields
  refine wpAny_bind (wpAny_newObj_type ?_ (hpl.sizeOk5 _ _ _ _ _))
  have he₁ : h₁.get? e = some oe := (hs₁.2.1 e nfr).trans he
  generalize ho : ({ cls := .type "traceback", dict := none, data := .fields ([head, .ref L, .none, rawInt L, .none] ++ (if pl.isEmpty then List.replicate 6 Value.none else pl)).toArray } : Obj) = tr
  have htr : tr.data = .fields ([head, .ref L, .none, rawInt L, .none] ++ (if pl.isEmpty then List.replicate 6 Value.none else pl)).toArray := by rw [← ho]
  have he₂ : (h₁.push tr).get? e = some oe := Heap.get?_push_of_some _ he₁
  have hal : tr.alive = true := by rw [← ho]; rfl
  have hT₂ : (h₁.push tr).get? h₁.objs.size = some tr := by rw [← ho]; exact Heap.get?_push_size _ rfl
  have hTe : h₁.objs.size ≠ e := Nat.ne_of_gt (Heap.lt_size he₁)
  refine wpAny_setField he₂ hd hsz (h _ h₁.objs.size ⟨_, _, Heap.get?_update_self _ he₂ (Obj.isFreed_of_fields (Obj.data_mapFields hd _)), (Obj.cls_mapFields _ _).trans hc, ?_, Obj.data_mapFields hd _, ?_, ?_, ?_, hTe, tr, _, ?_, htr, ?_⟩ ?_ ⟨fun b o hb hbe _ q => ?_, fun b o hb hbe _ q => ?_⟩)
  · rw [← hdx]
    unfold Obj.mapFields
    split <;> rfl
  · rw [Array.size_setIfInBounds]; exact hsz
  · rw [Array.getElem?_setIfInBounds_ne (by decide)]; exact h0
  · simp [hsz]
  · exact (Heap.get?_update_other _ _ (Ne.symm hTe)).trans hT₂
  · simp
  · cases z : s.heap.get? h₁.objs.size with
    | none => rfl
    | some o =>
      obtain ⟨sl, q⟩ := hs₁.2.2 _ o z
      exact absurd (Heap.lt_size q) (Nat.lt_irrefl _)
  · exact (Heap.get?_update_other _ _ (Ne.symm hbe)).trans (Heap.get?_push_of_some _ ((hs₁.2.1 b hb).trans q))
  · obtain ⟨sl, q'⟩ := hs₁.2.2 b o q
    exact ⟨sl, (Heap.get?_update_other _ _ (Ne.symm hbe)).trans (Heap.get?_push_of_some _ q')⟩
/-- what of the trace is no new thing -/
def hdOf (T : Option (Addr × Value)) : Option Addr := T.map Prod.fst
theorem note_ {base : Heap} {env : Env} {outer : List Env} {L e : Addr} {C a0 : Value} {dx : Option Addr} {T : Option (Addr × Value)} {Q : Unit → Shared → Prop} (hfr : A.frames = some (env :: outer)) (hl : s.heap.FunFrames base (env :: outer)) (hf : env.frame = some L)
    (x : Xo s.heap e C dx a0 T) (hT : T = none ∨ ∃ t, T = some (t, .none))
    (h : ∀ h' t, Xo h' e C dx a0 (some (t, rawInt L)) → s.heap.get? t = none → Chg (frs (env :: outer)) e (hdOf T) s.heap h' → Q () { s with heap := h' }) : wpAny M A (noteFrame (.ref e) env) Q E s := by
  unfold noteFrame
  simp only [hf]
  rcases hT with rfl | ⟨t, rfl⟩
  · obtain ⟨oe, vs, he, hc, hdx, hd, hsz, h0, h1⟩ := x.ob
    refine wpAny_bind (wpAny_field he hd h1 ?_)
    rw [if_neg (by decide)]
    exact entry_ hfr hl hf x h
  · obtain ⟨oe, vs, he, hc, hdx, hd, hsz, h0, h1, hte, oT, ts, hT, hdT, h3⟩ := x.ob
    refine wpAny_bind (wpAny_field he hd h1 ?_)
    rw [if_pos (show (Value.ref t != Value.none) = true from by simp)]
    refine wpAny_bind (wpAny_field hT hdT h3 ?_)
    rw [if_neg (show ¬ ((Value.none == rawInt L) = true) from by simp [rawInt])]
    refine wpAny_bind (wpAny_setField hT hdT (Array.getElem?_eq_some_iff.mp h3).1 ?_)
    have oth : ∀ b, b ≠ t → (s.heap.update t (Obj.mapFields (·.setIfInBounds 3 Value.none))).get? b = s.heap.get? b := fun b hb => Heap.get?_update_other _ _ (Ne.symm hb)
    have slf := Heap.get?_update_self (h := s.heap) (Obj.mapFields (·.setIfInBounds 3 Value.none)) hT (Obj.isFreed_of_fields (Obj.data_mapFields hdT _))
    have nfr : ∀ b o, s.heap.get? b = some o → (∀ vs, o.data ≠ .fields vs) → b ≠ t := fun b o hb hnf q => by
      rw [q, hT] at hb
      cases hb
      exact hnf ts hdT
    refine entry_ (s := { s with heap := s.heap.update t (Obj.mapFields (·.setIfInBounds 3 Value.none)) }) (T := some (t, .none)) hfr (hl.of_keeps fun b o hb hnf => ⟨o, (oth b (nfr b o hb hnf)).trans hb, rfl⟩) hf
      ⟨oe, vs, (oth e (Ne.symm hte)).trans he, hc, hdx, hd, hsz, h0, h1, hte, _, _, slf, Obj.data_mapFields hdT _, ?_⟩ fun h' t' x' hn' c => h h' t' x' ?_ ⟨fun b o hb hbe hbT q => ?_, fun b o hb hbe hbT q => ?_⟩
    · have := (Array.getElem?_eq_some_iff.mp h3).1
      simp [this]
    · by_cases z : t' = t
      · subst z
        rw [slf] at hn'
        cases hn'
      · exact (oth t' z).symm.trans hn'
    · have nt : b ≠ t := fun z => hbT (by rw [z]; rfl)
      exact c.keep b o hb hbe (by simp) ((oth b nt).trans q)
    · have nt : b ≠ t := fun z => hbT (by rw [z]; rfl)
      exact c.slot b o hb hbe (by simp) ((oth b nt).trans q)
/-- an exception leaves a frame -/
theorem leave_ {base : Heap} {env : Env} {outer : List Env} {L e : Addr} {C a0 : Value} {dx : Option Addr} {T : Option (Addr × Value)} {Q : Unit → Shared → Prop} (hfr : A.frames = some (env :: outer)) (hl : s.heap.FunFrames base (env :: outer)) (hf : env.frame = some L)
    (x : Xo s.heap e C dx a0 T) (hT : T = none ∨ ∃ t, T = some (t, .none))
    (h : ∀ h' t, Xo h' e C dx a0 (some (t, .none)) → s.heap.get? t = none → Chg (frs (env :: outer)) e (hdOf T) s.heap h' → Q () { s with heap := h' }) : wpAny M A (leaving env (.ref e)) Q E s := by
  unfold leaving
  refine wpAny_bind (note_ hfr hl hf x hT fun h₁ t x₁ hn c => ?_)
  refine flight_ (s := { s with heap := h₁ }) (fr := none) x₁ fun h₂ x₂ k => h h₂ t x₂ hn ⟨fun b o hb hbe hbT q => ?_, fun b o hb hbe hbT q => ?_⟩
  · exact k b o (fun z => by rw [z, hn] at q; cases q) (c.keep b o hb hbe hbT q)
  · obtain ⟨sl, q'⟩ := c.slot b o hb hbe hbT q
    exact ⟨sl, k b _ (fun z => by rw [z, hn] at q; cases q) q'⟩
end
theorem ObjOk.thing {P : Program} {w : World} {H : Hp} {h : Heap} {a : Addr} {o : HO} (x : ObjOk P w H h a o) : ∃ u, h.get? a = some u := by
  cases o with
  | lst xs => obtain ⟨_, _, _, _, e⟩ := x; exact ⟨_, e⟩
  | tup xs => obtain ⟨_, _, _, o, e, _⟩ := x; exact ⟨_, e⟩
  | dK kvs => obtain ⟨_, _, _, _, o, _, _, e, _⟩ := x; exact ⟨_, e⟩
  | dT kvs => obtain ⟨_, _, _, _, o, _, _, e, _⟩ := x; exact ⟨_, e⟩
  | set S n => obtain ⟨o, _, _, _, e, _⟩ := x; exact ⟨_, e⟩
  | ins C dx fs => obtain ⟨_, _, _, e, _⟩ := x; exact ⟨_, e⟩
  | own y => obtain ⟨_, e⟩ := x; exact ⟨_, e⟩
  | xd fs => obtain ⟨_, ⟨_, _, _, e, _⟩, _⟩ := x; exact ⟨_, e⟩
  | rng lo hi => obtain ⟨_, _, _, e⟩ := x; exact ⟨_, e⟩
  | frz ob u => obtain ⟨e, _⟩ := x; exact ⟨_, e⟩
  | tbl ps => exact ⟨_, x⟩
  | met f y => exact ⟨_, x⟩
  | ext φ => obtain ⟨_, ⟨_, e⟩, _⟩ := x; exact ⟨_, e⟩
/-! ### an exception behind a call -/
/-- it flies: the exception and its trace's head are new since h0, and not tracked -/
def Fly (h0 : Heap) (H : Hp) (h : Heap) (ea : Addr) (C : Value) (dx : Option Addr) : Prop :=
  ∃ a0 t, Xo h ea C dx a0 (some (t, .none)) ∧ h0.get? ea = none ∧ h0.get? t = none ∧ H ea = none ∧ H t = none
def CX1 (P : Program) (w : World) : CXT := fun outer H s E e s' => ∃ ea C dx H', e = .ref ea ∧ s'.os = s.os ∧ AllBare s'.gens ∧ Un (frs outer) [] H H' s.heap s'.heap ∧ HOk P w H' s'.heap ∧ Fly s.heap H' s'.heap ea C dx ∧ E C dx H'
section
variable {X : Cx} {pins : List (Addr × Obj)} {σ : St} {H H' : Hp} {s : Shared} {h' : Heap} {ea : Addr} {C a0 : Value} {dx : Option Addr} {T : Option (Addr × Value)}
/-- behind the noting of an exception all that is tracked stands -/
theorem Inv.chg (I : Inv X pins σ H s) (c : Chg (frs X.stack) ea (hdOf T) s.heap h') (h1 : H ea = none) (h2 : ∀ t, hdOf T = some t → H t = none) : HOk X.prog X.w H h' := by
  intro b u q
  refine (I.hok b u q).stay (fun d v hc e => c.keep d v ?_ ?_ ?_ e) (fun _ z => z) fun _ _ z => z
  · intro z
    have := I.stkFree d z
    rcases hc with y | y
    · rw [y, q] at this; cases this
    · rw [this] at y; cases y
  · rintro rfl
    rcases hc with y | y
    · rw [y, q] at h1; cases h1
    · rw [h1] at y; cases y
  · intro z
    have := h2 d z
    rcases hc with y | y
    · rw [y, q] at this; cases this
    · rw [this] at y; cases y
/-- an exception, new since the entry, leaves this frame -/
theorem Inv.leaves {M : Model} {E : Value → Shared → Prop} {Q : Unit → Shared → Prop} (I : Inv X pins σ H s) (hs : X.stack = X.env :: X.outer) (hf : X.env.frame = some X.env.locals) (hex : X.ex = [])
    (x : Xo s.heap ea C dx a0 T) (hT : T = none ∨ ∃ t, T = some (t, .none)) (n1 : X.s₀.heap.get? ea = none) (n2 : ∀ t, hdOf T = some t → X.s₀.heap.get? t = none ∧ H t = none) (n3 : H ea = none)
    (h : ∀ s' : Shared, s'.os = X.s₀.os → AllBare s'.gens → Un X.fs [] X.H₀ H X.s₀.heap s'.heap → HOk X.prog X.w H s'.heap → Fly X.s₀.heap H s'.heap ea C dx → Q () s') : wpAny M X.A (leaving X.env (.ref ea)) Q E s := by
  have fr := I.ok.frames
  have fu := I.stack
  rw [hs] at fr fu
  have ub := I.base
  rw [hex] at ub
  refine leave_ fr fu hf x hT fun h' t x' hn c => ?_
  rw [← hs] at c
  have ne : ∀ b o, X.s₀.heap.get? b = some o → b ≠ ea ∧ hdOf T ≠ some b ∧ b ≠ X.env.locals := fun b o q =>
    ⟨fun z => (by rw [z, n1] at q; cases q), fun z => (by rw [(n2 b z).1] at q; cases q), Nat.ne_of_lt (Nat.lt_of_lt_of_le (Heap.lt_size q) I.ok.above)⟩
  have hfs : frs X.stack = X.env.locals :: X.fs := by
    rw [hs]
    show List.filterMap _ _ = _
    rw [List.filterMap_cons, hf]
    rfl
  have hok := I.chg c n3 fun t z => (n2 t z).2
  have tn : H t = none := by
    cases q : H t with
    | none => rfl
    | some u =>
      obtain ⟨o, e⟩ := (I.hok t u q).thing
      rw [hn] at e
      cases e
  refine h _ I.os I.bare ⟨fun b o q n hb hx => ?_, fun b o q n hb hx => ?_, fun b o q n hx => ub.free b o q n hx, fun b o q hx => ?_, ub.tups, ub.frzs, ub.tbls⟩ hok ⟨a0, t, x', n1, ?_, n3, tn⟩
  · obtain ⟨y1, y2, y3⟩ := ne b o q
    exact c.keep b o (by rw [hfs]; simp [y3, hb]) y1 y2 (ub.keep b o q n hb hx)
  · obtain ⟨y1, y2, y3⟩ := ne b o q
    obtain ⟨sl, e⟩ := ub.slot b o q n hb hx
    obtain ⟨sl', e'⟩ := c.any y1 y2 e
    exact ⟨sl', e'⟩
  · obtain ⟨y1, y2, y3⟩ := ne b o q
    obtain ⟨o', e⟩ := ub.there b o q hx
    obtain ⟨sl', e'⟩ := c.any y1 y2 e
    exact ⟨_, e'⟩
  · cases q : X.s₀.heap.get? t with
    | none => rfl
    | some o =>
      obtain ⟨o', e⟩ := ub.there t o q (by simp)
      rw [hn] at e
      cases e
/-- this body wants of an exception, made here or come from a callee, what E says -/
def Thr (X : Cx) (E : XK) : Prop := ∀ (pins : List (Addr × Obj)) (σ : St) (H : Hp) (s : Shared) (ea : Addr) (C a0 : Value) (dx : Option Addr) (T : Option (Addr × Value)), Inv X pins σ H s → Xo s.heap ea C dx a0 T → (T = none ∨ ∃ t, T = some (t, .none)) →
  X.s₀.heap.get? ea = none → (∀ t, hdOf T = some t → X.s₀.heap.get? t = none ∧ H t = none) → H ea = none → (∀ p ∈ X.pn ++ pins, p.1 ≠ ea ∧ hdOf T ≠ some p.1) → E C dx H → X.xe (.ref ea) s
theorem Inv.old (I : Inv X pins σ H s) (hex : X.ex = []) {b : Addr} (h : s.heap.get? b = none) : X.s₀.heap.get? b = none := by
  cases q : X.s₀.heap.get? b with
  | none => rfl
  | some o =>
    obtain ⟨o', e⟩ := I.base.there b o q (by rw [hex]; simp)
    rw [h] at e
    cases e
theorem Inv.unpin (I : Inv X pins σ H s) {b : Addr} (h : s.heap.get? b = none) : ∀ p ∈ X.pn ++ pins, p.1 ≠ b := fun p hp z => by
  have := (I.pin p hp).1
  rw [z, h] at this
  cases this
theorem Thr.passes {E : XK} (t : Thr X E) (hex : X.ex = []) : Passes (CX1 X.prog X.w) X E := by
  intro pins σ H s e s' I h
  obtain ⟨ea, C, dx, H', rfl, ho, hb, un, hok, ⟨a0, t', x, n1, n2, n3, n4⟩, q⟩ := h
  exact t pins σ H' s' ea C a0 dx _ (I.call' ho un hok hb (fun b z => absurd z (by simp))) x (.inr ⟨_, rfl⟩) (I.old hex n1) (fun t z => by cases z; exact ⟨I.old hex n2, n4⟩) n3 (fun p hp => ⟨I.unpin n1 p hp, fun z => I.unpin n2 p hp (Option.some.inj z).symm⟩) q
/-- a def's body: an exception leaves it -/
theorem thr_fn {P : Program} {w : World} {K : PySem.W.Frag} {mg : Str → Option Value} {base : Heap} {N : List Str} {qual : Str} {scope : Scope} {f : Addr} {cd : Value} {A : Around} {outer : List Env} {s₀ : Shared} {H₀ : Hp} {E : XK} :
    Thr (cxOf (CX1 P w) P w K mg base N qual scope f cd A outer s₀ H₀ E) E := by
  intro pins σ H s ea C a0 dx T I x hT n1 n2 n3 _ q
  exact I.leaves (X := cxOf (CX1 P w) P w K mg base N qual scope f cd A outer s₀ H₀ E) rfl rfl rfl x hT n1 n2 n3 fun s' ho hb un hok fl => ⟨ea, C, dx, H, rfl, ho, hb, un, hok, fl, q⟩
end
section
variable {P : Program} {w : World} {K : PySem.W.Frag} {mg : Str → Option Value} {base : Heap}
/-- THE RULE for a def that may raise -/
theorem Fun.okX {x qual : Str} {st : Stmt} {f : Addr} {fd : FuncData} {N ps : List Str} {k : Nat} {sp : Sp} (F : Fun K x qual st f fd) (S : FnScope N ps (defScope st)) (len : ∀ vs H Q E, sp vs H Q E → vs.length = ps.length)
    (hbody : ∀ (cdv : Value) (A : Around) (outer : List Env) (s : Shared) (H : Hp) (vs : List V) (Q : VK) (E : XK), Room k (A.deeper (envOfC qual (defScope st) s.heap.objs.size f cdv)) → sp vs H Q E →
      ∃ t, PSs (cxOf (CX1 P w) P w K mg base N qual (defScope st) f cdv A outer s H E) (defBody st) t ∧ t { nx := fun _ H' => Q .non H', rt := Q } (start N vs) H) : FnOk P w K mg base (CX1 P w) (k + 1) f fd ps sp := by
  obtain ⟨oc, od, kV, doc, pm, an, cdv, ct, osl, rfl, lk, hcd⟩ := F.ex
  exact fn_of lk hcd S len fun A outer s H vs Q E hr hsp => hbody cdv A outer s H vs Q E hr hsp
/-- a def that never raises is one that may -/
theorem FnOk.up {k : Nat} {f : Addr} {fd : FuncData} {ps : List Str} {sp : Sp} {CX : CXT} (F : FnOk P w K mg base CX0 k f fd ps sp) : FnOk P w K mg base CX k f fd ps sp :=
  ⟨F.len, fun A outer s H args us vs Q E hr he hb hv hs => codeAny_mono (F.run A outer s H args us vs Q E hr he hb hv hs) fun r s' q => by
    cases r with
    | error e => exact False.elim q
    | ok fl => cases fl <;> exact q⟩
end
end L2

end
noncomputable section
namespace L2
open PySem PySem.Spec PyProof.Rows
/-! ### own classes of exceptions over ValueError -/
abbrev bmV : List Value := [.type "ValueError", .type "Exception", .type "BaseException", .type "object"]
section
variable {K : PySem.W.Frag} {h : Heap} {C : Addr} {bmB : List Value} {newId : String}
theorem exc_obj (X : K.In h) (q : PySem.W.excIn K C bmB newId = true) : ∃ bm N nm q bs hdct sn sub ab col dd k0 k1 k2 k3 k5 mN, h.get? C = some (excClassObj nm q C N bs bm hdct sn sub ab col dd k0 k1 k2 k3 k5 newId) ∧ h.Ns N mN ∧ mN "__init__" = none ∧ OwnTail h bmB bm := by
  unfold PySem.W.excIn at q
  split at q
  · rename_i dd cd sl ho
    split at q
    · rename_i C' bm k0 k1 k2 k3 n k5 hm hs
      simp only [Bool.and_eq_true, beq_iff_eq, Bool.not_eq_true'] at q
      obtain ⟨⟨⟨⟨⟨rfl, rfl⟩, hdel⟩, ht⟩, hok⟩, hni⟩ := q
      obtain ⟨nm, bs, mro, ns, qn, hd, sn, sub, ab, col, del⟩ := cd
      dsimp only at hm hdel hok hni
      subst hm hdel
      have hsl : sl = #[k0, k1, k2, k3, some (.builtin n), k5] := by
        obtain ⟨l⟩ := sl
        simp only at hs
        rw [hs]
      subst hsl
      exact ⟨bm, ns, nm, qn, bs, hd, sn, sub, ab, col, dd, k0, k1, k2, k3, k5, _, X _ _ ho, .of_isNs (PySem.W.isNs_of_in X hok), PySem.W.nsMap_none_of_in X hok hni, PySem.W.tail_of_in X ht⟩
    · cases q
  · cases q
/-- the same with a def __init__ of its own -/
def excInI (K : PySem.W.Frag) (C : Addr) (bmB : List Value) (newId : String) (fI : Addr) : Bool := match K.lookup C with
  | some ⟨.type "type", _, .cls cd, sl⟩ => (match cd.mro, sl.toList with
    | .ref C' :: bm, [_, _, _, _, some (.builtin n), _] => C' == C && n == newId && !cd.hasDel && PySem.W.tailIn K bmB bm && PySem.W.nsOkIn K cd.ns && PySem.W.nsIn K cd.ns "__init__" == some (some (.ref fI))
    | _, _ => false)
  | _ => false
theorem ns_some_of {N : Addr} {mg : Str → Option Value} {n : Str} {v : Value} (X : K.In h) (G : h.Ns N mg) (e : PySem.W.nsIn K N n = some (some v)) : mg n = some v := by
  obtain ⟨o, es, ep, ho, hd, _, hf⟩ := G
  unfold PySem.W.nsIn at e
  split at e
  · rename_i c d es' n' sl q
    have := X _ _ q
    rw [ho] at this
    cases this
    cases hd
    split at e
    · rename_i en he
      cases e
      rw [← hf]
      unfold nsFind findBy
      rw [← Array.find?_toList, he]
      rfl
    · split at e <;> cases e
  · cases e
theorem exc_objI {fI : Addr} (X : K.In h) (q : excInI K C bmB newId fI = true) : ∃ bm N nm q bs hdct sn sub ab col dd k0 k1 k2 k3 k5 mN, h.get? C = some (excClassObj nm q C N bs bm hdct sn sub ab col dd k0 k1 k2 k3 k5 newId) ∧ h.Ns N mN ∧ mN "__init__" = some (.ref fI) ∧ OwnTail h bmB bm := by
  unfold excInI at q
  split at q
  · rename_i dd cd sl ho
    split at q
    · rename_i C' bm k0 k1 k2 k3 n k5 hm hs
      simp only [Bool.and_eq_true, beq_iff_eq, Bool.not_eq_true'] at q
      obtain ⟨⟨⟨⟨⟨rfl, rfl⟩, hdel⟩, ht⟩, hok⟩, hni⟩ := q
      obtain ⟨nm, bs, mro, ns, qn, hd, sn, sub, ab, col, del⟩ := cd
      dsimp only at hm hdel hok hni
      subst hm hdel
      have hsl : sl = #[k0, k1, k2, k3, some (.builtin n), k5] := by
        obtain ⟨l⟩ := sl
        simp only at hs
        rw [hs]
      subst hsl
      exact ⟨bm, ns, nm, qn, bs, hd, sn, sub, ab, col, dd, k0, k1, k2, k3, k5, _, X _ _ ho, .of_isNs (PySem.W.isNs_of_in X hok), ns_some_of X (.of_isNs (PySem.W.isNs_of_in X hok)) hni, PySem.W.tail_of_in X ht⟩
    · cases q
  · cases q
end
/-! ### raise C(..), C without an __init__ of its own -/
section
variable {X : Cx}
theorem Xo.made {h h' : Heap} {e : Addr} {C : Value} {args : List Value} (m : Heap.MadeExcOf h h' e C args) : ∃ t, Xo h' e C none (.ref t) none := by
  obtain ⟨t, he, _, _⟩ := m.there
  exact ⟨t, ⟨_, _, he, rfl, rfl, rfl, by show 1 < 6; decide, rfl, rfl⟩⟩
def tRaise (C : Addr) (E : XK) (ta : TA) : TS := fun _ σ H => ta σ H fun vs H1 => vs.length ≤ sizeLine ∧ E (.ref C) none H1
theorem ps_raise {E : XK} {C : Addr} {x : Str} {np cpos pos : Pos} {e : Expr} {es : List Expr} {ta : TA} (th : Thr X E) (hex : X.ex = []) (hc : X.calm = true) (q : PySem.W.excIn X.K C bmV "ValueError.__new__" = true) (hg : Gl X x) (hm : X.mg x = some (.ref C))
    (ha : PA X (e :: es) ta) (hdb : (x == ("__debug__" : Str)) = false := by decide) (he : starEach (e :: es) X.env = (false, eval e X.env) :: starEach es X.env := by rfl) (hpl : (backTo cpos (starEach es X.env)).any (·.1) = false := by rfl) :
    PS X (.Raise (some (.Call (.Name x np) (e :: es) [] cpos)) none pos) (tRaise C E ta) := by
  intro pins s σ H D I h
  obtain ⟨bm, N, nm, q', bs, hdct, sn, sub, ab, col, dd, k0, k1, k2, k3, k5, mN, hC, hN, hni, T⟩ := exc_obj I.mod.kin q
  have hpl' : (backTo cpos (starEach (e :: es) X.env)).any (·.1) = false := by
    rw [he]
    show (false || (backTo cpos (starEach es X.env)).any (·.1)) = false
    rw [hpl]; rfl
  refine wpAny_Raise_call_subT (mN := mN) (C := C) (nm := nm) (q := q') (N := N) (bs := bs) (bm := bm) (hdct := hdct) (sn := sn) (sub := sub) (ab := ab) (col := col) (dd := dd) (k0 := k0) (k1 := k1) (k2 := k2) (k3 := k3) (k5 := k5) PySem.F.excBase_ValueError (T.hasType (by decide)) (I.ok.hd hc) hpl' hni (ld_glob I hg hm ⟨rfl, ?_⟩ hdb)
  have z := ha cpos pins s σ H _ I h
  rw [he] at z ⊢
  refine Calls.evalArgs_plain (thn z fun us s2 ⟨vs, H2, I2, r, hl, qE⟩ => ?_)
  refine ⟨rfl, ?_, I2.bk _ _ hC, hN.keeps I2.bk, T.keeps I2.bk, fun h' ea m => ?_⟩
  · show us.length ≤ _
    rw [← r.length]; exact hl
  · obtain ⟨t, xo⟩ := Xo.made m
    have I3 : Inv X pins σ H2 { s2 with heap := h' } := I2.kept (t' := s2.toks) m.keeps
    refine th pins σ H2 _ ea _ _ none none I3 xo (.inl rfl) (I2.old hex m.new) (fun t z => nomatch z) ?_ (fun p hp => ⟨I2.unpin m.new p hp, fun z => nomatch z⟩) qE
    exact (by
      cases z : H2 ea with
      | none => rfl
      | some u =>
        obtain ⟨o, e⟩ := (I2.hok ea u z).thing
        rw [m.new] at e
        cases e)
end
end L2

end
noncomputable section
namespace PySem
open Sem (wp)
section
variable {prog : Program} {w : World} {A : Around} {E : Value → Shared → Prop} {h : Heap} {g : Array GenState} {d : Drawn} {t : Nat} {os : OsState}
variable {nm q : Str} {C N : Addr} {bs bm bmB : List Value} {hdct : Bool} {sn : List Str} {sub : List Value} {ab : Bool} {col : Option Bool} {dd : Option Addr} {k0 k1 k2 k3 k5 : Option Value} {B newId initId : String}
theorem type_call_initT (F : ExcBaseFacts B newId initId bmB) (T : OwnTail h bmB bm) {mN : Str → Option Value} {rest : List Value} {fI : Addr} {oI : Obj} {Q : Fin → Shared → Prop}
    (hC : h.get? C = some (excClassObj nm q C N bs bm hdct sn sub ab col dd k0 k1 k2 k3 k5 newId)) (hn : h.Ns N mN) (hi : mN "__init__" = some (.ref fI))
    (hfI : h.get? fI = some oI) (hfc : oI.cls = .type "function")
    (hq : ∀ h' e, Heap.MadeExcOf h h' e (.ref C) rest →
      wpAny (model prog w) A (call (.ref fI) (.ref e :: rest)) (fun r s' => r = .none ∧ Q (.done (.ret (.ref e))) s') E ⟨h', g, d, t, os⟩) (hrest : rest.length ≤ sizeLine) :
    wpAny (model prog w) A (Builtin.«type.__call__» ⟨.ref C :: rest, []⟩) Q E ⟨h, g, d, t, os⟩ := by
  repeat (first | with_reducible refine wpAny_loadPart_at hC ?_ | with_reducible refine wpAny_madeBy_exc hC ?_ | wp_step)
  refine codeAny_call_builtin_code (Code.quiet_builtin _ F.quiet) (wpAny_check_new_subT F T hC ?_)
  refine codeAny_exc_new_subT F T hC ?_ hrest
  show wpAny _ _ _ _ _ _
  have hC₁ := Heap.get?_push_of_some { cls := .ref C, data := .fields #[.ref h.objs.size, .none, .none, .none, .bool false, .none] }
    (Heap.get?_push_of_some { cls := .type "tuple", data := .seq rest.toArray } hC)
  have hfI₁ := Heap.get?_push_of_some { cls := .ref C, data := .fields #[.ref h.objs.size, .none, .none, .none, .bool false, .none] }
    (Heap.get?_push_of_some { cls := .type "tuple", data := .seq rest.toArray } hfI)
  have hn₁ : ((h.push { cls := .type "tuple", data := .seq rest.toArray }).push { cls := .ref C, data := .fields #[.ref h.objs.size, .none, .none, .none, .bool false, .none] }).Ns N mN :=
    let ⟨o, es, ep, e, r⟩ := hn; ⟨o, es, ep, Heap.get?_push_of_some _ (Heap.get?_push_of_some _ e), r⟩
  have hget : ((h.push { cls := .type "tuple", data := .seq rest.toArray }).push
      { cls := .ref C, data := .fields #[.ref h.objs.size, .none, .none, .none, .bool false, .none] }).get? (h.objs.size + 1) = some
      { cls := .ref C, data := .fields #[.ref h.objs.size, .none, .none, .none, .bool false, .none] } := by heap_get
  have hcC : (Value.ref C :: bm).contains (.ref C) = true := by simp
  have T₁ := T.keeps (h' := (h.push { cls := .type "tuple", data := .seq rest.toArray }).push { cls := .ref C, data := .fields #[.ref h.objs.size, .none, .none, .none, .bool false, .none] })
    fun b o e => Heap.get?_push_of_some _ (Heap.get?_push_of_some _ e)
  unfold isInstance
  repeat (first | with_reducible refine wpAny_loadPart_at hget ?_ | (with_reducible refine wpAny_isSubtype_exc hC₁ ?_; rw [hcC]) | wp_step)
  show wpAny _ _ (typeLookup (.ref C) _) _ _ _
  refine wpAny_typeLookup_tail hC₁ hn₁ T₁ F.mroIs F.init.lookup ?_
  rw [hi]
  refine wpAny_holding (wpAny_bind ?_)
  unfold bindSpecial
  refine wpAny_bind (wpAny_typeOf (T := "function") ⟨_, hfI₁, hfc⟩ ?_)
  rw [if_pos (by decide)]
  refine wpAny_pure (wpAny_bind (wpAny_mono (hq _ (h.objs.size + 1) ⟨fun b o hb => Heap.get?_push_of_some _ (Heap.get?_push_of_some _ hb), Heap.get?_none_of_le (Nat.le_succ _), h.objs.size, hget, Heap.get?_none_of_le (Nat.le_refl _), ?_⟩) (fun r s' hr => ?_) fun _ _ x => x))
  · exact Heap.get?_push_of_some _ (Heap.get?_push_at rfl rfl)
  · obtain ⟨rfl, hQ⟩ := hr
    wp_walk
    exact hQ
theorem call_initT (F : ExcBaseFacts B newId initId bmB) (T : OwnTail h bmB bm) {mN : Str → Option Value} {rest : List Value} {fI : Addr} {oI : Obj} {Q : Value → Shared → Prop}
    (hC : h.get? C = some (excClassObj nm q C N bs bm hdct sn sub ab col dd k0 k1 k2 k3 k5 newId)) (hn : h.Ns N mN) (hi : mN "__init__" = some (.ref fI))
    (hfI : h.get? fI = some oI) (hfc : oI.cls = .type "function")
    (hq : ∀ h' e, Heap.MadeExcOf h h' e (.ref C) rest →
      wpAny (model prog w) (A.under (.builtin "type.__call__" ⟨.ref C :: rest, []⟩)) (call (.ref fI) (.ref e :: rest)) (fun r s' => r = .none ∧ Q (.ref e) s') E ⟨h', g, d, t, os⟩) (hrest : rest.length ≤ sizeLine) :
    wpAny (model prog w) A (call (.ref C) rest) Q E ⟨h, g, d, t, os⟩ := by
  have f1 := tc_lookup
  have f2 := tc_bind (.ref C)
  have hT : (⟨h, g, d, t, os⟩ : Shared).TypeIs (.ref C) "type" := ⟨_, hC, rfl⟩
  refine wpAny_call (codeAny_of_tree ?_)
  show wpAny _ _ (callAny (.ref C) _) _ _ _
  repeat (any_goals (first | assumption | with_reducible refine wpAny_loadPart_at hC ?_ | wp_step))
  refine ⟨rfl, ?_⟩
  refine codeAny_call_builtin_at (Code.quiet_builtin _ (by decide +kernel)) entry_typeCall (wpAny_check_type_call_sub hC (type_call_initT F T hC hn hi hfI hfc (fun h' e hm => ?_) hrest))
  exact hq h' e hm
end
section
variable {M : Model} {A : Around} {E : Value → Shared → Prop} {env : Env}
variable {nm q : Str} {C N : Addr} {bs bm : List Value} {hdct : Bool} {sn : List Str} {sub : List Value} {ab : Bool} {col : Option Bool} {dd : Option Addr} {k0 k1 k2 k3 k5 : Option Value} {newId : String}
theorem raiseStmt_made {s : Shared} {x : Sem Value} {Q : Flow → Shared → Prop} (hbase : bm.contains (.type "BaseException") = true) (hh : A.handled = none)
    (h : wpAny M A x (fun v s₁ => ∃ e a0 dx, v = .ref e ∧ s₁.heap.get? C = some (excClassObj nm q C N bs bm hdct sn sub ab col dd k0 k1 k2 k3 k5 newId) ∧
      s₁.heap.get? e = some { cls := .ref C, dict := dx, data := .fields #[a0, .none, .none, .none, .bool false, .none] } ∧ E (.ref e) s₁) E s) :
    wpAny M A (raiseStmt env (some x) none) Q E s := by
  have hcB : (Value.ref C :: bm).contains (.type "BaseException") = true := by rw [List.contains_cons, hbase, Bool.or_true]
  unfold raiseStmt
  refine wpAny_bind (wpAny_mono h (fun v s₁ h₁ => ?_) fun _ _ x => x)
  obtain ⟨e, a0, dx, rfl, hC, he, hE⟩ := h₁
  obtain ⟨hp, g, d, tk, os⟩ := s₁
  repeat (first | with_reducible refine wpAny_loadPart_at he ?_ | with_reducible refine wpAny_loadPart_at hC ?_ | (with_reducible refine wpAny_isSubtype_exc hC ?_; rw [hcB]) | wp_step)
  exact wpAny_raiseNew_none hh hE
/-- a class of one's own catches what is under it -/
theorem excMatches_under {nm' q' : Str} {R N' : Addr} {bs' bm' : List Value} {hdct' : Bool} {sn' : List Str} {sub' : List Value} {ab' : Bool} {col' : Option Bool} {dd' : Option Addr} {k0' k1' k2' k3' k5' : Option Value} {newId' : String}
    {h : Heap} {g : Array GenState} {d : Drawn} {t : Nat} {os : OsState} {e : Addr} {oe : Obj} {b : Bool} {Q : Bool → Shared → Prop}
    (hC : h.get? C = some (excClassObj nm q C N bs bm hdct sn sub ab col dd k0 k1 k2 k3 k5 newId))
    (hR : h.get? R = some (excClassObj nm' q' R N' bs' bm' hdct' sn' sub' ab' col' dd' k0' k1' k2' k3' k5' newId'))
    (he : h.get? e = some oe) (hcls : oe.cls = .ref C) (hbase : bm'.contains (.type "BaseException") = true) (hin : (Value.ref C :: bm).contains (.ref R) = b)
    (hq : Q b ⟨h, g, d, t, os⟩) : wpAny M A (excMatches (.ref e) (.ref R)) Q E ⟨h, g, d, t, os⟩ := by
  have hcB : (Value.ref R :: bm').contains (.type "BaseException") = true := by rw [List.contains_cons, hbase, Bool.or_true]
  have f := tc_notTuple
  unfold excMatches
  cases b <;>
  · repeat (first | (with_reducible refine wpAny_loadPart_at he ?_; rw [hcls]) | with_reducible refine wpAny_loadPart_at hR ?_ | (with_reducible refine wpAny_isSubtype_exc hR ?_; rw [hcB]) | (with_reducible refine wpAny_isSubtype_exc hC ?_; rw [hin]) | wp_step)
    exact hq
end
end PySem

end
noncomputable section
namespace PySem.W
open PySem PySem.Calls PyProof.Rows Builtin Builtin.ObjectAttr
/-- what an own class of exceptions has -/
structure ExcK (K : Frag) (C : Addr) : Prop where
  ga : findIn K (.ref C) "__getattribute__" = some (some (.builtin "BaseException.__getattribute__"))
  hk : findIn K (.ref C) "__getattr__" = some none
  bx : mroIn K C (.type "BaseException") = some true
  ob : mroIn K C (.type "object") = some true
  hd : hasDictIn K C = true
  ca : findIn K (.ref C) "__class__" = some (some (.builtin "object.__class__"))
  cn : specialIn K (.builtin "object.__class__") "__get__" = some (some (.builtin "getset_descriptor.__get__"))
  ct : takesIn K (.builtin "object.__class__") = some true
section
variable {prog : Program} {w : World} {A : Around} {E : Value → Shared → Prop} {s : Shared} {K : Frag} {x C : Addr} {ox : Obj} {od : Option Obj} {name : Str} {tk : Tok} {fill expr : Bool} {Q : Value → Shared → Prop}
theorem exc_open {r : Found} (X : K.In s.heap) (I : InstAt s.heap x ox C od) (k : ExcK K C) (e : findObj K C od name = some r)
    (h : wpAny (model prog w) A.in1 (match r with | .value v => (ret v : Sem Fin) | .bind g a => bindTo g a (.ref x) (.ref C) | .missing => unsupported "x")
      (fun fin s' => match fin with | .done (.ret v) => wpAny (model prog w) A (handedOut v) Q E s' | _ => False) (fun _ _ => False) s) (hm : r ≠ .missing) :
    wpAny (model prog w) A (getAttrBy (.ref x) (.str name tk) fill expr) Q E s := by
  have FB := PySem.F.attr_ValueError
  unfold getAttrBy
  refine wpAny_holding (wpAny_bind (I.type.here (wpAny_bind ((looks_findIn X k.ga).here ?_))))
  dsimp only
  rw [show (onTheHeap (Value.ref C) && Value.builtin "BaseException.__getattribute__" == Value.builtin "object.__getattribute__") = false from by rw [show (Value.builtin "BaseException.__getattribute__" == Value.builtin "object.__getattribute__") = false from by decide +kernel, Bool.and_false], if_neg (by decide)]
  unfold getAttrByItsOwn
  refine wpAny_bind ((looks_hook X (mc := .ref C) (r := none) (by rw [if_pos (show onTheHeap (Value.ref C) = true from rfl)]; exact k.hk)).here (wpAny_bind (wpAny_attempt (wpAny_holding ?_))))
  unfold callGetattribute
  rw [show (expr && onTheHeap (Value.builtin "BaseException.__getattribute__")) = false from Bool.and_false _, if_neg (by decide)]
  unfold boundAndCalled
  rw [FB.ga.bind]
  refine wpAny_bind (wpAny_pure ?_)
  show wpAny _ _ (call (.builtin "BaseException.__getattribute__") [.ref x, .str name tk]) _ _ _
  refine wpAny_call (codeAny_call_builtin FB.ga.plain F.entry_bexc_ga (@check_slot (model prog w) _ _ s "BaseException.__getattribute__" "BaseException" "__getattribute__" (.ref x) [.str name tk] [] _ (by decide +kernel) (by decide +kernel) (I.type.andThen (looks_mroIn X k.bx)) (F.args_bexc_ga _ _) ?_))
  unfold Builtin.«object.__getattribute__»
  refine wpAny_bind (wpAny_pure (wpAny_bind (wpAny_pure (wpAny_bind (I.type.here (wpAny_bind ((looks_find X I e).here ?_)))))))
  cases r with
  | missing => exact absurd rfl hm
  | value v =>
    refine wpAny_mono h (fun fin s' z => ?_) fun _ _ z => z.elim
    rcases fin with (_ | _ | _ | _) | _ <;> first | exact z | exact z.elim
  | bind g a =>
    refine wpAny_mono h (fun fin s' z => ?_) fun _ _ z => z.elim
    rcases fin with (_ | _ | _ | _) | _ <;> first | exact z | exact z.elim
/-- e.name, where e's own dict has it and no class has -/
theorem exc_value {v : Value} (X : K.In s.heap) (I : InstAt s.heap x ox C od) (k : ExcK K C) (e : findObj K C od name = some (.value v)) (hh : handedIn v = true) (h : Q v { s with toks := s.toks + 1 }) :
    wpAny (model prog w) A (getAttr (.ref x) name expr) Q E s := by
  unfold getAttr
  refine wpAny_bind (wpAny_mkText (exc_open (s := { s with toks := s.toks + 1 }) X I k e (wpAny_pure ?_) (by simp)))
  show wpAny _ _ (handedOut v) _ _ _
  rw [handedOut_of hh]
  exact wpAny_pure h
theorem exc_class {Q : Option Value → Shared → Prop} (X : K.In s.heap) (I : InstAt s.heap x ox C od) (k : ExcK K C) (h : Q (some (.ref C)) { s with toks := s.toks + 1 }) :
    wpAny (model prog w) A (getAttr? (.ref x) "__class__") Q E s := by
  have hf : findObj K C od "__class__" = some (.bind (.builtin "getset_descriptor.__get__") (.builtin "object.__class__")) := by
    obtain ⟨cd, hc, _⟩ := any_some k.hd
    unfold findObj
    rw [hc, Option.bind_some, k.ca, Option.bind_some]
    dsimp only
    rw [k.cn, Option.bind_some]
    dsimp only
    rw [k.ct]
    rfl
  unfold getAttr? getAttrBy?
  refine wpAny_bind (wpAny_mkText (wpAny_bind (wpAny_attempt (exc_open (s := { s with toks := s.toks + 1 }) X I k hf ?_ (by simp)))))
  refine wpAny_bind (wpAny_holding ?_)
  exact wpAny_call (class_get (s := { s with toks := s.toks + 1 }) (ox := ox) (od := od) X I k.ob (wpAny_pure (handed_on rfl (wpAny_pure h))))
theorem kitx_exc (k : ExcK K C) : KitX K (.ref x) (.ref C) (fun h => InstAt h x ox C od) where
  ty := fun _ _ _ I => I.type
  it := fun _ _ X _ => by
    obtain ⟨cdD, hcD, _⟩ := any_some k.hd
    unfold clsIn at hcD
    split at hcD
    · rename_i c' d' cd' sl' ho
      intro A' Q' E' s' k q
      unfold isType loadHead
      exact wpAny_bind (wpAny_loadPart (k _ _ (X _ _ ho)) (wpAny_pure q))
    · cases hcD
  ne := fun h tp dd its n sl X htp => by
    obtain ⟨cdD, hcD, _⟩ := any_some k.hd
    refine Bool.eq_false_iff.mpr fun q => ?_
    have e : C = tp := Value.ref.inj (beq_iff_eq.mp q)
    subst e
    unfold clsIn at hcD
    split at hcD
    · rename_i c' d' cd' sl' ho
      have z := (X _ _ ho).symm.trans htp
      cases z
    · cases hcD
  ca := fun X I q => exc_class X I k q
end
end PySem.W

end
noncomputable section
namespace PySem.W
open PySem PySem.Calls PyProof.Rows Builtin Builtin.ObjectAttr
def lackIn (K : Frag) (C R : Addr) : Bool := (clsIn K C).any fun cd => cd.mro == ([.ref C, .ref R, .type "ValueError", .type "Exception", .type "BaseException", .type "object"] : List Value) && cd.hasDict
section
variable {prog : Program} {w : World} {A : Around} {E : Value → Shared → Prop} {s : Shared} {K : Frag} {x C : Addr} {name : Str}
theorem exc_set {vs : Array Value} {R : Addr} {u : Value} {Q : Unit → Shared → Prop} (X : K.In s.heap) (hx : s.heap.get? x = some { cls := .ref C, dict := none, data := .fields vs }) (hs : findIn K (.ref C) "__setattr__" = some (some (.builtin "object.__setattr__")))
    (hl : lackIn K C R = true) (hf : findIn K (.ref C) name = some none)
    (h : ∀ h' d tk, h'.Ns1 d (fun y => if y = name then some u else none) → s.heap.objs.size ≤ d → h'.get? x = some { cls := .ref C, dict := some d, data := .fields vs } → (∀ b o, b ≠ x → s.heap.get? b = some o → h'.get? b = some o) → Q () { s with heap := h', toks := tk }) :
    wpAny (model prog w) A (setAttr (.ref x) name u) Q E s := by
  obtain ⟨hh, g, dr, tk0, os⟩ := s
  dsimp only at hx X h
  have SF := PySem.F.store_ValueError
  have I : InstAt hh x _ C none := ⟨hx, rfl, rfl, trivial⟩
  obtain ⟨cd, hc, hmd⟩ := any_some hl
  simp only [Bool.and_eq_true, beq_iff_eq] at hmd
  refine set_plain X I hs ?_
  have sub : Looks (model prog w) hh (isInstance (.ref x) (.type "object")) true := I.type.andThen (looks_mroIn X (by unfold mroIn; rw [hc, Option.bind_some, hmd.1]; rfl))
  refine codeAny_call_builtin SF.slot.plain SF.entry (@check_slot (model prog w) _ _ ⟨hh, g, dr, tk0 + 1, os⟩ "object.__setattr__" "object" "__setattr__" (.ref x) [.str name tk0, u] [] _ SF.kind SF.split sub (SF.args (.ref x) (.str name tk0) u) ?_)
  rw [osa_eq, refuse_eq]
  have hm : Looks (model prog w) hh (mroOf (.ref C)) cd.mro := (looks_clsIn X hc).andThen .now
  refine wpAny_bind (wpAny_bind (I.type.at (wpAny_bind (hm.at ?_))))
  rw [hmd.1, refuseLoop_ref, refuseLoop_ref, SF.passes]
  refine wpAny_pure (wpAny_bind (I.type.at (wpAny_bind ((looks_findIn X hf).at (wpAny_bind (wpAny_pure ?_))))))
  refine wpAny_bind (wpAny_pure (wpAny_bind (wpAny_bind (wpAny_loadPart hx (wpAny_bind ((looks_clsIn X hc).at ?_))))))
  rw [hmd.2]
  have hx₁ : (hh.push { cls := .type "dict", data := .dict #[] }).get? x = some { cls := .ref C, dict := none, data := .fields vs } := Heap.get?_push_of_some _ hx
  have hxs : x ≠ hh.objs.size := Nat.ne_of_lt (Heap.lt_size hx)
  refine wpAny_bind (wpAny_alloc' ?_)
  refine wpAny_bind (wpAny_update' hx₁ ?_)
  refine wpAny_pure (a := some hh.objs.size) ?_
  have hgd : ((hh.push { cls := .type "dict", data := .dict #[] }).update x fun o => { cls := o.cls, dict := some hh.objs.size, data := o.data, slots := o.slots }).get? hh.objs.size = some { cls := .type "dict", data := .dict #[] } :=
    (Heap.get?_update_ne _ _ _ _ hxs.symm).trans (Heap.get?_push_at rfl rfl)
  have hnd : ((hh.push { cls := .type "dict", data := .dict #[] }).update x fun o => { cls := o.cls, dict := some hh.objs.size, data := o.data, slots := o.slots }).Ns hh.objs.size (fun _ => none) :=
    ⟨_, #[], _, hgd, rfl, fun e he => absurd he (by simp), fun _ => rfl⟩
  show wpAny _ _ (storeInDict hh.objs.size (.str name tk0) name u) _ _ _
  unfold storeInDict newKeyGuard
  refine wpAny_bind (wpAny_pure (wpAny_bind (wpAny_nsSet1 (Heap.Ns1.of_empty hnd) fun h' hn' hs => ?_)))
  obtain ⟨oD, esD, epD, hoD, hdD, hcD⟩ := hn'.count (Within.cons name u Within.nil)
  refine wpAny_bind (wpAny_lookBehind hoD (by rw [hdD]; exact pastItsLine_dict (Nat.le_trans hcD (by rw [List.length_cons, List.length_nil, sizeLine_eq]; omega))) ?_)
  refine wpAny_pure (h h' hh.objs.size _ hn' (Nat.le_refl _) ?_ fun b ob hbx hb => ?_)
  · exact (hs.2 x hxs).trans (Heap.get?_update_self _ hx₁ rfl)
  · exact (hs.2 b (Nat.ne_of_lt (Heap.lt_size hb))).trans ((Heap.get?_update_ne _ _ _ _ hbx).trans (Heap.get?_push_of_some _ hb))
end
end PySem.W

end
noncomputable section
namespace L2
open PySem PySem.Spec PyProof.Rows
/-! ### a new exception, a caught one: tracked -/
def XcO (e C : Addr) (dx : Option Addr) : HO := .ext fun h => ∃ a0 : Addr, h.get? e = some { cls := .ref C, dict := dx, data := .fields #[.ref a0, .none, .none, .none, .bool false, .none] }
def CaO (e C : Addr) (dx : Option Addr) : HO := .ext fun h => ∃ vs sl, h.get? e = some { cls := .ref C, dict := dx, data := .fields vs, slots := sl }
section
variable {P : Program} {w : World} {H : Hp} {h : Heap} {e C : Addr} {dx : Option Addr}
theorem xc_ok {a0 : Addr} (q : h.get? e = some { cls := .ref C, dict := dx, data := .fields #[.ref a0, .none, .none, .none, .bool false, .none] }) : ObjOk P w H h e (XcO e C dx) := ⟨⟨_, q⟩, ⟨_, q⟩, fun _ _ ⟨a, z⟩ k => ⟨a, k _ z⟩⟩
theorem ca_ok {vs : Array Value} {sl : Array (Option Value)} (q : h.get? e = some { cls := .ref C, dict := dx, data := .fields vs, slots := sl }) : ObjOk P w H h e (CaO e C dx) := ⟨⟨_, _, q⟩, ⟨_, q⟩, fun _ _ ⟨a, b, z⟩ k => ⟨a, b, k _ z⟩⟩
theorem xc_get (ok : HOk P w H h) (q : H e = some (XcO e C dx)) : ∃ a0 : Addr, h.get? e = some { cls := .ref C, dict := dx, data := .fields #[.ref a0, .none, .none, .none, .bool false, .none] } := (show ObjOk P w H h e (XcO e C dx) from ok e _ q).1
theorem ca_get (ok : HOk P w H h) (q : H e = some (CaO e C dx)) : ∃ vs sl, h.get? e = some { cls := .ref C, dict := dx, data := .fields vs, slots := sl } := (show ObjOk P w H h e (CaO e C dx) from ok e _ q).1
end
theorem upd_self {H : Hp} {a : Addr} {o : HO} (h : H a = some o) : upd H a o = H := by
  funext b
  unfold upd
  split
  · rename_i e; subst e; exact h.symm
  · rfl
def del (H : Hp) (e : Addr) : Hp := fun b => if b = e then none else H b
theorem del_same {H : Hp} {e : Addr} : del H e e = none := if_pos rfl
theorem del_ne {H : Hp} {e b : Addr} (h : b ≠ e) : del H e b = H b := if_neg h
section
variable {X : Cx} {pins : List (Addr × Obj)} {σ : St} {H H' : Hp} {s : Shared} {h' : Heap} {a e : Addr} {o : HO}
theorem HOk.free {P : Program} {w : World} {h : Heap} (x : HOk P w H h) (hn : h.get? a = none) : H a = none := by
  cases z : H a with
  | none => rfl
  | some u =>
    obtain ⟨o, q⟩ := (x a u z).thing
    rw [hn] at q
    cases q
/-- an object is no longer tracked -/
theorem Inv.drop (I : Inv X pins σ H s) (hm : Mut (H e)) : Inv X pins σ (del H e) s := by
  have ne : ∀ b u, H b = some u → ¬ Mut (some u) → b ≠ e := fun b u q nm z => by subst z; rw [q] at hm; exact nm hm
  have hok : HOk X.prog X.w (del H e) s.heap := fun b u q => by
    have hb : b ≠ e := fun z => by rw [z, del_same] at q; cases q
    rw [del_ne hb] at q
    exact (I.hok b u q).stay (fun _ _ _ z => z) (fun c z => by rw [del_ne (ne c _ z fun y => y)]; exact z) fun c xs z => by rw [del_ne (ne c _ z fun y => y)]; exact z
  have := I.un (h' := s.heap) (t' := s.toks) (H' := del H e) ⟨fun _ _ q _ _ _ => q, fun _ o q _ _ _ => ⟨o.slots, q⟩, fun b _ _ n _ => by unfold del; split <;> first | rfl | exact n, fun _ o q _ => ⟨o, q⟩,
    fun b xs q => by rw [del_ne (ne b _ q fun y => y)]; exact q, fun b u xs q => by rw [del_ne (ne b _ q fun y => y)]; exact q, fun b ps q => ⟨#[], by rw [del_ne (ne b _ q fun y => y), q]; simp⟩⟩ hok
  exact this
/-- a new object is laid and tracked -/
theorem Inv.laidN {t' : Nat} (I : Inv X pins σ H s) (k : ∀ b u, s.heap.get? b = some u → h'.get? b = some u) (hn : s.heap.get? a = none) (new : ObjOk X.prog X.w (upd H a o) h' a o) :
    Inv X pins σ (upd H a o) { s with heap := h', toks := t' } := by
  have fr := I.hok.free hn
  refine I.un ⟨fun b u q _ _ _ => k b u q, fun b u q _ _ _ => ⟨u.slots, k b u q⟩, fun b u q n _ => ?_, fun b u q _ => ⟨u, k b u q⟩, fun b xs q => by rw [upd_ne (ne_of_none q fr)]; exact q, fun b u xs q => by rw [upd_ne (ne_of_none q fr)]; exact q, fun b ps q => ⟨#[], by rw [upd_ne (ne_of_none q fr), q]; simp⟩⟩ fun b u q => ?_
  · rw [upd_ne (fun z => by rw [z, hn] at q; cases q)]; exact n
  · by_cases hb : b = a
    · subst hb; rw [upd_same] at q; cases q; exact new
    · rw [upd_ne hb] at q
      exact (I.hok b u q).stay (fun c v _ q => k c v q) (fun c q => by rw [upd_ne (ne_of_none q fr)]; exact q) fun c xs q => by rw [upd_ne (ne_of_none q fr)]; exact q
/-- an untracked object that stands is tracked from now on, as what does not change it; it is new since the entry, no frame, no pin -/
theorem Inv.track (I : Inv X pins σ H s) (hex : X.ex = []) (hn : X.s₀.heap.get? a = none) (fr : H a = none) (hp : ∀ p ∈ X.pn ++ pins, p.1 ≠ a) (hl : a ≠ X.env.locals) (hcl : ∀ x c, X.env.cells.lookup x = some c → c ≠ a) (new : ObjOk X.prog X.w (upd H a o) s.heap a o) : Inv X pins σ (upd H a o) s where
  ok := I.ok
  os := I.os
  bare := I.bare
  base := ⟨fun b ob q n hb hx => I.base.keep b ob q n hb hx, I.base.slot, fun b ob q n hx => by rw [upd_ne (fun z => by rw [z, hn] at q; cases q)]; exact I.base.free b ob q n hx, I.base.there,
    fun b xs q => by have z := I.base.tups b xs q; rw [upd_ne (ne_of_none z fr)]; exact z, fun b u xs q => by have z := I.base.frzs b u xs q; rw [upd_ne (ne_of_none z fr)]; exact z,
    fun b ps q => by obtain ⟨m, z⟩ := I.base.tbls b ps q; exact ⟨m, by rw [upd_ne (ne_of_none z fr)]; exact z⟩⟩
  loc := I.loc
  cell := I.cell
  free := by rw [upd_ne (Ne.symm hl)]; exact I.free
  freeC := fun x c e => by rw [upd_ne (hcl x c e)]; exact I.freeC x c e
  pin := fun p q => by obtain ⟨a1, a2, a3⟩ := I.pin p q; exact ⟨a1, by rw [upd_ne (hp p q)]; exact a2, a3⟩
  hok := fun b u q => by
    by_cases hb : b = a
    · subst hb; rw [upd_same] at q; cases q; exact new
    · rw [upd_ne hb] at q
      exact (I.hok b u q).stay (fun _ _ _ z => z) (fun c q => by rw [upd_ne (ne_of_none q fr)]; exact q) fun c xs q => by rw [upd_ne (ne_of_none q fr)]; exact q
  len := I.len
end
/-! ### raise C(..), C with an __init__ of its own -/
section
variable {X : Cx}
def tRaiseI (C : Addr) (sp : Sp) (E : XK) (ta : TA) : TS := fun _ σ H => ta σ H fun vs H1 => vs.length ≤ sizeLine ∧ ∀ e, H1 e = none → sp (.ref e :: vs) (upd H1 e (XcO e C none)) (fun v H2 => v = .non ∧ ∃ dx, H2 e = some (XcO e C dx) ∧ E (.ref C) dx (del H2 e)) E0
theorem ps_raiseI {E : XK} {C fI : Addr} {fd : FuncData} {ps : List Str} {sp : Sp} {k : Nat} {x : Str} {np cpos pos : Pos} {e : Expr} {es : List Expr} {ta : TA} (th : Thr X E) (hex : X.ex = []) (hc : X.calm = true) (q : excInI X.K C bmV "ValueError.__new__" fI = true)
    (hfn : PySem.W.isFn X.K (.ref fI) = true) (hkp : PySem.W.keepIn X.K (.ref C) = true) (F : FnOk X.prog X.w X.K X.mg X.base CX0 k fI fd ps sp) (hr : Room (k + 1) X.A) (hb : Binds X.K fd ps []) (hg : Gl X x) (hm : X.mg x = some (.ref C))
    (ha : PA X (e :: es) ta) (hdb : (x == ("__debug__" : Str)) = false := by decide) (he : starEach (e :: es) X.env = (false, eval e X.env) :: starEach es X.env := by rfl) (hpl : (backTo cpos (starEach es X.env)).any (·.1) = false := by rfl) :
    PS X (.Raise (some (.Call (.Name x np) (e :: es) [] cpos)) none pos) (tRaiseI C sp E ta) := by
  intro pins s σ H D I h
  obtain ⟨bm, N, nm, q', bs, hdct, sn, sub, ab, col, dd, k0, k1, k2, k3, k5, mN, hC, hN, hi, T⟩ := exc_objI I.mod.kin q
  obtain ⟨oI, hoI, hcI⟩ : ∃ oI, X.base.get? fI = some oI ∧ oI.cls = .type "function" := by
    have z : PySem.W.typeIn X.K (.ref fI) = some (.type "function") := beq_iff_eq.mp hfn
    unfold PySem.W.typeIn at z
    obtain ⟨o, ho, z⟩ := Option.map_eq_some_iff.mp z
    exact ⟨o, I.mod.kin _ _ ho, z⟩
  rw [arm_exec_Raise]
  refine wpAny_bind (wpAny_standAt (raiseStmt_made (C := C) (nm := nm) (q := q') (N := N) (bs := bs) (bm := bm) (hdct := hdct) (sn := sn) (sub := sub) (ab := ab) (col := col) (dd := dd) (k0 := k0) (k1 := k1) (k2 := k2) (k3 := k3) (k5 := k5) (newId := "ValueError.__new__") (T.hasType (by decide)) (I.ok.hd hc) ?_))
  refine wpAny_bind (wpAny_mono (Q := fun v s₁ => ∃ e a0 dx, v = .ref e ∧ s₁.heap.get? C = some (excClassObj nm q' C N bs bm hdct sn sub ab col dd k0 k1 k2 k3 k5 "ValueError.__new__") ∧
      s₁.heap.get? e = some { cls := .ref C, dict := dx, data := .fields #[a0, .none, .none, .none, .bool false, .none] } ∧ X.xe (.ref e) s₁) (E := X.xe) ?_ (fun v s₃ h₃ => wpAny_bind (wpAny_standAt (wpAny_pure h₃))) fun _ _ x => x)
  refine wpAny_Call_Name_kw (ld_glob I hg hm ?_ hdb)
  refine PySem.W.callWith_K (h₀ := X.base) I.ok.mod.kin hkp (thn (ha cpos pins s σ H _ I h) fun us s1 ⟨vs, H1, I1, r, hl, q1⟩ => ⟨I1.kIn, ?_⟩) he hpl
  have hus : us.length ≤ sizeLine := by rw [← r.length]; exact hl
  obtain ⟨hp, g, d, tk, os⟩ := s1
  refine call_initT PySem.F.excBase_ValueError (T.keeps I1.bk) (I1.bk _ _ hC) (hN.keeps I1.bk) hi (I1.bk _ _ hoI) hcI (fun h' ea m => ?_) hus
  obtain ⟨tt, het, _, _⟩ := m.there
  have fr := I1.hok.free m.new
  have I2 : Inv X pins σ (upd H1 ea (XcO ea C none)) ⟨h', g, d, tk, os⟩ := I1.laidN (t' := tk) m.keeps m.new (xc_ok het)
  have hq := q1 ea fr
  have r2 : Vals (V.ref ea :: vs) (Value.ref ea :: us) := .cons rfl r
  have hl2 : (Value.ref ea :: us ++ []).length = ps.length := by
    rw [List.append_nil, ← r2.length]
    exact F.len _ _ _ _ hq
  have hb2 := hb ⟨h', g, d, tk, os⟩ (Value.ref ea :: us) I2.kIn hl2
  rw [List.append_nil] at hb2
  refine wpAny_call (codeAny_mono (F.run _ X.stack _ _ ⟨Value.ref ea :: us, []⟩ (Value.ref ea :: us) _ _ E0 (hr.make C us []) (I2.env0.make C us []) hb2 r2 hq) fun r s' hq' => ?_)
  cases r with
  | error e => exact False.elim hq'
  | ok fl =>
    cases fl with
    | ret u =>
      obtain ⟨v, H', I3, rv, ev, dx, e3, qE⟩ := I2.after hq'
      subst ev
      obtain ⟨a0, g0⟩ := xc_get I3.hok e3
      refine ⟨rv, ea, .ref a0, dx, rfl, I3.bk _ _ hC, g0, ?_⟩
      exact th pins σ _ s' ea _ (.ref a0) dx none (I3.drop (by rw [e3]; exact True.intro)) ⟨_, _, g0, rfl, rfl, rfl, by show 1 < 6; decide, rfl, rfl⟩ (.inl rfl) (I1.old hex m.new) (fun t z => nomatch z) del_same (fun p hp => ⟨I1.unpin m.new p hp, fun z => nomatch z⟩) qE
    | next => exact False.elim hq'
    | brk => exact False.elim hq'
    | cont => exact False.elim hq'
end
end L2

end
noncomputable section
namespace L2
open PySem PySem.Spec PyProof.Rows
section
variable {X : Cx}
/-! ### R.__init__(self, x), R an own class over ValueError -/
def tXinit (C : Addr) (t : TA) : TE := fun σ H Q => t σ H fun vs H1 => ∃ e v dx, vs = [.ref e, v] ∧ H1 e = some (XcO e C dx) ∧ Q .non H1
theorem pe_xinit {C R fI : Addr} {x : Str} {np ap cp : Pos} {a b : Expr} {t : TA} {pl : Sem Bool} (hg : Gl X x) (hm : X.mg x = some (.ref R)) (h1 : PySem.W.specialIn X.K (.ref R) "__getattribute__" = some (some (.builtin "type.__getattribute__")))
    (h2 : PySem.W.readsIn X.K R (.type "type") = true) (h3 : PySem.W.findCls X.K (.ref R) (.type "type") "__init__" = some (.val (.builtin "ValueError.__init__"))) (q : excInI X.K C bmV "ValueError.__new__" fI = true) (ha : PA X [a, b] t)
    (hdb : (x == ("__debug__" : Str)) = false := by decide) (he : starEach [a, b] X.env = (false, eval a X.env) :: starEach [b] X.env := by rfl) (hpl : (backTo cp (starEach [a, b] X.env)).any (·.1) = false := by rfl)
    (ht : eval (.Call (.Attribute (.Name x np) "__init__" ap) [a, b] [] cp) X.env = (do
      let ov ← eval (.Name x np) X.env
      standAt ap.atName
      let (f, first) ← holding [ov] (getMethod ov "__init__" pl)
      callWith cp f first (backTo cp (starEach [a, b] X.env)) (backToKw cp (keywordEach [] X.env))) := by rfl) :
    PE X (.Call (.Attribute (.Name x np) "__init__" ap) [a, b] [] cp) (tXinit C t) := by
  intro pins s σ H Q I h
  refine PySem.W.methodCall_KW (pl := pl) (ld_glob I hg hm ?_ hdb) ht
  refine PySem.W.method_cls I.kIn h1 (PySem.W.cls_value I.kIn h2 h3 rfl ?_)
  show wpAny _ _ (callWith cp (.builtin "ValueError.__init__") [] (backTo cp (starEach [a, b] X.env)) []) _ _ _
  refine Calls.callWith_builtin hpl ?_
  have z := ha cp pins _ σ H _ (I.tok (s.toks + 1)) h
  rw [he] at z ⊢
  refine Calls.evalArgs_plain (thn z fun us s2 ⟨vs, H2, I2, r, ea, v, dx, evs, e2, qq⟩ => ?_)
  subst evs
  obtain ⟨bm, N, nm, q', bs, hdct, sn, sub, ab, col, dd, k0, k1, k2, k3, k5, mN, hC, hN, hi, T⟩ := exc_objI I2.mod.kin q
  obtain ⟨u1, u2, rfl, r1, r2⟩ := r.two
  cases (show u1 = Value.ref ea from r1)
  obtain ⟨a0, g0⟩ := xc_get I2.hok e2
  have hC2 := I2.bk _ _ hC
  have T2 := T.keeps I2.bk
  have F := PySem.F.excBase_ValueError
  obtain ⟨hp, g, d, tk, os⟩ := s2
  dsimp only at hC2 T2 g0
  show wpAny _ _ (call (.builtin "ValueError.__init__") [.ref ea, u2]) _ _ _
  refine wpAny_call (codeAny_call_builtin F.init.plain F.initEntry (wpAny_check_init_subT F T2 hC2 g0 rfl ?_))
  unfold Builtin.«BaseException.__init__»
  wp_walk
  refine ⟨.non, H2, ?_, rfl, qq⟩
  have g1 := Heap.get?_push_of_some ({ cls := .type "tuple", data := .seq [u2].toArray } : Obj) g0
  have I3 := I2.write (x := ea) (e := ea) (o := XcO ea C dx) (t' := tk) (h' := (hp.push { cls := .type "tuple", data := .seq [u2].toArray }).update ea (Obj.mapFields (·.setIfInBounds 0 (.ref hp.objs.size)))) (by rw [e2]; exact True.intro) (.inl rfl)
    (fun b o hb z => (Heap.get?_update_other _ _ (Ne.symm hb)).trans (Heap.get?_push_of_some _ z)) ⟨_, Heap.get?_update_self _ g1 rfl⟩ (xc_ok (a0 := hp.objs.size) (Heap.get?_update_self _ g1 rfl))
  rw [upd_self e2] at I3
  exact I3

/-! ### self.f = v of a new exception -/
def sXfld (K : PySem.W.Frag) (C R : Addr) (ta tv : TE) (f : Str) : TS := fun D σ H => tv σ H fun y H1 => ta σ H1 fun x H2 => ∃ e, x = .ref e ∧ H2 e = some (XcO e C none) ∧
  ∀ d, H2 d = none → d ≠ e → D.nx σ (upd (upd H2 d (.xd [(f, y)])) e (XcO e C (some d)))
theorem ps_xfld {C R : Addr} {o value : Expr} {f : Str} {pos pos' : Pos} {ta tv : TE} (hs : PySem.W.findIn X.K (.ref C) "__setattr__" = some (some (.builtin "object.__setattr__"))) (hl : PySem.W.lackIn X.K C R = true) (hf : PySem.W.findIn X.K (.ref C) f = some none)
    (ha : PE X o ta) (hv : PE X value tv) (hw : swapsWith value (some (.Attribute o f pos')) pos.line X.env = pure false) : PS X (.Assign [.Attribute o f pos'] value pos) (sXfld X.K C R ta tv f) := by
  intro pins s σ H D I h
  refine plainObj_wpAny_Assign_Attribute (thn (hv pins s σ H _ I h) fun u s1 ⟨y, H1, I1, ry, q⟩ => thn (ha pins s1 σ H1 _ I1 q) fun ov s2 ⟨x, H2, I2, rx, e, ex, e2, q2⟩ => ?_) hw
  subst ex
  obtain rfl : ov = Value.ref e := rx
  obtain ⟨a0, g0⟩ := xc_get I2.hok e2
  refine PySem.W.exc_set I2.kIn g0 hs hl hf fun h' d tk ns hd g1 k => ?_
  have ne : d ≠ e := fun z => by
    subst z
    exact absurd (Nat.lt_of_lt_of_le (Heap.lt_size g0) hd) (Nat.lt_irrefl _)
  have fr := I2.hok.fresh hd
  refine ⟨σ, _, ?_, q2 d fr ne⟩
  have mu : Mut (H2 e) := by rw [e2]; exact True.intro
  have od : ∃ u, h'.get? d = some u := by obtain ⟨o, _, _, z, _⟩ := ns; exact ⟨o, z⟩
  refine I2.un (H' := upd (upd H2 d (.xd [(f, y)])) e (XcO e C (some d))) ⟨fun b v q n hb _ => k b v (fun z => ?_) q, fun b v q n hb _ => ⟨v.slots, k b v (fun z => ?_) q⟩, fun b v q n _ => ?_, fun b v q _ => ?_, fun b xs q => ?_, fun b v xs q => ?_, fun b ps q => ⟨#[], ?_⟩⟩ fun b v q => ?_
  · subst z; rw [n] at mu; exact mu
  · subst z; rw [n] at mu; exact mu
  · have h1 : b ≠ e := fun z => by subst z; rw [n] at mu; exact mu
    have h2 : b ≠ d := fun z => by subst z; exact absurd (Nat.lt_of_lt_of_le (Heap.lt_size q) hd) (Nat.lt_irrefl _)
    rw [upd_ne h1, upd_ne h2]; exact n
  · by_cases z : b = e
    · subst z; exact ⟨_, g1⟩
    · exact ⟨v, k b v z q⟩
  · have h1 : b ≠ e := fun z => by subst z; rw [e2] at q; cases q
    rw [upd_ne h1, upd_ne (ne_of_none q fr)]; exact q
  · have h1 : b ≠ e := fun z => by subst z; rw [e2] at q; cases q
    rw [upd_ne h1, upd_ne (ne_of_none q fr)]; exact q
  · have h1 : b ≠ e := fun z => by subst z; rw [e2] at q; cases q
    rw [upd_ne h1, upd_ne (ne_of_none q fr), q]; simp
  · by_cases h1 : b = e
    · subst h1
      rw [upd_same] at q
      cases q
      exact xc_ok g1
    · rw [upd_ne h1] at q
      by_cases h2 : b = d
      · subst h2
        rw [upd_same] at q
        cases q
        refine ⟨_, ns, fun z => ?_⟩
        by_cases hz : z = f
        · subst hz
          show RelO (List.lookup z [(z, y)]) (if z = z then some u else none)
          rw [if_pos rfl]
          simp only [List.lookup, beq_self_eq_true]
          exact ry
        · show RelO (List.lookup z [(f, y)]) (if z = f then some u else none)
          rw [if_neg hz]
          have : (z == f) = false := beq_eq_false_iff_ne.mpr hz
          simp only [List.lookup, this]
          exact True.intro
      · rw [upd_ne h2] at q
        refine (I2.hok b v q).stay (fun c u' hc z => k c u' (fun y => ?_) z) (fun c z => ?_) fun c xs z => ?_
        · subst y
          rcases hc with y | y
          · exact h1 y.symm
          · rw [e2] at y; cases y
        · rw [upd_ne (fun y => by subst y; rw [e2] at z; cases z), upd_ne (ne_of_none z fr)]; exact z
        · rw [upd_ne (fun y => by subst y; rw [e2] at z; cases z), upd_ne (ne_of_none z fr)]; exact z
/-! ### a caught exception: isinstance, its attribute -/
def dictOk (H : Hp) : Option Addr → Prop
  | none => True
  | some d => ∃ fs, H d = some (.xd fs)
theorem ca_inst {pins : List (Addr × Obj)} {σ : St} {H : Hp} {s : Shared} {e C : Addr} {dx : Option Addr} (I : Inv X pins σ H s) (h : H e = some (CaO e C dx)) (hd : dictOk H dx) : ∃ ox od, PySem.W.InstAt s.heap e ox C od := by
  obtain ⟨vs, sl, g⟩ := ca_get I.hok h
  cases dx with
  | none => exact ⟨_, none, g, rfl, rfl, trivial⟩
  | some d =>
    obtain ⟨fs, hd⟩ := hd
    obtain ⟨o, q⟩ := (I.hok d _ hd).thing
    exact ⟨_, some o, g, rfl, rfl, q⟩
theorem call_isiX : CallR X (.builtin "isinstance") (fun xs H Q => ∃ e C dx c cv b, xs = [.ref e, c] ∧ clsV c = some cv ∧ H e = some (CaO e C dx) ∧ dictOk H dx ∧ PySem.W.ExcK X.K C ∧ PySem.W.kitOne X.K (.ref C) cv = some b ∧ Q (.bl b) H) := by
  intro pins s σ H xs us Q I r h
  obtain ⟨x, C, dx, c, cv, b, rfl, hc, hx, hd, k, e, q⟩ := h
  obtain ⟨u, v, rfl, ru, rv⟩ := r.two
  have hv : v = cv := by
    cases c with
    | ty n => cases rv; exact Option.some.inj hc
    | ref a => cases rv; exact Option.some.inj hc
    | _ => cases hc
  subst hv
  cases (show u = Value.ref x from ru)
  obtain ⟨ox, od, J⟩ := ca_inst I hx hd
  exact PySem.W.kia_one (PySem.W.kitx_exc k) I.kIn J e (fun z => nomatch z) fun tk => ⟨.bl b, H, I.tok tk, rfl, q⟩
theorem isiX (K : PySem.W.Frag) (h : X.K = K := by rfl) : CallR X (.builtin "isinstance") (fun xs H Q => ∃ e C dx c cv b, xs = [.ref e, c] ∧ clsV c = some cv ∧ H e = some (CaO e C dx) ∧ dictOk H dx ∧ PySem.W.ExcK K C ∧ PySem.W.kitOne K (.ref C) cv = some b ∧ Q (.bl b) H) := by subst h; exact call_isiX
def tXget (K : PySem.W.Frag) (ta : TE) (f : Str) : TE := fun σ H Q => ta σ H fun x H1 => ∃ e C d fs v, x = .ref e ∧ H1 e = some (CaO e C (some d)) ∧ H1 d = some (.xd fs) ∧ PySem.W.ExcK K C ∧ PySem.W.findIn K (.ref C) f = some none ∧ fs.lookup f = some v ∧ Q v H1
theorem pe_xget (K : PySem.W.Frag) {e : Expr} {f : Str} {pos : Pos} {ta : TE} (he : PE X e ta) (hb : attributeBase e f X.env (eval e X.env) = eval e X.env := by rfl) (hK : X.K = K := by rfl) : PE X (.Attribute e f pos) (tXget K ta f) := by
  subst hK
  intro pins s σ H Q I h
  refine attr_of hb (thn (he pins s σ H _ I h) fun u s1 ⟨x, H1, I1, rx, a, C, d, fs, v, ex, ea, hd, k, n, l, q⟩ => ?_)
  subst ex
  obtain rfl : u = Value.ref a := rx
  obtain ⟨vs, sl, g⟩ := ca_get I1.hok ea
  obtain ⟨mA, ns, rr⟩ := (show ObjOk X.prog X.w H1 s1.heap d (.xd fs) from I1.hok d _ hd)
  obtain ⟨od, ho, hl⟩ := lookIn_ns ns
  obtain ⟨u, hu, ru⟩ := RelO.some_of (v := v) (o := mA f) (by rw [← l]; exact rr f)
  exact PySem.W.exc_value I1.kIn (od := some od) ⟨g, rfl, rfl, ho⟩ k (PySem.W.findObj_own k.hd n rfl (by rw [hl, hu])) (handed_of ru) ⟨v, H1, I1.tok _, ru, q⟩
end
end L2

end
noncomputable section
namespace L2
open PySem PySem.Spec PyProof.Rows
/-! ### the same body around another handled exception, other pins, another wish -/
abbrev Cx.alt (X : Cx) (A : Around) (c : Bool) (pn : List (Addr × Obj)) (E : Value → Shared → Prop) : Cx := { X with A := A, calm := c, pn := pn, xe := E }
section
variable {X : Cx} {pins : List (Addr × Obj)} {σ : St} {H : Hp} {s : Shared}
theorem Inv.alt {A : Around} {c : Bool} {pn pins' : List (Addr × Obj)} {E : Value → Shared → Prop} (I : Inv X pins σ H s) (hf : A.frames = X.A.frames) (hc : c = true → A.handled = none) (hp : ∀ p ∈ pn ++ pins', p ∈ X.pn ++ pins) : Inv (X.alt A c pn E) pins' σ H s :=
  ⟨⟨I.ok.mod, I.ok.kind, I.ok.glob, I.ok.blt, I.ok.above, I.ok.inj, I.ok.has, I.ok.cab, hc, hf.trans I.ok.frames, I.ok.stk, I.ok.exf, I.ok.bs, I.ok.bsz, I.ok.noex, I.ok.exfs, I.ok.funs, I.ok.frf⟩, I.os, I.bare, I.base, I.loc, I.cell, I.free, I.freeC, fun p q => I.pin p (hp p q), I.hok, I.len⟩
theorem Inv.unalt {A : Around} {c : Bool} {pn pins' : List (Addr × Obj)} {E : Value → Shared → Prop} (I : Inv (X.alt A c pn E) pins' σ H s) (hf : A.frames = X.A.frames) (hc : X.calm = true → X.A.handled = none) (hp : ∀ p ∈ X.pn ++ pins, p ∈ pn ++ pins') : Inv X pins σ H s :=
  ⟨⟨I.ok.mod, I.ok.kind, I.ok.glob, I.ok.blt, I.ok.above, I.ok.inj, I.ok.has, I.ok.cab, hc, hf.symm.trans I.ok.frames, I.ok.stk, I.ok.exf, I.ok.bs, I.ok.bsz, I.ok.noex, I.ok.exfs, I.ok.funs, I.ok.frf⟩, I.os, I.bare, I.base, I.loc, I.cell, I.free, I.freeC, fun p q => I.pin p (hp p q), I.hok, I.len⟩
/-- behind the noting of an exception -/
theorem Inv.noted {h' : Heap} {ea : Addr} {C a0 : Value} {dx : Option Addr} {T : Option (Addr × Value)} (I : Inv X pins σ H s) (hex : X.ex = []) (x : Xo s.heap ea C dx a0 T) (c : Chg (frs X.stack) ea (hdOf T) s.heap h') 
    (n1 : X.s₀.heap.get? ea = none) (n2 : ∀ t, hdOf T = some t → X.s₀.heap.get? t = none ∧ H t = none) (n3 : H ea = none) (np : ∀ p ∈ X.pn ++ pins, p.1 ≠ ea ∧ hdOf T ≠ some p.1) : Inv X pins σ H { s with heap := h' } := by
  obtain ⟨m, ⟨oL, es, ep, hoL, hdL, rL⟩, _⟩ := id I.loc
  obtain ⟨oe, vs, he, _, _, hdE, _, _, hT⟩ := x.ob
  have dead : ∀ b : Addr, hdOf T = some b → ∃ o ts, s.heap.get? b = some o ∧ o.data = .fields ts := fun b z => by
    cases T with
    | none => cases z
    | some p =>
      obtain ⟨t, fl⟩ := p
      cases z
      obtain ⟨_, _, oT, ts, q1, q2, _⟩ := hT
      exact ⟨oT, ts, q1, q2⟩
  have fl : ∀ b o, s.heap.get? b = some o → (∀ vs, o.data ≠ .fields vs) → b ≠ ea ∧ hdOf T ≠ some b := fun b o q nf => by
    refine ⟨fun z => ?_, fun z => ?_⟩
    · rw [z, he] at q; cases q; exact nf _ hdE
    · obtain ⟨o', ts, q1, q2⟩ := dead b z
      rw [q] at q1; cases q1; exact nf _ q2
  have old : ∀ b o, X.s₀.heap.get? b = some o → b ≠ ea ∧ hdOf T ≠ some b := fun b o q =>
    ⟨fun z => (by rw [z, n1] at q; cases q), fun z => (by rw [(n2 b z).1] at q; cases q)⟩
  have nst : ∀ b, b ≠ X.env.locals → b ∉ X.fs → b ∉ frs X.stack := fun b h1 h2 z => (List.mem_cons.mp (I.stkSub b z)).elim h1 h2
  have cel : ∀ b v, s.heap.IsCell b v → h'.IsCell b v := fun b v ⟨o, ho, hd⟩ => by
    have z := fl b o ho fun vs y => by rw [hd] at y; cases y
    obtain ⟨sl, q⟩ := c.any z.1 z.2 ho
    exact ⟨_, q, hd⟩
  have ub := I.base
  rw [hex] at ub
  refine ⟨I.ok, I.os, I.bare, ?_, ?_, fun y c e => ?_, I.free, I.freeC, fun p hp => ?_, I.chg c n3 fun t z => (n2 t z).2, I.len⟩
  · rw [hex]
    refine ⟨fun b o q n hb hx => ?_, fun b o q n hb hx => ?_, ub.free, fun b o q hx => ?_, ub.tups, ub.frzs, ub.tbls⟩
    · exact c.keep b o (nst b (Nat.ne_of_lt (Nat.lt_of_lt_of_le (Heap.lt_size q) I.ok.above)) hb) (old b o q).1 (old b o q).2 (ub.keep b o q n hb hx)
    · obtain ⟨sl, e⟩ := ub.slot b o q n hb hx
      obtain ⟨sl', e'⟩ := c.any (old b o q).1 (old b o q).2 e
      exact ⟨sl', e'⟩
    · obtain ⟨o', e⟩ := ub.there b o q hx
      obtain ⟨sl', e'⟩ := c.any (old b o q).1 (old b o q).2 e
      exact ⟨_, e'⟩
  · obtain ⟨m, ⟨oL, es, ep, hoL, hdL, rL⟩, hl⟩ := I.loc
    have locs := fl _ _ hoL (fun vs z => by rw [hdL] at z; cases z)
    obtain ⟨sl, q⟩ := c.any locs.1 locs.2 hoL
    refine ⟨m, ⟨_, es, ep, q, hdL, rL⟩, fun i y v e1 e2 e3 => ?_⟩
    obtain ⟨u, r, l⟩ := hl i y v e1 e2 e3
    refine ⟨u, r, ?_⟩
    rcases l with l | ⟨k, c', e, z⟩
    · exact .inl l
    · exact .inr ⟨k, c', e, cel _ _ z⟩
  · obtain ⟨v, z⟩ := I.cell y c e
    exact ⟨v, cel _ _ z⟩
  · obtain ⟨a1, a2, a3, a4, a5⟩ := I.pin p hp
    exact ⟨c.keep _ _ (nst _ a3 a4) (np p hp).1 (np p hp).2 a1, a2, a3, a4, a5⟩

/-- the frame's names are forgotten -/
theorem Inv.forget {h' : Heap} {m' : Str → Option Value} {tk : Nat} (I : Inv X pins σ H s) (ns : h'.Ns X.env.locals m') (sb : Heap.SameBut X.env.locals s.heap h') : Inv X pins (List.replicate X.N.length none) H { s with heap := h', toks := tk } := by
  have neL : ∀ b o, X.s₀.heap.get? b = some o → b ≠ X.env.locals := fun b o e => Nat.ne_of_lt (Nat.lt_of_lt_of_le (Heap.lt_size e) I.ok.above)
  refine ⟨I.ok, I.os, I.bare, ⟨fun b o e n hb hx => ?_, fun b o e n hb hx => ?_, I.base.free, fun b o e hx => ?_, I.base.tups, I.base.frzs, I.base.tbls⟩, ⟨m', ns, fun j y v e1 e2 e3 => ?_⟩, fun y c e => ?_, I.free, I.freeC, fun p hp => ?_, fun b ob e => ?_, by simp⟩
  · exact (sb.2 b (neL b o e)).trans (I.base.keep b o e n hb hx)
  · obtain ⟨sl, e1⟩ := I.base.slot b o e n hb hx
    exact ⟨sl, (sb.2 b (neL b o e)).trans e1⟩
  · obtain ⟨o', e1⟩ := I.base.there b o e hx
    exact ⟨o', (sb.2 b (neL b o e)).trans e1⟩
  · rw [List.getElem?_replicate] at e2
    split at e2 <;> cases e2
  · obtain ⟨w', z⟩ := I.cell y c e
    exact ⟨w', z.sameBut sb (I.cne y c e)⟩
  · obtain ⟨e, n, ne, nf, d⟩ := I.pin p hp
    exact ⟨(sb.2 p.1 ne).trans e, n, ne, nf, d⟩
  · refine (I.hok b ob e).stay (fun c w' hc q => (sb.2 c ?_).trans q) (fun _ q => q) fun _ _ q => q
    rintro rfl
    have hf := I.free
    rcases hc with z | hc
    · rw [← z, hf] at e; cases e
    · rw [hf] at hc; cases hc
/-! ### try .. except R as n: a suite that returns -/
theorem mro_has {K : PySem.W.Frag} {h : Heap} {nm q : Str} {C N : Addr} {bs bm : List Value} {hdct : Bool} {sn : List Str} {sub : List Value} {ab : Bool} {col : Option Bool} {dd : Option Addr} {k0 k1 k2 k3 k5 : Option Value} {newId : String} {base : Value} {b : Bool}
    (X : K.In h) (hC : h.get? C = some (excClassObj nm q C N bs bm hdct sn sub ab col dd k0 k1 k2 k3 k5 newId)) (e : PySem.W.mroIn K C base = some b) : (Value.ref C :: bm).contains base = b := by
  unfold PySem.W.mroIn at e
  obtain ⟨cd, hc, e⟩ := Option.bind_eq_some_iff.mp e
  unfold PySem.W.clsIn at hc
  split at hc
  · rename_i c' d' cd' sl' ho
    cases hc
    have z := (X _ _ ho).symm.trans hC
    cases z
    split at e
    · cases e
    · exact Option.some.inj e
  · cases hc
def IsX (K : PySem.W.Frag) (C : Addr) : Prop := PySem.W.excIn K C bmV "ValueError.__new__" = true ∨ ∃ fI, excInI K C bmV "ValueError.__new__" fI = true
theorem IsX.obj {K : PySem.W.Frag} {h : Heap} {C : Addr} (q : IsX K C) (X : K.In h) : ∃ bm N nm q bs hdct sn sub ab col dd k0 k1 k2 k3 k5, h.get? C = some (excClassObj nm q C N bs bm hdct sn sub ab col dd k0 k1 k2 k3 k5 "ValueError.__new__") ∧ OwnTail h bmV bm := by
  rcases q with q | ⟨fI, q⟩
  · obtain ⟨bm, N, nm, q', bs, hdct, sn, sub, ab, col, dd, k0, k1, k2, k3, k5, mN, hC, _, _, T⟩ := exc_obj X q
    exact ⟨bm, N, nm, q', bs, hdct, sn, sub, ab, col, dd, k0, k1, k2, k3, k5, hC, T⟩
  · obtain ⟨bm, N, nm, q', bs, hdct, sn, sub, ab, col, dd, k0, k1, k2, k3, k5, mN, hC, _, _, T⟩ := exc_objI X q
    exact ⟨bm, N, nm, q', bs, hdct, sn, sub, ab, col, dd, k0, k1, k2, k3, k5, hC, T⟩
def tTry (E : XK) (Rp : Addr → Prop) (i : Nat) (tb ts : TS) : TS := fun D σ H => tb D σ H ∧ ∀ Cv dx H' ea, E Cv dx H' → H' ea = none → ∃ c, Cv = .ref c ∧ Rp c ∧
  ts { nx := fun _ _ => False, rt := D.rt } ((List.replicate σ.length none).set i (some (.ref ea))) (upd H' ea (CaO ea c dx))
theorem ps_try {E : XK} {Rp : Addr → Prop} {R : Addr} {i : Nat} {x n : Str} {np hpos pos : Pos} {body suite : List Stmt} {b₀ : Stmt} {tb ts : TS} (hc : X.calm = true) (hst : X.stack = X.env :: X.outer) (hff : X.env.frame = some X.env.locals) (hex : X.ex = [])
    (hb : ∀ pn W, Thr (X.alt X.A true pn W) E → PSs (X.alt X.A true pn W) body tb) (hg : Gl X x) (hm : X.mg x = some (.ref R)) (hR : IsX X.K R) (hRp : ∀ c, Rp c → IsX X.K c ∧ PySem.W.mroIn X.K c (.ref R) = some true)
    (hsu : ∀ ea : Addr, PSs (X.alt (X.A.mark (some (.ref ea))) false X.pn (fun _ _ => False)) (b₀ :: suite) ts) (hN : X.N.Nodup) (hi : X.N[i]? = some n) (hl : X.env.scope.names.lookup n = some .local) (hdb : (x == ("__debug__" : Str)) = false := by decide) :
    PS X (.Try body [.ExceptHandler (some (.Name x np)) (some n) (b₀ :: suite) hpos] [] [] pos) (tTry E Rp i tb ts) := by
  intro pins s σ H D I h
  obtain ⟨h1, h2⟩ := h
  let W : Value → Shared → Prop := fun e s' => ∃ σ' H' ea C a0 dx T, e = .ref ea ∧ Inv X pins σ' H' s' ∧ Xo s'.heap ea C dx a0 T ∧ (T = none ∨ ∃ t, T = some (t, .none)) ∧ X.s₀.heap.get? ea = none ∧ (∀ t, hdOf T = some t → X.s₀.heap.get? t = none ∧ H' t = none) ∧ H' ea = none ∧
    (∀ p ∈ X.pn ++ pins, p.1 ≠ ea ∧ hdOf T ≠ some p.1) ∧ E C dx H'
  have th : Thr (X.alt X.A true (X.pn ++ pins) W) E := fun pins' σ' H' s' ea C a0 dx T I' xo hT n1 n2 n3 np q =>
    ⟨σ', H', ea, C, a0, dx, T, rfl, I'.unalt rfl I.ok.hd fun p hp => List.mem_append_left _ hp, xo, hT, n1, n2, n3, fun p hp => np p (List.mem_append_left _ hp), q⟩
  have I0 : Inv (X.alt X.A true (X.pn ++ pins) W) [] σ H s := I.alt rfl (fun _ => I.ok.hd hc) fun p hp => by rwa [List.append_nil] at hp
  have back : ∀ {σ' H' s'}, Inv (X.alt X.A true (X.pn ++ pins) W) [] σ' H' s' → Inv X pins σ' H' s' := fun J => J.unalt rfl I.ok.hd fun p hp => by rwa [List.append_nil]
  refine wpAny_Try_except (wpAny_mono (hb _ W th [] s σ H D I0 h1) (fun f s1 q => ?_) fun e s1 q => ?_)
  · cases f with
    | next =>
      obtain ⟨σ', H', J, q⟩ := q
      exact wpAny_execs_nil ⟨σ', H', back J, q⟩
    | brk => obtain ⟨σ', H', J, q⟩ := q; exact ⟨σ', H', back J, q⟩
    | cont => obtain ⟨σ', H', J, q⟩ := q; exact ⟨σ', H', back J, q⟩
    | ret u => obtain ⟨v, σ', H', J, r, q⟩ := q; exact ⟨v, σ', H', back J, r, q⟩
  · obtain ⟨σ', H', ea, C, a0, dx, T, rfl, J, xo, hT, n1, n2, n3, np, qE⟩ := q
    have fr := J.ok.frames
    have fu := J.stack
    rw [hst] at fr fu
    refine note_ fr fu hff xo hT fun h₂ t x₂ hn c => ?_
    refine flight_ (s := { s1 with heap := h₂ }) (fr := none) x₂ fun h₃ x₃ k => ?_
    have c₃ : Chg (frs X.stack) ea (hdOf T) s1.heap h₃ := by
      rw [hst]
      refine ⟨fun b o hb hbe hbT q => ?_, fun b o hb hbe hbT q => ?_⟩
      · exact k b o (fun z => by rw [z, hn] at q; cases q) (c.keep b o hb hbe hbT q)
      · obtain ⟨sl, q'⟩ := c.slot b o hb hbe hbT q
        exact ⟨sl, k b _ (fun z => by rw [z, hn] at q; cases q) q'⟩
    have J3 := J.noted hex xo c₃ n1 n2 n3 np
    obtain ⟨c0, rfl, hRc, q2⟩ := h2 C dx H' ea qE n3
    obtain ⟨isx, hmro⟩ := hRp c0 hRc
    have tn : H' t = none := J.hok.free hn
    have tp := J.unpin hn
    have t0 : X.s₀.heap.get? t = none := J.old hex hn
    have chain : ∀ h₅ : Heap, (∀ b o, b ≠ t → h₃.get? b = some o → h₅.get? b = some o) → Chg (frs X.stack) ea (hdOf T) s1.heap h₅ := fun h₅ k5 => by
      refine ⟨fun b o hb hbe hbT q => ?_, fun b o hb hbe hbT q => ?_⟩
      · exact k5 b o (fun z => by rw [z, hn] at q; cases q) (c₃.keep b o hb hbe hbT q)
      · obtain ⟨sl, q'⟩ := c₃.slot b o hb hbe hbT q
        exact ⟨sl, k5 b _ (fun z => by rw [z, hn] at q; cases q) q'⟩
    obtain ⟨hp1, g1, d1, tk1, os1⟩ := s1
    dsimp only at *
    refine wpAny_handleBy_cons (codeAny_handlers_test ?_) (by intro z; cases z)
    have J4 : Inv (X.alt (X.A.mark (some (.ref ea))) false X.pn (fun _ _ => False)) pins σ' H' ⟨h₃, g1, d1, tk1, os1⟩ := J3.alt rfl (fun z => by cases z) fun p hp => hp
    refine ld_glob (X := X.alt (X.A.mark (some (.ref ea))) false X.pn (fun _ _ => False)) J4 hg hm ?_ hdb
    obtain ⟨bm, N, nm, q', bs, hdct, sn, sub, ab, col, dd, k0, k1, k2, k3, k5, hC, TC⟩ := isx.obj J4.mod.kin
    obtain ⟨bm', N', nm', q'', bs', hdct', sn', sub', ab', col', dd', k0', k1', k2', k3', k5', hR', TR⟩ := hR.obj J4.mod.kin
    obtain ⟨oe, vs, he, hcl, _⟩ := id x₃.ob
    refine excMatches_under (J4.bk _ _ hC) (J4.bk _ _ hR') he hcl (TR.hasType (by decide)) (mro_has J4.mod.kin hC hmro) ?_
    refine codeAny_handlers_suite_as ?_
    refine flight_ (s := ⟨h₃, g1, d1, tk1, os1⟩) (fr := none) x₃ fun h₅ x₅ kk => ?_
    have J5 := J.noted hex xo (chain h₅ kk) n1 n2 n3 np
    dsimp only at J5
    obtain ⟨oe5, vs5, he5, hcl5, hdx5, hd5, _⟩ := x₅.ob
    obtain ⟨oc, od, oda, osl⟩ := oe5
    dsimp only at hcl5 hdx5 hd5
    subst hcl5 hdx5 hd5
    have J6 := J5.track (o := CaO ea c0 od) hex n1 n3 (fun p hp => (np p hp).1) (fun z => by
        obtain ⟨m, ⟨o', _, _, ho', hd', _⟩, _⟩ := J5.loc
        rw [← z, he5] at ho'; cases ho'; cases hd') (fun y c e z => by
        obtain ⟨v, o', ho', hd'⟩ := J5.cell y c e
        rw [z, he5] at ho'; cases ho'; cases hd') (ca_ok he5)
    have J7 := J6.weak (σ' := List.replicate σ.length none) (by rw [List.length_replicate, J6.len, I.len]) fun j v z => by
      rw [List.getElem?_replicate] at z
      split at z <;> cases z
    have J8 : Inv (X.alt (X.A.mark (some (.ref ea))) false X.pn (fun _ _ => False)) pins (List.replicate σ.length none) (upd H' ea (CaO ea c0 od)) ⟨h₅, g1, d1, tk1, os1⟩ := J7.alt rfl (fun z => by cases z) fun p hp => hp
    refine store_ok (X := X.alt (X.A.mark (some (.ref ea))) false X.pn (fun _ _ => False)) J8 hN hi (Or.inl hl) (v := .ref ea) rfl (fun s6 J9 => ?_) (.inr hl)
    refine wpAny_mono (hsu ea pins s6 _ _ _ J9 q2) (fun f s7 q7 => ?_) fun _ _ z => z.elim
    cases f with
    | next => obtain ⟨_, _, _, q⟩ := q7; exact q.elim
    | brk => obtain ⟨_, _, _, q⟩ := q7; exact q.elim
    | cont => obtain ⟨_, _, _, q⟩ := q7; exact q.elim
    | ret u =>
      obtain ⟨v, σ7, H7, J10, r7, q7⟩ := q7
      obtain ⟨m, hns, _⟩ := J10.loc
      have hcls : (X.env.scope.kind == .class || (X.env.scope.kind == .module && X.env.locals != X.env.globals)) = false := by rw [I.ok.kind]; rfl
      have J11 : Inv X pins σ7 H7 s7 := J10.unalt rfl I.ok.hd fun p hp => hp
      exact wpAny_nameGoes hl hns hcls fun h' m' ns' sb => ⟨v, _, H7, J11.forget ns' sb, r7, q7⟩
end
end L2

end
noncomputable section
namespace L2
open PySem PySem.Spec PyProof.Rows
/-! ### calls within an except suite -/
structure RoomH (k : Nat) (A : Around) : Prop where
  dp : A.depth + 3 * k + 5 < recursionLimit
  un : A.units + 16 * k + 200 < cLine
theorem Room.h {k : Nat} {A : Around} (r : Room k A) : RoomH k A := ⟨r.dp, r.un⟩
theorem RoomH.mono {j k : Nat} {A : Around} (r : RoomH k A) (h : j ≤ k) : RoomH j A := ⟨by have := r.dp; omega, by have := r.un; omega⟩
theorem RoomH.mark {k : Nat} {A : Around} (r : RoomH k A) (v : Option Value) : RoomH k (A.mark v) := ⟨r.dp, r.un⟩
theorem RoomH.deeper {k : Nat} {A : Around} (r : RoomH (k + 1) A) (env : Env) : RoomH k (A.deeper env) :=
  ⟨by have := r.dp; show A.depth + 1 + 3 * k + 5 < _; omega, by have := r.un; show A.units + 3 + 16 * k + 200 < _; omega⟩
theorem RoomH.units0 {k : Nat} {A : Around} (r : RoomH k A) : A.units < cLine := by have := r.un; omega
structure FnH (P : Program) (w : World) (K : PySem.W.Frag) (mg : Str → Option Value) (base : Heap) (k : Nat) (f : Addr) (fd : FuncData) (ps : List Str) (sp : Sp) : Prop where
  len : ∀ vs H Q E, sp vs H Q E → vs.length = ps.length
  run : ∀ (A : Around) (outer : List Env) (s : Shared) (H : Hp) (args : Args) (us : List Value) (vs : List V) (Q : VK), RoomH k A → Env0 P w K mg base A outer s H → BindsTo s fd args (ps.zip us) → Vals vs us → sp vs H Q E0 →
    codeAny (model P w) A (.call (.ref f) args) (CR CX0 outer P w H s Q E0) s
section
variable {P : Program} {w : World} {K : PySem.W.Frag} {mg : Str → Option Value} {base : Heap}
theorem Fun.okH {x qual : Str} {st : Stmt} {f : Addr} {fd : FuncData} {N ps : List Str} {k : Nat} {sp : Sp} (F : Fun K x qual st f fd) (S : FnScope N ps (defScope st)) (len : ∀ vs H Q E, sp vs H Q E → vs.length = ps.length)
    (hbody : ∀ (cdv : Value) (A : Around) (outer : List Env) (s : Shared) (H : Hp) (vs : List V) (Q : VK), RoomH k (A.deeper (envOfC qual (defScope st) s.heap.objs.size f cdv)) → sp vs H Q E0 →
      ∃ t, PSs ((cxOf CX0 P w K mg base N qual (defScope st) f cdv A outer s H E0).alt (A.deeper (envOfC qual (defScope st) s.heap.objs.size f cdv)) false [] (fun _ _ => False)) (defBody st) t ∧ t { nx := fun _ H' => Q .non H', rt := Q } (start N vs) H) : FnH P w K mg base (k + 1) f fd ps sp := by
  obtain ⟨oc, od, kV, doc, pm, an, cdv, ct, osl, rfl, lk, hcd⟩ := F.ex
  refine ⟨len, fun A outer s H args us vs Q hr e0 hb r hsp => ?_⟩
  have hl := len _ _ _ _ hsp
  have KX : K.In s.heap := e0.mod.kin.keeps fun b o e => (e0.bs b o e).1
  have lim : s.heap.NoLimit := e0.mod.nolimit.keeps fun b o e => (e0.bs b o e).1
  have hkind : ∀ y ∈ ps.zip us, (defScope st).names.lookup y.1 = some .local ∨ ((defScope st).names.lookup y.1 = some .cell ∧ ((cellsFrom (s.heap.objs.size + 1) (defScope st).names []).lookup y.1).isSome = true) := fun ⟨n, v⟩ hy => by
    rcases S.par n (List.of_mem_zip hy).1 with q | q
    · exact .inl q
    · exact .inr ⟨q, PySem.W.cellsFrom_some _ _ _ (.inl q)⟩
  refine codeAny_call_function (by have := hr.dp; omega) (KX _ _ lk) rfl S.co S.gen rfl (PySem.W.codeRec_of KX hcd) (hb _ _ _ _ ?_)
  refine wpAny_newFunctionEnv_cells S.kind hkind fun env he s1 x => ?_
  subst he
  refine ⟨lim.keeps x.toInCall.keep, codeAny_func ?_⟩
  obtain ⟨t, ht, hq⟩ := hbody cdv A outer s H vs Q (hr.deeper _) hsp
  have e1 : Env0 P w K mg base { A with handled := none } outer s H := ⟨e0.frames, e0.mod, e0.bs, e0.bsz, e0.funs, e0.frf, e0.hok, e0.bare⟩
  have I0 : Inv (cxOf CX0 P w K mg base N qual (defScope st) f cdv { A with handled := none } outer s H E0) [] (start N vs) H s1 := inv_start S rfl e1 hl r x
  have I : Inv ((cxOf CX0 P w K mg base N qual (defScope st) f cdv A outer s H E0).alt (A.deeper (envOfC qual (defScope st) s.heap.objs.size f cdv)) false [] (fun _ _ => False)) [] (start N vs) H s1 :=
    ⟨⟨I0.ok.mod, I0.ok.kind, I0.ok.glob, I0.ok.blt, I0.ok.above, I0.ok.inj, I0.ok.has, I0.ok.cab, (fun z => nomatch z), I0.ok.frames, I0.ok.stk, I0.ok.exf, I0.ok.bs, I0.ok.bsz, I0.ok.noex, I0.ok.exfs, I0.ok.funs, I0.ok.frf⟩, I0.os, I0.bare, I0.base, I0.loc, I0.cell, I0.free, I0.freeC, I0.pin, I0.hok, I0.len⟩
  refine wpAny_mono (ht [] s1 (start N vs) H _ I hq) (fun fl s' hs => ?_) fun e s' hs => hs.elim
  have fin : ∀ {σ' : St} {H' : Hp} {v : V} {u : Value}, Inv ((cxOf CX0 P w K mg base N qual (defScope st) f cdv A outer s H E0).alt (A.deeper (envOfC qual (defScope st) s.heap.objs.size f cdv)) false [] (fun _ _ => False)) [] σ' H' s' → RelV v u → Q v H' → CE outer P w H s Q u s' :=
    fun {σ' H' v u} J rv q => ⟨v, H', J.os, J.bare, J.base, J.hok, rv, q⟩
  cases fl with
  | ret u =>
    obtain ⟨v, σ', H', J, rv, q⟩ := hs
    exact fin J rv q
  | next =>
    obtain ⟨σ', H', J, q⟩ := hs
    exact fin (v := V.non) (u := Value.none) J rfl q
  | brk =>
    obtain ⟨_, _, _, q⟩ := hs
    exact False.elim q
  | cont =>
    obtain ⟨_, _, _, q⟩ := hs
    exact False.elim q
theorem FnOk.or {CX : CXT} {k : Nat} {f : Addr} {fd : FuncData} {ps : List Str} {sp sp' : Sp} (F : FnOk P w K mg base CX k f fd ps sp) (G : FnOk P w K mg base CX k f fd ps sp') : FnOk P w K mg base CX k f fd ps (fun vs H Q E => sp vs H Q E ∨ sp' vs H Q E) :=
  ⟨fun vs H Q E h => h.elim (F.len vs H Q E) (G.len vs H Q E), fun A outer s H args us vs Q E hr he hb hv hs => hs.elim (F.run A outer s H args us vs Q E hr he hb hv) (G.run A outer s H args us vs Q E hr he hb hv)⟩
end
section
variable {X : Cx}
theorem pe_callH {k : Nat} {f : Addr} {fd : FuncData} {ps : List Str} {sp : Sp} {x : Str} {p pos : Pos} {e : Expr} {es : List Expr} {t : TA} (F : FnH X.prog X.w X.K X.mg X.base k f fd ps sp) (hr : RoomH k X.A) (hg : Gl X x) (hm : X.mg x = some (.ref f)) (hk : PySem.W.keepIn X.K (.ref f) = true) (hb : Binds X.K fd ps [])
    (ha : PA X (e :: es) t) (hdb : (x == ("__debug__" : Str)) = false := by decide) (he : starEach (e :: es) X.env = (false, eval e X.env) :: starEach es X.env := by rfl) (hpl : (backTo pos (starEach es X.env)).any (·.1) = false := by rfl) :
    PE X (.Call (.Name x p) (e :: es) [] pos) (tCall sp [] E0 t) := by
  intro pins s σ H Q I h
  refine wpAny_Call_Name_kw (ld_glob I hg hm ?_ hdb)
  refine PySem.W.callWith_K (h₀ := X.base) I.ok.mod.kin hk (thn (ha pos pins s σ H _ I h) fun us s1 ⟨vs, H1, I1, r, q⟩ => ⟨I1.kIn, ?_⟩) he hpl
  change sp (vs ++ []) H1 Q E0 at q
  rw [List.append_nil] at q
  have hl : (us ++ []).length = ps.length := by rw [List.append_nil, ← r.length]; exact F.len _ _ _ _ q
  have hb2 := hb s1 us I1.kIn hl
  rw [List.append_nil] at hb2
  refine wpAny_call (codeAny_mono (F.run X.A X.stack s1 H1 ⟨us, []⟩ us vs Q hr I1.env0 hb2 r q) fun r s' hq => ?_)
  cases r with
  | error e => exact False.elim hq
  | ok fl =>
    cases fl with
    | ret u => exact I1.after hq
    | next => exact False.elim hq
    | brk => exact False.elim hq
    | cont => exact False.elim hq
/-- the name of a parameter that holds a def -/
def tCallV (i : Nat) (f : Addr) (sp : Sp) (E : XK) (t : TA) : TE := fun σ H Q => σ[i]? = some (some (.ref f)) ∧ t σ H fun vs H1 => sp vs H1 Q E
theorem pe_callV {CX : CXT} {k : Nat} {f : Addr} {fd : FuncData} {ps : List Str} {sp : Sp} {E : XK} (i : Nat) {x : Str} {p pos : Pos} {e : Expr} {es : List Expr} {t : TA} (F : FnOk X.prog X.w X.K X.mg X.base CX k f fd ps sp) (hr : Room k X.A) (hk : PySem.W.keepIn X.K (.ref f) = true) (hb : Binds X.K fd ps []) (hx : Passes CX X E)
    (ha : PA X (e :: es) t) (hN : X.N[i]? = some x := by rfl) (hv : Vis X.env.scope x := by first | exact Or.inl rfl | exact Or.inr (Or.inl rfl) | exact Or.inr (Or.inr rfl)) (hd : (x == ("__debug__" : Str)) = false := by decide) (hcd : (x == ("__classdict__" : Str)) = false := by decide)
    (he : starEach (e :: es) X.env = (false, eval e X.env) :: starEach es X.env := by rfl) (hpl : (backTo pos (starEach es X.env)).any (·.1) = false := by rfl) :
    PE X (.Call (.Name x p) (e :: es) [] pos) (tCallV i f sp E t) := by
  intro pins s σ H Q I h
  refine wpAny_Call_Name_kw (thn (pe_var hN hv hd hcd pins s σ H (fun v H1 => v = .ref f ∧ H1 = H) I ⟨_, h.1, rfl, rfl⟩) fun u s0 ⟨v, H0, I0, r0, ev, eH⟩ => ?_)
  subst ev eH
  cases (show u = Value.ref f from r0)
  refine PySem.W.callWith_K (h₀ := X.base) I0.ok.mod.kin hk (thn (ha pos pins s0 σ H0 _ I0 h.2) fun us s1 ⟨vs, H1, I1, r, q⟩ => ⟨I1.kIn, ?_⟩) he hpl
  exact run_fn F hr hb .nil hx I1 r (by rw [List.append_nil]; exact q)
theorem PS.nox {st : Stmt} {t : TS} (h : PS X.nox st t) : PS X st t := fun pins s σ H D I hw =>
  wpAny_mono (h pins s σ H D (I.wish _) hw) (fun _ _ q => q.unwish) fun _ _ z => False.elim z
end
end L2

end
noncomputable section
namespace L2
open PySem PySem.Spec PyProof.Rows
/-! ### {}, t * n -/
section
variable {X : Cx} {pins : List (Addr × Obj)} {σ : St} {H : Hp} {s : Shared}
theorem Inv.big' (I : Inv X pins σ H s) : sysModules < s.heap.objs.size := Nat.lt_trans (by decide) (I.mod.glob.keeps I.bk).lt
def tDNew : TE := fun _ H Q => ∀ p, H p = none → Q (.ref p) (upd H p (.dK []))
theorem pe_dnew {pos : Pos} : PE X (.Dict [] [] pos) tDNew := fun pins s σ H Q I h =>
  wpAny_Dict_empty ⟨.ref s.heap.objs.size, _, I.laid (a := s.heap.objs.size) (o := .dK []) (t' := s.toks) (fun _ _ q => Heap.get?_push_of_some _ q) (Nat.le_refl _)
    ⟨Nat.zero_le _, beq_eq_false_iff_ne.mpr (Ne.symm (Nat.ne_of_lt I.big')), [], .nil, Heap.DictOf.new s.heap⟩, rfl, h _ (I.hok.fresh (Nat.le_refl _))⟩
theorem noFill_tuple_mul : fillsNumberSlot (.type "tuple") "mul" = pure false :=
  PySem.fillsNumberSlot_seq (id := "tuple.__mul__") (r := some (.builtin "tuple.__rmul__")) F.slot_tuple_mul.lookup (by decide +kernel) F.slot_tuple_rmul.lookup (by decide +kernel)
theorem repeat_tuple : seqRepeat? (.type "tuple") = pure (some (.builtin "tuple.__mul__")) := by
  unfold seqRepeat?
  rw [PySem.seqSlot_of (T := "tuple") (name := "__mul__") (id := "tuple.__mul__") F.slot_tuple_mul.lookup (by decide +kernel), PySem.seqSlot_of (T := "tuple") (name := "__rmul__") (id := "tuple.__rmul__") F.slot_tuple_rmul.lookup (by decide +kernel)]
  rfl
theorem int_rmul_tuple (a : Int) (t : Tok) (l : Addr) (od : Option Addr) (its : Array Value) (n : Nat) (sl : Array (Option Value)) :
    Meets (Builtin.«int.__rmul__» ⟨[.int a t, .ref l], []⟩) (fun _ R s => s.heap.get? l = some ⟨.type "tuple", od, .seq its n, sl⟩ ∧ R (.ok (.ret Value.notImplemented)) s) :=
  .of_wp fun prog w A R s h => by
    obtain ⟨hp, g, d, tk, os⟩ := s; obtain ⟨hl, h⟩ := h
    wp_walk; exact ⟨_, rfl, h⟩
theorem tuple_mul (l : Addr) (od : Option Addr) (its : Array Value) (n : Nat) (sl : Array (Option Value)) (x : Int) (u : Tok) (h0 : its.isEmpty = false) (h1 : (x == 1) = false) (h2 : ¬ x ≤ 0) (h3 : ¬ (decide (x < -(2 ^ 63)) || decide (x ≥ 2 ^ 63)) = true) (h4 : ¬ (its.size : Int) * x > (2 ^ 63 - 1) / 8) (h5 : ¬ Builtin.Tuple.tupleTooMany ((its.size : Int) * x) = true) (h6 : (List.foldl (fun x1 x2 => x1 ++ x2) #[] (List.replicate x.toNat its)).size ≤ sizeLine) :
    Meets (Builtin.«tuple.__mul__» ⟨[.ref l, .int x u], []⟩) (fun _ R s => s.heap.get? l = some ⟨.type "tuple", od, .seq its n, sl⟩ ∧ R (.ok (.ret (.ref s.heap.objs.size))) { s with heap := s.heap.push { cls := .type "tuple", data := .seq (List.foldl (fun x1 x2 => x1 ++ x2) #[] (List.replicate x.toNat its)) } }) :=
  .of_wp fun prog w A R s h => by
    obtain ⟨hp, g, d, tk, os⟩ := s; obtain ⟨hl, h⟩ := h
    wp_walk
    rw [if_neg h3]
    wp_walk
    rw [if_neg h4]
    dsimp only
    rw [if_neg h5]
    refine wpAny_bind (wpAny_newObj_type ?_ h6)
    exact wpAny_pure ⟨_, rfl, h⟩
/-- a tuple times an int above 1 -/
def rRepT : R2 := fun x y H Q => ∃ l k xs, x = .ref l ∧ y = .int k ∧ H l = some (.tup xs) ∧ xs ≠ [] ∧ 2 ≤ k ∧ xs.length * k.toNat ≤ 100000 ∧ ∀ p, H p = none → Q (.ref p) (upd H p (.tup (List.replicate k.toNat xs).flatten))
theorem op_repT : OpR X (binaryOp .Mult) rRepT := by
  intro pins s σ H x y v u Q I rx ry h
  obtain ⟨l, k, xs, rfl, rfl, hH, hne, h2, hz, q⟩ := h
  cases rx
  obtain ⟨t, rfl⟩ := ry
  obtain ⟨its, r, ⟨o, e, hcl, n, hd⟩, _⟩ := I.tuple (SqT.of (K := X.K) hH)
  obtain ⟨oc, od, oda, osl⟩ := o
  dsimp only at hcl hd
  subst hcl hd
  have hlen := r.length
  have hpos : 0 < xs.length := by cases xs with | nil => exact absurd rfl hne | cons _ _ => simp
  have hnew : List.foldl (fun x1 x2 => x1 ++ x2) #[] (List.replicate k.toNat its.toArray) = (List.replicate k.toNat its).flatten.toArray := by
    have := foldl_rep its k.toNat []
    rw [List.nil_append] at this
    exact this
  have hsz : (List.replicate k.toNat its).flatten.length = k.toNat * its.length := len_rep its k.toNat
  have hk : k.toNat ≤ 100000 := by
    have : 1 * k.toNat ≤ xs.length * k.toNat := Nat.mul_le_mul_right _ hpos
    omega
  have hprod : ((its.toArray.size : Nat) : Int) * k ≤ 100000 := by
    rw [List.size_toArray, ← hlen]
    have : ((xs.length * k.toNat : Nat) : Int) = (xs.length : Int) * k := by rw [Int.natCast_mul, Int.toNat_of_nonneg (by omega)]
    omega
  have hbig : (100000 : Nat) ≤ sizeLine := by decide
  refine wpAny_binaryOp_repeat_ref (T := "tuple") (U := "int") (by decide) ⟨_, e, rfl⟩ (fun s' => typeIs_int s' k t) noFill_tuple_mul F.fills_int_mul F.slot_int_rmul repeat_tuple F.slot_int_index.lookup
    (call_meets F.slot_int_rmul (typeIs_int s k t) F.entry_int_rmul (F.args_int_rmul_2 _ _) (int_rmul_tuple k t l od its.toArray n osl)
      ⟨e, rfl, ⟨_, e, rfl⟩, call_meets F.slot_tuple_mul ⟨_, e, rfl⟩ F.entry_tuple_mul (F.args_tuple_mul_2 _ _) (tuple_mul l od its.toArray n osl k t ?_ ?_ (by omega) ?_ ?_ ?_ ?_) ⟨e, ?_⟩⟩)
  · cases its with
    | nil => exact absurd (List.length_eq_zero_iff.mp (by simpa using hlen)) hne
    | cons a b => simp
  · exact beq_eq_false_iff_ne.mpr (by omega)
  · rw [decide_eq_false (by omega), decide_eq_false (by omega)]; decide
  · omega
  · unfold Builtin.Tuple.tupleTooMany
    rw [decide_eq_false (by omega)]; decide
  · rw [hnew, List.size_toArray, hsz, ← hlen, Nat.mul_comm]; omega
  · rw [hnew]
    refine ⟨.ref s.heap.objs.size, _, I.laid (t' := s.toks) (o := .tup (List.replicate k.toNat xs).flatten) (fun b ob q => Heap.get?_push_of_some _ q) (Nat.le_refl _) ?_, rfl, q _ (I.hok.fresh (Nat.le_refl _))⟩
    exact ⟨by rw [len_rep, Nat.mul_comm]; omega, _, r.rep k.toNat, IsTup.new _ _⟩
end
end L2
namespace L2
open PySem PySem.Spec PyProof.Rows
theorem se_Dict {env : Env} {pos : Pos} {es : List Expr} {a b} : starEach (.Dict a b pos :: es) env = (false, eval (.Dict a b pos) env) :: starEach es env := rfl
theorem bt_ValueError : bootBuiltins "ValueError" = some (.type "ValueError") := by decide +kernel
end L2

end
noncomputable section

set_option Elab.async false
set_option linter.all false
set_option maxRecDepth 100000
set_option maxHeartbeats 0
seal L2.PE L2.PT L2.PS L2.PSs L2.PA L2.PI L2.PG L2.PGs L2.OpR L2.UnR L2.CallR L2.IxR L2.SlR L2.MtR L2.PO L2.PSet L2.PW
namespace Ev
open PySem L2
def top (i : Nat) : Stmt := PySem.Challenge.pw_evenring_k07_refused.main.body.getD i (.Pass ⟨0, 0, 0, 0⟩)
abbrev s_wall : Stmt := top 0
abbrev N_wall : List Str := ["k"]
abbrev P_wall : List Str := ["k"]
theorem sc_wall : FnScope N_wall P_wall (defScope s_wall) := ⟨rfl, rfl, rfl, by decide +kernel, rfl, by decide +kernel, by decide +kernel⟩
abbrev s_Even_init__ : Stmt := inClass (top 3) 0
abbrev N_Even_init__ : List Str := ["self", "carried", "prices"]
abbrev P_Even_init__ : List Str := ["self", "carried", "prices"]
theorem sc_Even_init__ : FnScope N_Even_init__ P_Even_init__ (defScope s_Even_init__) := ⟨rfl, rfl, rfl, by decide +kernel, rfl, by decide +kernel, by decide +kernel⟩
abbrev s_Even_evens : Stmt := inClass (top 3) 1
abbrev N_Even_evens : List Str := ["self", "ring"]
abbrev P_Even_evens : List Str := ["self", "ring"]
theorem sc_Even_evens : FnScope N_Even_evens P_Even_evens (defScope s_Even_evens) := ⟨rfl, rfl, rfl, by decide +kernel, rfl, by decide +kernel, by decide +kernel⟩
abbrev s_Even_shows : Stmt := inClass (top 3) 2
abbrev N_Even_shows : List Str := ["self", "ring", "tolls"]
abbrev P_Even_shows : List Str := ["self", "ring", "tolls"]
theorem sc_Even_shows : FnScope N_Even_shows P_Even_shows (defScope s_Even_shows) := ⟨rfl, rfl, rfl, by decide +kernel, rfl, by decide +kernel, by decide +kernel⟩
abbrev s_Uneven_init__ : Stmt := inClass (top 4) 0
abbrev N_Uneven_init__ : List Str := ["self", "total"]
abbrev P_Uneven_init__ : List Str := ["self", "total"]
theorem sc_Uneven_init__ : FnScope N_Uneven_init__ P_Uneven_init__ (defScope s_Uneven_init__) := ⟨rfl, rfl, rfl, by decide +kernel, rfl, by decide +kernel, by decide +kernel⟩
abbrev s_Uneven_shows : Stmt := inClass (top 4) 1
abbrev N_Uneven_shows : List Str := ["self", "ring", "tolls"]
abbrev P_Uneven_shows : List Str := ["self", "ring", "tolls"]
theorem sc_Uneven_shows : FnScope N_Uneven_shows P_Uneven_shows (defScope s_Uneven_shows) := ⟨rfl, rfl, rfl, by decide +kernel, rfl, by decide +kernel, by decide +kernel⟩
abbrev s_Within_init__ : Stmt := inClass (top 5) 0
abbrev N_Within_init__ : List Str := ["self", "carried"]
abbrev P_Within_init__ : List Str := ["self", "carried"]
theorem sc_Within_init__ : FnScope N_Within_init__ P_Within_init__ (defScope s_Within_init__) := ⟨rfl, rfl, rfl, by decide +kernel, rfl, by decide +kernel, by decide +kernel⟩
abbrev s_Within_shows : Stmt := inClass (top 5) 1
abbrev N_Within_shows : List Str := ["self", "ring", "most"]
abbrev P_Within_shows : List Str := ["self", "ring", "most"]
theorem sc_Within_shows : FnScope N_Within_shows P_Within_shows (defScope s_Within_shows) := ⟨rfl, rfl, rfl, by decide +kernel, rfl, by decide +kernel, by decide +kernel⟩
abbrev s_Stretch_init__ : Stmt := inClass (top 6) 0
abbrev N_Stretch_init__ : List Str := ["self", "first", "many"]
abbrev P_Stretch_init__ : List Str := ["self", "first", "many"]
theorem sc_Stretch_init__ : FnScope N_Stretch_init__ P_Stretch_init__ (defScope s_Stretch_init__) := ⟨rfl, rfl, rfl, by decide +kernel, rfl, by decide +kernel, by decide +kernel⟩
abbrev s_Stretch_shows : Stmt := inClass (top 6) 1
abbrev N_Stretch_shows : List Str := ["self", "ring", "most"]
abbrev P_Stretch_shows : List Str := ["self", "ring", "most"]
theorem sc_Stretch_shows : FnScope N_Stretch_shows P_Stretch_shows (defScope s_Stretch_shows) := ⟨rfl, rfl, rfl, by decide +kernel, rfl, by decide +kernel, by decide +kernel⟩
abbrev s_Lacking_init__ : Stmt := inClass (top 13) 0
abbrev N_Lacking_init__ : List Str := ["self", "total"]
abbrev P_Lacking_init__ : List Str := ["self", "total"]
theorem sc_Lacking_init__ : FnScope N_Lacking_init__ P_Lacking_init__ (defScope s_Lacking_init__) := ⟨rfl, rfl, rfl, by decide +kernel, rfl, by decide +kernel, by decide +kernel⟩
abbrev s_is_whole_number : Stmt := top 18
abbrev N_is_whole_number : List Str := ["value"]
abbrev P_is_whole_number : List Str := ["value"]
theorem sc_is_whole_number : FnScope N_is_whole_number P_is_whole_number (defScope s_is_whole_number) := ⟨rfl, rfl, rfl, by decide +kernel, rfl, by decide +kernel, by decide +kernel⟩
abbrev s_is_house : Stmt := top 19
abbrev N_is_house : List Str := ["value"]
abbrev P_is_house : List Str := ["value"]
theorem sc_is_house : FnScope N_is_house P_is_house (defScope s_is_house) := ⟨rfl, rfl, rfl, by decide +kernel, rfl, by decide +kernel, by decide +kernel⟩
abbrev s_are_houses : Stmt := top 20
abbrev N_are_houses : List Str := ["values"]
abbrev P_are_houses : List Str := ["values"]
theorem sc_are_houses : FnScope N_are_houses P_are_houses (defScope s_are_houses) := ⟨rfl, rfl, rfl, by decide +kernel, rfl, by decide +kernel, by decide +kernel⟩
abbrev s_Ring_init__ : Stmt := inClass (top 21) 0
abbrev N_Ring_init__ : List Str := ["self", "houses", "numbers"]
abbrev P_Ring_init__ : List Str := ["self", "houses"]
theorem sc_Ring_init__ : FnScope N_Ring_init__ P_Ring_init__ (defScope s_Ring_init__) := ⟨rfl, rfl, rfl, by decide +kernel, rfl, by decide +kernel, by decide +kernel⟩
abbrev s_Ring_houses : Stmt := inClass (top 21) 1
abbrev N_Ring_houses : List Str := ["self"]
abbrev P_Ring_houses : List Str := ["self"]
theorem sc_Ring_houses : FnScope N_Ring_houses P_Ring_houses (defScope s_Ring_houses) := ⟨rfl, rfl, rfl, by decide +kernel, rfl, by decide +kernel, by decide +kernel⟩
abbrev s_Ring_whole : Stmt := inClass (top 21) 2
abbrev N_Ring_whole : List Str := ["self"]
abbrev P_Ring_whole : List Str := ["self"]
theorem sc_Ring_whole : FnScope N_Ring_whole P_Ring_whole (defScope s_Ring_whole) := ⟨rfl, rfl, rfl, by decide +kernel, rfl, by decide +kernel, by decide +kernel⟩
abbrev s_turned : Stmt := top 22
abbrev N_turned : List Str := ["ring", "by", "houses", "start"]
abbrev P_turned : List Str := ["ring", "by"]
theorem sc_turned : FnScope N_turned P_turned (defScope s_turned) := ⟨rfl, rfl, rfl, by decide +kernel, rfl, by decide +kernel, by decide +kernel⟩
abbrev s_together : Stmt := top 23
abbrev N_together : List Str := ["one", "other", "ones", "others", "sums"]
abbrev P_together : List Str := ["one", "other"]
theorem sc_together : FnScope N_together P_together (defScope s_together) := ⟨rfl, rfl, rfl, by decide +kernel, rfl, by decide +kernel, by decide +kernel⟩
abbrev s_is_toll : Stmt := top 26
abbrev N_is_toll : List Str := ["value"]
abbrev P_is_toll : List Str := ["value"]
theorem sc_is_toll : FnScope N_is_toll P_is_toll (defScope s_is_toll) := ⟨rfl, rfl, rfl, by decide +kernel, rfl, by decide +kernel, by decide +kernel⟩
abbrev s_tolls_for : Stmt := top 27
abbrev N_tolls_for : List Str := ["ring", "tolls", "numbers"]
abbrev P_tolls_for : List Str := ["ring", "tolls"]
theorem sc_tolls_for : FnScope N_tolls_for P_tolls_for (defScope s_tolls_for) := ⟨rfl, rfl, rfl, by decide +kernel, rfl, by decide +kernel, by decide +kernel⟩
abbrev s_along : Stmt := top 28
abbrev N_along : List Str := ["ring", "over", "carried", "house"]
abbrev P_along : List Str := ["ring"]
theorem sc_along : FnScope N_along P_along (defScope s_along) := ⟨rfl, rfl, rfl, by decide +kernel, rfl, by decide +kernel, by decide +kernel⟩
abbrev s_lowest_middle : Stmt := top 29
abbrev N_lowest_middle : List Str := ["numbers", "tolls", "in_all", "behind", "middle", "number", "toll"]
abbrev P_lowest_middle : List Str := ["numbers", "tolls"]
theorem sc_lowest_middle : FnScope N_lowest_middle P_lowest_middle (defScope s_lowest_middle) := ⟨rfl, rfl, rfl, by decide +kernel, rfl, by decide +kernel, by decide +kernel⟩
abbrev s_least_over_last : Stmt := top 30
abbrev N_least_over_last : List Str := ["row", "tolls"]
abbrev P_least_over_last : List Str := ["row", "tolls"]
theorem sc_least_over_last : FnScope N_least_over_last P_least_over_last (defScope s_least_over_last) := ⟨rfl, rfl, rfl, by decide +kernel, rfl, by decide +kernel, by decide +kernel⟩
abbrev s_greatest_over_last : Stmt := top 31
abbrev N_greatest_over_last : List Str := ["row", "tolls"]
abbrev P_greatest_over_last : List Str := ["row", "tolls"]
theorem sc_greatest_over_last : FnScope N_greatest_over_last P_greatest_over_last (defScope s_greatest_over_last) := ⟨rfl, rfl, rfl, by decide +kernel, rfl, by decide +kernel, by decide +kernel⟩
abbrev s_full_step : Stmt := top 32
abbrev N_full_step : List Str := ["amount", "toll"]
abbrev P_full_step : List Str := ["amount", "toll"]
theorem sc_full_step : FnScope N_full_step P_full_step (defScope s_full_step) := ⟨rfl, rfl, rfl, by decide +kernel, rfl, by decide +kernel, by decide +kernel⟩
abbrev s_steps_down : Stmt := top 33
abbrev N_steps_down : List Str := ["carried", "tolls", "steps", "left", "bridge", "toll", "back"]
abbrev P_steps_down : List Str := ["carried", "tolls"]
theorem sc_steps_down : FnScope N_steps_down P_steps_down (defScope s_steps_down) := ⟨rfl, rfl, rfl, by decide +kernel, rfl, by decide +kernel, by decide +kernel⟩
abbrev s_prices_by : Stmt := top 34
abbrev N_prices_by : List Str := ["steps", "price", "prices", "step"]
abbrev P_prices_by : List Str := ["steps"]
theorem sc_prices_by : FnScope N_prices_by P_prices_by (defScope s_prices_by) := ⟨rfl, rfl, rfl, by decide +kernel, rfl, by decide +kernel, by decide +kernel⟩
abbrev s_least : Stmt := top 35
abbrev N_least : List Str := ["ring", "tolls", "numbers", "row", "last", "carried"]
abbrev P_least : List Str := ["ring", "tolls"]
theorem sc_least : FnScope N_least P_least (defScope s_least) := ⟨rfl, rfl, rfl, by decide +kernel, rfl, by decide +kernel, by decide +kernel⟩
abbrev s_ends : Stmt := top 36
abbrev N_ends : List Str := ["ring", "tolls", "numbers", "row"]
abbrev P_ends : List Str := ["ring", "tolls"]
theorem sc_ends : FnScope N_ends P_ends (defScope s_ends) := ⟨rfl, rfl, rfl, by decide +kernel, rfl, by decide +kernel, by decide +kernel⟩
abbrev s_stretch_between : Stmt := top 38
abbrev N_stretch_between : List Str := ["one", "other", "earlier", "later"]
abbrev P_stretch_between : List Str := ["one", "other"]
theorem sc_stretch_between : FnScope N_stretch_between P_stretch_between (defScope s_stretch_between) := ⟨rfl, rfl, rfl, by decide +kernel, rfl, by decide +kernel, by decide +kernel⟩
abbrev s_within : Stmt := top 39
abbrev N_within : List Str := ["ring", "most", "row", "low", "high", "middle"]
abbrev P_within : List Str := ["ring", "most"]
theorem sc_within : FnScope N_within P_within (defScope s_within) := ⟨rfl, rfl, rfl, by decide +kernel, rfl, by decide +kernel, by decide +kernel⟩
abbrev s_widest : Stmt := top 40
abbrev N_widest : List Str := ["ring", "row"]
abbrev P_widest : List Str := ["ring"]
theorem sc_widest : FnScope N_widest P_widest (defScope s_widest) := ⟨rfl, rfl, rfl, by decide +kernel, rfl, by decide +kernel, by decide +kernel⟩
abbrev s_law_cell_at : Stmt := top 42
abbrev N_law_cell_at : List Str := ["_law_script", "_law_k"]
abbrev P_law_cell_at : List Str := ["_law_script", "_law_k"]
theorem sc_law_cell_at : FnScope N_law_cell_at P_law_cell_at (defScope s_law_cell_at) := ⟨rfl, rfl, rfl, by decide +kernel, rfl, by decide +kernel, by decide +kernel⟩
abbrev s_law_draw : Stmt := top 43
abbrev N_law_draw : List Str := ["_law_cell", "_law_k", "_law_many", "_law_primes"]
abbrev P_law_draw : List Str := ["_law_cell", "_law_k", "_law_many"]
theorem sc_law_draw : FnScope N_law_draw P_law_draw (defScope s_law_draw) := ⟨rfl, rfl, rfl, by decide +kernel, rfl, by decide +kernel, by decide +kernel⟩
abbrev s_law_houses : Stmt := top 44
abbrev N_law_houses : List Str := ["_law_script", "_law_first", "_law_most", "_law_carried", "_law_k"]
abbrev P_law_houses : List Str := ["_law_script", "_law_first"]
theorem sc_law_houses : FnScope N_law_houses P_law_houses (defScope s_law_houses) := ⟨rfl, rfl, rfl, by decide +kernel, rfl, by decide +kernel, by decide +kernel⟩
abbrev s_law_kinds : Stmt := top 48
abbrev N_law_kinds : List Str := ["_law_error", "_law_found"]
abbrev P_law_kinds : List Str := ["_law_error"]
theorem sc_law_kinds : FnScope N_law_kinds P_law_kinds (defScope s_law_kinds) := ⟨rfl, rfl, rfl, by decide +kernel, rfl, by decide +kernel, by decide +kernel⟩
abbrev s_law_told : Stmt := top 49
abbrev N_law_told : List Str := ["_law_ask", "_law_one", "_law_other", "_law_error"]
abbrev P_law_told : List Str := ["_law_ask", "_law_one", "_law_other"]
theorem sc_law_told : FnScope N_law_told P_law_told (defScope s_law_told) := ⟨rfl, rfl, rfl, by decide +kernel, rfl, by decide +kernel, by decide +kernel⟩
abbrev s_law_ring : Stmt := top 50
abbrev N_law_ring : List Str := ["_law_houses_here", "_law_nothing"]
abbrev P_law_ring : List Str := ["_law_houses_here", "_law_nothing"]
theorem sc_law_ring : FnScope N_law_ring P_law_ring (defScope s_law_ring) := ⟨rfl, rfl, rfl, by decide +kernel, rfl, by decide +kernel, by decide +kernel⟩
abbrev s_law_with_tolls : Stmt := top 51
abbrev N_law_with_tolls : List Str := ["_law_ring_here", "_law_tolls_here"]
abbrev P_law_with_tolls : List Str := ["_law_ring_here", "_law_tolls_here"]
theorem sc_law_with_tolls : FnScope N_law_with_tolls P_law_with_tolls (defScope s_law_with_tolls) := ⟨rfl, rfl, rfl, by decide +kernel, rfl, by decide +kernel, by decide +kernel⟩
abbrev s_law_ends : Stmt := top 52
abbrev N_law_ends : List Str := ["_law_ring_here", "_law_tolls_here"]
abbrev P_law_ends : List Str := ["_law_ring_here", "_law_tolls_here"]
theorem sc_law_ends : FnScope N_law_ends P_law_ends (defScope s_law_ends) := ⟨rfl, rfl, rfl, by decide +kernel, rfl, by decide +kernel, by decide +kernel⟩
abbrev s_law_within : Stmt := top 53
abbrev N_law_within : List Str := ["_law_ring_here", "_law_most"]
abbrev P_law_within : List Str := ["_law_ring_here", "_law_most"]
theorem sc_law_within : FnScope N_law_within P_law_within (defScope s_law_within) := ⟨rfl, rfl, rfl, by decide +kernel, rfl, by decide +kernel, by decide +kernel⟩
abbrev s_law_turned : Stmt := top 54
abbrev N_law_turned : List Str := ["_law_ring_here", "_law_by"]
abbrev P_law_turned : List Str := ["_law_ring_here", "_law_by"]
theorem sc_law_turned : FnScope N_law_turned P_law_turned (defScope s_law_turned) := ⟨rfl, rfl, rfl, by decide +kernel, rfl, by decide +kernel, by decide +kernel⟩
abbrev s_law_together : Stmt := top 55
abbrev N_law_together : List Str := ["_law_one", "_law_other"]
abbrev P_law_together : List Str := ["_law_one", "_law_other"]
theorem sc_law_together : FnScope N_law_together P_law_together (defScope s_law_together) := ⟨rfl, rfl, rfl, by decide +kernel, rfl, by decide +kernel, by decide +kernel⟩
abbrev s_law_plain : Stmt := top 56
abbrev N_law_plain : List Str := ["_law_ring_here", "_law_door"]
abbrev P_law_plain : List Str := ["_law_ring_here", "_law_door"]
theorem sc_law_plain : FnScope N_law_plain P_law_plain (defScope s_law_plain) := ⟨rfl, rfl, rfl, by decide +kernel, rfl, by decide +kernel, by decide +kernel⟩
abbrev s_law_lack : Stmt := top 57
abbrev N_law_lack : List Str := ["_law_ring_here", "_law_door", "_law_error"]
abbrev P_law_lack : List Str := ["_law_ring_here", "_law_door"]
theorem sc_law_lack : FnScope N_law_lack P_law_lack (defScope s_law_lack) := ⟨rfl, rfl, rfl, by decide +kernel, rfl, by decide +kernel, by decide +kernel⟩
abbrev s_law_all : Stmt := top 58
abbrev N_law_all : List Str := ["_law_ask", "_law_one", "_law_things", "_law_due"]
abbrev P_law_all : List Str := ["_law_ask", "_law_one", "_law_things", "_law_due"]
theorem sc_law_all : FnScope N_law_all P_law_all (defScope s_law_all) := ⟨rfl, rfl, rfl, by decide +kernel, rfl, by decide +kernel, by decide +kernel⟩
abbrev s_law_rings_right : Stmt := top 59
abbrev N_law_rings_right : List Str := ["_law_due", "_law_far", "_law_bad"]
abbrev P_law_rings_right : List Str := ["_law_due", "_law_far"]
theorem sc_law_rings_right : FnScope N_law_rings_right P_law_rings_right (defScope s_law_rings_right) := ⟨rfl, rfl, rfl, by decide +kernel, rfl, by decide +kernel, by decide +kernel⟩
abbrev s_law_tolls_right : Stmt := top 60
abbrev N_law_tolls_right : List Str := ["_law_ring_here", "_law_lacking", "_law_due", "_law_far", "_law_many", "_law_ones", "_law_tolls_here", "_law_one"]
abbrev P_law_tolls_right : List Str := ["_law_ring_here", "_law_lacking", "_law_due", "_law_far"]
theorem sc_law_tolls_right : FnScope N_law_tolls_right P_law_tolls_right (defScope s_law_tolls_right) := ⟨rfl, rfl, rfl, by decide +kernel, rfl, by decide +kernel, by decide +kernel⟩
abbrev s_law_lacking_right : Stmt := top 61
abbrev N_law_lacking_right : List Str := ["_law_ring_here", "_law_lacking", "_law_due", "_law_far", "_law_bounds", "_law_houses_here", "_law_by", "_law_less"]
abbrev P_law_lacking_right : List Str := ["_law_ring_here", "_law_lacking", "_law_due", "_law_far"]
theorem sc_law_lacking_right : FnScope N_law_lacking_right P_law_lacking_right (defScope s_law_lacking_right) := ⟨rfl, rfl, rfl, by decide +kernel, rfl, by decide +kernel, by decide +kernel⟩
abbrev s_law : Stmt := top 62
abbrev N_law : List Str := ["_law_script", "_law_far", "_law_due", "_law_k", "_law_houses_here", "_law_ring_here", "_law_lacking", "_law_noughts", "_law_great", "_law_some"]
abbrev P_law : List Str := ["_law_script"]
theorem sc_law : FnScope N_law P_law (defScope s_law) := ⟨rfl, rfl, rfl, by decide +kernel, rfl, by decide +kernel, by decide +kernel⟩
structure Adr where
  f_wall : Addr
  d_wall : FuncData
  f_Even_init__ : Addr
  d_Even_init__ : FuncData
  f_Even_evens : Addr
  d_Even_evens : FuncData
  f_Even_shows : Addr
  d_Even_shows : FuncData
  f_Uneven_init__ : Addr
  d_Uneven_init__ : FuncData
  f_Uneven_shows : Addr
  d_Uneven_shows : FuncData
  f_Within_init__ : Addr
  d_Within_init__ : FuncData
  f_Within_shows : Addr
  d_Within_shows : FuncData
  f_Stretch_init__ : Addr
  d_Stretch_init__ : FuncData
  f_Stretch_shows : Addr
  d_Stretch_shows : FuncData
  f_Lacking_init__ : Addr
  d_Lacking_init__ : FuncData
  f_is_whole_number : Addr
  d_is_whole_number : FuncData
  f_is_house : Addr
  d_is_house : FuncData
  f_are_houses : Addr
  d_are_houses : FuncData
  f_Ring_init__ : Addr
  d_Ring_init__ : FuncData
  f_Ring_houses : Addr
  d_Ring_houses : FuncData
  f_Ring_whole : Addr
  d_Ring_whole : FuncData
  f_turned : Addr
  d_turned : FuncData
  f_together : Addr
  d_together : FuncData
  f_is_toll : Addr
  d_is_toll : FuncData
  f_tolls_for : Addr
  d_tolls_for : FuncData
  f_along : Addr
  d_along : FuncData
  f_lowest_middle : Addr
  d_lowest_middle : FuncData
  f_least_over_last : Addr
  d_least_over_last : FuncData
  f_greatest_over_last : Addr
  d_greatest_over_last : FuncData
  f_full_step : Addr
  d_full_step : FuncData
  f_steps_down : Addr
  d_steps_down : FuncData
  f_prices_by : Addr
  d_prices_by : FuncData
  f_least : Addr
  d_least : FuncData
  f_ends : Addr
  d_ends : FuncData
  f_stretch_between : Addr
  d_stretch_between : FuncData
  f_within : Addr
  d_within : FuncData
  f_widest : Addr
  d_widest : FuncData
  f_law_cell_at : Addr
  d_law_cell_at : FuncData
  f_law_draw : Addr
  d_law_draw : FuncData
  f_law_houses : Addr
  d_law_houses : FuncData
  f_law_kinds : Addr
  d_law_kinds : FuncData
  f_law_told : Addr
  d_law_told : FuncData
  f_law_ring : Addr
  d_law_ring : FuncData
  f_law_with_tolls : Addr
  d_law_with_tolls : FuncData
  f_law_ends : Addr
  d_law_ends : FuncData
  f_law_within : Addr
  d_law_within : FuncData
  f_law_turned : Addr
  d_law_turned : FuncData
  f_law_together : Addr
  d_law_together : FuncData
  f_law_plain : Addr
  d_law_plain : FuncData
  f_law_lack : Addr
  d_law_lack : FuncData
  f_law_all : Addr
  d_law_all : FuncData
  f_law_rings_right : Addr
  d_law_rings_right : FuncData
  f_law_tolls_right : Addr
  d_law_tolls_right : FuncData
  f_law_lacking_right : Addr
  d_law_lacking_right : FuncData
  f_law : Addr
  d_law : FuncData
  C_Even : Addr
  C_Uneven : Addr
  C_Within : Addr
  C_Stretch : Addr
  C_Ring : Addr
  C_RingError : Addr
  C_BadRing : Addr
  C_BadTolls : Addr
  C_BadMost : Addr
  C_Unlike : Addr
  C_Lacking : Addr
  C_BadText : Addr
  v_FARTHEST_NUMBER : Tok
  v_FEWEST_HOUSES : Tok
  v_HIGHEST_TOLL : Tok
structure Txt (K : PySem.W.Frag) (mg : Str → Option Value) (t : Adr) : Prop where
  F_wall : Fun K "_wall" "_wall" s_wall t.f_wall t.d_wall
  B_wall : Binds K t.d_wall P_wall []
  g_wall : mg "_wall" = some (.ref t.f_wall)
  F_Even_init__ : Fun K "__init__" "Even.__init__" s_Even_init__ t.f_Even_init__ t.d_Even_init__
  B_Even_init__ : Binds K t.d_Even_init__ P_Even_init__ []
  F_Even_evens : Fun K "evens" "Even.evens" s_Even_evens t.f_Even_evens t.d_Even_evens
  B_Even_evens : Binds K t.d_Even_evens P_Even_evens []
  F_Even_shows : Fun K "shows" "Even.shows" s_Even_shows t.f_Even_shows t.d_Even_shows
  B_Even_shows : Binds K t.d_Even_shows P_Even_shows []
  F_Uneven_init__ : Fun K "__init__" "Uneven.__init__" s_Uneven_init__ t.f_Uneven_init__ t.d_Uneven_init__
  B_Uneven_init__ : Binds K t.d_Uneven_init__ P_Uneven_init__ []
  F_Uneven_shows : Fun K "shows" "Uneven.shows" s_Uneven_shows t.f_Uneven_shows t.d_Uneven_shows
  B_Uneven_shows : Binds K t.d_Uneven_shows P_Uneven_shows []
  F_Within_init__ : Fun K "__init__" "Within.__init__" s_Within_init__ t.f_Within_init__ t.d_Within_init__
  B_Within_init__ : Binds K t.d_Within_init__ P_Within_init__ []
  F_Within_shows : Fun K "shows" "Within.shows" s_Within_shows t.f_Within_shows t.d_Within_shows
  B_Within_shows : Binds K t.d_Within_shows P_Within_shows []
  F_Stretch_init__ : Fun K "__init__" "Stretch.__init__" s_Stretch_init__ t.f_Stretch_init__ t.d_Stretch_init__
  B_Stretch_init__ : Binds K t.d_Stretch_init__ P_Stretch_init__ []
  F_Stretch_shows : Fun K "shows" "Stretch.shows" s_Stretch_shows t.f_Stretch_shows t.d_Stretch_shows
  B_Stretch_shows : Binds K t.d_Stretch_shows P_Stretch_shows []
  F_Lacking_init__ : Fun K "__init__" "Lacking.__init__" s_Lacking_init__ t.f_Lacking_init__ t.d_Lacking_init__
  B_Lacking_init__ : Binds K t.d_Lacking_init__ P_Lacking_init__ []
  F_is_whole_number : Fun K "is_whole_number" "is_whole_number" s_is_whole_number t.f_is_whole_number t.d_is_whole_number
  B_is_whole_number : Binds K t.d_is_whole_number P_is_whole_number []
  g_is_whole_number : mg "is_whole_number" = some (.ref t.f_is_whole_number)
  F_is_house : Fun K "is_house" "is_house" s_is_house t.f_is_house t.d_is_house
  B_is_house : Binds K t.d_is_house P_is_house []
  g_is_house : mg "is_house" = some (.ref t.f_is_house)
  F_are_houses : Fun K "are_houses" "are_houses" s_are_houses t.f_are_houses t.d_are_houses
  B_are_houses : Binds K t.d_are_houses P_are_houses []
  g_are_houses : mg "are_houses" = some (.ref t.f_are_houses)
  F_Ring_init__ : Fun K "__init__" "Ring.__init__" s_Ring_init__ t.f_Ring_init__ t.d_Ring_init__
  B_Ring_init__ : Binds K t.d_Ring_init__ P_Ring_init__ []
  F_Ring_houses : Fun K "houses" "Ring.houses" s_Ring_houses t.f_Ring_houses t.d_Ring_houses
  B_Ring_houses : Binds K t.d_Ring_houses P_Ring_houses []
  F_Ring_whole : Fun K "whole" "Ring.whole" s_Ring_whole t.f_Ring_whole t.d_Ring_whole
  B_Ring_whole : Binds K t.d_Ring_whole P_Ring_whole []
  F_turned : Fun K "turned" "turned" s_turned t.f_turned t.d_turned
  B_turned : Binds K t.d_turned P_turned []
  g_turned : mg "turned" = some (.ref t.f_turned)
  F_together : Fun K "together" "together" s_together t.f_together t.d_together
  B_together : Binds K t.d_together P_together []
  g_together : mg "together" = some (.ref t.f_together)
  F_is_toll : Fun K "is_toll" "is_toll" s_is_toll t.f_is_toll t.d_is_toll
  B_is_toll : Binds K t.d_is_toll P_is_toll []
  g_is_toll : mg "is_toll" = some (.ref t.f_is_toll)
  F_tolls_for : Fun K "tolls_for" "tolls_for" s_tolls_for t.f_tolls_for t.d_tolls_for
  B_tolls_for : Binds K t.d_tolls_for P_tolls_for []
  g_tolls_for : mg "tolls_for" = some (.ref t.f_tolls_for)
  F_along : Fun K "along" "along" s_along t.f_along t.d_along
  B_along : Binds K t.d_along P_along []
  g_along : mg "along" = some (.ref t.f_along)
  F_lowest_middle : Fun K "lowest_middle" "lowest_middle" s_lowest_middle t.f_lowest_middle t.d_lowest_middle
  B_lowest_middle : Binds K t.d_lowest_middle P_lowest_middle []
  g_lowest_middle : mg "lowest_middle" = some (.ref t.f_lowest_middle)
  F_least_over_last : Fun K "least_over_last" "least_over_last" s_least_over_last t.f_least_over_last t.d_least_over_last
  B_least_over_last : Binds K t.d_least_over_last P_least_over_last []
  g_least_over_last : mg "least_over_last" = some (.ref t.f_least_over_last)
  F_greatest_over_last : Fun K "greatest_over_last" "greatest_over_last" s_greatest_over_last t.f_greatest_over_last t.d_greatest_over_last
  B_greatest_over_last : Binds K t.d_greatest_over_last P_greatest_over_last []
  g_greatest_over_last : mg "greatest_over_last" = some (.ref t.f_greatest_over_last)
  F_full_step : Fun K "full_step" "full_step" s_full_step t.f_full_step t.d_full_step
  B_full_step : Binds K t.d_full_step P_full_step []
  g_full_step : mg "full_step" = some (.ref t.f_full_step)
  F_steps_down : Fun K "steps_down" "steps_down" s_steps_down t.f_steps_down t.d_steps_down
  B_steps_down : Binds K t.d_steps_down P_steps_down []
  g_steps_down : mg "steps_down" = some (.ref t.f_steps_down)
  F_prices_by : Fun K "prices_by" "prices_by" s_prices_by t.f_prices_by t.d_prices_by
  B_prices_by : Binds K t.d_prices_by P_prices_by []
  g_prices_by : mg "prices_by" = some (.ref t.f_prices_by)
  F_least : Fun K "least" "least" s_least t.f_least t.d_least
  B_least : Binds K t.d_least P_least []
  g_least : mg "least" = some (.ref t.f_least)
  F_ends : Fun K "ends" "ends" s_ends t.f_ends t.d_ends
  B_ends : Binds K t.d_ends P_ends []
  g_ends : mg "ends" = some (.ref t.f_ends)
  F_stretch_between : Fun K "stretch_between" "stretch_between" s_stretch_between t.f_stretch_between t.d_stretch_between
  B_stretch_between : Binds K t.d_stretch_between P_stretch_between []
  g_stretch_between : mg "stretch_between" = some (.ref t.f_stretch_between)
  F_within : Fun K "within" "within" s_within t.f_within t.d_within
  B_within : Binds K t.d_within P_within []
  g_within : mg "within" = some (.ref t.f_within)
  F_widest : Fun K "widest" "widest" s_widest t.f_widest t.d_widest
  B_widest : Binds K t.d_widest P_widest []
  g_widest : mg "widest" = some (.ref t.f_widest)
  F_law_cell_at : Fun K "_law_cell_at" "_law_cell_at" s_law_cell_at t.f_law_cell_at t.d_law_cell_at
  B_law_cell_at : Binds K t.d_law_cell_at P_law_cell_at []
  g_law_cell_at : mg "_law_cell_at" = some (.ref t.f_law_cell_at)
  F_law_draw : Fun K "_law_draw" "_law_draw" s_law_draw t.f_law_draw t.d_law_draw
  B_law_draw : Binds K t.d_law_draw P_law_draw []
  g_law_draw : mg "_law_draw" = some (.ref t.f_law_draw)
  F_law_houses : Fun K "_law_houses" "_law_houses" s_law_houses t.f_law_houses t.d_law_houses
  B_law_houses : Binds K t.d_law_houses P_law_houses []
  g_law_houses : mg "_law_houses" = some (.ref t.f_law_houses)
  F_law_kinds : Fun K "_law_kinds" "_law_kinds" s_law_kinds t.f_law_kinds t.d_law_kinds
  B_law_kinds : Binds K t.d_law_kinds P_law_kinds []
  g_law_kinds : mg "_law_kinds" = some (.ref t.f_law_kinds)
  F_law_told : Fun K "_law_told" "_law_told" s_law_told t.f_law_told t.d_law_told
  B_law_told : Binds K t.d_law_told P_law_told []
  g_law_told : mg "_law_told" = some (.ref t.f_law_told)
  F_law_ring : Fun K "_law_ring" "_law_ring" s_law_ring t.f_law_ring t.d_law_ring
  B_law_ring : Binds K t.d_law_ring P_law_ring []
  g_law_ring : mg "_law_ring" = some (.ref t.f_law_ring)
  F_law_with_tolls : Fun K "_law_with_tolls" "_law_with_tolls" s_law_with_tolls t.f_law_with_tolls t.d_law_with_tolls
  B_law_with_tolls : Binds K t.d_law_with_tolls P_law_with_tolls []
  g_law_with_tolls : mg "_law_with_tolls" = some (.ref t.f_law_with_tolls)
  F_law_ends : Fun K "_law_ends" "_law_ends" s_law_ends t.f_law_ends t.d_law_ends
  B_law_ends : Binds K t.d_law_ends P_law_ends []
  g_law_ends : mg "_law_ends" = some (.ref t.f_law_ends)
  F_law_within : Fun K "_law_within" "_law_within" s_law_within t.f_law_within t.d_law_within
  B_law_within : Binds K t.d_law_within P_law_within []
  g_law_within : mg "_law_within" = some (.ref t.f_law_within)
  F_law_turned : Fun K "_law_turned" "_law_turned" s_law_turned t.f_law_turned t.d_law_turned
  B_law_turned : Binds K t.d_law_turned P_law_turned []
  g_law_turned : mg "_law_turned" = some (.ref t.f_law_turned)
  F_law_together : Fun K "_law_together" "_law_together" s_law_together t.f_law_together t.d_law_together
  B_law_together : Binds K t.d_law_together P_law_together []
  g_law_together : mg "_law_together" = some (.ref t.f_law_together)
  F_law_plain : Fun K "_law_plain" "_law_plain" s_law_plain t.f_law_plain t.d_law_plain
  B_law_plain : Binds K t.d_law_plain P_law_plain []
  g_law_plain : mg "_law_plain" = some (.ref t.f_law_plain)
  F_law_lack : Fun K "_law_lack" "_law_lack" s_law_lack t.f_law_lack t.d_law_lack
  B_law_lack : Binds K t.d_law_lack P_law_lack []
  g_law_lack : mg "_law_lack" = some (.ref t.f_law_lack)
  F_law_all : Fun K "_law_all" "_law_all" s_law_all t.f_law_all t.d_law_all
  B_law_all : Binds K t.d_law_all P_law_all []
  g_law_all : mg "_law_all" = some (.ref t.f_law_all)
  F_law_rings_right : Fun K "_law_rings_right" "_law_rings_right" s_law_rings_right t.f_law_rings_right t.d_law_rings_right
  B_law_rings_right : Binds K t.d_law_rings_right P_law_rings_right []
  g_law_rings_right : mg "_law_rings_right" = some (.ref t.f_law_rings_right)
  F_law_tolls_right : Fun K "_law_tolls_right" "_law_tolls_right" s_law_tolls_right t.f_law_tolls_right t.d_law_tolls_right
  B_law_tolls_right : Binds K t.d_law_tolls_right P_law_tolls_right []
  g_law_tolls_right : mg "_law_tolls_right" = some (.ref t.f_law_tolls_right)
  F_law_lacking_right : Fun K "_law_lacking_right" "_law_lacking_right" s_law_lacking_right t.f_law_lacking_right t.d_law_lacking_right
  B_law_lacking_right : Binds K t.d_law_lacking_right P_law_lacking_right []
  g_law_lacking_right : mg "_law_lacking_right" = some (.ref t.f_law_lacking_right)
  F_law : Fun K "law" "law" s_law t.f_law t.d_law
  B_law : Binds K t.d_law P_law []
  g_law : mg "law" = some (.ref t.f_law)
  g_Even : mg "Even" = some (.ref t.C_Even)
  cl_Even : Cls K t.C_Even
  M_Even : Mk K t.C_Even t.f_Even_init__
  m_Even_evens : Meth K t.C_Even "evens" t.f_Even_evens
  m_Even_shows : Meth K t.C_Even "shows" t.f_Even_shows
  n_Even_carried : NoAttr K t.C_Even "carried"
  n_Even_prices : NoAttr K t.C_Even "prices"
  g_Uneven : mg "Uneven" = some (.ref t.C_Uneven)
  cl_Uneven : Cls K t.C_Uneven
  M_Uneven : Mk K t.C_Uneven t.f_Uneven_init__
  m_Uneven_shows : Meth K t.C_Uneven "shows" t.f_Uneven_shows
  n_Uneven_total : NoAttr K t.C_Uneven "total"
  g_Within : mg "Within" = some (.ref t.C_Within)
  cl_Within : Cls K t.C_Within
  M_Within : Mk K t.C_Within t.f_Within_init__
  m_Within_shows : Meth K t.C_Within "shows" t.f_Within_shows
  n_Within_carried : NoAttr K t.C_Within "carried"
  g_Stretch : mg "Stretch" = some (.ref t.C_Stretch)
  cl_Stretch : Cls K t.C_Stretch
  M_Stretch : Mk K t.C_Stretch t.f_Stretch_init__
  m_Stretch_shows : Meth K t.C_Stretch "shows" t.f_Stretch_shows
  n_Stretch_first : NoAttr K t.C_Stretch "first"
  n_Stretch_many : NoAttr K t.C_Stretch "many"
  g_Ring : mg "Ring" = some (.ref t.C_Ring)
  cl_Ring : Cls K t.C_Ring
  M_Ring : Mk K t.C_Ring t.f_Ring_init__
  m_Ring_houses : Meth K t.C_Ring "houses" t.f_Ring_houses
  m_Ring_whole : Meth K t.C_Ring "whole" t.f_Ring_whole
  n_Ring_numbers : NoAttr K t.C_Ring "numbers"
  g_RingError : mg "RingError" = some (.ref t.C_RingError)
  x_RingError : PySem.W.excIn K t.C_RingError bmV "ValueError.__new__" = true
  xm_RingError_RingError : PySem.W.mroIn K t.C_RingError (.ref t.C_RingError) = some true
  g_BadRing : mg "BadRing" = some (.ref t.C_BadRing)
  x_BadRing : PySem.W.excIn K t.C_BadRing bmV "ValueError.__new__" = true
  xm_BadRing_BadRing : PySem.W.mroIn K t.C_BadRing (.ref t.C_BadRing) = some true
  xm_BadRing_RingError : PySem.W.mroIn K t.C_BadRing (.ref t.C_RingError) = some true
  g_BadTolls : mg "BadTolls" = some (.ref t.C_BadTolls)
  x_BadTolls : PySem.W.excIn K t.C_BadTolls bmV "ValueError.__new__" = true
  xm_BadTolls_BadTolls : PySem.W.mroIn K t.C_BadTolls (.ref t.C_BadTolls) = some true
  xm_BadTolls_RingError : PySem.W.mroIn K t.C_BadTolls (.ref t.C_RingError) = some true
  g_BadMost : mg "BadMost" = some (.ref t.C_BadMost)
  x_BadMost : PySem.W.excIn K t.C_BadMost bmV "ValueError.__new__" = true
  xm_BadMost_BadMost : PySem.W.mroIn K t.C_BadMost (.ref t.C_BadMost) = some true
  xm_BadMost_RingError : PySem.W.mroIn K t.C_BadMost (.ref t.C_RingError) = some true
  g_Unlike : mg "Unlike" = some (.ref t.C_Unlike)
  x_Unlike : PySem.W.excIn K t.C_Unlike bmV "ValueError.__new__" = true
  xm_Unlike_Unlike : PySem.W.mroIn K t.C_Unlike (.ref t.C_Unlike) = some true
  xm_Unlike_RingError : PySem.W.mroIn K t.C_Unlike (.ref t.C_RingError) = some true
  g_Lacking : mg "Lacking" = some (.ref t.C_Lacking)
  x_Lacking : excInI K t.C_Lacking bmV "ValueError.__new__" t.f_Lacking_init__ = true
  xn_Lacking : PySem.W.isFn K (.ref t.f_Lacking_init__) = true
  kc_Lacking : PySem.W.keepIn K (.ref t.C_Lacking) = true
  xs_Lacking : PySem.W.findIn K (.ref t.C_Lacking) "__setattr__" = some (some (.builtin "object.__setattr__"))
  xl_Lacking : PySem.W.lackIn K t.C_Lacking t.C_RingError = true
  xa_Lacking_total : PySem.W.findIn K (.ref t.C_Lacking) "total" = some none
  r1_RingError : PySem.W.specialIn K (.ref t.C_RingError) "__getattribute__" = some (some (.builtin "type.__getattribute__"))
  r2_RingError : PySem.W.readsIn K t.C_RingError (.type "type") = true
  r3_RingError : PySem.W.findCls K (.ref t.C_RingError) (.type "type") "__init__" = some (.val (.builtin "ValueError.__init__"))
  xm_Lacking_Lacking : PySem.W.mroIn K t.C_Lacking (.ref t.C_Lacking) = some true
  xm_Lacking_RingError : PySem.W.mroIn K t.C_Lacking (.ref t.C_RingError) = some true
  g_BadText : mg "BadText" = some (.ref t.C_BadText)
  x_BadText : PySem.W.excIn K t.C_BadText bmV "ValueError.__new__" = true
  xm_BadText_BadText : PySem.W.mroIn K t.C_BadText (.ref t.C_BadText) = some true
  xm_BadText_RingError : PySem.W.mroIn K t.C_BadText (.ref t.C_RingError) = some true
  xk_RingError : PySem.W.ExcK K t.C_RingError
  xk_BadRing : PySem.W.ExcK K t.C_BadRing
  xk_BadTolls : PySem.W.ExcK K t.C_BadTolls
  xk_BadMost : PySem.W.ExcK K t.C_BadMost
  xk_Unlike : PySem.W.ExcK K t.C_Unlike
  xk_Lacking : PySem.W.ExcK K t.C_Lacking
  xk_BadText : PySem.W.ExcK K t.C_BadText
  j1_Ring : PySem.W.findIn K (.ref t.C_Ring) "__class__" = some (some (.builtin "object.__class__"))
  j2_Ring : PySem.W.mroIn K t.C_Ring (.type "object") = some true
  j3 : PySem.W.specialIn K (.builtin "object.__class__") "__get__" = some (some (.builtin "getset_descriptor.__get__"))
  j4 : PySem.W.takesIn K (.builtin "object.__class__") = some true
  i_bool_int : PySem.W.kitOne K (.type "bool") (.type "int") = some true
  i_bool_bool : PySem.W.kitOne K (.type "bool") (.type "bool") = some true
  i_Ring_Ring : PySem.W.kitOne K (.ref t.C_Ring) (.ref t.C_Ring) = some true
  i_NoneType_int : PySem.W.kitOne K (.type "NoneType") (.type "int") = some false
  i_str_int : PySem.W.kitOne K (.type "str") (.type "int") = some false
  i_list_int : PySem.W.kitOne K (.type "list") (.type "int") = some false
  i_tuple_int : PySem.W.kitOne K (.type "tuple") (.type "int") = some false
  i_dict_int : PySem.W.kitOne K (.type "dict") (.type "int") = some false
  i_NoneType_list : PySem.W.kitOne K (.type "NoneType") (.type "list") = some false
  i_str_list : PySem.W.kitOne K (.type "str") (.type "list") = some false
  i_int_list : PySem.W.kitOne K (.type "int") (.type "list") = some false
  i_bool_list : PySem.W.kitOne K (.type "bool") (.type "list") = some false
  i_tuple_list : PySem.W.kitOne K (.type "tuple") (.type "list") = some false
  i_dict_list : PySem.W.kitOne K (.type "dict") (.type "list") = some false
  i_BadRing_BadRing : PySem.W.kitOne K (.ref t.C_BadRing) (.ref t.C_BadRing) = some true
  i_BadRing_BadTolls : PySem.W.kitOne K (.ref t.C_BadRing) (.ref t.C_BadTolls) = some false
  i_BadRing_BadMost : PySem.W.kitOne K (.ref t.C_BadRing) (.ref t.C_BadMost) = some false
  i_BadRing_Unlike : PySem.W.kitOne K (.ref t.C_BadRing) (.ref t.C_Unlike) = some false
  i_BadRing_Lacking : PySem.W.kitOne K (.ref t.C_BadRing) (.ref t.C_Lacking) = some false
  i_BadRing_BadText : PySem.W.kitOne K (.ref t.C_BadRing) (.ref t.C_BadText) = some false
  i_BadRing_ValueError : PySem.W.kitOne K (.ref t.C_BadRing) (.type "ValueError") = some true
  i_BadTolls_BadRing : PySem.W.kitOne K (.ref t.C_BadTolls) (.ref t.C_BadRing) = some false
  i_BadTolls_BadTolls : PySem.W.kitOne K (.ref t.C_BadTolls) (.ref t.C_BadTolls) = some true
  i_BadTolls_BadMost : PySem.W.kitOne K (.ref t.C_BadTolls) (.ref t.C_BadMost) = some false
  i_BadTolls_Unlike : PySem.W.kitOne K (.ref t.C_BadTolls) (.ref t.C_Unlike) = some false
  i_BadTolls_Lacking : PySem.W.kitOne K (.ref t.C_BadTolls) (.ref t.C_Lacking) = some false
  i_BadTolls_BadText : PySem.W.kitOne K (.ref t.C_BadTolls) (.ref t.C_BadText) = some false
  i_BadTolls_ValueError : PySem.W.kitOne K (.ref t.C_BadTolls) (.type "ValueError") = some true
  i_BadMost_BadRing : PySem.W.kitOne K (.ref t.C_BadMost) (.ref t.C_BadRing) = some false
  i_BadMost_BadTolls : PySem.W.kitOne K (.ref t.C_BadMost) (.ref t.C_BadTolls) = some false
  i_BadMost_BadMost : PySem.W.kitOne K (.ref t.C_BadMost) (.ref t.C_BadMost) = some true
  i_BadMost_Unlike : PySem.W.kitOne K (.ref t.C_BadMost) (.ref t.C_Unlike) = some false
  i_BadMost_Lacking : PySem.W.kitOne K (.ref t.C_BadMost) (.ref t.C_Lacking) = some false
  i_BadMost_BadText : PySem.W.kitOne K (.ref t.C_BadMost) (.ref t.C_BadText) = some false
  i_BadMost_ValueError : PySem.W.kitOne K (.ref t.C_BadMost) (.type "ValueError") = some true
  i_Unlike_BadRing : PySem.W.kitOne K (.ref t.C_Unlike) (.ref t.C_BadRing) = some false
  i_Unlike_BadTolls : PySem.W.kitOne K (.ref t.C_Unlike) (.ref t.C_BadTolls) = some false
  i_Unlike_BadMost : PySem.W.kitOne K (.ref t.C_Unlike) (.ref t.C_BadMost) = some false
  i_Unlike_Unlike : PySem.W.kitOne K (.ref t.C_Unlike) (.ref t.C_Unlike) = some true
  i_Unlike_Lacking : PySem.W.kitOne K (.ref t.C_Unlike) (.ref t.C_Lacking) = some false
  i_Unlike_BadText : PySem.W.kitOne K (.ref t.C_Unlike) (.ref t.C_BadText) = some false
  i_Unlike_ValueError : PySem.W.kitOne K (.ref t.C_Unlike) (.type "ValueError") = some true
  i_Lacking_BadRing : PySem.W.kitOne K (.ref t.C_Lacking) (.ref t.C_BadRing) = some false
  i_Lacking_BadTolls : PySem.W.kitOne K (.ref t.C_Lacking) (.ref t.C_BadTolls) = some false
  i_Lacking_BadMost : PySem.W.kitOne K (.ref t.C_Lacking) (.ref t.C_BadMost) = some false
  i_Lacking_Unlike : PySem.W.kitOne K (.ref t.C_Lacking) (.ref t.C_Unlike) = some false
  i_Lacking_Lacking : PySem.W.kitOne K (.ref t.C_Lacking) (.ref t.C_Lacking) = some true
  i_Lacking_BadText : PySem.W.kitOne K (.ref t.C_Lacking) (.ref t.C_BadText) = some false
  i_Lacking_ValueError : PySem.W.kitOne K (.ref t.C_Lacking) (.type "ValueError") = some true
  i_int_int : PySem.W.kitOne K (.type "int") (.type "int") = some true
  i_int_bool : PySem.W.kitOne K (.type "int") (.type "bool") = some false
  i_list_list : PySem.W.kitOne K (.type "list") (.type "list") = some true
  b_ValueError : mg "ValueError" = none
  b_abs : mg "abs" = none
  b_all : mg "all" = none
  b_bool : mg "bool" = none
  b_enumerate : mg "enumerate" = none
  b_int : mg "int" = none
  b_isinstance : mg "isinstance" = none
  b_len : mg "len" = none
  b_list : mg "list" = none
  b_max : mg "max" = none
  b_min : mg "min" = none
  b_range : mg "range" = none
  b_sorted : mg "sorted" = none
  b_sum : mg "sum" = none
  b_zip : mg "zip" = none
  g_FARTHEST_NUMBER : mg "FARTHEST_NUMBER" = some (.int 1000000 t.v_FARTHEST_NUMBER)
  g_FEWEST_HOUSES : mg "FEWEST_HOUSES" = some (.int 2 t.v_FEWEST_HOUSES)
  g_HIGHEST_TOLL : mg "HIGHEST_TOLL" = some (.int 1000 t.v_HIGHEST_TOLL)
/-! ### mirrors -/
def primes : List Int := [1000003, 1000033, 1000037, 1000039, 1000081, 1000099, 1000117, 1000121, 1000133, 1000151, 1000159, 1000171, 1000183, 1000187, 1000193, 1000199]
def drawI (c k m : Int) : Int := (c * 48271 + k * 69621) % primes.getD (k % 16).toNat 0 % m
theorem prime_pos {k : Int} : 0 < primes.getD (k % 16).toNat 0 := by
  have h0 : 0 ≤ k % 16 := Int.emod_nonneg _ (by decide)
  have h1 : k % 16 < 16 := Int.emod_lt_of_pos _ (by decide)
  generalize (k % 16) = j at h0 h1
  have : ∀ i : _root_.Fin 16, 0 < primes.getD i.val 0 := by decide
  exact this ⟨j.toNat, by omega⟩
theorem draw_lo {c k m : Int} (h : 0 < m) : 0 ≤ drawI c k m := Int.emod_nonneg _ (by omega)
theorem draw_hi {c k m : Int} (h : 0 < m) : drawI c k m < m := Int.emod_lt_of_pos _ h
/-! ### promises -/
def sp_cell_at (K : PySem.W.Frag) : Sp := fun vs H Q _ => ∃ (a : Addr) (ns : List Int) (k : Int), vs = [.ref a, .int k] ∧ SqL K H a (ns.map V.int) ∧ 0 ≤ k ∧ Q (.int (ns.getD k.toNat 0)) H
def sp_draw : Sp := fun vs H Q _ => ∃ (c k m : Int), vs = [.int c, .int k, .int m] ∧ 0 < m ∧ ∀ H', Same H H' → Q (.int (drawI c k m)) H'
section
variable {P : Program} {w : World} {K : PySem.W.Frag} {mg : Str → Option Value} {base : Heap} {t : Adr}
theorem ok_cell_at (T : Txt K mg t) : FnOk P w K mg base CX0 1 t.f_law_cell_at t.d_law_cell_at P_law_cell_at (sp_cell_at K) := by
  refine T.F_law_cell_at.ok sc_law_cell_at (fun vs H Q E h => ?_) (fun cdv A outer s H vs Q E hr h => ?_)
  · obtain ⟨a, ns, k, rfl, _⟩ := h
    rfl
  · obtain ⟨a, ns, k, rfl, hs, h0, q⟩ := h
    refine ⟨_, (pss_cons (ps_if (pt_cmpR op_lt (pv 1) (pe_callB (lenK K) (by rfl) T.b_len bt_len (pa_cons (pv 0) pa_nil se_Name)) (nomark _))
      (pss_one (ps_ret (pe_ix (ixK K) (pv 0) (pv 1) (fun _ _ => rfl))))
      pss_nil)
      (pss_one (ps_ret pe_int))), ?_⟩
    refine ⟨_, rfl, _, rfl, a, _, rfl, .inl hs, _, _, rfl, rfl, _, rfl, ?_⟩
    refine ite2 (fun hlt => ?_) (fun hge => ?_)
    · have hlt' : k < ((ns.map V.int).length : Int) := of_decide_eq_true hlt
      rw [List.length_map] at hlt'
      exact ⟨_, rfl, _, rfl, .inl ⟨a, _, k, _, rfl, rfl, hs, atI_ints h0 hlt', q⟩⟩
    · have hge' : ¬ k < ((ns.map V.int).length : Int) := fun z => hge (decide_eq_true z)
      rw [List.length_map] at hge'
      have e : ns.getD k.toNat 0 = 0 := by rw [List.getD_eq_getElem?_getD, List.getElem?_eq_none (by omega)]; rfl
      rw [e] at q
      exact q
theorem ok_draw (T : Txt K mg t) : FnOk P w K mg base CX0 1 t.f_law_draw t.d_law_draw P_law_draw sp_draw := by
  refine T.F_law_draw.ok sc_law_draw (fun vs H Q E h => ?_) (fun cdv A outer s H vs Q E hr h => ?_)
  · obtain ⟨c, k, m, rfl, _⟩ := h
    rfl
  · obtain ⟨c, k, m, rfl, hm, q⟩ := h
    refine ⟨_, (pss_cons (ps_set (i := 3) sc_law_draw.nd rfl (by first | exact Or.inl rfl | exact Or.inr rfl) (pe_tup (pa_cons pe_int (pa_cons pe_int (pa_cons pe_int (pa_cons pe_int (pa_cons pe_int (pa_cons pe_int (pa_cons pe_int (pa_cons pe_int (pa_cons pe_int (pa_cons pe_int (pa_cons pe_int (pa_cons pe_int (pa_cons pe_int (pa_cons pe_int (pa_cons pe_int (pa_cons pe_int pa_nil se_Constant) se_Constant) se_Constant) se_Constant) se_Constant) se_Constant) se_Constant) se_Constant) se_Constant) se_Constant) se_Constant) se_Constant) se_Constant) se_Constant) se_Constant) se_Constant)))
      (pss_one (ps_ret (pe_op op_mod (pe_op op_mod (pe_op (op_add.or op_cat) (pe_op (op_mul.or op_rep) (pv 0) pe_int) (pe_op (op_mul.or op_rep) (pv 1) pe_int)) (pe_ix (ixK K) (pv 3) (pe_op op_mod (pv 1) pe_int) (fun _ _ => rfl))) (pv 2))))), ?_⟩
    refine ⟨by show 16 ≤ sizeLine; decide, fun p hp => ?_⟩
    have h0 : 0 ≤ k % 16 := Int.emod_nonneg _ (by decide)
    have h1 : k % 16 < 16 := Int.emod_lt_of_pos _ (by decide)
    refine ⟨_, rfl, .inl ⟨_, _, rfl, rfl, .inr ⟨by decide, by decide⟩, ?_⟩⟩
    refine ⟨_, rfl, .inl ⟨_, _, rfl, rfl, .inr ⟨by decide, by decide⟩, ?_⟩⟩
    refine .inl ⟨_, _, rfl, rfl, ?_⟩
    refine ⟨_, rfl, _, rfl, _, _, rfl, rfl, (by show (0 : Int) < 16; decide), ?_⟩
    refine .inr ⟨p, primes.map V.int, _, _, rfl, rfl, SqT.of upd_same, atI_ints h0 h1, ?_⟩
    refine ⟨_, _, rfl, rfl, prime_pos, _, rfl, _, _, rfl, rfl, hm, ?_⟩
    exact q _ (same_upd hp)

/-! ### the ring's numbers -/
def mostI (ns : List Int) : Int := ([2, 9, 400, 499999] : List Int).getD (drawI (ns.getD 0 0) 6 4).toNat 0
def stepI (ns : List Int) (k : Nat) : Int := drawI (ns.getD k 0) ((k : Int) % 5 + 1) (2 * mostI ns + 1) - mostI ns
def carrI (ns : List Int) (first : Int) : List Int := (drawI (ns.getD 1 0) 7 3 - 1) :: first :: (List.range ns.length).map (stepI ns)
def prevI (cs : List Int) (k : Nat) : Int := cs.getD ((k + cs.length - 1) % cs.length) 0
def diffI (cs : List Int) : List Int := (List.range cs.length).map fun k => cs.getD k 0 - prevI cs k
def housesI (ns : List Int) (first : Int) : List Int := diffI (carrI ns first)
theorem most_cases (ns : List Int) : mostI ns = 2 ∨ mostI ns = 9 ∨ mostI ns = 400 ∨ mostI ns = 499999 := by
  unfold mostI
  have h0 := draw_lo (c := ns.getD 0 0) (k := 6) (m := 4) (by decide)
  have h1 := draw_hi (c := ns.getD 0 0) (k := 6) (m := 4) (by decide)
  generalize drawI (ns.getD 0 0) 6 4 = j at h0 h1
  have : ∀ i : _root_.Fin 4, ([2, 9, 400, 499999] : List Int).getD i.val 0 = 2 ∨ ([2, 9, 400, 499999] : List Int).getD i.val 0 = 9 ∨ ([2, 9, 400, 499999] : List Int).getD i.val 0 = 400 ∨ ([2, 9, 400, 499999] : List Int).getD i.val 0 = 499999 := by decide
  exact this ⟨j.toNat, by omega⟩
theorem carr_length (ns : List Int) (first : Int) : (carrI ns first).length = ns.length + 2 := by simp [carrI]
theorem diff_length (cs : List Int) : (diffI cs).length = cs.length := by simp [diffI]
theorem houses_length (ns : List Int) (first : Int) : (housesI ns first).length = ns.length + 2 := by rw [housesI, diff_length, carr_length]
def sp_houses (K : PySem.W.Frag) : Sp := fun vs H Q _ => ∃ (a : Addr) (ns : List Int) (first : Int), vs = [.ref a, .int first] ∧ SqL K H a (ns.map V.int) ∧ ns.length ≤ 63 ∧
  ∀ D H', H D = none → Same H H' → H' D = some (.lst ((housesI ns first).map V.int)) → Q (.ref D) H'
theorem ok_houses (T : Txt K mg t) : FnOk P w K mg base CX0 2 t.f_law_houses t.d_law_houses P_law_houses (sp_houses K) := by
  have G_law_cell_at := ok_cell_at (P := P) (w := w) (base := base) T
  have G_law_draw := ok_draw (P := P) (w := w) (base := base) T
  refine T.F_law_houses.ok sc_law_houses (fun vs H Q E h => ?_) (fun cdv A outer s H vs Q E hr h => ?_)
  · obtain ⟨a, ns, first, rfl, _⟩ := h
    rfl
  · obtain ⟨a, ns, first, rfl, hs, hl, q⟩ := h
    refine ⟨_, (pss_cons (ps_set (i := 2) sc_law_houses.nd rfl (by first | exact Or.inl rfl | exact Or.inr rfl) (pe_ix (ixK K) (pe_tup (pa_cons pe_int (pa_cons pe_int (pa_cons pe_int (pa_cons pe_int pa_nil se_Constant) se_Constant) se_Constant) se_Constant)) (pe_call G_law_draw (hr.mono (by decide)) rfl T.g_law_draw T.F_law_draw.kp T.B_law_draw .nil pass0 (pa_cons (pe_call G_law_cell_at (hr.mono (by decide)) rfl T.g_law_cell_at T.F_law_cell_at.kp T.B_law_cell_at .nil pass0 (pa_cons (pv 0) (pa_cons pe_int pa_nil se_Constant) se_Name)) (pa_cons pe_int (pa_cons pe_int pa_nil se_Constant) se_Constant) se_Call)) (fun _ _ => rfl)))
      (pss_cons (ps_set (i := 3) sc_law_houses.nd rfl (by first | exact Or.inl rfl | exact Or.inr rfl) (pe_lst (pa_cons (pe_op op_sub (pe_call G_law_draw (hr.mono (by decide)) rfl T.g_law_draw T.F_law_draw.kp T.B_law_draw .nil pass0 (pa_cons (pe_call G_law_cell_at (hr.mono (by decide)) rfl T.g_law_cell_at T.F_law_cell_at.kp T.B_law_cell_at .nil pass0 (pa_cons (pv 0) (pa_cons pe_int pa_nil se_Constant) se_Name)) (pa_cons pe_int (pa_cons pe_int pa_nil se_Constant) se_Constant) se_Call)) pe_int) (pa_cons (pv 1) pa_nil se_Name) se_BinOp)))
      (pss_cons (ps_for PassesOwn.never rfl (pi_range1 rfl T.b_range (pa_cons (pe_callB (lenK K) (by rfl) T.b_len bt_len (pa_cons (pv 0) pa_nil se_Name)) pa_nil se_Call)) (pg_name (i := 4) sc_law_houses.nd rfl (by first | exact Or.inl rfl | exact Or.inr rfl))
      (pss_one (ps_expr (bmK K PySem.F.plainAttrs_list PySem.F.slot_list_append PySem.F.type_list_append mtr_append (pv 3) (pa_cons (pe_op op_sub (pe_call G_law_draw (hr.mono (by decide)) rfl T.g_law_draw T.F_law_draw.kp T.B_law_draw .nil pass0 (pa_cons (pe_ix (ixK K) (pv 0) (pv 4) (fun _ _ => rfl)) (pa_cons (pe_op (op_add.or op_cat) (pe_op op_mod (pv 4) pe_int) pe_int) (pa_cons (pe_op (op_add.or op_cat) (pe_op (op_mul.or op_rep) pe_int (pv 2)) pe_int) pa_nil se_BinOp) se_BinOp) se_Subscript)) (pv 2)) pa_nil se_BinOp)))))
      (pss_one (ps_ret (pe_comp (sc := defScope s_law_houses) (XN := N_law_houses) (N' := ["_law_k", "_law_carried"]) (t := 1) (ix := [3]) rfl ⟨rfl, by decide +kernel, by decide +kernel, by decide +kernel, by decide +kernel, rfl, by decide +kernel⟩ rfl rfl (pi_range1 rfl T.b_range (pa_cons (pe_callB (lenK K) (by rfl) T.b_len bt_len (pa_cons (pv 3) pa_nil se_Name)) pa_nil se_Call)) (fun _ _ _ _ _ => (pg_name (i := 0) (show List.Nodup (["_law_k", "_law_carried"] : List Str) by decide +kernel) rfl (Or.inl rfl))) (fun _ _ _ _ _ => (pe_op op_sub (pe_ix (ixK K) (pv 1) (pv 0) (fun _ _ => rfl)) (pe_ix (ixK K) (pv 1) (pe_op op_sub (pv 0) pe_int) (fun _ _ => rfl)))))))))), ?_⟩
    -- the bound
    refine ⟨by show 4 ≤ sizeLine; decide, fun p hp => ?_⟩
    refine ⟨_, rfl, a, ns, 0, rfl, (same_upd hp).seq hs, by decide, ?_⟩
    refine ⟨_, _, _, rfl, by decide, fun H1 s1 => ?_⟩
    refine .inr ⟨p, ([2, 9, 400, 499999] : List Int).map V.int, _, _, rfl, rfl, SqT.of (s1 _ _ upd_same), atI_ints (draw_lo (by decide)) (draw_hi (by decide)), ?_⟩
    have S1 : Same H H1 := (same_upd hp).trans s1
    -- the list
    refine ⟨_, rfl, a, ns, 1, rfl, S1.seq hs, by decide, ?_⟩
    refine ⟨_, _, _, rfl, by decide, fun H2 s2 => ?_⟩
    have S2 : Same H H2 := S1.trans s2
    refine ⟨_, _, rfl, rfl, _, rfl, by show 2 ≤ sizeLine; decide, fun d hd => ?_⟩
    have hdH : H d = none := S2.free hd
    -- for k in range(len(script))
    refine ⟨_, rfl, a, _, rfl, .inl ((S2.upd hdH).seq hs), ((ns.map V.int).length : Int), rfl, by omega, by rw [List.length_map]; omega, ?_⟩
    refine for_range0 (n := ((ns.map V.int).length : Int).toNat) (fun i σ H3 => ∃ v, σ = [some (.ref a), some (.int first), some (.int (mostI ns)), some (.ref d), v] ∧ Same H H3 ∧
      H3 d = some (.lst (((drawI (ns.getD 1 0) 7 3 - 1) :: first :: (List.range i).map (stepI ns)).map V.int))) ⟨_, rfl, S2.upd hdH, upd_same⟩ ?_ ?_
    · rintro i σ H3 hi ⟨v, rfl, S3, h3⟩
      rw [List.length_map] at hi
      have hi' : i < ns.length := by omega
      have hm := most_cases ns
      refine ⟨_, rfl, .inl ⟨rfl, _, SqL.of h3⟩, ?_⟩
      refine ⟨_, rfl, _, rfl, .inl ⟨a, _, _, _, rfl, rfl, S3.seq hs, atI_ints (by omega) (by omega), ?_⟩⟩
      refine ⟨_, rfl, _, _, rfl, rfl, (by show (0 : Int) < 5; decide), .inl ⟨_, _, rfl, rfl, ?_⟩⟩
      refine ⟨_, rfl, .inl ⟨_, _, rfl, rfl, .inl ⟨by decide, by decide⟩, .inl ⟨_, _, rfl, rfl, ?_⟩⟩⟩
      refine ⟨_, _, _, rfl, by omega, fun H4 s4 => ?_⟩
      refine ⟨_, rfl, _, _, rfl, rfl, ?_⟩
      have h4 := s4 _ _ h3
      refine ⟨d, _, _, rfl, rfl, h4, ?_, ?_⟩
      · have := big; simp; omega
      · refine ⟨_, rfl, (S3.trans s4).upd hdH, ?_⟩
        rw [upd_same]
        congr 2
        rw [List.range_succ, List.map_append]
        simp [stepI]
    · rintro σ H3 ⟨v, rfl, S3, h3⟩
      rw [List.length_map] at h3
      have h3' : H3 d = some (.lst ((carrI ns first).map V.int)) := by rw [h3]; simp [carrI]
      -- the comprehension
      have hlen := carr_length ns first
      refine ⟨_, rfl, d, _, rfl, .inl (SqL.of h3'), (((carrI ns first).map V.int).length : Int), rfl, by omega, by rw [List.length_map, hlen]; omega, fun D hD => ?_⟩
      refine comp_range0 (n := (((carrI ns first).map V.int).length : Int).toNat) (fun k => .int ((carrI ns first).getD k 0 - prevI (carrI ns first) k)) (by have := big; rw [List.length_map, hlen]; simp; omega) (by decide) hD (fun k H5 Z hk S5 z => ?_) (fun H5 S5 e5 => ?_)
      · rw [List.length_map] at hk
        have hk' : k < (carrI ns first).length := by omega
        have h5 := S5 _ _ h3'
        refine ⟨_, rfl, _, rfl, .inl ⟨d, _, _, _, rfl, rfl, SqL.of h5, atI_ints (by omega) (by omega), ?_⟩⟩
        refine ⟨_, rfl, _, rfl, _, _, rfl, rfl, .inl ⟨d, _, _, _, rfl, rfl, SqL.of h5, atI_back hk', ?_⟩⟩
        exact ⟨_, _, rfl, rfl, z H5 (Same.refl _)⟩
      · refine q D H5 (S3.free hD) (S3.trans S5) ?_
        rw [e5]
        simp [housesI, diffI, List.map_map, Function.comp]
/-! ### the tolls -/
def tollRow (c : Int) : List Int := [1, drawI c 1 3, drawI c 2 4 / 3, drawI c 3 1001, 0]
def tollI (ns : List Int) (k : Nat) : Int := (tollRow (ns.getD ((k + 1) % (ns.length + 1)) 0)).getD (drawI (ns.getD 0 0) 8 5).toNat 0
def tollsI (ns : List Int) (n : Nat) : List Int := (List.range n).map (tollI ns)
theorem tollRow_range (c : Int) : ∀ x ∈ tollRow c, 0 ≤ x ∧ x ≤ 1000 := by
  have h1 := draw_lo (c := c) (k := 1) (m := 3) (by decide)
  have h2 := draw_hi (c := c) (k := 1) (m := 3) (by decide)
  have h3 := draw_lo (c := c) (k := 2) (m := 4) (by decide)
  have h4 := draw_hi (c := c) (k := 2) (m := 4) (by decide)
  have h5 := draw_lo (c := c) (k := 3) (m := 1001) (by decide)
  have h6 := draw_hi (c := c) (k := 3) (m := 1001) (by decide)
  intro x hx
  simp only [tollRow, List.mem_cons, List.not_mem_nil, or_false] at hx
  omega
theorem toll_range (ns : List Int) (k : Nat) : 0 ≤ tollI ns k ∧ tollI ns k ≤ 1000 := by
  have h0 := draw_lo (c := ns.getD 0 0) (k := 8) (m := 5) (by decide)
  have h1 := draw_hi (c := ns.getD 0 0) (k := 8) (m := 5) (by decide)
  exact tollRow_range _ _ (L2.getD_mem (show (drawI (ns.getD 0 0) 8 5).toNat < 5 by omega))
theorem tolls_length (ns : List Int) (n : Nat) : (tollsI ns n).length = n := by simp [tollsI]
theorem tolls_range {ns : List Int} {n : Nat} : ∀ x ∈ tollsI ns n, 0 ≤ x ∧ x ≤ 1000 := fun x hx => by
  obtain ⟨k, _, rfl⟩ := List.mem_map.mp hx
  exact toll_range ns k
def sp_tolls (K : PySem.W.Frag) : Sp := fun vs H Q _ => ∃ (a : Addr) (ns : List Int) (n : Nat), vs = [.ref a, .int n] ∧ SqL K H a (ns.map V.int) ∧ ns.length ≤ 63 ∧ n ≤ 1000 ∧
  ∀ D H', H D = none → Same H H' → H' D = some (.lst ((tollsI ns n).map V.int)) → Q (.ref D) H'
/-! ### tests -/
theorem t_eq {i j : Int} : (decide (V.int i = V.int j) = true) ↔ i = j := by
  rw [decide_eq_true_iff]; exact ⟨fun e => by injection e, fun e => by rw [e]⟩
theorem t_ne {i j : Int} : ((!decide (V.int i = V.int j)) = true) ↔ i ≠ j := by
  rw [Bool.not_eq_true', decide_eq_false_iff_not]; exact ⟨fun h e => h (by rw [e]), fun h e => h (by injection e)⟩
theorem d_int {i j : Int} : decide (V.int i = V.int j) = decide (i = j) := by
  rw [Bool.eq_iff_iff, t_eq, decide_eq_true_iff]
/-! ### a carrying that evens -/
def absI (i : Int) : Int := if i < 0 then -i else i
def evenB (hs cs : List Int) : Bool := decide (diffI cs = hs)
theorem diff_get {cs : List Int} {k : Nat} (h : k < cs.length) : (diffI cs).getD k 0 = cs.getD k 0 - prevI cs k := by
  simp [diffI, h]
theorem evenB_all {hs cs : List Int} (h : cs.length = hs.length) : ((List.range hs.length).map fun k => decide (V.int (cs.getD k 0 - prevI cs k) = V.int (hs.getD k 0))).all id = evenB hs cs := by
  rw [Bool.eq_iff_iff, List.all_eq_true]
  unfold evenB
  rw [decide_eq_true_iff]
  constructor
  · intro q
    refine List.ext_getElem (by rw [diff_length, h]) fun k h1 h2 => ?_
    have := q (decide (V.int (cs.getD k 0 - prevI cs k) = V.int (hs.getD k 0))) (List.mem_map.mpr ⟨k, List.mem_range.mpr h2, rfl⟩)
    have e := t_eq.mp this
    have e2 := diff_get (cs := cs) (k := k) (by omega)
    rw [List.getD_eq_getElem?_getD, List.getElem?_eq_getElem h1, Option.getD_some] at e2
    rw [List.getD_eq_getElem?_getD (l := hs), List.getElem?_eq_getElem h2, Option.getD_some] at e
    rw [e2, e]
  · intro q b hb
    obtain ⟨k, hk, rfl⟩ := List.mem_map.mp hb
    have hk' := List.mem_range.mp hk
    show decide _ = true
    rw [t_eq, ← q, diff_get (by omega)]
theorem evenB_len {hs cs : List Int} (h : cs.length ≠ hs.length) : evenB hs cs = false := by
  unfold evenB
  rw [decide_eq_false_iff_not]
  intro e
  rw [← e, diff_length] at h
  exact h rfl
def sp_is_evened (K : PySem.W.Frag) : Sp := fun vs H Q _ => ∃ (a b : Addr) (hs cs : List Int), vs = [.ref a, .ref b] ∧ SqL K H a (hs.map V.int) ∧ SqL K H b (cs.map V.int) ∧ hs.length ≤ 1000 ∧ ∀ H', Same H H' → Q (.bl (evenB hs cs)) H'
/-! ### sums over two lists -/
def Sm (x : Int) : Prop := -(2 ^ 64) < x ∧ x < 2 ^ 64
theorem map_int_get {ts : List Int} {k : Nat} {x : V} (h : (ts.map V.int)[k]? = some x) : ∃ i, ts[k]? = some i ∧ x = .int i := by
  rw [List.getElem?_map] at h
  cases e : ts[k]? with
  | none => rw [e] at h; cases h
  | some i => rw [e] at h; exact ⟨i, rfl, (Option.some.inj h).symm⟩
theorem mem_of_get {ts : List Int} {k : Nat} {i : Int} (h : ts[k]? = some i) : i ∈ ts := List.mem_of_getElem? h
def v2 (g : Int → Int → Int) : V → V → V
  | .int i, .int j => .int (g i j)
  | _, _ => .non
theorem zip_v2 (g : Int → Int → Int) : ∀ ts cs : List Int, List.zipWith (v2 g) (ts.map V.int) (cs.map V.int) = (List.zipWith g ts cs).map V.int
  | [], _ => by simp
  | _ :: _, [] => by simp
  | t :: ts, c :: cs => by simp [v2, zip_v2 g ts cs]
def costI (ts cs : List Int) : Int := (List.zipWith (fun t c => t * absI c) ts cs).sum
def worthI (hs ps : List Int) : Int := (List.zipWith (fun p h => p * h) ps hs).sum
def keepB (ps ts : List Int) : Bool := (List.range ps.length).all fun k => decide (absI (ps.getD k 0 - prevI ps k) ≤ prevI ts k)
def sp_cost (K : PySem.W.Frag) : Sp := fun vs H Q _ => ∃ (a b : Addr) (cs ts : List Int), vs = [.ref a, .ref b] ∧ SqL K H a (cs.map V.int) ∧ SqL K H b (ts.map V.int) ∧ ts.length ≤ 1000 ∧ (∀ x ∈ ts, Sm x) ∧ ∀ H', Same H H' → Q (.int (costI ts cs)) H'
def sp_worth (K : PySem.W.Frag) : Sp := fun vs H Q _ => ∃ (a b : Addr) (hs ps : List Int), vs = [.ref a, .ref b] ∧ SqL K H a (hs.map V.int) ∧ SqL K H b (ps.map V.int) ∧ ps.length ≤ 1000 ∧ (∀ x ∈ hs, Sm x) ∧ ∀ H', Same H H' → Q (.int (worthI hs ps)) H'
def sp_keep (K : PySem.W.Frag) : Sp := fun vs H Q _ => ∃ (a b : Addr) (ps ts : List Int), vs = [.ref a, .ref b] ∧ SqL K H a (ps.map V.int) ∧ SqL K H b (ts.map V.int) ∧ ps.length ≤ 1000 ∧ ts.length = ps.length ∧ ∀ H', Same H H' → Q (.bl (keepB ps ts)) H'
/-! ### houses -/
def houseB (i : Int) : Bool := decide (absI i ≤ 1000000)
def sp_whole1 : Sp := fun vs H Q _ => ∃ i : Int, vs = [.int i] ∧ Q (.bl true) H
def sp_house1 : Sp := fun vs H Q _ => ∃ i : Int, vs = [.int i] ∧ Q (.bl (houseB i)) H
def sp_houses1 (K : PySem.W.Frag) : Sp := fun vs H Q _ => ∃ (a : Addr) (ns : List Int), vs = [.ref a] ∧ SqL K H a (ns.map V.int) ∧ ns.length ≤ 1000 ∧ ∀ H', Same H H' → Q (.bl (ns.all houseB)) H'
theorem ok_whole1 (T : Txt K mg t) : FnOk P w K mg base CX0 1 t.f_is_whole_number t.d_is_whole_number P_is_whole_number sp_whole1 := by
  refine T.F_is_whole_number.ok sc_is_whole_number (fun vs H Q E h => ?_) (fun cdv A outer s H vs Q E hr h => ?_)
  · obtain ⟨i, rfl, _⟩ := h
    rfl
  · obtain ⟨i, rfl, q⟩ := h
    refine ⟨_, (pss_one (ps_ret (pe_and (pe_callB (isiK K) (by rfl) T.b_isinstance bt_isinstance (pa_cons (pv 0) (pa_cons (pe_bltn (v := .ty "int") rfl T.b_int bt_int rfl) pa_nil se_Name) se_Name)) (pe_one (pe_not (pe_callB (isiK K) (by rfl) T.b_isinstance bt_isinstance (pa_cons (pv 0) (pa_cons (pe_bltn (v := .ty "bool") rfl T.b_bool bt_bool rfl) pa_nil se_Name) se_Name))))))), ?_⟩
    refine ⟨_, rfl, _, _, _, _, true, rfl, rfl, TyOf.int i, T.i_int_int, _, rfl, iteT ?_⟩
    exact ⟨_, rfl, _, _, _, _, false, rfl, rfl, TyOf.int i, T.i_int_bool, _, rfl, q⟩
theorem ok_house1 (T : Txt K mg t) : FnOk P w K mg base CX0 2 t.f_is_house t.d_is_house P_is_house sp_house1 := by
  have G_is_whole_number := ok_whole1 (P := P) (w := w) (base := base) T
  refine T.F_is_house.ok sc_is_house (fun vs H Q E h => ?_) (fun cdv A outer s H vs Q E hr h => ?_)
  · obtain ⟨i, rfl, _⟩ := h
    rfl
  · obtain ⟨i, rfl, q⟩ := h
    refine ⟨_, (pss_one (ps_ret (pe_and (pe_call G_is_whole_number (hr.mono (by decide)) rfl T.g_is_whole_number T.F_is_whole_number.kp T.B_is_whole_number .nil pass0 (pa_cons (pv 0) pa_nil se_Name)) (pe_one (pe_cmpR op_le (pe_callB call_abs (by rfl) T.b_abs bt_abs (pa_cons (pv 0) pa_nil se_Name)) (pe_glob (v := .int 1000000) rfl T.g_FARTHEST_NUMBER ⟨_, rfl⟩) (nomark _)))))), ?_⟩
    refine ⟨_, rfl, i, rfl, _, rfl, iteT ?_⟩
    exact ⟨_, rfl, _, rfl, _, _, rfl, rfl, q⟩
theorem ok_houses1 (T : Txt K mg t) : FnOk P w K mg base CX0 3 t.f_are_houses t.d_are_houses P_are_houses (sp_houses1 K) := by
  have G_is_house := ok_house1 (P := P) (w := w) (base := base) T
  refine T.F_are_houses.ok sc_are_houses (fun vs H Q E h => ?_) (fun cdv A outer s H vs Q E hr h => ?_)
  · obtain ⟨a, ns, rfl, _⟩ := h
    rfl
  · obtain ⟨a, ns, rfl, ha, hl, q⟩ := h
    refine ⟨_, (pss_one (ps_ret (pe_callB (allK K rfl) (by rfl) T.b_all bt_all (pa_cons (pe_comp (sc := defScope s_are_houses) (XN := N_are_houses) (N' := ["value"]) (t := 1) (ix := []) rfl ⟨rfl, by decide +kernel, by decide +kernel, by decide +kernel, by decide +kernel, rfl, by decide +kernel⟩ rfl rfl (piL K (pv 0)) (fun _ _ _ _ _ => (pg_name (i := 0) (show List.Nodup (["value"] : List Str) by decide +kernel) rfl (Or.inl rfl))) (fun _ _ _ _ _ => (pe_call G_is_house (hr.mono (by decide)) rfl T.g_is_house T.F_is_house.kp T.B_is_house .nil pass0 (pa_cons (pv 0) pa_nil se_Name)))) pa_nil se_ListComp)))), ?_⟩
    refine ⟨_, rfl, a, rfl, ⟨_, ha⟩, fun D hD => ?_⟩
    refine comp_list (t := 1) (fun x => match x with | .int i => .bl (houseB i) | _ => .non) (by have := big; rw [List.length_map]; omega) (by decide) hD ha (fun k x H5 Z hx S5 z => ?_) (fun H5 S5 e5 => ?_)
    · obtain ⟨i, ei, rfl⟩ := map_int_get hx
      exact ⟨_, rfl, i, rfl, z H5 (Same.refl _)⟩
    · refine ⟨D, ns.map houseB, rfl, SqL.of (by rw [e5, List.map_map, List.map_map]; rfl), ?_⟩
      have := q H5 S5
      rw [List.all_map]
      exact this

/-! ### Ring -/
theorem t_lt {i j : Int} : (decide (i < j) = true) ↔ i < j := decide_eq_true_iff
theorem t_le {i j : Int} : (decide (i ≤ j) = true) ↔ i ≤ j := decide_eq_true_iff
/-- all but p is as it was -/
def But (p : Addr) (H H' : Hp) : Prop := ∀ b o, H b = some o → b ≠ p → H' b = some o
def ringF (l : Addr) : List (Str × V) := [("numbers", .ref l)]
structure RingAt (C : Addr) (H : Hp) (p l : Addr) (hs : List Int) : Prop where
  ob : ∃ dx, H p = some (.ins C dx (ringF l))
  li : H l = some (.lst (hs.map V.int))
theorem RingAt.same {C : Addr} {H H' : Hp} {p l : Addr} {hs : List Int} (r : RingAt C H p l hs) (s : Same H H') : RingAt C H' p l hs := ⟨let ⟨dx, e⟩ := r.ob; ⟨dx, s _ _ e⟩, s _ _ r.li⟩
def sp_Ring_init (C : Addr) : Sp := fun vs H Q _ => ∃ (p a dx : Addr) (ns : List Int), vs = [.ref p, .ref a] ∧ H p = some (.ins C dx []) ∧ H a = some (.lst (ns.map V.int)) ∧ 2 ≤ ns.length ∧ ns.length ≤ 1000 ∧ ns.all houseB = true ∧
  ∀ l H', H l = none → But p H H' → RingAt C H' p l ns → Q .non H'
def sp_Ring_houses (C : Addr) : Sp := fun vs H Q _ => ∃ (p l : Addr) (hs : List Int), vs = [.ref p] ∧ RingAt C H p l hs ∧ ∀ D H', H D = none → Same H H' → H' D = some (.lst (hs.map V.int)) → Q (.ref D) H'
def sp_Ring_whole (C : Addr) : Sp := fun vs H Q _ => ∃ (p l : Addr) (hs : List Int), vs = [.ref p] ∧ RingAt C H p l hs ∧ Q (.int hs.sum) H
theorem ok_Ring_init (T : Txt K mg t) : FnOk P w K mg base CX0 4 t.f_Ring_init__ t.d_Ring_init__ P_Ring_init__ (sp_Ring_init t.C_Ring) := by
  have G_are_houses := ok_houses1 (P := P) (w := w) (base := base) T
  refine T.F_Ring_init__.ok sc_Ring_init__ (fun vs H Q E h => ?_) (fun cdv A outer s H vs Q E hr h => ?_)
  · obtain ⟨p, a, dx, ns, rfl, _⟩ := h
    rfl
  · obtain ⟨p, a, dx, ns, rfl, hp, ha, h2, hl, hb, q⟩ := h
    refine ⟨_, (pss_cons (ps_if (pt_not (pt_val (pe_callB (isiK K) (by rfl) T.b_isinstance bt_isinstance (pa_cons (pv 1) (pa_cons (pe_bltn (v := .ty "list") rfl T.b_list bt_list rfl) pa_nil se_Name) se_Name))))
      (pss_one ps_never)
      pss_nil)
      (pss_cons (ps_set (i := 2) sc_Ring_init__.nd rfl (by first | exact Or.inl rfl | exact Or.inr rfl) (pe_callTy (listK K) (by rfl) T.b_list bt_list (pa_cons (pv 1) pa_nil se_Name)))
      (pss_cons (ps_if (pt_cmpR op_lt (pe_callB (lenK K) (by rfl) T.b_len bt_len (pa_cons (pv 2) pa_nil se_Name)) (pe_glob (v := .int 2) rfl T.g_FEWEST_HOUSES ⟨_, rfl⟩) (nomark _))
      (pss_one ps_never)
      pss_nil)
      (pss_cons (ps_if (pt_not (pt_val (pe_call G_are_houses (hr.mono (by decide)) rfl T.g_are_houses T.F_are_houses.kp T.B_are_houses .nil pass0 (pa_cons (pv 2) pa_nil se_Name))))
      (pss_one ps_never)
      pss_nil)
      (pss_one (ps_fld (pv 0) (pv 2) rfl)))))), ?_⟩
    refine ⟨_, rfl, _, _, _, _, true, rfl, rfl, TyOf.lst ha, T.i_list_list, _, rfl, iteF ?_⟩
    refine ⟨_, rfl, a, _, rfl, .inl (SqL.of ha), fun l hlf => ?_⟩
    refine ⟨_, rfl, l, _, rfl, .inl (SqL.of upd_same), _, _, rfl, rfl, _, rfl, ?_⟩
    refine ite2 (fun h => ?_) (fun h => ?_)
    · rw [t_lt, List.length_map] at h
      omega
    refine ⟨_, rfl, l, ns, rfl, SqL.of upd_same, hl, fun H2 s2 => ?_⟩
    rw [hb]
    refine ⟨_, rfl, iteF ?_⟩
    have npl : p ≠ l := ne_of_none hp hlf
    have e2 : H2 p = some (.ins t.C_Ring dx []) := s2 _ _ (by rw [upd_ne npl]; exact hp)
    have e3 : H2 l = some (.lst (ns.map V.int)) := s2 _ _ upd_same
    refine ⟨_, rfl, _, rfl, p, t.C_Ring, dx, [], rfl, e2, T.cl_Ring, T.n_Ring_numbers, by decide, ?_⟩
    refine q l _ hlf (fun b o e hb => ?_) ⟨⟨dx, upd_same⟩, by rw [upd_ne npl.symm]; exact e3⟩
    rw [upd_ne hb]
    exact s2 _ _ (by rw [upd_ne (ne_of_none e hlf)]; exact e)
theorem ok_Ring_houses (T : Txt K mg t) : FnOk P w K mg base CX0 1 t.f_Ring_houses t.d_Ring_houses P_Ring_houses (sp_Ring_houses t.C_Ring) := by
  refine T.F_Ring_houses.ok sc_Ring_houses (fun vs H Q E h => ?_) (fun cdv A outer s H vs Q E hr h => ?_)
  · obtain ⟨p, l, hs, rfl, _⟩ := h
    rfl
  · obtain ⟨p, l, hs, rfl, ⟨⟨dx, hp⟩, hl⟩, q⟩ := h
    refine ⟨_, (pss_one (ps_ret (pe_callTy (listK K) (by rfl) T.b_list bt_list (pa_cons (fldK K (pv 0)) pa_nil se_Attribute)))), ?_⟩
    exact ⟨_, rfl, p, t.C_Ring, dx, _, _, rfl, hp, T.cl_Ring, T.n_Ring_numbers, rfl, l, _, rfl, .inl (SqL.of hl), fun D hD => q D _ hD (same_upd hD) upd_same⟩
theorem ok_Ring_whole (T : Txt K mg t) : FnOk P w K mg base CX0 1 t.f_Ring_whole t.d_Ring_whole P_Ring_whole (sp_Ring_whole t.C_Ring) := by
  refine T.F_Ring_whole.ok sc_Ring_whole (fun vs H Q E h => ?_) (fun cdv A outer s H vs Q E hr h => ?_)
  · obtain ⟨p, l, hs, rfl, _⟩ := h
    rfl
  · obtain ⟨p, l, hs, rfl, ⟨⟨dx, hp⟩, hl⟩, q⟩ := h
    refine ⟨_, (pss_one (ps_ret (pe_callB (sumK K rfl) (by rfl) T.b_sum bt_sum (pa_cons (fldK K (pv 0)) pa_nil se_Attribute)))), ?_⟩
    exact ⟨_, rfl, p, t.C_Ring, dx, _, _, rfl, hp, T.cl_Ring, T.n_Ring_numbers, rfl, l, hs, rfl, SqL.of hl, q⟩

/-! ### Even -/
def evF (c q : Addr) : List (Str × V) := [("carried", .ref c), ("prices", .ref q)]
structure EvenAt (C : Addr) (H : Hp) (p c q : Addr) (cs ps : List Int) : Prop where
  ob : ∃ dx, H p = some (.ins C dx (evF c q))
  ca : H c = some (.lst (cs.map V.int))
  pr : H q = some (.lst (ps.map V.int))
theorem EvenAt.same {C : Addr} {H H' : Hp} {p c q : Addr} {cs ps : List Int} (r : EvenAt C H p c q cs ps) (s : Same H H') : EvenAt C H' p c q cs ps := ⟨let ⟨dx, e⟩ := r.ob; ⟨dx, s _ _ e⟩, s _ _ r.ca, s _ _ r.pr⟩
theorem ne_cp : ¬ (("carried" : Str) = "prices") := by decide +kernel
theorem put_ev (c q : Addr) : putF "prices" (.ref q) (putF "carried" (.ref c) []) = evF c q := by
  show (if ("carried" : Str) = "prices" then _ else (("carried" : Str), V.ref c) :: putF "prices" (V.ref q) []) = _
  rw [if_neg ne_cp]
  rfl
theorem look_c (c q : Addr) : (evF c q).lookup ("carried" : Str) = some (.ref c) := by rfl
theorem look_p (c q : Addr) : (evF c q).lookup ("prices" : Str) = some (.ref q) := by rfl
def sp_Even_init (K : PySem.W.Frag) (C : Addr) : Sp := fun vs H Q _ => ∃ (p a b dx : Addr) (cs ps : List Int), vs = [.ref p, .ref a, .ref b] ∧ H p = some (.ins C dx []) ∧ SqL K H a (cs.map V.int) ∧ SqL K H b (ps.map V.int) ∧
  ∀ c q H', H c = none → H q = none → c ≠ q → But p H H' → EvenAt C H' p c q cs ps → Q .non H'
theorem SqL.upd {K : PySem.W.Frag} {H : Hp} {a p : Addr} {o : HO} {xs : List V} (h : SqL K H a xs) (hp : H p = none ∨ ∃ C dx fs, H p = some (.ins C dx fs)) : SqL K (L2.upd H p o) a xs := by
  rcases h with (h | ⟨ob, h⟩) | h
  · refine .inl (.inl ?_)
    rw [upd_ne]
    · exact h
    · rintro rfl; rcases hp with e | ⟨C, dx, fs, e⟩ <;> rw [h] at e <;> cases e
  · refine .inl (.inr ⟨ob, ?_⟩)
    rw [upd_ne]
    · exact h
    · rintro rfl; rcases hp with e | ⟨C, dx, fs, e⟩ <;> rw [h] at e <;> cases e
  · exact .inr h
theorem ok_Even_init (T : Txt K mg t) : FnOk P w K mg base CX0 1 t.f_Even_init__ t.d_Even_init__ P_Even_init__ (sp_Even_init K t.C_Even) := by
  refine T.F_Even_init__.ok sc_Even_init__ (fun vs H Q E h => ?_) (fun cdv A outer s H vs Q E hr h => ?_)
  · obtain ⟨p, a, b, dx, cs, ps, rfl, _⟩ := h
    rfl
  · obtain ⟨p, a, b, dx, cs, ps, rfl, hp, ha, hb, q⟩ := h
    refine ⟨_, (pss_cons (ps_fld (pv 0) (pe_callTy (listK K) (by rfl) T.b_list bt_list (pa_cons (pv 1) pa_nil se_Name)) rfl)
      (pss_one (ps_fld (pv 0) (pe_callTy (listK K) (by rfl) T.b_list bt_list (pa_cons (pv 2) pa_nil se_Name)) rfl))), ?_⟩
    refine ⟨_, rfl, a, _, rfl, .inl ha, fun c hc => ?_⟩
    have npc : p ≠ c := ne_of_none hp hc
    refine ⟨_, rfl, p, t.C_Even, dx, [], rfl, (by rw [upd_ne npc]; exact hp), T.cl_Even, T.n_Even_carried, by decide, ?_⟩
    have hb2 : SqL K (upd (upd H c (.lst (cs.map V.int))) p (.ins t.C_Even dx (putF "carried" (.ref c) []))) b (ps.map V.int) := by
      refine SqL.upd (SqL.upd hb (.inl hc)) (.inr ⟨t.C_Even, dx, [], ?_⟩)
      rw [upd_ne npc]; exact hp
    refine ⟨_, rfl, b, _, rfl, .inl hb2, fun q' hq' => ?_⟩
    have npq : p ≠ q' := by
      rintro rfl
      rw [upd_same] at hq'; cases hq'
    have ncq : c ≠ q' := by
      rintro rfl
      rw [upd_ne npc.symm, upd_same] at hq'; cases hq'
    have hqH : H q' = none := by
      rw [upd_ne npq.symm, upd_ne ncq.symm] at hq'; exact hq'
    refine ⟨_, rfl, p, t.C_Even, dx, putF "carried" (.ref c) [], rfl, (by rw [upd_ne npq, upd_same]), T.cl_Even, T.n_Even_prices, by show 1 < 1000; decide, ?_⟩
    rw [put_ev]
    refine q c q' _ hc hqH ncq (fun x o e hx => ?_) ⟨⟨dx, upd_same⟩, ?_, ?_⟩
    · rw [upd_ne hx, upd_ne (ne_of_none e hqH), upd_ne hx, upd_ne (ne_of_none e hc)]
      exact e
    · rw [upd_ne npc.symm, upd_ne ncq, upd_ne npc.symm, upd_same]
    · rw [upd_ne npq.symm, upd_same]
def sp_Even_evens (C R : Addr) : Sp := fun vs H Q _ => ∃ (p c q r l : Addr) (cs ps hs : List Int), vs = [.ref p, .ref r] ∧ EvenAt C H p c q cs ps ∧ RingAt R H r l hs ∧ hs.length ≤ 1000 ∧ ∀ H', Same H H' → Q (.bl (evenB hs cs)) H'
def showsB (hs ts cs ps : List Int) : Bool := decide (ps.length = hs.length) && decide (ts.length = hs.length) && evenB hs cs && keepB ps ts && decide (worthI hs ps = costI ts cs)
def sp_Even_shows (K : PySem.W.Frag) (C R : Addr) : Sp := fun vs H Q _ => ∃ (p c q r l a : Addr) (cs ps hs ts : List Int), vs = [.ref p, .ref r, .ref a] ∧ EvenAt C H p c q cs ps ∧ RingAt R H r l hs ∧ SqL K H a (ts.map V.int) ∧ hs.length ≤ 1000 ∧ (∀ x ∈ hs, Sm x) ∧ (∀ x ∈ ts, Sm x) ∧
  ∀ H', Same H H' → Q (.bl (showsB hs ts cs ps)) H'
/-! ### Uneven, Within, Stretch -/
def unF (z : Int) : List (Str × V) := [("total", .int z)]
structure UnAt (C : Addr) (H : Hp) (p : Addr) (z : Int) : Prop where
  ob : ∃ dx, H p = some (.ins C dx (unF z))
theorem UnAt.same {C : Addr} {H H' : Hp} {p : Addr} {z : Int} (r : UnAt C H p z) (s : Same H H') : UnAt C H' p z := ⟨let ⟨dx, e⟩ := r.ob; ⟨dx, s _ _ e⟩⟩
def sp_Un_init (C : Addr) : Sp := fun vs H Q _ => ∃ (p dx : Addr) (z : Int), vs = [.ref p, .int z] ∧ H p = some (.ins C dx []) ∧ ∀ H', But p H H' → UnAt C H' p z → Q .non H'
theorem ok_Un_init (T : Txt K mg t) : FnOk P w K mg base CX0 1 t.f_Uneven_init__ t.d_Uneven_init__ P_Uneven_init__ (sp_Un_init t.C_Uneven) := by
  refine T.F_Uneven_init__.ok sc_Uneven_init__ (fun vs H Q E h => ?_) (fun cdv A outer s H vs Q E hr h => ?_)
  · obtain ⟨p, dx, z, rfl, _⟩ := h
    rfl
  · obtain ⟨p, dx, z, rfl, hp, q⟩ := h
    refine ⟨_, (pss_one (ps_fld (pv 0) (pv 1) rfl)), ?_⟩
    refine ⟨_, rfl, _, rfl, p, t.C_Uneven, dx, [], rfl, hp, T.cl_Uneven, T.n_Uneven_total, by decide, ?_⟩
    exact q _ (fun b o e hb => by rw [upd_ne hb]; exact e) ⟨⟨dx, upd_same⟩⟩
def unB (hs : List Int) (z : Int) : Bool := decide (z ≠ 0) && decide (z = hs.sum)
def sp_Un_shows (C R : Addr) : Sp := fun vs H Q _ => ∃ (p r l : Addr) (a : V) (z : Int) (hs : List Int), vs = [.ref p, .ref r, a] ∧ UnAt C H p z ∧ RingAt R H r l hs ∧ Q (.bl (unB hs z)) H
def wiF (c : Addr) : List (Str × V) := [("carried", .ref c)]
structure WiAt (C : Addr) (H : Hp) (p c : Addr) (cs : List Int) : Prop where
  ob : ∃ dx, H p = some (.ins C dx (wiF c))
  ca : H c = some (.lst (cs.map V.int))
theorem WiAt.same {C : Addr} {H H' : Hp} {p c : Addr} {cs : List Int} (r : WiAt C H p c cs) (s : Same H H') : WiAt C H' p c cs := ⟨let ⟨dx, e⟩ := r.ob; ⟨dx, s _ _ e⟩, s _ _ r.ca⟩
def sp_Wi_init (K : PySem.W.Frag) (C : Addr) : Sp := fun vs H Q _ => ∃ (p a dx : Addr) (cs : List Int), vs = [.ref p, .ref a] ∧ H p = some (.ins C dx []) ∧ SqL K H a (cs.map V.int) ∧ ∀ c H', H c = none → But p H H' → WiAt C H' p c cs → Q .non H'
theorem ok_Wi_init (T : Txt K mg t) : FnOk P w K mg base CX0 1 t.f_Within_init__ t.d_Within_init__ P_Within_init__ (sp_Wi_init K t.C_Within) := by
  refine T.F_Within_init__.ok sc_Within_init__ (fun vs H Q E h => ?_) (fun cdv A outer s H vs Q E hr h => ?_)
  · obtain ⟨p, a, dx, cs, rfl, _⟩ := h
    rfl
  · obtain ⟨p, a, dx, cs, rfl, hp, ha, q⟩ := h
    refine ⟨_, (pss_one (ps_fld (pv 0) (pe_callTy (listK K) (by rfl) T.b_list bt_list (pa_cons (pv 1) pa_nil se_Name)) rfl)), ?_⟩
    refine ⟨_, rfl, a, _, rfl, .inl ha, fun c hc => ?_⟩
    have npc : p ≠ c := ne_of_none hp hc
    refine ⟨_, rfl, p, t.C_Within, dx, [], rfl, (by rw [upd_ne npc]; exact hp), T.cl_Within, T.n_Within_carried, by decide, ?_⟩
    exact q c _ hc (fun b o e hb => by rw [upd_ne hb, upd_ne (ne_of_none e hc)]; exact e) ⟨⟨dx, upd_same⟩, by rw [upd_ne npc.symm, upd_same]⟩
def wiB (hs cs : List Int) (most : Int) : Bool := evenB hs cs && cs.all fun c => decide (absI c ≤ most)
def sp_Wi_shows (C R : Addr) : Sp := fun vs H Q _ => ∃ (p c r l : Addr) (cs hs : List Int) (most : Int), vs = [.ref p, .ref r, .int most] ∧ WiAt C H p c cs ∧ RingAt R H r l hs ∧ hs.length ≤ 1000 ∧ cs.length ≤ 1000 ∧ ∀ H', Same H H' → Q (.bl (wiB hs cs most)) H'
def stF (f m : Int) : List (Str × V) := [("first", .int f), ("many", .int m)]
structure StAt (C : Addr) (H : Hp) (p : Addr) (f m : Int) : Prop where
  ob : ∃ dx, H p = some (.ins C dx (stF f m))
theorem StAt.same {C : Addr} {H H' : Hp} {p : Addr} {f m : Int} (r : StAt C H p f m) (s : Same H H') : StAt C H' p f m := ⟨let ⟨dx, e⟩ := r.ob; ⟨dx, s _ _ e⟩⟩
theorem ne_fm : ¬ (("first" : Str) = "many") := by decide +kernel
theorem put_st (f m : Int) : putF "many" (.int m) (putF "first" (.int f) []) = stF f m := by
  show (if ("first" : Str) = "many" then _ else (("first" : Str), V.int f) :: putF "many" (V.int m) []) = _
  rw [if_neg ne_fm]
  rfl
theorem look_f (f m : Int) : (stF f m).lookup ("first" : Str) = some (.int f) := by rfl
theorem look_m (f m : Int) : (stF f m).lookup ("many" : Str) = some (.int m) := by rfl
def sp_St_init (C : Addr) : Sp := fun vs H Q _ => ∃ (p dx : Addr) (f m : Int), vs = [.ref p, .int f, .int m] ∧ H p = some (.ins C dx []) ∧ ∀ H', But p H H' → StAt C H' p f m → Q .non H'
theorem ok_St_init (T : Txt K mg t) : FnOk P w K mg base CX0 1 t.f_Stretch_init__ t.d_Stretch_init__ P_Stretch_init__ (sp_St_init t.C_Stretch) := by
  refine T.F_Stretch_init__.ok sc_Stretch_init__ (fun vs H Q E h => ?_) (fun cdv A outer s H vs Q E hr h => ?_)
  · obtain ⟨p, dx, f, m, rfl, _⟩ := h
    rfl
  · obtain ⟨p, dx, f, m, rfl, hp, q⟩ := h
    refine ⟨_, (pss_cons (ps_fld (pv 0) (pv 1) rfl)
      (pss_one (ps_fld (pv 0) (pv 2) rfl))), ?_⟩
    refine ⟨_, rfl, _, rfl, p, t.C_Stretch, dx, [], rfl, hp, T.cl_Stretch, T.n_Stretch_first, by decide, ?_⟩
    refine ⟨_, rfl, _, rfl, p, t.C_Stretch, dx, putF "first" (.int f) [], rfl, upd_same, T.cl_Stretch, T.n_Stretch_many, by show 1 < 1000; decide, ?_⟩
    rw [put_st]
    exact q _ (fun b o e hb => by rw [upd_ne hb, upd_ne hb]; exact e) ⟨⟨dx, upd_same⟩⟩
/-- so many houses from that one on, around the ring -/
def cutI (hs : List Int) (f m : Nat) : List Int := ((hs ++ hs).drop f).take m
def stB (hs : List Int) (f m most : Int) : Bool := decide (hs.sum = 0) && (decide (0 ≤ f) && decide (f < hs.length)) && (decide (0 ≤ m) && decide (m < hs.length)) && decide (2 * most < absI (cutI hs f.toNat m.toNat).sum)
def sp_St_shows (C R : Addr) : Sp := fun vs H Q _ => ∃ (p r l : Addr) (hs : List Int) (f m most : Int), vs = [.ref p, .ref r, .int most] ∧ StAt C H p f m ∧ RingAt R H r l hs ∧ hs.length ≤ 1000 ∧ ∀ H', Same H H' → Q (.bl (stB hs f m most)) H'
theorem cut_int {hs : List Int} {f m : Int} (h0 : 0 ≤ f) (h1 : 0 ≤ m) (h2 : f < hs.length) (h3 : m < hs.length) : cutV ((hs.map V.int) ++ (hs.map V.int)) (some f) (some (f + m)) = (cutI hs f.toNat m.toNat).map V.int := by
  unfold cutV cutI
  rw [← List.map_append, List.length_map, List.length_append]
  obtain ⟨a, rfl⟩ := Int.eq_ofNat_of_zero_le h0
  obtain ⟨b, rfl⟩ := Int.eq_ofNat_of_zero_le h1
  have e1 : HT.sIx (hs.length + hs.length) 0 (some (a : Int)) = a := by rw [HT.sIx_nat]; omega
  have e2 : HT.sIx (hs.length + hs.length) (hs.length + hs.length) (some ((a : Int) + (b : Int))) = a + b := by
    have : ((a : Int) + (b : Int)) = ((a + b : Nat) : Int) := by omega
    rw [this, HT.sIx_nat]; omega
  rw [e1, e2, Int.toNat_natCast, Int.toNat_natCast, List.map_take, List.map_drop]
  congr 1
  omega
/-! ### the law's own reckoning -/
def pricedB (hs ts cs ps : List Int) : Bool := keepB ps ts && decide (worthI hs ps = costI ts cs)
def sp_law_evened (K : PySem.W.Frag) : Sp := fun vs H Q _ => ∃ (a b : Addr) (hs cs : List Int), vs = [.ref a, .ref b] ∧ SqL K H a (hs.map V.int) ∧ SqL K H b (cs.map V.int) ∧ cs.length ≤ 1000 ∧ ∀ H', Same H H' → Q (.bl (evenB hs cs)) H'
def sp_priced (K : PySem.W.Frag) : Sp := fun vs H Q _ => ∃ (a b c d : Addr) (hs ts cs ps : List Int), vs = [.ref a, .ref b, .ref c, .ref d] ∧ SqL K H a (hs.map V.int) ∧ SqL K H b (ts.map V.int) ∧ SqL K H c (cs.map V.int) ∧ SqL K H d (ps.map V.int) ∧
  ps.length ≤ 1000 ∧ ts.length = ps.length ∧ (∀ x ∈ hs, Sm x) ∧ (∀ x ∈ ts, Sm x) ∧ ∀ H', Same H H' → Q (.bl (pricedB hs ts cs ps)) H'
/-! ### numbers with something changed -/
theorem cut_lo (xs : List Int) (a : Nat) : cutV (xs.map V.int) none (some (a : Int)) = (xs.take a).map V.int := by
  unfold cutV
  rw [HT.sIx_none, HT.sIx_nat, List.length_map, List.drop_zero, Nat.sub_zero, ← List.map_take]
  congr 1
  rcases Nat.le_total a xs.length with h | h
  · rw [Nat.min_eq_left h]
  · rw [Nat.min_eq_right h, List.take_of_length_le h, List.take_of_length_le (Nat.le_refl _)]
theorem cut_hi (xs : List Int) (a : Nat) : cutV (xs.map V.int) (some (a : Int)) none = (xs.drop a).map V.int := by
  unfold cutV
  rw [HT.sIx_none, HT.sIx_nat, List.length_map, ← List.map_drop, ← List.map_take]
  congr 1
  rcases Nat.le_total a xs.length with h | h
  · rw [Nat.min_eq_left h, List.take_of_length_le (by rw [List.length_drop]; exact Nat.le_refl _)]
  · rw [Nat.min_eq_right h, List.drop_of_length_le h, List.drop_of_length_le (Nat.le_refl _), List.take_nil]
theorem cut_last (xs : List Int) : cutV (xs.map V.int) (some (-1)) none = (xs.drop (xs.length - 1)).map V.int := by
  unfold cutV
  have e : HT.sIx (xs.map V.int).length 0 (some (-1)) = xs.length - 1 := by
    rw [List.length_map]; unfold HT.sIx; simp; omega
  rw [HT.sIx_none, e, List.length_map, ← List.map_drop, ← List.map_take]
  congr 1
  rw [List.take_of_length_le (by rw [List.length_drop]; omega)]

/-- name = e, where the value is known whatever is wanted behind -/
theorem tAsg_by {te : TE} {i : Nat} {D : Ends} {σ : St} {H : Hp} (x : V) (h : ∀ Z : VK, (∀ H', Same H H' → Z x H') → te σ H Z) (rest : ∀ H', Same H H' → D.nx (σ.set i (some x)) H') : tAsg te (gName i) D σ H := h _ rest
theorem tSeqAsg_by {te : TE} {u : TS} {i : Nat} {D : Ends} {σ : St} {H : Hp} (x : V) (h : ∀ Z : VK, (∀ H', Same H H' → Z x H') → te σ H Z) (rest : ∀ H', Same H H' → u D (σ.set i (some x)) H') : tSeq (tAsg te (gName i)) u D σ H := h _ rest
theorem made_same {H H8 : Hp} {x dx : Addr} {o u : HO} (hx : H x = none) (hdx : H dx = none) (bt : But x (upd (upd H dx o) x u) H8) : Same H H8 := fun b v e =>
  bt b v (by rw [upd_ne (ne_of_none e hx), upd_ne (ne_of_none e hdx)]; exact e) (ne_of_none e hx)
theorem made_free {H : Hp} {x dx c : Addr} {o u : HO} (h : (upd (upd H dx o) x u) c = none) : H c = none := by
  have h1 : c ≠ x := by rintro rfl; rw [upd_same] at h; cases h
  rw [upd_ne h1] at h
  have h2 : c ≠ dx := by rintro rfl; rw [upd_same] at h; cases h
  rw [upd_ne h2] at h
  exact h
/-- two statements, by what holds between them -/
theorem tSeq_mid {t u : TS} {D : Ends} {σ : St} {H : Hp} (mid : St → Hp → Prop) (h1 : ∀ N : St → Hp → Prop, (∀ σ' H', mid σ' H' → N σ' H') → t { D with nx := N } σ H) (h2 : ∀ σ' H', mid σ' H' → u D σ' H') : tSeq t u D σ H := h1 _ h2

theorem cyc_get {hs : List Int} {f m : Nat} (hf : f < hs.length) (hm : m < hs.length) : (List.range m).map (fun k => hs.getD ((f + k) % hs.length) 0) = cutI hs f m := by
  unfold cutI
  refine List.ext_getElem ?_ fun k h1 h2 => ?_
  · simp; omega
  · simp at h1
    rw [List.getElem_map, List.getElem_range, List.getElem_take, List.getElem_drop]
    by_cases h : f + k < hs.length
    · rw [Nat.mod_eq_of_lt h, List.getElem_append_left h]
      simp [List.getD, h]
    · have e : (f + k) % hs.length = f + k - hs.length := by
        rw [Nat.mod_eq_sub_mod (by omega), Nat.mod_eq_of_lt (by omega)]
      rw [e, List.getElem_append_right (by omega)]
      have h3 : f + k - hs.length < hs.length := by omega
      simp [List.getD, h3]
def cycI (hs : List Int) (f : Int) (m : Nat) : List Int := (List.range m).map fun (k : Nat) => hs.getD ((f + (k : Int)) % (hs.length : Int)).toNat 0
theorem cyc_cut {hs : List Int} {f m : Int} (h0 : 0 ≤ f) (h1 : f < hs.length) (h2 : 0 ≤ m) (h3 : m < hs.length) : cycI hs f m.toNat = cutI hs f.toNat m.toNat := by
  obtain ⟨a, rfl⟩ := Int.eq_ofNat_of_zero_le h0
  obtain ⟨b, rfl⟩ := Int.eq_ofNat_of_zero_le h2
  rw [Int.toNat_natCast, Int.toNat_natCast, ← cyc_get (by omega) (by omega)]
  unfold cycI
  refine List.map_congr_left fun k _ => ?_
  have : ((a : Int) + (k : Int)) % (hs.length : Int) = (((a + k) % hs.length : Nat) : Int) := by rw [Int.natCast_emod]; rfl
  rw [this, Int.toNat_natCast]
theorem absI_nn (i : Int) : 0 ≤ absI i := by unfold absI; split <;> omega
def insideB (hs : List Int) (f m : Int) : Bool := (decide (0 ≤ f) && decide (f < hs.length)) && ((decide (0 < m) && decide (m < hs.length)) && decide (hs.sum = 0))
theorem st_due {hs : List Int} {f m b : Int} (hb : 0 ≤ b) : stB hs f m b = (insideB hs f m && decide (2 * b < absI (cycI hs f (if m > 0 then m else 0).toNat).sum)) := by
  unfold stB insideB
  by_cases f0 : 0 ≤ f <;> by_cases f1 : f < hs.length <;> simp only [f0, f1, decide_true, decide_false, Bool.true_and, Bool.false_and, Bool.and_false]
  by_cases m1 : m < hs.length
  · by_cases m0 : 0 < m
    · have e := cyc_cut f0 f1 (show 0 ≤ m by omega) m1
      rw [if_pos m0, e]
      simp [m0, m1, show 0 ≤ m by omega]
    · by_cases mz : 0 ≤ m
      · have : m = 0 := by omega
        subst this
        have e0 : absI (cutI hs f.toNat (0 : Int).toNat).sum = 0 := by simp [cutI, absI]
        rw [e0]
        simp
        omega
      · simp [mz, show ¬ 0 < m by omega]
  · simp [m1]
theorem max_uniq {ns : List Int} {M N : Int} (h1 : M ∈ ns) (h2 : ∀ b ∈ ns, b ≤ M) (h3 : N ∈ ns) (h4 : ∀ b ∈ ns, b ≤ N) : N = M := Int.le_antisymm (h2 _ h3) (h4 _ h1)

/-! ### what least promises -/
def Small (hs : List Int) : Prop := ∀ x ∈ hs, -1000000 ≤ x ∧ x ≤ 1000000
def Toll (ts : List Int) : Prop := ∀ x ∈ ts, 0 ≤ x ∧ x ≤ 1000
theorem Small.sm {hs : List Int} (h : Small hs) : ∀ x ∈ hs, Sm x := fun x hx => by have := h x hx; unfold Sm; omega
theorem Toll.sm {hs : List Int} (h : Toll hs) : ∀ x ∈ hs, Sm x := fun x hx => by have := h x hx; unfold Sm; omega
structure Best (hs ts cs ps : List Int) : Prop where
  lc : cs.length = hs.length
  lp : ps.length = hs.length
  ev : evenB hs cs = true
  kp : keepB ps ts = true
  eq : worthI hs ps = costI ts cs
def sp_least (CE CU R : Addr) : Sp := fun vs H Q _ => ∃ (r l a : Addr) (hs ts : List Int), vs = [.ref r, .ref a] ∧ RingAt R H r l hs ∧ H a = some (.lst (ts.map V.int)) ∧ 2 ≤ hs.length ∧ hs.length ≤ 100 ∧ ts.length = hs.length ∧ Small hs ∧ Toll ts ∧
  (hs.sum ≠ 0 → ∀ p H', H p = none → Same H H' → UnAt CU H' p hs.sum → Q (.ref p) H') ∧
  (hs.sum = 0 → ∀ p c q cs ps H', H p = none → H c = none → H q = none → c ≠ q → Same H H' → EvenAt CE H' p c q cs ps → Best hs ts cs ps → Q (.ref p) H')
abbrev leastK : Nat := 6

theorem Small.houses {hs : List Int} (h : Small hs) : hs.all houseB = true := by
  rw [List.all_eq_true]
  intro x hx
  have := h x hx
  unfold houseB absI
  rw [decide_eq_true_iff]
  split <;> omega

/-! ### the ring's numbers lie within the bounds -/
theorem step_range (ns : List Int) (k : Nat) : -499999 ≤ stepI ns k ∧ stepI ns k ≤ 499999 := by
  have hm := most_cases ns
  have h0 := draw_lo (c := ns.getD k 0) (k := (k : Int) % 5 + 1) (m := 2 * mostI ns + 1) (by omega)
  have h1 := draw_hi (c := ns.getD k 0) (k := (k : Int) % 5 + 1) (m := 2 * mostI ns + 1) (by omega)
  unfold stepI
  omega
theorem carr_range {ns : List Int} {first : Int} (hf : -10 ≤ first ∧ first ≤ 10) : ∀ x ∈ carrI ns first, -499999 ≤ x ∧ x ≤ 499999 := by
  have h0 := draw_lo (c := ns.getD 1 0) (k := 7) (m := 3) (by decide)
  have h1 := draw_hi (c := ns.getD 1 0) (k := 7) (m := 3) (by decide)
  intro x hx
  unfold carrI at hx
  rcases List.mem_cons.mp hx with rfl | hx
  · omega
  rcases List.mem_cons.mp hx with rfl | hx
  · omega
  obtain ⟨k, _, rfl⟩ := List.mem_map.mp hx
  exact step_range ns k
theorem prev_mem {cs : List Int} {k : Nat} (h : k < cs.length) : prevI cs k ∈ cs := L2.getD_mem (Nat.mod_lt _ (by omega))
theorem houses_small {ns : List Int} {first : Int} (hf : -10 ≤ first ∧ first ≤ 10) : ∀ x ∈ housesI ns first, -999998 ≤ x ∧ x ≤ 999998 := by
  intro x hx
  unfold housesI diffI at hx
  obtain ⟨k, hk, rfl⟩ := List.mem_map.mp hx
  have hk' := List.mem_range.mp hk
  have a := carr_range hf _ (L2.getD_mem hk')
  have b := carr_range hf _ (prev_mem hk')
  omega
theorem house0 {ns : List Int} {first : Int} (hf : -10 ≤ first ∧ first ≤ 10) : -500000 ≤ (housesI ns first).getD 0 0 ∧ (housesI ns first).getD 0 0 ≤ 500000 := by
  have h0 := draw_lo (c := ns.getD 1 0) (k := 7) (m := 3) (by decide)
  have h1 := draw_hi (c := ns.getD 1 0) (k := 7) (m := 3) (by decide)
  have hl := carr_length ns first
  have e : (housesI ns first).getD 0 0 = (carrI ns first).getD 0 0 - prevI (carrI ns first) 0 := diff_get (by omega)
  have e0 : (carrI ns first).getD 0 0 = drawI (ns.getD 1 0) 7 3 - 1 := rfl
  have b := carr_range hf _ (prev_mem (cs := carrI ns first) (k := 0) (by omega))
  rw [e, e0]
  omega
def modRow : List Int := [-1, 0, 1, -500, 777]
def modI (ns : List Int) : Int := modRow.getD (drawI (ns.getD 2 0) 1 5).toNat 0
theorem mod_range (ns : List Int) : -500 ≤ modI ns ∧ modI ns ≤ 777 := by
  have h0 := draw_lo (c := ns.getD 2 0) (k := 1) (m := 5) (by decide)
  have h1 := draw_hi (c := ns.getD 2 0) (k := 1) (m := 5) (by decide)
  have : ∀ x ∈ modRow, -500 ≤ x ∧ x ≤ 777 := by decide
  exact this _ (L2.getD_mem (show (drawI (ns.getD 2 0) 1 5).toNat < 5 by omega))
def modH (ns : List Int) (first : Int) : List Int := if drawI (ns.getD 1 0) 9 5 = 0 then (housesI ns first).set 0 ((housesI ns first).getD 0 0 + modI ns) else housesI ns first
theorem modH_length (ns : List Int) (first : Int) : (modH ns first).length = ns.length + 2 := by
  unfold modH
  split
  · rw [List.length_set, houses_length]
  · exact houses_length ns first
theorem modH_small {ns : List Int} {first : Int} (hf : -10 ≤ first ∧ first ≤ 10) : Small (modH ns first) := by
  intro x hx
  have h0 := house0 (ns := ns) hf
  have h1 := mod_range ns
  unfold modH at hx
  split at hx
  · rcases List.mem_or_eq_of_mem_set hx with e | e
    · have := houses_small hf x e; omega
    · omega
  · have := houses_small hf x hx; omega

/-! ### running sums -/
def runI : Int → List Int → List Int
  | _, [] => []
  | s, x :: xs => (s + x) :: runI (s + x) xs
theorem run_length : ∀ (s : Int) (xs : List Int), (runI s xs).length = xs.length
  | _, [] => rfl
  | s, x :: xs => by simp [runI, run_length (s + x) xs]
theorem run_snoc : ∀ (s : Int) (xs : List Int) (y : Int), runI s (xs ++ [y]) = runI s xs ++ [s + xs.sum + y]
  | s, [], y => by simp [runI]
  | s, x :: xs, y => by
    rw [List.cons_append, runI, runI, run_snoc, List.sum_cons, List.cons_append]
    congr 3
    omega
theorem run_last : ∀ (s : Int) (xs : List Int), xs ≠ [] → (runI s xs).getD (xs.length - 1) 0 = s + xs.sum
  | _, [], h => absurd rfl h
  | s, [x], _ => by simp [runI]
  | s, x :: y :: xs, _ => by
    have h := run_last (s + x) (y :: xs) (by simp)
    rw [List.sum_cons]
    simp only [runI, List.length_cons, Nat.add_sub_cancel, List.getD_cons_succ] at h ⊢
    rw [h]
    omega
theorem take_sum_diff (cs : List Int) : ∀ m, m ≤ cs.length → (((List.range m).map fun k => cs.getD k 0 - prevI cs k)).sum = if m = 0 then 0 else cs.getD (m - 1) 0 - cs.getD (cs.length - 1) 0
  | 0, _ => by simp
  | m + 1, h => by
    rw [List.range_succ, List.map_append, List.sum_append, take_sum_diff cs m (by omega), if_neg (show ¬ (m + 1 = 0) by omega)]
    simp only [List.map_cons, List.map_nil, List.sum_cons, List.sum_nil, Nat.add_sub_cancel]
    by_cases hm : m = 0
    · subst hm
      rw [if_pos rfl]
      have : prevI cs 0 = cs.getD (cs.length - 1) 0 := by
        unfold prevI
        rw [Nat.zero_add, Nat.mod_eq_of_lt (by omega)]
      rw [this]; omega
    · rw [if_neg hm]
      have : prevI cs m = cs.getD (m - 1) 0 := by
        unfold prevI
        have e : m + cs.length - 1 = (m - 1) + cs.length := by omega
        rw [e, Nat.add_mod_right, Nat.mod_eq_of_lt (by omega)]
      rw [this]; omega
theorem diff_sum (cs : List Int) : (diffI cs).sum = 0 := by
  unfold diffI
  rw [take_sum_diff cs _ (Nat.le_refl _)]
  by_cases h : cs.length = 0
  · rw [if_pos h]
  · rw [if_neg h]; omega
theorem houses_sum (ns : List Int) (f : Int) : (housesI ns f).sum = 0 := diff_sum _

/-! ### a carrying from its first number on -/
theorem run_get : ∀ (hs : List Int) (o : Int) (k : Nat), k < hs.length → (runI o hs).getD k 0 = o + (hs.take (k + 1)).sum
  | [], _, _, h => by simp at h
  | x :: xs, o, 0, _ => by simp [runI]
  | x :: xs, o, k + 1, h => by
    have := run_get xs (o + x) k (by simpa using h)
    simp only [runI, List.getD_cons_succ, List.take_succ_cons, List.sum_cons] at this ⊢
    rw [this]
    omega
theorem run_diff {hs : List Int} (o : Int) (h : hs.sum = 0) (hn : 0 < hs.length) : diffI (runI o hs) = hs := by
  have hl := run_length o hs
  refine List.ext_getElem (by rw [diff_length, hl]) fun k h1 h2 => ?_
  have hg : (diffI (runI o hs))[k] = (diffI (runI o hs)).getD k 0 := by simp [List.getD, List.getElem?_eq_getElem h1]
  rw [hg, diff_get (by omega), run_get hs o k h2]
  have e : hs.take (k + 1) = hs.take k ++ [hs[k]] := by rw [List.take_succ, List.getElem?_eq_getElem h2]; rfl
  rw [e, List.sum_append]
  have : prevI (runI o hs) k = o + (hs.take k).sum := by
    unfold prevI
    rw [hl]
    by_cases z : k = 0
    · subst z
      rw [Nat.zero_add, Nat.mod_eq_of_lt (by omega), run_get hs o _ (by omega)]
      have : hs.length - 1 + 1 = hs.length := by omega
      rw [this, List.take_length, h]
      simp
    · have e : k + hs.length - 1 = (k - 1) + hs.length := by omega
      rw [e, Nat.add_mod_right, Nat.mod_eq_of_lt (by omega), run_get hs o _ (by omega)]
      have : k - 1 + 1 = k := by omega
      rw [this]
  rw [this]
  simp
  omega

/-! ### within, widest -/
def runW : Int → List Int → List Int
  | _, [] => []
  | s, x :: xs => (s + x) :: runW (s + x) xs
def widestI (hs : List Int) : Int := ((runW 0 hs).foldl max 0 - (runW 0 hs).foldl min 0 + 1) / 2
def sp_within (CW CS R : Addr) : Sp := fun vs H Q _ => ∃ (r l : Addr) (hs : List Int) (most : Int), vs = [.ref r, .int most] ∧ RingAt R H r l hs ∧ 2 ≤ hs.length ∧ hs.length ≤ 100 ∧ Small hs ∧ hs.sum = 0 ∧ 0 ≤ most ∧
  (widestI hs ≤ most → ∀ p c cs H', H p = none → H c = none → Same H H' → WiAt CW H' p c cs → wiB hs cs most = true → Q (.ref p) H') ∧
  (most < widestI hs → ∀ p f m H', H p = none → Same H H' → StAt CS H' p f m → stB hs f m most = true → Q (.ref p) H')
def sp_widest (R : Addr) : Sp := fun vs H Q _ => ∃ (r l : Addr) (hs : List Int), vs = [.ref r] ∧ RingAt R H r l hs ∧ 2 ≤ hs.length ∧ hs.length ≤ 100 ∧ Small hs ∧ hs.sum = 0 ∧ ∀ H', Same H H' → Q (.int (widestI hs)) H'
theorem foldl_max_ge : ∀ (xs : List Int) (s : Int), s ≤ xs.foldl max s
  | [], _ => Int.le_refl _
  | x :: xs, s => Int.le_trans (Int.le_max_left s x) (foldl_max_ge xs (max s x))
theorem foldl_min_le : ∀ (xs : List Int) (s : Int), xs.foldl min s ≤ s
  | [], _ => Int.le_refl _
  | x :: xs, s => Int.le_trans (foldl_min_le xs (min s x)) (Int.min_le_left s x)
theorem widest_nn (hs : List Int) : 0 ≤ widestI hs := by
  have h1 := foldl_max_ge (runW 0 hs) 0
  have h2 := foldl_min_le (runW 0 hs) 0
  unfold widestI
  omega

/-! ### along -/
def sp_along (R : Addr) : Sp := fun vs H Q _ => ∃ (r l : Addr) (hs : List Int), vs = [.ref r] ∧ RingAt R H r l hs ∧ 2 ≤ hs.length ∧ hs.length ≤ 400 ∧ Small hs ∧ hs.sum = 0 ∧ ∀ D H', H D = none → Same H H' → H' D = some (.lst ((runI 0 hs).map V.int)) → Q (.ref D) H'
theorem ok_along (T : Txt K mg t) : FnOk P w K mg base CX0 2 t.f_along t.d_along P_along (sp_along t.C_Ring) := by
  have G_Ring_houses := ok_Ring_houses (P := P) (w := w) (base := base) T
  have G_Ring_whole := ok_Ring_whole (P := P) (w := w) (base := base) T
  refine T.F_along.ok sc_along (fun vs H Q E h => ?_) (fun cdv A outer s H vs Q E hr h => ?_)
  · obtain ⟨r, l, hs, rfl, _⟩ := h
    rfl
  · obtain ⟨r, l, hs, rfl, RA, h2, hl, hsm, hz, q⟩ := h
    obtain ⟨⟨dr, er⟩, el⟩ := id RA
    refine ⟨_, (pss_cons (ps_if (pt_cmpR (neK K hr.units0) (pe_meth0 (pv 0) T.cl_Ring T.m_Ring_whole G_Ring_whole (hr.mono (by decide)) T.B_Ring_whole .nil pass0) pe_int (nomark _))
      (pss_one ps_never)
      pss_nil)
      (pss_cons (ps_set (i := 1) sc_along.nd rfl (by first | exact Or.inl rfl | exact Or.inr rfl) pe_int)
      (pss_cons (ps_set (i := 2) sc_along.nd rfl (by first | exact Or.inl rfl | exact Or.inr rfl) (pe_lst pa_nil))
      (pss_cons (ps_for PassesOwn.never rfl (piL K (pe_meth0 (pv 0) T.cl_Ring T.m_Ring_houses G_Ring_houses (hr.mono (by decide)) T.B_Ring_houses .nil pass0)) (pg_name (i := 3) sc_along.nd rfl (by first | exact Or.inl rfl | exact Or.inr rfl))
      (pss_cons (ps_set (i := 1) sc_along.nd rfl (by first | exact Or.inl rfl | exact Or.inr rfl) (pe_op (op_add.or op_cat) (pv 1) (pv 3)))
      (pss_one (ps_expr (bmK K PySem.F.plainAttrs_list PySem.F.slot_list_append PySem.F.type_list_append mtr_append (pv 2) (pa_cons (pv 1) pa_nil se_Name))))))
      (pss_one (ps_ret (pv 2))))))), ?_⟩
    refine ⟨_, rfl, r, dr, _, rfl, er, rfl, r, l, hs, rfl, RA, ?_⟩
    refine .inl ⟨rfl, _, rfl, ?_⟩
    refine (if_neg (fun z => t_ne.mp z hz)).mpr ?_
    refine ⟨Nat.zero_le _, fun g hg => ?_⟩
    have er1 : upd H g (.lst []) r = _ := (same_upd hg) _ _ er
    refine ⟨_, rfl, r, dr, _, rfl, er1, rfl, r, l, hs, rfl, RA.same (same_upd hg), fun D H1 hD s1 e1 => ?_⟩
    have S1 : Same H H1 := (same_upd hg).trans s1
    refine ⟨D, rfl, ⟨_, SqL.of e1⟩, ?_⟩
    have ngD : D ≠ g := by
      rintro rfl
      rw [upd_same] at hD
      cases hD
    refine for_list (xs := hs.map V.int) (fun i σ H5 => ∃ v, σ = [some (.ref r), some (.int (hs.take i).sum), some (.ref g), v] ∧ Same H H5 ∧ H5 D = some (.lst (hs.map V.int)) ∧ H5 g = some (.lst ((runI 0 (hs.take i)).map V.int))) ⟨none, rfl, S1, e1, s1 _ _ upd_same⟩ ?_ ?_ ?_
    · rintro i σ H5 hi ⟨v7, rfl, S5, e5, e6⟩
      exact SqL.of e5
    · rintro i x σ H5 hx ⟨v7, rfl, S5, e5, e6⟩
      obtain ⟨h, eh, rfl⟩ := map_int_get hx
      have et : hs.take (i + 1) = hs.take i ++ [h] := by rw [List.take_succ, eh]; rfl
      have hli : (hs.take i).length ≤ 400 := by rw [List.length_take]; omega
      refine ⟨_, rfl, _, rfl, .inl ⟨_, _, rfl, rfl, ?_⟩⟩
      refine ⟨_, rfl, .inl ⟨rfl, _, SqL.of e6⟩, _, rfl, g, _, _, rfl, rfl, e6, by have := big; rw [List.length_map, run_length]; omega, ?_⟩
      refine ⟨some (.int h), ?_, S5.upd hg, ?_, ?_⟩
      · rw [et, List.sum_append, List.sum_cons, List.sum_nil, Int.add_zero]; rfl
      · rw [upd_ne ngD]; exact e5
      · rw [upd_same, et, run_snoc, List.map_append, Int.zero_add]; rfl
    · rintro σ H5 ⟨v7, rfl, S5, e5, e6⟩
      rw [List.length_map, List.take_length] at e6
      exact ⟨_, rfl, q g H5 hg S5 e6⟩

/-! ### bounds -/
theorem runW_eq : ∀ (s : Int) (xs : List Int), runW s xs = runI s xs
  | _, [] => rfl
  | s, x :: xs => by rw [runW, runI, runW_eq]
theorem fold_max {xs : List Int} : ∀ {s M : Int}, s ≤ M → (∀ b ∈ xs, b ≤ M) → (M = s ∨ M ∈ xs) → xs.foldl max s = M := by
  induction xs with
  | nil =>
    intro s M h1 h2 h3
    rcases h3 with e | e
    · exact e.symm
    · simp at e
  | cons x xs ih =>
    intro s M h1 h2 h3
    rw [List.foldl_cons]
    have hx := h2 x (List.mem_cons_self ..)
    refine ih (by omega) (fun b hb => h2 b (List.mem_cons_of_mem x hb)) ?_
    rcases h3 with e | e
    · exact .inl (by omega)
    · rcases List.mem_cons.mp e with e | e
      · exact .inl (by omega)
      · exact .inr e
theorem fold_min {xs : List Int} : ∀ {s M : Int}, M ≤ s → (∀ b ∈ xs, M ≤ b) → (M = s ∨ M ∈ xs) → xs.foldl min s = M := by
  induction xs with
  | nil =>
    intro s M h1 h2 h3
    rcases h3 with e | e
    · exact e.symm
    · simp at e
  | cons x xs ih =>
    intro s M h1 h2 h3
    rw [List.foldl_cons]
    have hx := h2 x (List.mem_cons_self ..)
    refine ih (by omega) (fun b hb => h2 b (List.mem_cons_of_mem x hb)) ?_
    rcases h3 with e | e
    · exact .inl (by omega)
    · rcases List.mem_cons.mp e with e | e
      · exact .inl (by omega)
      · exact .inr e
theorem run_zero {hs : List Int} (h : 0 < hs.length) (hz : hs.sum = 0) : (0 : Int) ∈ runI 0 hs := by
  have e := run_get hs 0 (hs.length - 1) (by omega)
  rw [show hs.length - 1 + 1 = hs.length by omega, List.take_length, hz] at e
  have hl := run_length 0 hs
  rw [List.getD_eq_getElem?_getD, List.getElem?_eq_getElem (by omega), Option.getD_some] at e
  have e : (runI 0 hs)[hs.length - 1]'(by omega) = 0 := by simpa using e
  have m : (runI 0 hs)[hs.length - 1]'(by omega) ∈ runI 0 hs := List.getElem_mem _
  rwa [e] at m
theorem widest_is {hs : List Int} {lo hi : Int} (h : 0 < hs.length) (hz : hs.sum = 0) (h1 : lo ∈ runI 0 hs) (h2 : ∀ b ∈ runI 0 hs, lo ≤ b) (h3 : hi ∈ runI 0 hs) (h4 : ∀ b ∈ runI 0 hs, b ≤ hi) : widestI hs = (hi - lo + 1) / 2 := by
  have z := run_zero h hz
  unfold widestI
  rw [runW_eq, fold_max (h4 0 z) h4 (.inr h3), fold_min (h2 0 z) h2 (.inr h1)]
theorem ok_widest (T : Txt K mg t) : FnOk P w K mg base CX0 6 t.f_widest t.d_widest P_widest (sp_widest t.C_Ring) := by
  have G_along := ok_along (P := P) (w := w) (base := base) T
  refine T.F_widest.ok sc_widest (fun vs H Q E h => ?_) (fun cdv A outer s H vs Q E hr h => ?_)
  · obtain ⟨r, l, hs, rfl, _⟩ := h
    rfl
  · obtain ⟨r, l, hs, rfl, RA, h2, hl, hsm, hz, q⟩ := h
    refine ⟨_, (pss_cons (ps_set (i := 1) sc_widest.nd rfl (by first | exact Or.inl rfl | exact Or.inr rfl) (pe_call G_along (hr.mono (by decide)) rfl T.g_along T.F_along.kp T.B_along .nil pass0 (pa_cons (pv 0) pa_nil se_Name)))
      (pss_one (ps_ret (pe_op op_fdiv (pe_op (op_add.or op_cat) (pe_op op_sub (pe_callB (maxK K rfl) (by rfl) T.b_max bt_max (pa_cons (pv 1) pa_nil se_Name)) (pe_callB (minK K rfl) (by rfl) T.b_min bt_min (pa_cons (pv 1) pa_nil se_Name))) pe_int) pe_int)))), ?_⟩
    refine ⟨_, rfl, r, l, hs, rfl, RA, h2, by omega, hsm, hz, fun D H1 hD s1 e1 => ?_⟩
    have hne : runI 0 hs ≠ [] := List.length_pos_iff.mp (by rw [run_length]; omega)
    refine ⟨_, rfl, D, _, rfl, SqL.of e1, hne, fun M m1 m2 => ?_⟩
    refine ⟨_, rfl, D, _, rfl, SqL.of e1, hne, fun N n1 n2 => ?_⟩
    refine ⟨_, _, rfl, rfl, .inl ⟨_, _, rfl, rfl, ?_⟩⟩
    refine ⟨_, _, rfl, rfl, ⟨by decide, by decide⟩, ?_⟩
    have := q H1 s1
    rw [widest_is (by omega) hz n1 n2 m1 m2] at this
    exact this
def sp_between (CS : Addr) : Sp := fun vs H Q _ => ∃ (i j : Int), vs = [.int i, .int j] ∧ ∀ p H', H p = none → Same H H' → StAt CS H' p (min i j + 1) (max i j - min i j) → Q (.ref p) H'
theorem ok_between (T : Txt K mg t) : FnOk P w K mg base CX0 3 t.f_stretch_between t.d_stretch_between P_stretch_between (sp_between t.C_Stretch) := by
  have G_Stretch_init__ := ok_St_init (P := P) (w := w) (base := base) T
  refine T.F_stretch_between.ok sc_stretch_between (fun vs H Q E h => ?_) (fun cdv A outer s H vs Q E hr h => ?_)
  · obtain ⟨i, j, rfl, _⟩ := h
    rfl
  · obtain ⟨i, j, rfl, q⟩ := h
    refine ⟨_, (pss_cons (ps_set (i := 2) sc_stretch_between.nd rfl (by first | exact Or.inl rfl | exact Or.inr rfl) (pe_callB (call_min2 rfl) (by rfl) T.b_min bt_min (pa_cons (pv 0) (pa_cons (pv 1) pa_nil se_Name) se_Name)))
      (pss_cons (ps_set (i := 3) sc_stretch_between.nd rfl (by first | exact Or.inl rfl | exact Or.inr rfl) (pe_callB (call_max2 rfl) (by rfl) T.b_max bt_max (pa_cons (pv 0) (pa_cons (pv 1) pa_nil se_Name) se_Name)))
      (pss_one (ps_ret (pe_make T.M_Stretch G_Stretch_init__ (hr.mono (by decide)) rfl T.g_Stretch T.B_Stretch_init__ .nil pass0 (pa_cons (pe_op (op_add.or op_cat) (pv 2) pe_int) (pa_cons (pe_op op_sub (pv 3) (pv 2)) pa_nil se_BinOp) se_BinOp)))))), ?_⟩
    have e1 : min i j = if j < i then j else i := by split <;> omega
    have e2 : max i j = if j > i then j else i := by split <;> omega
    rw [e1, e2] at q
    refine ⟨_, rfl, _, rfl, i, j, rfl, ?_⟩
    refine ⟨_, rfl, _, rfl, i, j, rfl, ?_⟩
    refine ⟨_, rfl, .inl ⟨_, _, rfl, rfl, ?_⟩⟩
    refine ⟨_, rfl, _, rfl, _, _, rfl, rfl, ?_⟩
    intro x dx hx hdx nex
    refine ⟨x, dx, _, _, rfl, upd_same, fun H4 bt RB => ⟨rfl, ?_⟩⟩
    exact q x H4 hx (made_same hx hdx bt) RB
theorem first_at {x : Int} : ∀ {xs : List Int}, x ∈ xs → ∃ j : Nat, xs[j]? = some x ∧ ∀ m, m < j → xs[m]? ≠ some x
  | [], h => by simp at h
  | y :: ys, h => by
    by_cases e : y = x
    · exact ⟨0, by simp [e], fun m hm => by omega⟩
    · rcases List.mem_cons.mp h with q | q
      · exact absurd q.symm e
      · obtain ⟨j, h1, h2⟩ := first_at q
        refine ⟨j + 1, by simpa using h1, fun m hm => ?_⟩
        cases m with
        | zero => simpa using e
        | succ m => simpa using h2 m (by omega)
theorem run_shiftI : ∀ (o x : Int) (hs : List Int), runI (o + x) hs = (runI o hs).map (· + x)
  | _, _, [] => rfl
  | o, x, h :: hs => by
    have := run_shiftI (o + h) x hs
    simp only [runI, List.map_cons]
    rw [← this]
    congr 1
    · omega
    · congr 1; omega
theorem wi_ok {hs : List Int} {lo hi most : Int} (h2 : 0 < hs.length) (hz : hs.sum = 0) (h1 : ∀ b ∈ runI 0 hs, lo ≤ b) (h3 : ∀ b ∈ runI 0 hs, b ≤ hi) (hm : ¬ 2 * most < hi - lo) : wiB hs ((runI 0 hs).map fun b => b - (lo + hi) / 2) most = true := by
  unfold wiB
  have e : ((runI 0 hs).map fun b => b - (lo + hi) / 2) = runI (-((lo + hi) / 2)) hs := by
    have := run_shiftI 0 (-((lo + hi) / 2)) hs
    rw [Int.zero_add] at this
    rw [this]
    rfl
  rw [Bool.and_eq_true]
  refine ⟨?_, ?_⟩
  · rw [e]
    exact decide_eq_true (run_diff _ hz h2)
  · rw [List.all_eq_true]
    intro c hc
    obtain ⟨b, hb, rfl⟩ := List.mem_map.mp hc
    have a1 := h1 b hb
    have a2 := h3 b hb
    apply decide_eq_true
    unfold absI
    split <;> omega
theorem run_at {hs : List Int} {k : Nat} {v : Int} (h : (runI 0 hs)[k]? = some v) : k < hs.length ∧ v = (hs.take (k + 1)).sum := by
  have hk := (List.getElem?_eq_some_iff.mp h).1
  rw [run_length] at hk
  have := run_get hs 0 k hk
  rw [List.getD_eq_getElem?_getD, h, Option.getD_some, Int.zero_add] at this
  exact ⟨hk, this⟩
theorem st_ok {hs : List Int} {i j : Nat} {lo hi most : Int} (hz : hs.sum = 0) (h0 : 0 ≤ most) (hi1 : (runI 0 hs)[i]? = some lo) (hj1 : (runI 0 hs)[j]? = some hi) (hm : 2 * most < hi - lo) : stB hs (min (i : Int) j + 1) (max (i : Int) j - min (i : Int) j) most = true := by
  obtain ⟨li, ei⟩ := run_at hi1
  obtain ⟨lj, ej⟩ := run_at hj1
  have nij : i ≠ j := by
    rintro rfl
    rw [hi1] at hj1
    cases hj1
    omega
  have cut : ∀ p q : Nat, p < q → q < hs.length → (cutI hs (p + 1) (q - p)).sum = (hs.take (q + 1)).sum - (hs.take (p + 1)).sum := fun p q h1 h2 => by
    unfold cutI
    have e : (hs.take (q + 1)) = hs.take (p + 1) ++ ((hs ++ hs).drop (p + 1)).take (q - p) := by
      rw [show q + 1 = (p + 1) + (q - p) by omega, List.take_add]
      congr 1
      rw [List.drop_append_of_le_length (by omega), List.take_append_of_le_length (by rw [List.length_drop]; omega)]
    rw [e, List.sum_append]
    omega
  unfold stB
  rw [hz]
  simp only [Bool.and_eq_true, decide_eq_true_eq]
  rcases Nat.lt_or_gt_of_ne nij with g | g
  · have e1 : (min (i : Int) j + 1).toNat = i + 1 := by omega
    have e2 : (max (i : Int) j - min (i : Int) j).toNat = j - i := by omega
    rw [e1, e2, cut i j g lj, ← ei, ← ej]
    refine ⟨⟨⟨trivial, by omega, by omega⟩, by omega, by omega⟩, ?_⟩
    unfold absI
    split <;> omega
  · have e1 : (min (i : Int) j + 1).toNat = j + 1 := by omega
    have e2 : (max (i : Int) j - min (i : Int) j).toNat = i - j := by omega
    rw [e1, e2, cut j i g li, ← ei, ← ej]
    refine ⟨⟨⟨trivial, by omega, by omega⟩, by omega, by omega⟩, ?_⟩
    unfold absI
    split <;> omega
theorem ok_within (T : Txt K mg t) : FnOk P w K mg base CX0 6 t.f_within t.d_within P_within (sp_within t.C_Within t.C_Stretch t.C_Ring) := by
  have G_along := ok_along (P := P) (w := w) (base := base) T
  have G_is_whole_number := ok_whole1 (P := P) (w := w) (base := base) T
  have G_stretch_between := ok_between (P := P) (w := w) (base := base) T
  have G_Within_init__ := ok_Wi_init (P := P) (w := w) (base := base) T
  refine T.F_within.ok sc_within (fun vs H Q E h => ?_) (fun cdv A outer s H vs Q E hr h => ?_)
  · obtain ⟨r, l, hs, most, rfl, _⟩ := h
    rfl
  · obtain ⟨r, l, hs, most, rfl, RA, h2, hl, hsm, hz, h0, q1, q2⟩ := h
    refine ⟨_, (pss_cons (ps_if (PW.pt (pw_or (pt_not (pt_val (pe_call G_is_whole_number (hr.mono (by decide)) rfl T.g_is_whole_number T.F_is_whole_number.kp T.B_is_whole_number .nil pass0 (pa_cons (pv 1) pa_nil se_Name)))) (pw_or1 (pt_cmpR op_lt (pv 1) pe_int (nomark _)))))
      (pss_one ps_never)
      pss_nil)
      (pss_cons (ps_set (i := 2) sc_within.nd rfl (by first | exact Or.inl rfl | exact Or.inr rfl) (pe_call G_along (hr.mono (by decide)) rfl T.g_along T.F_along.kp T.B_along .nil pass0 (pa_cons (pv 0) pa_nil se_Name)))
      (pss_cons (ps_set (i := 3) sc_within.nd rfl (by first | exact Or.inl rfl | exact Or.inr rfl) (pe_callB (minK K rfl) (by rfl) T.b_min bt_min (pa_cons (pv 2) pa_nil se_Name)))
      (pss_cons (ps_set (i := 4) sc_within.nd rfl (by first | exact Or.inl rfl | exact Or.inr rfl) (pe_callB (maxK K rfl) (by rfl) T.b_max bt_max (pa_cons (pv 2) pa_nil se_Name)))
      (pss_cons (ps_if (pt_cmpR op_gt (pe_op op_sub (pv 4) (pv 3)) (pe_op (op_mul.or op_rep) pe_int (pv 1)) (nomark _))
      (pss_one (ps_ret (pe_call G_stretch_between (hr.mono (by decide)) rfl T.g_stretch_between T.F_stretch_between.kp T.B_stretch_between .nil pass0 (pa_cons (bmK K PySem.F.plainAttrs_list PySem.F.slot_list_index PySem.F.type_list_index mtr_index (pv 2) (pa_cons (pv 3) pa_nil se_Name)) (pa_cons (bmK K PySem.F.plainAttrs_list PySem.F.slot_list_index PySem.F.type_list_index mtr_index (pv 2) (pa_cons (pv 4) pa_nil se_Name)) pa_nil se_Call) se_Call))))
      pss_nil)
      (pss_cons (ps_set (i := 5) sc_within.nd rfl (by first | exact Or.inl rfl | exact Or.inr rfl) (pe_op op_fdiv (pe_op (op_add.or op_cat) (pv 3) (pv 4)) pe_int))
      (pss_one (ps_ret (pe_make T.M_Within G_Within_init__ (hr.mono (by decide)) rfl T.g_Within T.B_Within_init__ .nil pass0 (pa_cons (pe_comp (sc := defScope s_within) (XN := N_within) (N' := ["amount", "middle"]) (t := 1) (ix := [5]) rfl ⟨rfl, by decide +kernel, by decide +kernel, by decide +kernel, by decide +kernel, rfl, by decide +kernel⟩ rfl rfl (piL K (pv 2)) (fun _ _ _ _ _ => (pg_name (i := 0) (show List.Nodup (["amount", "middle"] : List Str) by decide +kernel) rfl (Or.inl rfl))) (fun _ _ _ _ _ => (pe_op op_sub (pv 0) (pv 1)))) pa_nil se_ListComp)))))))))), ?_⟩
    refine ⟨_, rfl, most, rfl, _, rfl, iteF ?_⟩
    refine ⟨_, rfl, _, _, rfl, rfl, _, rfl, ?_⟩
    refine (if_neg (fun z => absurd (t_lt.mp z) (by omega))).mpr ?_
    refine ⟨_, rfl, r, l, hs, rfl, RA, h2, by omega, hsm, hz, fun D H1 hD s1 e1 => ?_⟩
    have hne : runI 0 hs ≠ [] := List.length_pos_iff.mp (by rw [run_length]; omega)
    refine ⟨_, rfl, D, _, rfl, SqL.of e1, hne, fun lo n1 n2 => ?_⟩
    refine ⟨_, rfl, D, _, rfl, SqL.of e1, hne, fun hi m1 m2 => ?_⟩
    have ew := widest_is (by omega) hz n1 n2 m1 m2
    refine ⟨_, rfl, _, rfl, _, _, rfl, rfl, _, rfl, .inl ⟨_, _, rfl, rfl, .inl ⟨by decide, by decide⟩, ?_⟩⟩
    refine ⟨_, _, rfl, rfl, _, rfl, ?_⟩
    refine ite2 (fun z => ?_) (fun z => ?_)
    · have z : 2 * most < hi - lo := t_lt.mp z
      obtain ⟨i, i1, i2⟩ := first_at n1
      obtain ⟨j, j1, j2⟩ := first_at m1
      refine ⟨_, rfl, .inl ⟨rfl, _, SqL.of e1⟩, _, rfl, D, _, lo, i, rfl, rfl, e1, i1, i2, ?_⟩
      refine ⟨_, rfl, .inl ⟨rfl, _, SqL.of e1⟩, _, rfl, D, _, hi, j, rfl, rfl, e1, j1, j2, ?_⟩
      refine ⟨_, _, rfl, fun p H2 hp s2 SA => ?_⟩
      exact q2 (by rw [ew]; omega) p _ _ H2 (s1.free hp) (s1.trans s2) SA (st_ok hz h0 i1 j1 z)
    · have z : ¬ 2 * most < hi - lo := fun y => z (t_lt.mpr y)
      refine ⟨_, rfl, _, rfl, .inl ⟨_, _, rfl, rfl, ?_⟩⟩
      refine ⟨_, _, rfl, rfl, ⟨by decide, by decide⟩, ?_⟩
      refine ⟨_, rfl, D, rfl, ⟨_, SqL.of e1⟩, fun C hC => ?_⟩
      refine comp_list (t := 1) (fun x => match x with | .int b => .int (b - (lo + hi) / 2) | _ => .non) (by have := big; rw [List.length_map, run_length]; omega) (by decide) hC (SqL.of e1) (fun k x H5 Z hx S5 z => ?_) (fun H5 S5 e5 => ?_)
      · obtain ⟨b, eb, rfl⟩ := map_int_get hx
        exact ⟨_, rfl, _, rfl, _, _, rfl, rfl, z H5 (Same.refl _)⟩
      · have e5 : H5 C = some (.lst (((runI 0 hs).map fun b => b - (lo + hi) / 2).map V.int)) := by
          rw [e5, List.map_map, List.map_map]; rfl
        intro x dx hx hdx nex
        have S15 := s1.trans S5
        refine ⟨x, C, dx, (runI 0 hs).map fun b => b - (lo + hi) / 2, rfl, upd_same, SqL.of ?_, fun c H6 hc bt WA => ⟨rfl, ?_⟩⟩
        · rw [upd_ne (ne_of_none e5 hx), upd_ne (ne_of_none e5 hdx)]
          exact e5
        · exact q1 (by rw [ew]; omega) x c _ H6 (S15.free hx) (S15.free (made_free hc)) (S15.trans (made_same hx hdx bt)) WA (wi_ok (by omega) hz n2 m2 z)

/-! ### together -/
def addI (hs ks : List Int) : List Int := List.zipWith (fun x y => x + y) hs ks
def sp_together (R : Addr) : Sp := fun vs H Q _ => ∃ (r1 l1 r2 l2 : Addr) (hs ks : List Int), vs = [.ref r1, .ref r2] ∧ RingAt R H r1 l1 hs ∧ RingAt R H r2 l2 ks ∧ ks.length = hs.length ∧ 2 ≤ hs.length ∧ hs.length ≤ 400 ∧ Small (addI hs ks) ∧ ∀ p l' H', H p = none → H l' = none → Same H H' → RingAt R H' p l' (addI hs ks) → Q (.ref p) H'
theorem add_length {hs ks : List Int} (h : ks.length = hs.length) : (addI hs ks).length = hs.length := by
  unfold addI
  rw [List.length_zipWith]
  omega
theorem ok_together (T : Txt K mg t) : FnOk P w K mg base CX0 6 t.f_together t.d_together P_together (sp_together t.C_Ring) := by
  have G_are_houses := ok_houses1 (P := P) (w := w) (base := base) T
  have G_Ring_houses := ok_Ring_houses (P := P) (w := w) (base := base) T
  have G_Ring_init__ := ok_Ring_init (P := P) (w := w) (base := base) T
  refine T.F_together.ok sc_together (fun vs H Q E h => ?_) (fun cdv A outer s H vs Q E hr h => ?_)
  · obtain ⟨r1, l1, r2, l2, hs, ks, rfl, _⟩ := h
    rfl
  · obtain ⟨r1, l1, r2, l2, hs, ks, rfl, RA, RB, hlk, h2, hl, hsm, q⟩ := h
    have hal := add_length hlk
    obtain ⟨⟨d1, e1⟩, el1⟩ := id RA
    obtain ⟨⟨d2, e2⟩, el2⟩ := id RB
    refine ⟨_, (pss_cons (ps_if (PW.pt (pw_or (pt_not (pt_val (pe_callB (isiK K) (by rfl) T.b_isinstance bt_isinstance (pa_cons (pv 0) (pa_cons (pe_glob (v := .ref _) rfl T.g_Ring rfl) pa_nil se_Name) se_Name)))) (pw_or1 (pt_not (pt_val (pe_callB (isiK K) (by rfl) T.b_isinstance bt_isinstance (pa_cons (pv 1) (pa_cons (pe_glob (v := .ref _) rfl T.g_Ring rfl) pa_nil se_Name) se_Name)))))))
      (pss_one ps_never)
      pss_nil)
      (pss_cons (ps_set (i := 2) sc_together.nd rfl (by first | exact Or.inl rfl | exact Or.inr rfl) (pe_meth0 (pv 0) T.cl_Ring T.m_Ring_houses G_Ring_houses (hr.mono (by decide)) T.B_Ring_houses .nil pass0))
      (pss_cons (ps_set (i := 3) sc_together.nd rfl (by first | exact Or.inl rfl | exact Or.inr rfl) (pe_meth0 (pv 1) T.cl_Ring T.m_Ring_houses G_Ring_houses (hr.mono (by decide)) T.B_Ring_houses .nil pass0))
      (pss_cons (ps_if (pt_cmpR (neK K hr.units0) (pe_callB (lenK K) (by rfl) T.b_len bt_len (pa_cons (pv 2) pa_nil se_Name)) (pe_callB (lenK K) (by rfl) T.b_len bt_len (pa_cons (pv 3) pa_nil se_Name)) (nomark _))
      (pss_one ps_never)
      pss_nil)
      (pss_cons (ps_setComp (i := 4) (sc := defScope s_together) (XN := N_together) (N' := ["mine", "yours"]) (t := 2) (ix := []) rfl ⟨rfl, by decide +kernel, by decide +kernel, by decide +kernel, by decide +kernel, rfl, by decide +kernel⟩ rfl rfl sc_together.nd rfl rfl (piZ K rfl T.b_zip (pa_cons (pv 2) (pa_cons (pv 3) pa_nil se_Name) se_Name)) (fun _ _ _ _ _ => (pgT K (n := 2) rfl (pgs_cons (pg_name (i := 0) (show List.Nodup (["mine", "yours"] : List Str) by decide +kernel) rfl (Or.inl rfl)) (pgs_cons (pg_name (i := 1) (show List.Nodup (["mine", "yours"] : List Str) by decide +kernel) rfl (Or.inl rfl)) pgs_nil)))) (fun _ _ _ _ _ => (pe_op (op_add.or op_cat) (pv 0) (pv 1))) (by with_unfolding_all rfl))
      (pss_cons (ps_if (pt_not (pt_val (pe_call G_are_houses (hr.mono (by decide)) rfl T.g_are_houses T.F_are_houses.kp T.B_are_houses .nil pass0 (pa_cons (pv 4) pa_nil se_Name))))
      (pss_one ps_never)
      pss_nil)
      (pss_one (ps_ret (pe_make T.M_Ring G_Ring_init__ (hr.mono (by decide)) rfl T.g_Ring T.B_Ring_init__ .nil pass0 (pa_cons (pv 4) pa_nil se_Name)))))))))), ?_⟩
    have ty1 : TyOf K H (.ref r1) (.ref t.C_Ring) := TyOf.ins e1 T.cl_Ring T.j1_Ring T.j3 T.j4 T.j2_Ring
    have ty2 : TyOf K H (.ref r2) (.ref t.C_Ring) := TyOf.ins e2 T.cl_Ring T.j1_Ring T.j3 T.j4 T.j2_Ring
    refine ⟨_, rfl, _, _, _, _, true, rfl, rfl, ty1, T.i_Ring_Ring, _, rfl, iteF ?_⟩
    refine ⟨_, rfl, _, _, _, _, true, rfl, rfl, ty2, T.i_Ring_Ring, _, rfl, iteF ?_⟩
    refine ⟨_, rfl, r1, d1, _, rfl, e1, rfl, r1, l1, hs, rfl, RA, fun D H1 hD s1 f1 => ?_⟩
    refine ⟨_, rfl, r2, d2, _, rfl, s1 _ _ e2, rfl, r2, l2, ks, rfl, RB.same s1, fun D2 H2 hD2 s2 f2 => ?_⟩
    refine ⟨_, rfl, D, _, rfl, .inl (SqL.of (s2 _ _ f1)), _, rfl, D2, _, rfl, .inl (SqL.of f2), .inl ⟨rfl, _, rfl, ?_⟩⟩
    refine (if_neg (fun z => t_ne.mp z (by rw [List.length_map, List.length_map]; omega))).mpr ?_
    refine ⟨_, rfl, _, rfl, D, D2, rfl, ⟨_, SqL.of (s2 _ _ f1)⟩, ⟨_, SqL.of f2⟩, fun D3 hD3 => ?_⟩
    refine comp_zip (t := 2) (v2 fun x y => x + y) (by have := big; rw [List.length_map]; omega) (by decide) hD3 (SqL.of (s2 _ _ f1)) (SqL.of f2) (fun k x y H5 Z hx hy S5 z => ?_) (fun H5 S5 e5 => ?_)
    · obtain ⟨i, ei, rfl⟩ := map_int_get hx
      obtain ⟨j, ej, rfl⟩ := map_int_get hy
      exact ⟨_, rfl, _, rfl, .inl ⟨_, _, rfl, rfl, z H5 (Same.refl _)⟩⟩
    · rw [zip_v2] at e5
      change H5 D3 = some (.lst ((addI hs ks).map V.int)) at e5
      have S5' := s1.trans (s2.trans S5)
      refine ⟨_, rfl, D3, addI hs ks, rfl, SqL.of e5, by omega, fun H6 s6 => ?_⟩
      rw [hsm.houses]
      refine ⟨_, rfl, iteF ?_⟩
      have e6 := s6 _ _ e5
      have S6 := S5'.trans s6
      refine ⟨_, rfl, fun x dx hx hdx nex => ?_⟩
      refine ⟨x, D3, dx, addI hs ks, rfl, upd_same, ?_, by omega, by omega, hsm.houses, fun l' H7 hl' bt RC => ⟨rfl, ?_⟩⟩
      · rw [upd_ne (ne_of_none e6 hx), upd_ne (ne_of_none e6 hdx)]; exact e6
      · exact q x l' H7 (S6.free hx) (S6.free (made_free hl')) (S6.trans (made_same hx hdx bt)) RC

end
end Ev


end
noncomputable section

set_option Elab.async false
set_option linter.all false
set_option maxRecDepth 100000
set_option maxHeartbeats 0
seal L2.PE L2.PT L2.PS L2.PSs L2.PA L2.PI L2.PG L2.PGs L2.OpR L2.UnR L2.CallR L2.IxR L2.SlR L2.MtR L2.PO L2.PSet L2.PW
namespace Ev
open PySem L2
section
variable {P : Program} {w : World} {K : PySem.W.Frag} {mg : Str → Option Value} {base : Heap} {t : Adr}
/-! ### what is handed in: none of the law's own things -/
def Pl (H : Hp) : V → Prop
  | .non => True
  | .bl _ => True
  | .int _ => True
  | .str _ => True
  | .ref a => (∃ xs, H a = some (.lst xs)) ∨ (∃ xs, H a = some (.tup xs)) ∨ H a = some (.dK [])
  | _ => False
theorem Pl.same {H H' : Hp} {v : V} (h : Pl H v) (s : Same H H') : Pl H' v := by
  cases v with
  | ref a =>
    rcases h with ⟨xs, e⟩ | ⟨xs, e⟩ | e
    · exact .inl ⟨xs, s _ _ e⟩
    · exact .inr (.inl ⟨xs, s _ _ e⟩)
    · exact .inr (.inr (s _ _ e))
  | _ => exact h
def wnV : V → Bool
  | .int _ => true
  | _ => false
def houseV : V → Bool
  | .int i => houseB i
  | _ => false
def tollB (i : Int) : Bool := decide (0 ≤ i) && decide (i ≤ 1000)
def tollV : V → Bool
  | .int i => tollB i
  | _ => false
theorem Pl.int {H : Hp} {v : V} (T : Txt K mg t) (h : Pl H v) : ∃ ty b, TyOf K H v ty ∧ PySem.W.kitOne K ty (.type "int") = some b ∧ (b = false → wnV v = false) ∧ (b = true → ∃ c, PySem.W.kitOne K ty (.type "bool") = some c ∧ wnV v = !c) := by
  cases v with
  | non => exact ⟨_, _, .non, T.i_NoneType_int, fun _ => rfl, fun z => nomatch z⟩
  | bl b => exact ⟨_, _, .bl b, T.i_bool_int, (fun z => nomatch z), fun _ => ⟨_, T.i_bool_bool, rfl⟩⟩
  | int i => exact ⟨_, _, .int i, T.i_int_int, (fun z => nomatch z), fun _ => ⟨_, T.i_int_bool, rfl⟩⟩
  | str x => exact ⟨_, _, .str x, T.i_str_int, fun _ => rfl, fun z => nomatch z⟩
  | ref a =>
    rcases h with ⟨xs, e⟩ | ⟨xs, e⟩ | e
    · exact ⟨_, _, .lst e, T.i_list_int, fun _ => rfl, fun z => nomatch z⟩
    · exact ⟨_, _, .tup e, T.i_tuple_int, fun _ => rfl, fun z => nomatch z⟩
    · exact ⟨_, _, .dK e, T.i_dict_int, fun _ => rfl, fun z => nomatch z⟩
  | byt b => exact h.elim
  | flt b => exact h.elim
  | ty n => exact h.elim
def sp_wn : Sp := fun vs H Q _ => ∃ v, vs = [v] ∧ Pl H v ∧ Q (.bl (wnV v)) H
def sp_houseV : Sp := fun vs H Q _ => ∃ v, vs = [v] ∧ Pl H v ∧ Q (.bl (houseV v)) H
def sp_tollV : Sp := fun vs H Q _ => ∃ v, vs = [v] ∧ Pl H v ∧ Q (.bl (tollV v)) H
def sp_housesV (K : PySem.W.Frag) : Sp := fun vs H Q _ => ∃ (a : Addr) (xs : List V), vs = [.ref a] ∧ SqL K H a xs ∧ (∀ x ∈ xs, Pl H x) ∧ xs.length ≤ 1000 ∧ ∀ H', Same H H' → Q (.bl (xs.all houseV)) H'
theorem ok_wn (T : Txt K mg t) : FnOk P w K mg base CX0 1 t.f_is_whole_number t.d_is_whole_number P_is_whole_number sp_wn := by
  refine T.F_is_whole_number.ok sc_is_whole_number (fun vs H Q E h => ?_) (fun cdv A outer s H vs Q E hr h => ?_)
  · obtain ⟨v, rfl, _⟩ := h
    rfl
  · obtain ⟨v, rfl, hp, q⟩ := h
    refine ⟨_, (pss_one (ps_ret (pe_and (pe_callB (isiK K) (by rfl) T.b_isinstance bt_isinstance (pa_cons (pv 0) (pa_cons (pe_bltn (v := .ty "int") rfl T.b_int bt_int rfl) pa_nil se_Name) se_Name)) (pe_one (pe_not (pe_callB (isiK K) (by rfl) T.b_isinstance bt_isinstance (pa_cons (pv 0) (pa_cons (pe_bltn (v := .ty "bool") rfl T.b_bool bt_bool rfl) pa_nil se_Name) se_Name))))))), ?_⟩
    obtain ⟨ty, b, ht, hi, h0, h1⟩ := hp.int T
    refine ⟨_, rfl, _, _, _, _, b, rfl, rfl, ht, hi, _, rfl, ?_⟩
    cases b with
    | false =>
      rw [h0 rfl] at q
      exact iteF q
    | true =>
      obtain ⟨c, hc, e⟩ := h1 rfl
      rw [e] at q
      exact iteT ⟨_, rfl, _, _, _, _, c, rfl, rfl, ht, hc, _, rfl, q⟩
theorem ok_houseV (T : Txt K mg t) : FnOk P w K mg base CX0 2 t.f_is_house t.d_is_house P_is_house sp_houseV := by
  have G_is_whole_number := ok_wn (P := P) (w := w) (base := base) T
  refine T.F_is_house.ok sc_is_house (fun vs H Q E h => ?_) (fun cdv A outer s H vs Q E hr h => ?_)
  · obtain ⟨v, rfl, _⟩ := h
    rfl
  · obtain ⟨v, rfl, hp, q⟩ := h
    refine ⟨_, (pss_one (ps_ret (pe_and (pe_call G_is_whole_number (hr.mono (by decide)) rfl T.g_is_whole_number T.F_is_whole_number.kp T.B_is_whole_number .nil pass0 (pa_cons (pv 0) pa_nil se_Name)) (pe_one (pe_cmpR op_le (pe_callB call_abs (by rfl) T.b_abs bt_abs (pa_cons (pv 0) pa_nil se_Name)) (pe_glob (v := .int 1000000) rfl T.g_FARTHEST_NUMBER ⟨_, rfl⟩) (nomark _)))))), ?_⟩
    refine ⟨_, rfl, v, rfl, hp, _, rfl, ?_⟩
    cases v with
    | int i => exact iteT ⟨_, rfl, _, rfl, _, _, rfl, rfl, q⟩
    | _ => exact iteF q
theorem ok_tollV (T : Txt K mg t) : FnOk P w K mg base CX0 2 t.f_is_toll t.d_is_toll P_is_toll sp_tollV := by
  have G_is_whole_number := ok_wn (P := P) (w := w) (base := base) T
  refine T.F_is_toll.ok sc_is_toll (fun vs H Q E h => ?_) (fun cdv A outer s H vs Q E hr h => ?_)
  · obtain ⟨v, rfl, _⟩ := h
    rfl
  · obtain ⟨v, rfl, hp, q⟩ := h
    refine ⟨_, (pss_one (ps_ret (pe_and (pe_call G_is_whole_number (hr.mono (by decide)) rfl T.g_is_whole_number T.F_is_whole_number.kp T.B_is_whole_number .nil pass0 (pa_cons (pv 0) pa_nil se_Name)) (pe_one (pe_chain op_le op_le pe_int (pv 0) (pe_glob (v := .int 1000) rfl T.g_HIGHEST_TOLL ⟨_, rfl⟩)))))), ?_⟩
    refine ⟨_, rfl, v, rfl, hp, _, rfl, ?_⟩
    cases v with
    | int i =>
      refine iteT ?_
      refine ⟨_, rfl, _, _, rfl, rfl, _, rfl, ?_⟩
      change Q (.bl (decide (0 ≤ i) && decide (i ≤ 1000))) H at q
      by_cases h0 : 0 ≤ i
      · refine (if_pos (t_le.mpr h0)).mpr ?_
        rw [decide_eq_true h0, Bool.true_and] at q
        exact ⟨_, _, rfl, rfl, q⟩
      · refine (if_neg (fun z => h0 (t_le.mp z))).mpr ?_
        rw [decide_eq_false h0, Bool.false_and] at q
        exact q
    | _ => exact iteF q
theorem ok_housesV (T : Txt K mg t) : FnOk P w K mg base CX0 3 t.f_are_houses t.d_are_houses P_are_houses (sp_housesV K) := by
  have G_is_house := ok_houseV (P := P) (w := w) (base := base) T
  refine T.F_are_houses.ok sc_are_houses (fun vs H Q E h => ?_) (fun cdv A outer s H vs Q E hr h => ?_)
  · obtain ⟨a, xs, rfl, _⟩ := h
    rfl
  · obtain ⟨a, xs, rfl, ha, hp, hl, q⟩ := h
    refine ⟨_, (pss_one (ps_ret (pe_callB (allK K rfl) (by rfl) T.b_all bt_all (pa_cons (pe_comp (sc := defScope s_are_houses) (XN := N_are_houses) (N' := ["value"]) (t := 1) (ix := []) rfl ⟨rfl, by decide +kernel, by decide +kernel, by decide +kernel, by decide +kernel, rfl, by decide +kernel⟩ rfl rfl (piL K (pv 0)) (fun _ _ _ _ _ => (pg_name (i := 0) (show List.Nodup (["value"] : List Str) by decide +kernel) rfl (Or.inl rfl))) (fun _ _ _ _ _ => (pe_call G_is_house (hr.mono (by decide)) rfl T.g_is_house T.F_is_house.kp T.B_is_house .nil pass0 (pa_cons (pv 0) pa_nil se_Name)))) pa_nil se_ListComp)))), ?_⟩
    refine ⟨_, rfl, a, rfl, ⟨_, ha⟩, fun D hD => ?_⟩
    refine comp_list (t := 1) (fun x => .bl (houseV x)) (by have := big; omega) (by decide) hD ha (fun k x H5 Z hx S5 z => ?_) (fun H5 S5 e5 => ?_)
    · exact ⟨_, rfl, x, rfl, (hp x (List.mem_of_getElem? hx)).same S5, z H5 (Same.refl _)⟩
    · refine ⟨D, xs.map houseV, rfl, SqL.of (by rw [e5, List.map_map]; rfl), ?_⟩
      have := q H5 S5
      rw [List.all_map]
      exact this
/-! ### what is no ring -/
def NotL (H : Hp) : V → Prop
  | .ref a => (∃ xs, H a = some (.tup xs)) ∨ H a = some (.dK [])
  | .non => True
  | .bl _ => True
  | .int _ => True
  | .str _ => True
  | _ => False
theorem NotL.ty {H : Hp} {v : V} (T : Txt K mg t) (h : NotL H v) : ∃ ty, TyOf K H v ty ∧ PySem.W.kitOne K ty (.type "list") = some false := by
  cases v with
  | non => exact ⟨_, .non, T.i_NoneType_list⟩
  | bl b => exact ⟨_, .bl b, T.i_bool_list⟩
  | int i => exact ⟨_, .int i, T.i_int_list⟩
  | str x => exact ⟨_, .str x, T.i_str_list⟩
  | ref a =>
    rcases h with ⟨xs, e⟩ | e
    · exact ⟨_, .tup e, T.i_tuple_list⟩
    · exact ⟨_, .dK e, T.i_dict_list⟩
  | byt b => exact h.elim
  | flt b => exact h.elim
  | ty n => exact h.elim
theorem NotL.same {H H' : Hp} {v : V} (h : NotL H v) (s : Same H H') : NotL H' v := by
  cases v with
  | ref a =>
    rcases h with ⟨xs, e⟩ | e
    · exact .inl ⟨xs, s _ _ e⟩
    · exact .inr (s _ _ e)
  | _ => exact h
def BadR (H : Hp) (v : V) : Prop := NotL H v ∨ ∃ a xs, v = .ref a ∧ H a = some (.lst xs) ∧ (∀ x ∈ xs, Pl H x) ∧ xs.length ≤ 1000 ∧ (xs.length < 2 ∨ xs.all houseV = false)
def Rz (C : Addr) (H : Hp) (E : XK) : Prop := ∀ H', Same H H' → E (.ref C) none H'
def RzL (C : Addr) (n : Int) (H : Hp) (E : XK) : Prop := ∀ H' d, Same H H' → H' d = some (.xd [("total", .int n)]) → E (.ref C) (some d) H'
theorem Rz.same {C : Addr} {H H1 : Hp} {E : XK} (r : Rz C H E) (s : Same H H1) : Rz C H1 E := fun H' s' => r H' (s.trans s')
theorem RzL.same {C : Addr} {n : Int} {H H1 : Hp} {E : XK} (r : RzL C n H E) (s : Same H H1) : RzL C n H1 E := fun H' d s' e => r H' d (s.trans s') e
def sp_initX (C CB : Addr) : Sp := fun vs H Q E => ∃ p v dx, vs = [.ref p, v] ∧ H p = some (.ins C dx []) ∧ BadR H v ∧ Rz CB H E
theorem ok_initX (T : Txt K mg t) : FnOk P w K mg base (CX1 P w) 5 t.f_Ring_init__ t.d_Ring_init__ P_Ring_init__ (sp_initX t.C_Ring t.C_BadRing) := by
  have G_are_houses := ok_housesV (P := P) (w := w) (base := base) T
  refine T.F_Ring_init__.okX sc_Ring_init__ (fun vs H Q E h => ?_) (fun cdv A outer s H vs Q E hr h => ?_)
  · obtain ⟨p, v, dx, rfl, _⟩ := h
    rfl
  · obtain ⟨p, v, dx, rfl, hp, hb, rz⟩ := h
    refine ⟨_, (pss_cons (ps_if (pt_not (pt_val (pe_callB (isiK K) (by rfl) T.b_isinstance bt_isinstance (pa_cons (pv 1) (pa_cons (pe_bltn (v := .ty "list") rfl T.b_list bt_list rfl) pa_nil se_Name) se_Name))))
      (pss_one (ps_raise thr_fn rfl rfl T.x_BadRing rfl T.g_BadRing (pa_cons pe_str pa_nil se_Constant)))
      pss_nil)
      (pss_cons (ps_set (i := 2) sc_Ring_init__.nd rfl (by first | exact Or.inl rfl | exact Or.inr rfl) (pe_callTy (listK K) (by rfl) T.b_list bt_list (pa_cons (pv 1) pa_nil se_Name)))
      (pss_cons (ps_if (pt_cmpR op_lt (pe_callB (lenK K) (by rfl) T.b_len bt_len (pa_cons (pv 2) pa_nil se_Name)) (pe_glob (v := .int 2) rfl T.g_FEWEST_HOUSES ⟨_, rfl⟩) (nomark _))
      (pss_one (ps_raise thr_fn rfl rfl T.x_BadRing rfl T.g_BadRing (pa_cons pe_str pa_nil se_Constant)))
      pss_nil)
      (pss_cons (ps_if (pt_not (pt_val (pe_call G_are_houses (hr.mono (by decide)) rfl T.g_are_houses T.F_are_houses.kp T.B_are_houses .nil pass0 (pa_cons (pv 2) pa_nil se_Name))))
      (pss_one (ps_raise thr_fn rfl rfl T.x_BadRing rfl T.g_BadRing (pa_cons pe_str pa_nil se_Constant)))
      pss_nil)
      (pss_one (ps_fld (pv 0) (pv 2) rfl)))))), ?_⟩
    have one : ([V.str "x"] : List V).length ≤ sizeLine := by show 1 ≤ sizeLine; decide
    rcases hb with hb | ⟨a, xs, rfl, ha, hx, hl, hb⟩
    · obtain ⟨ty, ht, hk⟩ := hb.ty T
      exact ⟨_, rfl, _, _, _, _, false, rfl, rfl, ht, hk, _, rfl, iteT ⟨one, rz _ (Same.refl _)⟩⟩
    · refine ⟨_, rfl, _, _, _, _, true, rfl, rfl, TyOf.lst ha, T.i_list_list, _, rfl, iteF ?_⟩
      refine ⟨_, rfl, a, _, rfl, .inl (SqL.of ha), fun l hlf => ?_⟩
      refine ⟨_, rfl, l, _, rfl, .inl (SqL.of upd_same), _, _, rfl, rfl, _, rfl, ?_⟩
      have S1 := same_upd (o := .lst xs) hlf
      refine ite2 (fun h => ?_) (fun h => ?_)
      · exact ⟨one, rz _ S1⟩
      · rw [t_lt] at h
        have hall : xs.all houseV = false := by
          rcases hb with hb | hb
          · omega
          · exact hb
        refine ⟨_, rfl, l, xs, rfl, SqL.of upd_same, fun x hm => (hx x hm).same S1, hl, fun H2 s2 => ?_⟩
        rw [hall]
        exact ⟨_, rfl, iteT ⟨one, rz _ (S1.trans s2)⟩⟩
/-! ### what are no tolls -/
def BadT (H : Hp) (v : V) (n : Nat) : Prop := NotL H v ∨ ∃ a xs, v = .ref a ∧ H a = some (.lst xs) ∧ (∀ x ∈ xs, Pl H x) ∧ xs.length ≤ 1000 ∧ (xs.length ≠ n ∨ xs.all tollV = false)
def GoodT (H : Hp) (v : V) (n : Nat) (ts : List Int) : Prop := ∃ a, v = .ref a ∧ H a = some (.lst (ts.map V.int)) ∧ ts.length = n ∧ n ≤ 1000 ∧ Toll ts
theorem Toll.all {ts : List Int} (h : Toll ts) : (ts.map V.int).all tollV = true := by
  rw [List.all_map, List.all_eq_true]
  intro x hx
  have := h x hx
  simp [tollV, tollB]
  omega
def sp_tollsX (R CT : Addr) : Sp := fun vs H Q E => ∃ (r l : Addr) (v : V) (hs : List Int), vs = [.ref r, v] ∧ RingAt R H r l hs ∧
  ((BadT H v hs.length ∧ Rz CT H E) ∨ ∃ ts, GoodT H v hs.length ts ∧ ∀ D H', Same H H' → H' D = some (.lst (ts.map V.int)) → Q (.ref D) H')
theorem ok_tollsX (T : Txt K mg t) : FnOk P w K mg base (CX1 P w) 4 t.f_tolls_for t.d_tolls_for P_tolls_for (sp_tollsX t.C_Ring t.C_BadTolls) := by
  have G_is_toll := ok_tollV (P := P) (w := w) (base := base) T
  have G_Ring_houses := ok_Ring_houses (P := P) (w := w) (base := base) T
  refine T.F_tolls_for.okX sc_tolls_for (fun vs H Q E h => ?_) (fun cdv A outer s H vs Q E hr h => ?_)
  · obtain ⟨r, l, v, hs, rfl, _⟩ := h
    rfl
  · obtain ⟨r, l, v, hs, rfl, RA, h⟩ := h
    refine ⟨_, (pss_cons (ps_if (pt_not (pt_val (pe_callB (isiK K) (by rfl) T.b_isinstance bt_isinstance (pa_cons (pv 1) (pa_cons (pe_bltn (v := .ty "list") rfl T.b_list bt_list rfl) pa_nil se_Name) se_Name))))
      (pss_one (ps_raise thr_fn rfl rfl T.x_BadTolls rfl T.g_BadTolls (pa_cons pe_str pa_nil se_Constant)))
      pss_nil)
      (pss_cons (ps_set (i := 2) sc_tolls_for.nd rfl (by first | exact Or.inl rfl | exact Or.inr rfl) (pe_callTy (listK K) (by rfl) T.b_list bt_list (pa_cons (pv 1) pa_nil se_Name)))
      (pss_cons (ps_if (pt_cmpR (neK K hr.units0) (pe_callB (lenK K) (by rfl) T.b_len bt_len (pa_cons (pv 2) pa_nil se_Name)) (pe_callB (lenK K) (by rfl) T.b_len bt_len (pa_cons (pe_meth0 (pv 0) T.cl_Ring T.m_Ring_houses G_Ring_houses (hr.mono (by decide)) T.B_Ring_houses .nil pass0) pa_nil se_Call)) (nomark _))
      (pss_one (ps_raise thr_fn rfl rfl T.x_BadTolls rfl T.g_BadTolls (pa_cons pe_str pa_nil se_Constant)))
      pss_nil)
      (pss_cons (ps_if (pt_not (pt_val (pe_callB (allK K rfl) (by rfl) T.b_all bt_all (pa_cons (PE.nox (pe_comp (sc := defScope s_tolls_for) (XN := N_tolls_for) (N' := ["number"]) (t := 1) (ix := []) rfl ⟨rfl, by decide +kernel, by decide +kernel, by decide +kernel, by decide +kernel, rfl, by decide +kernel⟩ rfl rfl (piL K (pv 2)) (fun _ _ _ _ _ => (pg_name (i := 0) (show List.Nodup (["number"] : List Str) by decide +kernel) rfl (Or.inl rfl))) (fun _ _ _ _ _ => (pe_call G_is_toll (hr.mono (by decide)) rfl T.g_is_toll T.F_is_toll.kp T.B_is_toll .nil pass0 (pa_cons (pv 0) pa_nil se_Name))))) pa_nil se_ListComp))))
      (pss_one (ps_raise thr_fn rfl rfl T.x_BadTolls rfl T.g_BadTolls (pa_cons pe_str pa_nil se_Constant)))
      pss_nil)
      (pss_one (ps_ret (pv 2))))))), ?_⟩
    have one : ([V.str "x"] : List V).length ≤ sizeLine := by show 1 ≤ sizeLine; decide
    have h' : (NotL H v ∧ Rz t.C_BadTolls H E) ∨ ∃ a xs, v = .ref a ∧ H a = some (.lst xs) ∧ (∀ x ∈ xs, Pl H x) ∧ xs.length ≤ 1000 ∧ ((xs.length ≠ hs.length ∨ xs.all tollV = false) → Rz t.C_BadTolls H E) ∧ (xs.length = hs.length → xs.all tollV = true → ∀ D H', Same H H' → H' D = some (.lst xs) → Q (.ref D) H') := by
      rcases h with ⟨hb | ⟨a, xs, ev, ha, hx, hl, hb⟩, rz⟩ | ⟨ts, ⟨a, ev, ha, hl1, hl2, htt⟩, q⟩
      · exact .inl ⟨hb, rz⟩
      · refine .inr ⟨a, xs, ev, ha, hx, hl, fun _ => rz, fun h1 h2 => ?_⟩
        rcases hb with hb | hb
        · exact absurd h1 hb
        · rw [h2] at hb; cases hb
      · refine .inr ⟨a, _, ev, ha, fun x hx => ?_, by rw [List.length_map]; omega, fun h => ?_, fun _ _ D H' s' e' => q D H' s' e'⟩
        · obtain ⟨i, _, rfl⟩ := List.mem_map.mp hx
          exact True.intro
        · rcases h with h | h
          · rw [List.length_map] at h; exact absurd hl1 h
          · rw [htt.all] at h; cases h
    rcases h' with ⟨hb, rz⟩ | ⟨a, xs, ev, ha, hx, hl, bad, good⟩
    · obtain ⟨ty, ht, hk⟩ := hb.ty T
      exact ⟨_, rfl, _, _, _, _, false, rfl, rfl, ht, hk, _, rfl, iteT ⟨one, rz _ (Same.refl _)⟩⟩
    · subst ev
      refine ⟨_, rfl, _, _, _, _, true, rfl, rfl, TyOf.lst ha, T.i_list_list, _, rfl, iteF ?_⟩
      refine ⟨_, rfl, a, _, rfl, .inl (SqL.of ha), fun l' hlf => ?_⟩
      have S1 := same_upd (o := .lst xs) hlf
      obtain ⟨dr, er⟩ := (RA.same S1).ob
      refine ⟨_, rfl, l', _, rfl, .inl (SqL.of upd_same), _, rfl, r, dr, _, rfl, er, rfl, r, l, hs, rfl, RA.same S1, fun D H2 hD s2 e2 => ?_⟩
      have S2 := S1.trans s2
      have el2 := s2 _ _ (upd_same (H := H) (a := l') (o := .lst xs))
      refine ⟨D, _, rfl, .inl (SqL.of e2), .inl ⟨rfl, _, rfl, ?_⟩⟩
      rw [List.length_map]
      by_cases hlen : xs.length = hs.length
      · refine (if_neg (fun z => t_ne.mp z (by omega))).mpr ?_
        refine ⟨_, rfl, l', rfl, ⟨_, SqL.of el2⟩, fun D3 hD3 => ?_⟩
        refine comp_list (t := 1) (fun x => .bl (tollV x)) (by have := big; omega) (by decide) hD3 (SqL.of el2) (fun k x H5 Z hx' S5 z => ?_) (fun H5 S5 e5 => ?_)
        · exact ⟨_, rfl, x, rfl, (hx x (List.mem_of_getElem? hx')).same (S2.trans S5), z H5 (Same.refl _)⟩
        · refine ⟨D3, xs.map tollV, rfl, SqL.of (by rw [e5, List.map_map]; rfl), ?_⟩
          rw [List.all_map]
          show _
          cases hall : xs.all tollV with
          | false =>
            have e : xs.all (id ∘ tollV) = false := hall
            rw [e]
            exact ⟨_, rfl, iteT ⟨one, bad (.inr hall) _ (S2.trans S5)⟩⟩
          | true =>
            have e : xs.all (id ∘ tollV) = true := hall
            rw [e]
            exact ⟨_, rfl, iteF ⟨_, rfl, good hlen hall _ _ (S2.trans S5) (S5 _ _ el2)⟩⟩
      · refine (if_pos (t_ne.mpr (by omega))).mpr ?_
        exact ⟨one, bad (.inl hlen) _ S2⟩

/-! ### what lacks -/
def sp_lackI (C : Addr) : Sp := fun vs H Q _ => ∃ (e : Addr) (n : Int), vs = [.ref e, .int n] ∧ H e = some (XcO e C none) ∧ ∀ d, H d = none → d ≠ e → Q .non (upd (upd H d (.xd [("total", .int n)])) e (XcO e C (some d)))
theorem ok_lackI (T : Txt K mg t) : FnOk P w K mg base CX0 1 t.f_Lacking_init__ t.d_Lacking_init__ P_Lacking_init__ (sp_lackI t.C_Lacking) := by
  refine T.F_Lacking_init__.ok sc_Lacking_init__ (fun vs H Q E h => ?_) (fun cdv A outer s H vs Q E hr h => ?_)
  · obtain ⟨e, n, rfl, _⟩ := h
    rfl
  · obtain ⟨e, n, rfl, he, q⟩ := h
    refine ⟨_, (pss_cons (ps_expr (pe_xinit rfl T.g_RingError T.r1_RingError T.r2_RingError T.r3_RingError T.x_Lacking (pa_cons (pv 0) (pa_cons (pv 1) pa_nil se_Name) se_Name)))
      (pss_one (ps_xfld T.xs_Lacking T.xl_Lacking T.xa_Lacking_total (pv 0) (pv 1) rfl))), ?_⟩
    refine ⟨_, rfl, _, rfl, e, _, none, rfl, he, ?_⟩
    exact ⟨_, rfl, _, rfl, e, rfl, he, fun d hd ne => q d hd ne⟩
theorem lack_out {C : Addr} {n : Int} {H H1 : Hp} {E : XK} {e d : Addr} (rz : RzL C n H E) (s : Same H H1) (he : H1 e = none) (hd : (upd H1 e (XcO e C none)) d = none) (ne : d ≠ e) :
    (V.non = V.non) ∧ ∃ dx, (upd (upd (upd H1 e (XcO e C none)) d (.xd [("total", .int n)])) e (XcO e C (some d))) e = some (XcO e C dx) ∧ E (.ref C) dx (del (upd (upd (upd H1 e (XcO e C none)) d (.xd [("total", .int n)])) e (XcO e C (some d))) e) := by
  refine ⟨rfl, some d, upd_same, rz _ d (fun b o q => ?_) ?_⟩
  · have q1 := s _ _ q
    have h1 : b ≠ e := ne_of_none q1 he
    rw [upd_ne ne] at hd
    rw [del_ne h1, upd_ne h1, upd_ne (ne_of_none q1 hd), upd_ne h1]
    exact q1
  · rw [del_ne ne, upd_ne ne, upd_same]
def sp_alongX (R CL : Addr) : Sp := fun vs H Q E => ∃ (r l : Addr) (hs : List Int), vs = [.ref r] ∧ RingAt R H r l hs ∧ hs.sum ≠ 0 ∧ RzL CL hs.sum H E
theorem ok_alongX (T : Txt K mg t) : FnOk P w K mg base (CX1 P w) 3 t.f_along t.d_along P_along (sp_alongX t.C_Ring t.C_Lacking) := by
  have G_Ring_houses := ok_Ring_houses (P := P) (w := w) (base := base) T
  have G_Ring_whole := ok_Ring_whole (P := P) (w := w) (base := base) T
  have G_Lacking_init__ := ok_lackI (P := P) (w := w) (base := base) T
  refine T.F_along.okX sc_along (fun vs H Q E h => ?_) (fun cdv A outer s H vs Q E hr h => ?_)
  · obtain ⟨r, l, hs, rfl, _⟩ := h
    rfl
  · obtain ⟨r, l, hs, rfl, RA, hz, rz⟩ := h
    obtain ⟨⟨dr, er⟩, el⟩ := id RA
    refine ⟨_, (pss_cons (ps_if (pt_cmpR (neK K hr.units0) (pe_meth0 (pv 0) T.cl_Ring T.m_Ring_whole G_Ring_whole (hr.mono (by decide)) T.B_Ring_whole .nil pass0) pe_int (nomark _))
      (pss_one (ps_raiseI thr_fn rfl rfl T.x_Lacking T.xn_Lacking T.kc_Lacking G_Lacking_init__ (hr.mono (by decide)) T.B_Lacking_init__ rfl T.g_Lacking (pa_cons (pe_meth0 (pv 0) T.cl_Ring T.m_Ring_whole G_Ring_whole (hr.mono (by decide)) T.B_Ring_whole .nil pass0) pa_nil se_Call)))
      pss_nil)
      pss_never), ?_⟩
    refine ⟨_, rfl, r, dr, _, rfl, er, rfl, r, l, hs, rfl, RA, ?_⟩
    refine .inl ⟨rfl, _, rfl, ?_⟩
    refine (if_pos (t_ne.mpr hz)).mpr ?_
    refine ⟨_, rfl, r, dr, _, rfl, er, rfl, r, l, hs, rfl, RA, by show 1 ≤ sizeLine; decide, fun e he => ?_⟩
    exact ⟨e, hs.sum, rfl, upd_same, fun d hd ne => lack_out rz (Same.refl _) he hd ne⟩
/-- along(ring), all in all: even or lacking -/
theorem ok_alongU (T : Txt K mg t) : FnOk P w K mg base (CX1 P w) 3 t.f_along t.d_along P_along (fun vs H Q E => sp_along t.C_Ring vs H Q E ∨ sp_alongX t.C_Ring t.C_Lacking vs H Q E) :=
  FnOk.or ((ok_along T).up.mono (by decide)) (ok_alongX T)
def sp_widestX (R CL : Addr) : Sp := fun vs H Q E => ∃ (r l : Addr) (hs : List Int), vs = [.ref r] ∧ RingAt R H r l hs ∧ hs.sum ≠ 0 ∧ RzL CL hs.sum H E
theorem ok_widestX (T : Txt K mg t) : FnOk P w K mg base (CX1 P w) 4 t.f_widest t.d_widest P_widest (sp_widestX t.C_Ring t.C_Lacking) := by
  have G_along := ok_alongX (P := P) (w := w) (base := base) T
  refine T.F_widest.okX sc_widest (fun vs H Q E h => ?_) (fun cdv A outer s H vs Q E hr h => ?_)
  · obtain ⟨r, l, hs, rfl, _⟩ := h
    rfl
  · obtain ⟨r, l, hs, rfl, RA, hz, rz⟩ := h
    refine ⟨_, (pss_cons (ps_set (i := 1) sc_widest.nd rfl (by first | exact Or.inl rfl | exact Or.inr rfl) (pe_call G_along (hr.mono (by decide)) rfl T.g_along T.F_along.kp T.B_along .nil (Thr.passes thr_fn rfl) (pa_cons (pv 0) pa_nil se_Name)))
      pss_never), ?_⟩
    exact ⟨_, rfl, r, l, hs, rfl, RA, hz, rz⟩
def BadM (v : V) : Prop := wnV v = false ∨ ∃ i, v = .int i ∧ i < 0
def sp_withinX (R CM CL : Addr) : Sp := fun vs H Q E => ∃ (r l : Addr) (v : V) (hs : List Int), vs = [.ref r, v] ∧ RingAt R H r l hs ∧ Pl H v ∧
  ((BadM v ∧ Rz CM H E) ∨ ((∃ i, v = .int i ∧ 0 ≤ i) ∧ hs.sum ≠ 0 ∧ RzL CL hs.sum H E))
theorem ok_withinX (T : Txt K mg t) : FnOk P w K mg base (CX1 P w) 4 t.f_within t.d_within P_within (sp_withinX t.C_Ring t.C_BadMost t.C_Lacking) := by
  have G_along := ok_alongX (P := P) (w := w) (base := base) T
  have G_is_whole_number := ok_wn (P := P) (w := w) (base := base) T
  refine T.F_within.okX sc_within (fun vs H Q E h => ?_) (fun cdv A outer s H vs Q E hr h => ?_)
  · obtain ⟨r, l, v, hs, rfl, _⟩ := h
    rfl
  · obtain ⟨r, l, v, hs, rfl, RA, hp, h⟩ := h
    refine ⟨_, (pss_cons (ps_if (PW.pt (pw_or (pt_not (pt_val (pe_call G_is_whole_number (hr.mono (by decide)) rfl T.g_is_whole_number T.F_is_whole_number.kp T.B_is_whole_number .nil pass0 (pa_cons (pv 1) pa_nil se_Name)))) (pw_or1 (pt_cmpR op_lt (pv 1) pe_int (nomark _)))))
      (pss_one (ps_raise thr_fn rfl rfl T.x_BadMost rfl T.g_BadMost (pa_cons pe_str pa_nil se_Constant)))
      pss_nil)
      (pss_cons (ps_set (i := 2) sc_within.nd rfl (by first | exact Or.inl rfl | exact Or.inr rfl) (pe_call G_along (hr.mono (by decide)) rfl T.g_along T.F_along.kp T.B_along .nil (Thr.passes thr_fn rfl) (pa_cons (pv 0) pa_nil se_Name)))
      pss_never)), ?_⟩
    have one : ([V.str "x"] : List V).length ≤ sizeLine := by show 1 ≤ sizeLine; decide
    refine ⟨_, rfl, v, rfl, hp, _, rfl, ?_⟩
    rcases h with ⟨hb, rz⟩ | ⟨⟨i, rfl, hi⟩, hz, rz⟩
    · cases hw : wnV v with
      | false => exact iteT (iteT ⟨one, rz _ (Same.refl _)⟩)
      | true =>
        rcases hb with hb | ⟨i, rfl, hi⟩
        · rw [hw] at hb; cases hb
        · refine iteF ⟨_, rfl, _, _, rfl, rfl, _, rfl, ?_⟩
          refine (if_pos (t_lt.mpr hi)).mpr ?_
          exact ⟨one, rz _ (Same.refl _)⟩
    · refine iteF ⟨_, rfl, _, _, rfl, rfl, _, rfl, ?_⟩
      refine (if_neg (fun z => absurd (t_lt.mp z) (by omega))).mpr ?_
      exact ⟨_, rfl, r, l, hs, rfl, RA, hz, rz⟩
def sp_leastX (R CT : Addr) : Sp := fun vs H Q E => ∃ (r l : Addr) (v : V) (hs : List Int), vs = [.ref r, v] ∧ RingAt R H r l hs ∧ BadT H v hs.length ∧ Rz CT H E
theorem ok_leastX (T : Txt K mg t) : FnOk P w K mg base (CX1 P w) 5 t.f_least t.d_least P_least (sp_leastX t.C_Ring t.C_BadTolls) := by
  have G_tolls_for := ok_tollsX (P := P) (w := w) (base := base) T
  refine T.F_least.okX sc_least (fun vs H Q E h => ?_) (fun cdv A outer s H vs Q E hr h => ?_)
  · obtain ⟨r, l, v, hs, rfl, _⟩ := h
    rfl
  · obtain ⟨r, l, v, hs, rfl, RA, hb, rz⟩ := h
    refine ⟨_, (pss_cons (ps_set (i := 2) sc_least.nd rfl (by first | exact Or.inl rfl | exact Or.inr rfl) (pe_call G_tolls_for (hr.mono (by decide)) rfl T.g_tolls_for T.F_tolls_for.kp T.B_tolls_for .nil (Thr.passes thr_fn rfl) (pa_cons (pv 0) (pa_cons (pv 1) pa_nil se_Name) se_Name)))
      pss_never), ?_⟩
    exact ⟨_, rfl, _, rfl, r, l, v, hs, rfl, RA, .inl ⟨hb, rz⟩⟩
def sp_endsX (R CT CL : Addr) : Sp := fun vs H Q E => ∃ (r l : Addr) (v : V) (hs : List Int), vs = [.ref r, v] ∧ RingAt R H r l hs ∧
  ((BadT H v hs.length ∧ Rz CT H E) ∨ ∃ ts, GoodT H v hs.length ts ∧ ((hs.sum ≠ 0 ∧ RzL CL hs.sum H E) ∨ (hs.sum = 0 ∧ ts.sum = 0 ∧ 2 ≤ hs.length ∧ hs.length ≤ 400 ∧ Small hs ∧ Rz CT H E)))
theorem ok_endsX (T : Txt K mg t) : FnOk P w K mg base (CX1 P w) 5 t.f_ends t.d_ends P_ends (sp_endsX t.C_Ring t.C_BadTolls t.C_Lacking) := by
  have G_tolls_for := ok_tollsX (P := P) (w := w) (base := base) T
  have G_along := ok_alongU (P := P) (w := w) (base := base) T
  refine T.F_ends.okX sc_ends (fun vs H Q E h => ?_) (fun cdv A outer s H vs Q E hr h => ?_)
  · obtain ⟨r, l, v, hs, rfl, _⟩ := h
    rfl
  · obtain ⟨r, l, v, hs, rfl, RA, h⟩ := h
    refine ⟨_, (pss_cons (ps_set (i := 2) sc_ends.nd rfl (by first | exact Or.inl rfl | exact Or.inr rfl) (pe_call G_tolls_for (hr.mono (by decide)) rfl T.g_tolls_for T.F_tolls_for.kp T.B_tolls_for .nil (Thr.passes thr_fn rfl) (pa_cons (pv 0) (pa_cons (pv 1) pa_nil se_Name) se_Name)))
      (pss_cons (ps_set (i := 3) sc_ends.nd rfl (by first | exact Or.inl rfl | exact Or.inr rfl) (pe_call G_along (hr.mono (by decide)) rfl T.g_along T.F_along.kp T.B_along .nil (Thr.passes thr_fn rfl) (pa_cons (pv 0) pa_nil se_Name)))
      (pss_cons (ps_if (pt_cmpR (eqK K hr.units0) (pe_callB (sumK K rfl) (by rfl) T.b_sum bt_sum (pa_cons (pv 2) pa_nil se_Name)) pe_int (nomark _))
      (pss_one (ps_raise thr_fn rfl rfl T.x_BadTolls rfl T.g_BadTolls (pa_cons pe_str pa_nil se_Constant)))
      pss_nil)
      pss_never))), ?_⟩
    have one : ([V.str "x"] : List V).length ≤ sizeLine := by show 1 ≤ sizeLine; decide
    rcases h with ⟨hb, rz⟩ | ⟨ts, hg, h⟩
    · exact ⟨_, rfl, _, rfl, r, l, v, hs, rfl, RA, .inl ⟨hb, rz⟩⟩
    · refine ⟨_, rfl, _, rfl, r, l, v, hs, rfl, RA, .inr ⟨ts, hg, fun D H1 s1 e1 => ?_⟩⟩
      rcases h with ⟨hz, rz⟩ | ⟨hz, htz, h2, hl, hsm, rz⟩
      · exact ⟨_, rfl, .inr ⟨r, l, hs, rfl, RA.same s1, hz, rz.same s1⟩⟩
      · refine ⟨_, rfl, .inl ⟨r, l, hs, rfl, RA.same s1, h2, hl, hsm, hz, fun D2 H2 hD2 s2 e2 => ?_⟩⟩
        refine ⟨_, rfl, D, ts, rfl, SqL.of (s2 _ _ e1), .inl ⟨rfl, _, rfl, ?_⟩⟩
        refine (if_pos (t_eq.mpr htz)).mpr ?_
        exact ⟨one, rz _ (s1.trans s2)⟩
def sp_turnedX (CM : Addr) : Sp := fun vs H Q E => ∃ (x v : V), vs = [x, v] ∧ Pl H v ∧ wnV v = false ∧ Rz CM H E
theorem ok_turnedX (T : Txt K mg t) : FnOk P w K mg base (CX1 P w) 5 t.f_turned t.d_turned P_turned (sp_turnedX t.C_BadMost) := by
  have G_is_whole_number := ok_wn (P := P) (w := w) (base := base) T
  refine T.F_turned.okX sc_turned (fun vs H Q E h => ?_) (fun cdv A outer s H vs Q E hr h => ?_)
  · obtain ⟨x, v, rfl, _⟩ := h
    rfl
  · obtain ⟨x, v, rfl, hp, hw, rz⟩ := h
    refine ⟨_, (pss_cons (ps_if (pt_not (pt_val (pe_call G_is_whole_number (hr.mono (by decide)) rfl T.g_is_whole_number T.F_is_whole_number.kp T.B_is_whole_number .nil pass0 (pa_cons (pv 1) pa_nil se_Name))))
      (pss_one (ps_raise thr_fn rfl rfl T.x_BadMost rfl T.g_BadMost (pa_cons pe_str pa_nil se_Constant)))
      pss_nil)
      pss_never), ?_⟩
    refine ⟨_, rfl, v, rfl, hp, _, rfl, ?_⟩
    rw [hw]
    exact iteT ⟨by show 1 ≤ sizeLine; decide, rz _ (Same.refl _)⟩
def sp_togX (R CU : Addr) : Sp := fun vs H Q E => ∃ (r1 l1 r2 l2 : Addr) (hs ks : List Int), vs = [.ref r1, .ref r2] ∧ RingAt R H r1 l1 hs ∧ RingAt R H r2 l2 ks ∧ hs.length ≤ 400 ∧ (ks.length ≠ hs.length ∨ (ks.length = hs.length ∧ (addI hs ks).all houseB = false)) ∧ Rz CU H E
theorem ok_togX (T : Txt K mg t) : FnOk P w K mg base (CX1 P w) 5 t.f_together t.d_together P_together (sp_togX t.C_Ring t.C_Unlike) := by
  have G_are_houses := ok_houses1 (P := P) (w := w) (base := base) T
  have G_Ring_houses := ok_Ring_houses (P := P) (w := w) (base := base) T
  refine T.F_together.okX sc_together (fun vs H Q E h => ?_) (fun cdv A outer s H vs Q E hr h => ?_)
  · obtain ⟨r1, l1, r2, l2, hs, ks, rfl, _⟩ := h
    rfl
  · obtain ⟨r1, l1, r2, l2, hs, ks, rfl, RA, RB, hl, hbad, rz⟩ := h
    obtain ⟨⟨d1, e1⟩, el1⟩ := id RA
    obtain ⟨⟨d2, e2⟩, el2⟩ := id RB
    refine ⟨_, (pss_cons (ps_if (PW.pt (pw_or (pt_not (pt_val (pe_callB (isiK K) (by rfl) T.b_isinstance bt_isinstance (pa_cons (pv 0) (pa_cons (pe_glob (v := .ref _) rfl T.g_Ring rfl) pa_nil se_Name) se_Name)))) (pw_or1 (pt_not (pt_val (pe_callB (isiK K) (by rfl) T.b_isinstance bt_isinstance (pa_cons (pv 1) (pa_cons (pe_glob (v := .ref _) rfl T.g_Ring rfl) pa_nil se_Name) se_Name)))))))
      (pss_one (ps_raise thr_fn rfl rfl T.x_Unlike rfl T.g_Unlike (pa_cons pe_str pa_nil se_Constant)))
      pss_nil)
      (pss_cons (ps_set (i := 2) sc_together.nd rfl (by first | exact Or.inl rfl | exact Or.inr rfl) (pe_meth0 (pv 0) T.cl_Ring T.m_Ring_houses G_Ring_houses (hr.mono (by decide)) T.B_Ring_houses .nil pass0))
      (pss_cons (ps_set (i := 3) sc_together.nd rfl (by first | exact Or.inl rfl | exact Or.inr rfl) (pe_meth0 (pv 1) T.cl_Ring T.m_Ring_houses G_Ring_houses (hr.mono (by decide)) T.B_Ring_houses .nil pass0))
      (pss_cons (ps_if (pt_cmpR (neK K hr.units0) (pe_callB (lenK K) (by rfl) T.b_len bt_len (pa_cons (pv 2) pa_nil se_Name)) (pe_callB (lenK K) (by rfl) T.b_len bt_len (pa_cons (pv 3) pa_nil se_Name)) (nomark _))
      (pss_one (ps_raise thr_fn rfl rfl T.x_Unlike rfl T.g_Unlike (pa_cons pe_str pa_nil se_Constant)))
      pss_nil)
      (pss_cons (PS.nox (ps_setComp (i := 4) (sc := defScope s_together) (XN := N_together) (N' := ["mine", "yours"]) (t := 2) (ix := []) rfl ⟨rfl, by decide +kernel, by decide +kernel, by decide +kernel, by decide +kernel, rfl, by decide +kernel⟩ rfl rfl sc_together.nd rfl rfl (piZ K rfl T.b_zip (pa_cons (pv 2) (pa_cons (pv 3) pa_nil se_Name) se_Name)) (fun _ _ _ _ _ => (pgT K (n := 2) rfl (pgs_cons (pg_name (i := 0) (show List.Nodup (["mine", "yours"] : List Str) by decide +kernel) rfl (Or.inl rfl)) (pgs_cons (pg_name (i := 1) (show List.Nodup (["mine", "yours"] : List Str) by decide +kernel) rfl (Or.inl rfl)) pgs_nil)))) (fun _ _ _ _ _ => (pe_op (op_add.or op_cat) (pv 0) (pv 1))) (by with_unfolding_all rfl)))
      (pss_cons (ps_if (pt_not (pt_val (pe_call G_are_houses (hr.mono (by decide)) rfl T.g_are_houses T.F_are_houses.kp T.B_are_houses .nil pass0 (pa_cons (pv 4) pa_nil se_Name))))
      (pss_one (ps_raise thr_fn rfl rfl T.x_Unlike rfl T.g_Unlike (pa_cons pe_str pa_nil se_Constant)))
      pss_nil)
      pss_never)))))), ?_⟩
    have one : ([V.str "x"] : List V).length ≤ sizeLine := by show 1 ≤ sizeLine; decide
    have ty1 : TyOf K H (.ref r1) (.ref t.C_Ring) := TyOf.ins e1 T.cl_Ring T.j1_Ring T.j3 T.j4 T.j2_Ring
    have ty2 : TyOf K H (.ref r2) (.ref t.C_Ring) := TyOf.ins e2 T.cl_Ring T.j1_Ring T.j3 T.j4 T.j2_Ring
    refine ⟨_, rfl, _, _, _, _, true, rfl, rfl, ty1, T.i_Ring_Ring, _, rfl, iteF ?_⟩
    refine ⟨_, rfl, _, _, _, _, true, rfl, rfl, ty2, T.i_Ring_Ring, _, rfl, iteF ?_⟩
    refine ⟨_, rfl, r1, d1, _, rfl, e1, rfl, r1, l1, hs, rfl, RA, fun D H1 hD s1 f1 => ?_⟩
    refine ⟨_, rfl, r2, d2, _, rfl, s1 _ _ e2, rfl, r2, l2, ks, rfl, RB.same s1, fun D2 H2 hD2 s2 f2 => ?_⟩
    refine ⟨_, rfl, D, _, rfl, .inl (SqL.of (s2 _ _ f1)), _, rfl, D2, _, rfl, .inl (SqL.of f2), .inl ⟨rfl, _, rfl, ?_⟩⟩
    rcases hbad with hne | ⟨hlk, hall⟩
    · refine (if_pos (t_ne.mpr (by rw [List.length_map, List.length_map]; omega))).mpr ?_
      exact ⟨one, rz _ (s1.trans s2)⟩
    · refine (if_neg (fun z => t_ne.mp z (by rw [List.length_map, List.length_map]; omega))).mpr ?_
      refine ⟨_, rfl, _, rfl, D, D2, rfl, ⟨_, SqL.of (s2 _ _ f1)⟩, ⟨_, SqL.of f2⟩, fun D3 hD3 => ?_⟩
      refine comp_zip (t := 2) (v2 fun x y => x + y) (by have := big; rw [List.length_map]; omega) (by decide) hD3 (SqL.of (s2 _ _ f1)) (SqL.of f2) (fun k x y H5 Z hx hy S5 z => ?_) (fun H5 S5 e5 => ?_)
      · obtain ⟨i, ei, rfl⟩ := map_int_get hx
        obtain ⟨j, ej, rfl⟩ := map_int_get hy
        exact ⟨_, rfl, _, rfl, .inl ⟨_, _, rfl, rfl, z H5 (Same.refl _)⟩⟩
      · rw [zip_v2] at e5
        change H5 D3 = some (.lst ((addI hs ks).map V.int)) at e5
        have hal := add_length hlk
        refine ⟨_, rfl, D3, addI hs ks, rfl, SqL.of e5, by omega, fun H6 s6 => ?_⟩
        rw [hall]
        exact ⟨_, rfl, iteT ⟨one, rz _ (s1.trans (s2.trans (S5.trans s6)))⟩⟩

/-! ### told -/
def exC (t : Adr) : Nat → Addr
  | 0 => t.C_BadRing
  | 1 => t.C_BadTolls
  | 2 => t.C_BadMost
  | 3 => t.C_Unlike
  | _ => t.C_Lacking
def dueV (k : Nat) : List V := [.bl (decide (k = 0)), .bl (decide (k = 1)), .bl (decide (k = 2)), .bl (decide (k = 3)), .bl (decide (k = 4)), .bl false, .bl true]
theorem five {Pr : Nat → Prop} (h0 : Pr 0) (h1 : Pr 1) (h2 : Pr 2) (h3 : Pr 3) (h4 : Pr 4) : ∀ k, k < 5 → Pr k
  | 0, _ => h0
  | 1, _ => h1
  | 2, _ => h2
  | 3, _ => h3
  | 4, _ => h4
  | n + 5, h => absurd h (by omega)
theorem kit0 (T : Txt K mg t) : ∀ k, k < 5 → PySem.W.kitOne K (.ref (exC t k)) (.ref t.C_BadRing) = some (decide (k = 0)) := five T.i_BadRing_BadRing T.i_BadTolls_BadRing T.i_BadMost_BadRing T.i_Unlike_BadRing T.i_Lacking_BadRing
theorem kit1 (T : Txt K mg t) : ∀ k, k < 5 → PySem.W.kitOne K (.ref (exC t k)) (.ref t.C_BadTolls) = some (decide (k = 1)) := five T.i_BadRing_BadTolls T.i_BadTolls_BadTolls T.i_BadMost_BadTolls T.i_Unlike_BadTolls T.i_Lacking_BadTolls
theorem kit2 (T : Txt K mg t) : ∀ k, k < 5 → PySem.W.kitOne K (.ref (exC t k)) (.ref t.C_BadMost) = some (decide (k = 2)) := five T.i_BadRing_BadMost T.i_BadTolls_BadMost T.i_BadMost_BadMost T.i_Unlike_BadMost T.i_Lacking_BadMost
theorem kit3 (T : Txt K mg t) : ∀ k, k < 5 → PySem.W.kitOne K (.ref (exC t k)) (.ref t.C_Unlike) = some (decide (k = 3)) := five T.i_BadRing_Unlike T.i_BadTolls_Unlike T.i_BadMost_Unlike T.i_Unlike_Unlike T.i_Lacking_Unlike
theorem kit4 (T : Txt K mg t) : ∀ k, k < 5 → PySem.W.kitOne K (.ref (exC t k)) (.ref t.C_Lacking) = some (decide (k = 4)) := five T.i_BadRing_Lacking T.i_BadTolls_Lacking T.i_BadMost_Lacking T.i_Unlike_Lacking T.i_Lacking_Lacking
theorem kit5 (T : Txt K mg t) : ∀ k, k < 5 → PySem.W.kitOne K (.ref (exC t k)) (.ref t.C_BadText) = some false := five T.i_BadRing_BadText T.i_BadTolls_BadText T.i_BadMost_BadText T.i_Unlike_BadText T.i_Lacking_BadText
theorem kit6 (T : Txt K mg t) : ∀ k, k < 5 → PySem.W.kitOne K (.ref (exC t k)) (.type "ValueError") = some true := five T.i_BadRing_ValueError T.i_BadTolls_ValueError T.i_BadMost_ValueError T.i_Unlike_ValueError T.i_Lacking_ValueError
theorem kitK (T : Txt K mg t) : ∀ k, k < 5 → PySem.W.ExcK K (exC t k) := five T.xk_BadRing T.xk_BadTolls T.xk_BadMost T.xk_Unlike T.xk_Lacking
theorem kitR (T : Txt K mg t) : ∀ k, k < 5 → IsX K (exC t k) ∧ PySem.W.mroIn K (exC t k) (.ref t.C_RingError) = some true :=
  five ⟨.inl T.x_BadRing, T.xm_BadRing_RingError⟩ ⟨.inl T.x_BadTolls, T.xm_BadTolls_RingError⟩ ⟨.inl T.x_BadMost, T.xm_BadMost_RingError⟩ ⟨.inl T.x_Unlike, T.xm_Unlike_RingError⟩ ⟨.inr ⟨_, T.x_Lacking⟩, T.xm_Lacking_RingError⟩
/-- a new thing stands -/
theorem new_same {H H' : Hp} {p : Addr} {o : HO} (hp : H p = none) (e : L2.upd H p o = H') : Same H H' := e ▸ same_upd hp
theorem new_it {H H' : Hp} {p : Addr} {o : HO} (e : L2.upd H p o = H') : H' p = some o := e ▸ upd_same
theorem new_at {H : Hp} {p : Addr} {o : HO} {G : Hp → Prop} (hp : H p = none) (h : ∀ H', Same H H' → H' p = some o → G H') : G (L2.upd H p o) := h _ (same_upd hp) upd_same
theorem dict_same {H H' : Hp} {dx : Option Addr} (h : dictOk H dx) (s : Same H H') : dictOk H' dx := by
  cases dx with
  | none => exact h
  | some d => obtain ⟨fs, e⟩ := h; exact ⟨fs, s _ _ e⟩
def sp_kinds (t : Adr) : Sp := fun vs H Q _ => ∃ (e : Addr) (k : Nat) (dx : Option Addr), vs = [.ref e] ∧ k < 5 ∧ H e = some (CaO e (exC t k) dx) ∧ dictOk H dx ∧ ∀ r H', Same H H' → H' r = some (.lst (dueV k)) → Q (.ref r) H'
theorem ok_kinds (T : Txt K mg t) : FnH P w K mg base 1 t.f_law_kinds t.d_law_kinds P_law_kinds (sp_kinds t) := by
  refine T.F_law_kinds.okH sc_law_kinds (fun vs H Q E h => ?_) (fun cdv A outer s H vs Q hr h => ?_)
  · obtain ⟨e, k, dx, rfl, _⟩ := h
    rfl
  · obtain ⟨e, k, dx, rfl, hk, he, hd, q⟩ := h
    refine ⟨_, (pss_cons (ps_set (i := 1) sc_law_kinds.nd rfl (by first | exact Or.inl rfl | exact Or.inr rfl) (pe_lst (pa_cons (pe_callB (isiX K) (by rfl) T.b_isinstance bt_isinstance (pa_cons (pv 0) (pa_cons (pe_glob (v := .ref _) rfl T.g_BadRing rfl) pa_nil se_Name) se_Name)) (pa_cons (pe_callB (isiX K) (by rfl) T.b_isinstance bt_isinstance (pa_cons (pv 0) (pa_cons (pe_glob (v := .ref _) rfl T.g_BadTolls rfl) pa_nil se_Name) se_Name)) (pa_cons (pe_callB (isiX K) (by rfl) T.b_isinstance bt_isinstance (pa_cons (pv 0) (pa_cons (pe_glob (v := .ref _) rfl T.g_BadMost rfl) pa_nil se_Name) se_Name)) pa_nil se_Call) se_Call) se_Call)))
      (pss_cons (ps_set (i := 1) sc_law_kinds.nd rfl (by first | exact Or.inl rfl | exact Or.inr rfl) (pe_op (op_add.or op_cat) (pv 1) (pe_lst (pa_cons (pe_callB (isiX K) (by rfl) T.b_isinstance bt_isinstance (pa_cons (pv 0) (pa_cons (pe_glob (v := .ref _) rfl T.g_Unlike rfl) pa_nil se_Name) se_Name)) (pa_cons (pe_callB (isiX K) (by rfl) T.b_isinstance bt_isinstance (pa_cons (pv 0) (pa_cons (pe_glob (v := .ref _) rfl T.g_Lacking rfl) pa_nil se_Name) se_Name)) (pa_cons (pe_callB (isiX K) (by rfl) T.b_isinstance bt_isinstance (pa_cons (pv 0) (pa_cons (pe_glob (v := .ref _) rfl T.g_BadText rfl) pa_nil se_Name) se_Name)) pa_nil se_Call) se_Call) se_Call))))
      (pss_one (ps_ret (pe_op (op_add.or op_cat) (pv 1) (pe_lst (pa_cons (pe_callB (isiX K) (by rfl) T.b_isinstance bt_isinstance (pa_cons (pv 0) (pa_cons (pe_bltn (v := .ty "ValueError") rfl T.b_ValueError bt_ValueError rfl) pa_nil se_Name) se_Name)) pa_nil se_Call))))))), ?_⟩
    have X := kitK T k hk
    refine ⟨_, rfl, e, _, dx, _, _, _, rfl, rfl, he, hd, X, kit0 T k hk, ?_⟩
    refine ⟨_, rfl, e, _, dx, _, _, _, rfl, rfl, he, hd, X, kit1 T k hk, ?_⟩
    refine ⟨_, rfl, e, _, dx, _, _, _, rfl, rfl, he, hd, X, kit2 T k hk, by show 3 ≤ sizeLine; decide, fun p1 hp1 => ?_⟩
    generalize gq : L2.upd _ p1 _ = H1
    have s1 := new_same hp1 gq
    have e1 := new_it gq
    clear gq
    have he1 := s1 _ _ he
    have hd1 := dict_same hd s1
    refine ⟨_, rfl, ?_⟩
    refine ⟨_, rfl, e, _, dx, _, _, _, rfl, rfl, he1, hd1, X, kit3 T k hk, ?_⟩
    refine ⟨_, rfl, e, _, dx, _, _, _, rfl, rfl, he1, hd1, X, kit4 T k hk, ?_⟩
    refine ⟨_, rfl, e, _, dx, _, _, _, rfl, rfl, he1, hd1, X, kit5 T k hk, by show 3 ≤ sizeLine; decide, fun p2 hp2 => ?_⟩
    generalize gq : L2.upd _ p2 _ = H2
    have s2 := new_same hp2 gq
    have e2 := new_it gq
    clear gq
    refine .inr ⟨p1, p2, _, _, rfl, rfl, s2 _ _ e1, e2, by show 6 ≤ sizeLine; decide, fun p3 hp3 => ?_⟩
    generalize gq : L2.upd _ p3 _ = H3
    have s3 := new_same hp3 gq
    have e3 := new_it gq
    clear gq
    have S3 := s1.trans (s2.trans s3)
    refine ⟨_, rfl, ?_⟩
    refine ⟨_, rfl, e, _, dx, _, _, _, rfl, rfl, S3 _ _ he, dict_same hd S3, X, kit6 T k hk, by show 1 ≤ sizeLine; decide, fun p4 hp4 => ?_⟩
    generalize gq : L2.upd _ p4 _ = H4
    have s4 := new_same hp4 gq
    have e4 := new_it gq
    clear gq
    refine .inr ⟨p3, p4, _, _, rfl, rfl, s4 _ _ e3, e4, by show 7 ≤ sizeLine; decide, fun p5 hp5 => ?_⟩
    generalize gq : L2.upd _ p5 _ = H5
    have s5 := new_same hp5 gq
    have e5 := new_it gq
    clear gq
    exact q p5 H5 (S3.trans (s4.trans s5)) e5
def E_law_told (t : Adr) (Q : VK) : XK := fun Cv dx H' => ∃ k, k < 5 ∧ Cv = .ref (exC t k) ∧ dictOk H' dx ∧ ∀ r H2, Same H' H2 → H2 r = some (.lst (dueV k)) → Q (.ref r) H2
def R_law_told (t : Adr) (c : Addr) : Prop := ∃ k, k < 5 ∧ c = exC t k
theorem rp_law_told (T : Txt K mg t) : ∀ c, R_law_told t c → IsX K c ∧ PySem.W.mroIn K c (.ref t.C_RingError) = some true := by
  rintro c ⟨k, hk, rfl⟩
  exact kitR T k hk
theorem rz_told {k : Nat} {H : Hp} {Q : VK} (hk : k < 5) (h : ∀ r H2, Same H H2 → H2 r = some (.lst (dueV k)) → Q (.ref r) H2) : Rz (exC t k) H (E_law_told t Q) := fun H' s => ⟨k, hk, rfl, True.intro, fun r H2 s2 e => h r H2 (s.trans s2) e⟩
theorem rzl_told {n : Int} {H : Hp} {Q : VK} (h : ∀ r H2, Same H H2 → H2 r = some (.lst (dueV 4)) → Q (.ref r) H2) : RzL t.C_Lacking n H (E_law_told t Q) := fun H' d s e => ⟨4, by decide, rfl, ⟨_, e⟩, fun r H2 s2 e => h r H2 (s.trans s2) e⟩
def sp_told (t : Adr) (f : Addr) (spf : Sp) : Sp := fun vs H Q _ => ∃ one other, vs = [.ref f, one, other] ∧ spf [one, other] H (fun _ H' => ([] : List V).length ≤ sizeLine ∧ ∀ r, H' r = none → Q (.ref r) (L2.upd H' r (.lst []))) (E_law_told t Q)
theorem ok_told {f : Addr} {fd : FuncData} {ps : List Str} {spf : Sp} (T : Txt K mg t) (GV : FnOk P w K mg base (CX1 P w) 8 f fd ps spf) (kV : PySem.W.keepIn K (.ref f) = true) (bV : Binds K fd ps []) : FnOk P w K mg base CX0 9 t.f_law_told t.d_law_told P_law_told (sp_told t f spf) := by
  have G_law_kinds := ok_kinds (P := P) (w := w) (base := base) T
  refine T.F_law_told.ok sc_law_told (fun vs H Q E h => ?_) (fun cdv A outer s H vs Q E hr h => ?_)
  · obtain ⟨one, other, rfl, _⟩ := h
    rfl
  · obtain ⟨one, other, rfl, h⟩ := h
    refine ⟨_, (pss_cons (ps_try (E := E_law_told t Q) (Rp := R_law_told t) (i := 3) rfl rfl rfl rfl (fun pn W th => (pss_one (ps_expr (pe_callV 0 GV (hr.mono (by decide)) kV bV (Thr.passes th rfl) (pa_cons (pv 1) (pa_cons (pv 2) pa_nil se_Name) se_Name)))))
      rfl T.g_RingError (.inl T.x_RingError) (rp_law_told T) (fun ea => (pss_one (ps_ret (pe_callH G_law_kinds ((hr.h.mark _).mono (by decide)) rfl T.g_law_kinds T.F_law_kinds.kp T.B_law_kinds (pa_cons (pv 3) pa_nil se_Name))))) sc_law_told.nd rfl rfl)
      (pss_one (ps_ret (pe_lst pa_nil)))), ?_⟩
    refine ⟨⟨rfl, _, rfl, _, rfl, h⟩, ?_⟩
    rintro Cv dx H' ea ⟨k, hk, rfl, hd, q⟩ hn
    refine ⟨exC t k, rfl, ⟨k, hk, rfl⟩, ?_⟩
    exact ⟨_, rfl, ea, k, dx, rfl, hk, upd_same, dict_same hd (same_upd hn), fun r H2 s2 e2 => q r H2 ((same_upd hn).trans s2) e2⟩

end
end Ev


end
noncomputable section

set_option Elab.async false
set_option linter.all false
set_option maxRecDepth 100000
set_option maxHeartbeats 0
seal L2.PE L2.PT L2.PS L2.PSs L2.PA L2.PI L2.PG L2.PGs L2.OpR L2.UnR L2.CallR L2.IxR L2.SlR L2.MtR L2.PO L2.PSet L2.PW
namespace Ev
open PySem L2
section
variable {P : Program} {w : World} {K : PySem.W.Frag} {mg : Str → Option Value} {base : Heap} {t : Adr}
/-! ### the doors -/
theorem BadR.same {H H' : Hp} {v : V} (h : BadR H v) (s : Same H H') : BadR H' v := by
  rcases h with h | ⟨a, xs, e, ha, hx, hl, hb⟩
  · exact .inl (h.same s)
  · exact .inr ⟨a, xs, e, s _ _ ha, fun x hm => (hx x hm).same s, hl, hb⟩
theorem BadT.same {H H' : Hp} {v : V} {n : Nat} (h : BadT H v n) (s : Same H H') : BadT H' v n := by
  rcases h with h | ⟨a, xs, e, ha, hx, hl, hb⟩
  · exact .inl (h.same s)
  · exact .inr ⟨a, xs, e, s _ _ ha, fun x hm => (hx x hm).same s, hl, hb⟩
theorem GoodT.same {H H' : Hp} {v : V} {n : Nat} {ts : List Int} (h : GoodT H v n ts) (s : Same H H') : GoodT H' v n ts := by
  obtain ⟨a, e, ha, r⟩ := h
  exact ⟨a, e, s _ _ ha, r⟩
def sp_lring (t : Adr) : Sp := fun vs H Q E => ∃ v u, vs = [v, u] ∧ BadR H v ∧ Rz t.C_BadRing H E
theorem ok_lring (T : Txt K mg t) : FnOk P w K mg base (CX1 P w) 8 t.f_law_ring t.d_law_ring P_law_ring (sp_lring t) := by
  have G_Ring_init__ := ok_initX (P := P) (w := w) (base := base) T
  refine T.F_law_ring.okX sc_law_ring (fun vs H Q E h => ?_) (fun cdv A outer s H vs Q E hr h => ?_)
  · obtain ⟨v, u, rfl, _⟩ := h
    rfl
  · obtain ⟨v, u, rfl, hb, rz⟩ := h
    refine ⟨_, (pss_one (ps_ret (pe_make T.M_Ring G_Ring_init__ (hr.mono (by decide)) rfl T.g_Ring T.B_Ring_init__ .nil (Thr.passes thr_fn rfl) (pa_cons (pv 0) pa_nil se_Name)))), ?_⟩
    refine ⟨_, rfl, fun x dx hx hdx ne => ?_⟩
    have S := (same_upd (o := .own x) hdx).upd hx (o := .ins t.C_Ring dx [])
    exact ⟨x, v, dx, rfl, upd_same, hb.same S, rz.same S⟩
theorem ok_lwith (T : Txt K mg t) : FnOk P w K mg base (CX1 P w) 8 t.f_law_with_tolls t.d_law_with_tolls P_law_with_tolls (sp_leastX t.C_Ring t.C_BadTolls) := by
  have G_least := ok_leastX (P := P) (w := w) (base := base) T
  refine T.F_law_with_tolls.okX sc_law_with_tolls (fun vs H Q E h => ?_) (fun cdv A outer s H vs Q E hr h => ?_)
  · obtain ⟨r, l, v, hs, rfl, _⟩ := h
    rfl
  · obtain ⟨r, l, v, hs, rfl, h⟩ := h
    refine ⟨_, (pss_one (ps_ret (pe_call G_least (hr.mono (by decide)) rfl T.g_least T.F_least.kp T.B_least .nil (Thr.passes thr_fn rfl) (pa_cons (pv 0) (pa_cons (pv 1) pa_nil se_Name) se_Name)))), ?_⟩
    exact ⟨_, rfl, _, rfl, r, l, v, hs, rfl, h⟩
theorem ok_lends (T : Txt K mg t) : FnOk P w K mg base (CX1 P w) 8 t.f_law_ends t.d_law_ends P_law_ends (sp_endsX t.C_Ring t.C_BadTolls t.C_Lacking) := by
  have G_ends := ok_endsX (P := P) (w := w) (base := base) T
  refine T.F_law_ends.okX sc_law_ends (fun vs H Q E h => ?_) (fun cdv A outer s H vs Q E hr h => ?_)
  · obtain ⟨r, l, v, hs, rfl, _⟩ := h
    rfl
  · obtain ⟨r, l, v, hs, rfl, h⟩ := h
    refine ⟨_, (pss_one (ps_ret (pe_call G_ends (hr.mono (by decide)) rfl T.g_ends T.F_ends.kp T.B_ends .nil (Thr.passes thr_fn rfl) (pa_cons (pv 0) (pa_cons (pv 1) pa_nil se_Name) se_Name)))), ?_⟩
    exact ⟨_, rfl, _, rfl, r, l, v, hs, rfl, h⟩
theorem ok_lwithin (T : Txt K mg t) : FnOk P w K mg base (CX1 P w) 8 t.f_law_within t.d_law_within P_law_within (sp_withinX t.C_Ring t.C_BadMost t.C_Lacking) := by
  have G_within := ok_withinX (P := P) (w := w) (base := base) T
  refine T.F_law_within.okX sc_law_within (fun vs H Q E h => ?_) (fun cdv A outer s H vs Q E hr h => ?_)
  · obtain ⟨r, l, v, hs, rfl, _⟩ := h
    rfl
  · obtain ⟨r, l, v, hs, rfl, h⟩ := h
    refine ⟨_, (pss_one (ps_ret (pe_call G_within (hr.mono (by decide)) rfl T.g_within T.F_within.kp T.B_within .nil (Thr.passes thr_fn rfl) (pa_cons (pv 0) (pa_cons (pv 1) pa_nil se_Name) se_Name)))), ?_⟩
    exact ⟨_, rfl, _, rfl, r, l, v, hs, rfl, h⟩
theorem ok_lturned (T : Txt K mg t) : FnOk P w K mg base (CX1 P w) 8 t.f_law_turned t.d_law_turned P_law_turned (sp_turnedX t.C_BadMost) := by
  have G_turned := ok_turnedX (P := P) (w := w) (base := base) T
  refine T.F_law_turned.okX sc_law_turned (fun vs H Q E h => ?_) (fun cdv A outer s H vs Q E hr h => ?_)
  · obtain ⟨x, v, rfl, _⟩ := h
    rfl
  · obtain ⟨x, v, rfl, h⟩ := h
    refine ⟨_, (pss_one (ps_ret (pe_call G_turned (hr.mono (by decide)) rfl T.g_turned T.F_turned.kp T.B_turned .nil (Thr.passes thr_fn rfl) (pa_cons (pv 0) (pa_cons (pv 1) pa_nil se_Name) se_Name)))), ?_⟩
    exact ⟨_, rfl, _, rfl, x, v, rfl, h⟩
theorem ok_ltog (T : Txt K mg t) : FnOk P w K mg base (CX1 P w) 8 t.f_law_together t.d_law_together P_law_together (sp_togX t.C_Ring t.C_Unlike) := by
  have G_together := ok_togX (P := P) (w := w) (base := base) T
  refine T.F_law_together.okX sc_law_together (fun vs H Q E h => ?_) (fun cdv A outer s H vs Q E hr h => ?_)
  · obtain ⟨r1, l1, r2, l2, hs, ks, rfl, _⟩ := h
    rfl
  · obtain ⟨r1, l1, r2, l2, hs, ks, rfl, h⟩ := h
    refine ⟨_, (pss_one (ps_ret (pe_call G_together (hr.mono (by decide)) rfl T.g_together T.F_together.kp T.B_together .nil (Thr.passes thr_fn rfl) (pa_cons (pv 0) (pa_cons (pv 1) pa_nil se_Name) se_Name)))), ?_⟩
    exact ⟨_, rfl, _, rfl, r1, l1, r2, l2, hs, ks, rfl, h⟩
def sp_lplain (t : Adr) : Sp := fun vs H Q E => ∃ (r l : Addr) (d : Int) (hs : List Int), vs = [.ref r, .int d] ∧ RingAt t.C_Ring H r l hs ∧ hs.sum ≠ 0 ∧ RzL t.C_Lacking hs.sum H E
theorem ok_lplain (T : Txt K mg t) : FnOk P w K mg base (CX1 P w) 7 t.f_law_plain t.d_law_plain P_law_plain (sp_lplain t) := by
  have G_along := ok_alongX (P := P) (w := w) (base := base) T
  have G_widest := ok_widestX (P := P) (w := w) (base := base) T
  refine T.F_law_plain.okX sc_law_plain (fun vs H Q E h => ?_) (fun cdv A outer s H vs Q E hr h => ?_)
  · obtain ⟨r, l, d, hs, rfl, _⟩ := h
    rfl
  · obtain ⟨r, l, d, hs, rfl, RA, hz, rz⟩ := h
    refine ⟨_, (pss_one (ps_ret (pe_ifExp (pt_cmpR (eqK K hr.units0) (pv 1) pe_int (nomark _)) (pe_call G_along (hr.mono (by decide)) rfl T.g_along T.F_along.kp T.B_along .nil (Thr.passes thr_fn rfl) (pa_cons (pv 0) pa_nil se_Name)) (pe_call G_widest (hr.mono (by decide)) rfl T.g_widest T.F_widest.kp T.B_widest .nil (Thr.passes thr_fn rfl) (pa_cons (pv 0) pa_nil se_Name))))), ?_⟩
    refine ⟨_, rfl, .inl ⟨rfl, _, rfl, ?_⟩⟩
    refine ite2 (fun _ => ?_) (fun _ => ?_)
    · exact ⟨_, rfl, r, l, hs, rfl, RA, hz, rz⟩
    · exact ⟨_, rfl, r, l, hs, rfl, RA, hz, rz⟩
/-! ### all of them -/
def dueB (k : Nat) : List Bool := [decide (k = 0), decide (k = 1), decide (k = 2), decide (k = 3), decide (k = 4), false, true]
theorem due_map (k : Nat) : dueV k = (dueB k).map V.bl := rfl
theorem due_eq (k : Nat) : eqVs (dueV k) (dueV k) = true := by rw [due_map, eqVs_bools]; simp
theorem due_flat (k : Nat) : (dueV k).all flatV = true := rfl
def Tells (t : Adr) (spf : Sp) (one x : V) (k : Nat) (H : Hp) : Prop := ∀ (H' : Hp) (Q' Qn : VK), Same H H' → (∀ r H2, Same H' H2 → H2 r = some (.lst (dueV k)) → Q' (.ref r) H2) → spf [one, x] H' Qn (E_law_told t Q')
theorem Tells.same {spf : Sp} {one x : V} {k : Nat} {H H1 : Hp} (h : Tells t spf one x k H) (s : Same H H1) : Tells t spf one x k H1 := fun H' Q' Qn s' q => h H' Q' Qn (s.trans s') q
def sp_all (t : Adr) (f : Addr) (spf : Sp) : Sp := fun vs H Q _ => ∃ (one : V) (th du : Addr) (xs : List V) (k : Nat), vs = [.ref f, one, .ref th, .ref du] ∧ H th = some (.lst xs) ∧ H du = some (.lst (dueV k)) ∧ xs.length ≤ 100 ∧ (∀ x ∈ xs, Tells t spf one x k H) ∧ ∀ H', Same H H' → Q (.bl true) H'
theorem ok_all {f : Addr} {fd : FuncData} {ps : List Str} {spf : Sp} (T : Txt K mg t) (GV : FnOk P w K mg base (CX1 P w) 8 f fd ps spf) (kV : PySem.W.keepIn K (.ref f) = true) (bV : Binds K fd ps []) : FnOk P w K mg base CX0 10 t.f_law_all t.d_law_all P_law_all (sp_all t f spf) := by
  have G_law_told := ok_told T GV kV bV
  refine T.F_law_all.ok sc_law_all (fun vs H Q E h => ?_) (fun cdv A outer s H vs Q E hr h => ?_)
  · obtain ⟨one, th, du, xs, k, rfl, _⟩ := h
    rfl
  · obtain ⟨one, th, du, xs, k, rfl, hth, hdu, hl, htell, q⟩ := h
    refine ⟨_, (pss_one (ps_ret (pe_callB (allK K rfl) (by rfl) T.b_all bt_all (pa_cons (pe_comp (sc := defScope s_law_all) (XN := N_law_all) (N' := ["_law_thing", "_law_due", "_law_ask", "_law_one"]) (t := 1) (ix := [3, 0, 1]) rfl ⟨rfl, by decide +kernel, by decide +kernel, by decide +kernel, by decide +kernel, rfl, by decide +kernel⟩ rfl rfl (piL K (pv 2)) (fun _ _ _ _ _ => (pg_name (i := 0) (show List.Nodup (["_law_thing", "_law_due", "_law_ask", "_law_one"] : List Str) by decide +kernel) rfl (Or.inl rfl))) (fun _ _ _ _ _ => (pe_cmpR (eqK K hr.units0) (pe_call G_law_told (hr.mono (by decide)) rfl T.g_law_told T.F_law_told.kp T.B_law_told .nil pass0 (pa_cons (pv 2) (pa_cons (pv 3) (pa_cons (pv 0) pa_nil se_Name) se_Name) se_Name)) (pv 1) (nomark _)))) pa_nil se_ListComp)))), ?_⟩
    refine ⟨_, rfl, th, rfl, ⟨_, SqL.of hth⟩, fun D hD => ?_⟩
    refine comp_list (t := 1) (fun _ => .bl true) (by have := big; omega) (by decide) hD (SqL.of hth) (fun j x H5 Z hx S5 z => ?_) (fun H5 S5 e5 => ?_)
    · refine ⟨_, rfl, _, rfl, _, rfl, one, x, rfl, htell x (List.mem_of_getElem? hx) H5 _ _ S5 fun r H2 s2 e2 => ?_⟩
      refine ⟨_, rfl, .inr ⟨r, du, _, _, rfl, rfl, SqL.of e2, SqL.of (s2 _ _ (S5 _ _ hdu)), due_flat k, due_flat k, ?_⟩⟩
      rw [due_eq]
      exact z H2 s2
    · refine ⟨D, xs.map fun _ => true, rfl, SqL.of (by rw [e5, List.map_map]; rfl), ?_⟩
      have e : (xs.map fun _ => true).all id = true := by simp
      rw [e]
      exact q H5 S5
/-! ### rings -/
def sp_rings (t : Adr) : Sp := fun vs H Q _ => ∃ (du : Addr) (far : Int), vs = [.ref du, .int far] ∧ H du = some (.lst (dueV 0)) ∧ 0 ≤ far ∧ ∀ H', Same H H' → Q (.bl true) H'
theorem ok_rings (T : Txt K mg t) : FnOk P w K mg base CX0 10 t.f_law_rings_right t.d_law_rings_right P_law_rings_right (sp_rings t) := by
  have G_law_told := ok_told (P := P) (w := w) (base := base) T (ok_lring T) T.F_law_ring.kp T.B_law_ring
  refine T.F_law_rings_right.ok sc_law_rings_right (fun vs H Q E h => ?_) (fun cdv A outer s H vs Q E hr h => ?_)
  · obtain ⟨du, far, rfl, _⟩ := h
    rfl
  · obtain ⟨du, far, rfl, hdu, hf, q⟩ := h
    refine ⟨_, (pss_cons (ps_set (i := 2) sc_law_rings_right.nd rfl (by first | exact Or.inl rfl | exact Or.inr rfl) (pe_lst (pa_cons pe_non (pa_cons (pe_tup (pa_cons pe_int (pa_cons (pe_un un_neg pe_int) pa_nil se_UnaryOp) se_Constant)) (pa_cons (pe_lst pa_nil) (pa_cons (pe_lst (pa_cons pe_int pa_nil se_Constant)) (pa_cons pe_str (pa_cons pe_dnew (pa_cons (pe_lst (pa_cons pe_int (pa_cons pe_non pa_nil se_Constant) se_Constant)) (pa_cons (pe_lst (pa_cons pe_int (pa_cons pe_str pa_nil se_Constant) se_Constant)) (pa_cons (pe_lst (pa_cons pe_int (pa_cons pe_bl pa_nil se_Constant) se_Constant)) (pa_cons (pe_lst (pa_cons pe_int (pa_cons pe_int pa_nil se_Constant) se_Constant)) (pa_cons (pe_lst (pa_cons (pe_op op_sub (pe_un un_neg pe_int) (pv 1)) (pa_cons pe_int pa_nil se_Constant) se_BinOp)) pa_nil se_List) se_List) se_List) se_List) se_List) se_Dict) se_Constant) se_List) se_List) se_Tuple) se_Constant)))
      (pss_cons (ps_expr (bmK K PySem.F.plainAttrs_list PySem.F.slot_list_append PySem.F.type_list_append mtr_append (pv 2) (pa_cons (pe_lst (pa_cons (pe_lst (pa_cons pe_int pa_nil se_Constant)) (pa_cons pe_int pa_nil se_Constant) se_List)) pa_nil se_List)))
      (pss_one (ps_ret (pe_callB (allK K rfl) (by rfl) T.b_all bt_all (pa_cons (pe_comp (sc := defScope s_law_rings_right) (XN := N_law_rings_right) (N' := ["_law_thing", "_law_due"]) (t := 1) (ix := [0]) rfl ⟨rfl, by decide +kernel, by decide +kernel, by decide +kernel, by decide +kernel, rfl, by decide +kernel⟩ rfl rfl (piL K (pv 2)) (fun _ _ _ _ _ => (pg_name (i := 0) (show List.Nodup (["_law_thing", "_law_due"] : List Str) by decide +kernel) rfl (Or.inl rfl))) (fun _ _ _ _ _ => (pe_cmpR (eqK K hr.units0) (pe_call G_law_told (hr.mono (by decide)) rfl T.g_law_told T.F_law_told.kp T.B_law_told .nil pass0 (pa_cons (pe_glob (v := .ref _) rfl T.g_law_ring rfl) (pa_cons (pv 0) (pa_cons pe_int pa_nil se_Constant) se_Name) se_Name)) (pv 1) (nomark _)))) pa_nil se_ListComp)))))), ?_⟩
    refine ⟨_, rfl, by show 2 ≤ sizeLine; decide, fun p1 hp1 => ?_⟩
    generalize gq : L2.upd _ p1 _ = H1
    have s1 := new_same hp1 gq
    have e1 := new_it gq
    clear gq
    refine ⟨by show 0 ≤ sizeLine; decide, fun p2 hp2 => ?_⟩
    generalize gq : L2.upd _ p2 _ = H2
    have s2 := new_same hp2 gq
    have e2 := new_it gq
    clear gq
    refine ⟨by show 1 ≤ sizeLine; decide, fun p3 hp3 => ?_⟩
    generalize gq : L2.upd _ p3 _ = H3
    have s3 := new_same hp3 gq
    have e3 := new_it gq
    clear gq
    intro p4 hp4
    generalize gq : L2.upd _ p4 _ = H4
    have s4 := new_same hp4 gq
    have e4 := new_it gq
    clear gq
    refine ⟨by show 2 ≤ sizeLine; decide, fun p5 hp5 => ?_⟩
    generalize gq : L2.upd _ p5 _ = H5
    have s5 := new_same hp5 gq
    have e5 := new_it gq
    clear gq
    refine ⟨by show 2 ≤ sizeLine; decide, fun p6 hp6 => ?_⟩
    generalize gq : L2.upd _ p6 _ = H6
    have s6 := new_same hp6 gq
    have e6 := new_it gq
    clear gq
    refine ⟨by show 2 ≤ sizeLine; decide, fun p7 hp7 => ?_⟩
    generalize gq : L2.upd _ p7 _ = H7
    have s7 := new_same hp7 gq
    have e7 := new_it gq
    clear gq
    refine ⟨by show 2 ≤ sizeLine; decide, fun p8 hp8 => ?_⟩
    generalize gq : L2.upd _ p8 _ = H8
    have s8 := new_same hp8 gq
    have e8 := new_it gq
    clear gq
    refine ⟨_, rfl, _, rfl, _, _, rfl, rfl, by show 2 ≤ sizeLine; decide, fun p9 hp9 => ?_⟩
    generalize gq : L2.upd _ p9 _ = H9
    have s9 := new_same hp9 gq
    have e9 := new_it gq
    clear gq
    have e1 := (s2.trans (s3.trans (s4.trans (s5.trans (s6.trans (s7.trans (s8.trans (s9)))))))) _ _ e1
    have e2 := (s3.trans (s4.trans (s5.trans (s6.trans (s7.trans (s8.trans (s9))))))) _ _ e2
    have e3 := (s4.trans (s5.trans (s6.trans (s7.trans (s8.trans (s9)))))) _ _ e3
    have e4 := (s5.trans (s6.trans (s7.trans (s8.trans (s9))))) _ _ e4
    have e5 := (s6.trans (s7.trans (s8.trans (s9)))) _ _ e5
    have e6 := (s7.trans (s8.trans (s9))) _ _ e6
    have e7 := (s8.trans (s9)) _ _ e7
    have e8 := (s9) _ _ e8
    have S9 := s1.trans (s2.trans (s3.trans (s4.trans (s5.trans (s6.trans (s7.trans (s8.trans (s9))))))))
    have hdu9 := S9 _ _ hdu
    clear s1 s2 s3 s4 s5 s6 s7 s8 s9 hp1 hp2 hp3 hp4 hp5 hp6 hp7 hp8 hp9 hdu
    refine ⟨by show 11 ≤ sizeLine; decide, fun B hB => ?_⟩
    generalize gq : L2.upd _ B _ = H10
    have s10 := new_same hB gq
    have eB := new_it gq
    clear gq
    refine ⟨_, rfl, .inl ⟨rfl, _, SqL.of eB⟩, ?_⟩
    refine ⟨by show 1 ≤ sizeLine; decide, fun q1 hq1 => ?_⟩
    generalize gq : L2.upd _ q1 _ = H11
    have s11 := new_same hq1 gq
    have f1 := new_it gq
    clear gq
    refine ⟨by show 2 ≤ sizeLine; decide, fun q2 hq2 => ?_⟩
    generalize gq : L2.upd _ q2 _ = H12
    have s12 := new_same hq2 gq
    have f2 := new_it gq
    clear gq
    have S12 := s10.trans (s11.trans s12)
    have eB12 := (s11.trans s12) _ _ eB
    refine ⟨B, _, _, rfl, rfl, eB12, by show 11 < sizeLine; decide, ?_⟩
    generalize gq : L2.upd H12 B _ = H13
    have eB13 := new_it gq
    have S13 : Same H9 H13 := by rw [← gq]; exact S12.upd hB
    have nB : ∀ b o, H12 b = some o → b ≠ B → H13 b = some o := fun b o z ne => by rw [← gq, upd_ne ne]; exact z
    have n1 : q1 ≠ B := fun z => by rw [z, eB] at hq1; cases hq1
    have n2 : q2 ≠ B := fun z => by rw [z, s11 _ _ eB] at hq2; cases hq2
    have f1 := nB _ _ (s12 _ _ f1) n1
    have f2 := nB _ _ f2 n2
    have e1 := S13 _ _ e1
    have e2 := S13 _ _ e2
    have e3 := S13 _ _ e3
    have e4 := S13 _ _ e4
    have e5 := S13 _ _ e5
    have e6 := S13 _ _ e6
    have e7 := S13 _ _ e7
    have e8 := S13 _ _ e8
    have e9 := S13 _ _ e9
    have hdu := S13 _ _ hdu9
    have SS := S9.trans S13
    clear gq nB s10 s11 s12 S12 eB12 eB hB hq1 hq2
    refine ⟨_, rfl, B, rfl, ⟨_, SqL.of eB13⟩, fun D hD => ?_⟩
    have bad : ∀ x ∈ ([.non, .ref p1, .ref p2, .ref p3, .str "0 0", .ref p4, .ref p5, .ref p6, .ref p7, .ref p8, .ref p9] ++ [.ref q2] : List V), BadR H13 x := by
      intro x hx
      simp only [List.cons_append, List.nil_append, List.mem_cons, List.not_mem_nil, or_false] at hx
      have pl2 : ∀ {H : Hp} {a b : V}, Pl H a → Pl H b → ∀ x ∈ [a, b], Pl H x := fun {H a b} ha hb x hx => by
        simp only [List.mem_cons, List.not_mem_nil, or_false] at hx
        rcases hx with rfl | rfl
        · exact ha
        · exact hb
      rcases hx with rfl | rfl | rfl | rfl | rfl | rfl | rfl | rfl | rfl | rfl | rfl | rfl
      · exact .inl True.intro
      · exact .inl (.inl ⟨_, e1⟩)
      · exact .inr ⟨p2, _, rfl, e2, fun x hx => by simp at hx, by decide, .inl (by decide)⟩
      · exact .inr ⟨p3, _, rfl, e3, fun x hx => by simp at hx; subst hx; exact True.intro, by decide, .inl (by decide)⟩
      · exact .inl True.intro
      · exact .inl (.inr e4)
      · exact .inr ⟨p5, _, rfl, e5, pl2 True.intro True.intro, by decide, .inr (by decide)⟩
      · exact .inr ⟨p6, _, rfl, e6, pl2 True.intro True.intro, by decide, .inr (by decide)⟩
      · exact .inr ⟨p7, _, rfl, e7, pl2 True.intro True.intro, by decide, .inr (by decide)⟩
      · exact .inr ⟨p8, _, rfl, e8, pl2 True.intro True.intro, by decide, .inr (by decide)⟩
      · refine .inr ⟨p9, _, rfl, e9, pl2 True.intro True.intro, by show 2 ≤ 1000; decide, .inr ?_⟩
        have : houseB (-1000001 - far) = false := decide_eq_false (by unfold absI; omega)
        show (houseB (-1000001 - far) && _) = false
        rw [this, Bool.false_and]
      · exact .inr ⟨q2, _, rfl, f2, pl2 (.inl ⟨_, f1⟩) True.intro, by show 2 ≤ 1000; decide, .inr rfl⟩
    refine comp_list (t := 1) (fun _ => .bl true) (by show 12 ≤ sizeLine; decide) (by decide) hD (SqL.of eB13) (fun j x H5 Z hx S5 z => ?_) (fun H5 S5 e5 => ?_)
    · refine ⟨_, rfl, x, .int 0, rfl, x, .int 0, rfl, (bad x (List.mem_of_getElem? hx)).same S5, rz_told (t := t) (k := 0) (by decide) fun r H2 s2 e2 => ?_⟩
      refine ⟨_, rfl, .inr ⟨r, du, _, _, rfl, rfl, SqL.of e2, SqL.of (s2 _ _ (S5 _ _ hdu)), due_flat 0, due_flat 0, ?_⟩⟩
      rw [due_eq]
      exact z H2 s2
    · refine ⟨D, List.replicate 12 true, rfl, SqL.of (by rw [e5]; rfl), ?_⟩
      exact q H5 (SS.trans S5)

/-! ### tolls -/
structure DueAt (H : Hp) (du d0 d1 d2 d3 d4 : Addr) : Prop where
  li : H du = some (.lst [.ref d0, .ref d1, .ref d2, .ref d3, .ref d4])
  a0 : H d0 = some (.lst (dueV 0))
  a1 : H d1 = some (.lst (dueV 1))
  a2 : H d2 = some (.lst (dueV 2))
  a3 : H d3 = some (.lst (dueV 3))
  a4 : H d4 = some (.lst (dueV 4))
theorem DueAt.same {H H' : Hp} {du d0 d1 d2 d3 d4 : Addr} (h : DueAt H du d0 d1 d2 d3 d4) (s : Same H H') : DueAt H' du d0 d1 d2 d3 d4 := ⟨s _ _ h.li, s _ _ h.a0, s _ _ h.a1, s _ _ h.a2, s _ _ h.a3, s _ _ h.a4⟩
theorem flat1 {α : Type} (x : α) (k : Nat) : (List.replicate k [x]).flatten = List.replicate k x := by
  induction k with
  | zero => rfl
  | succ k ih => rw [List.replicate_succ, List.flatten_cons, ih, List.replicate_succ]; rfl
theorem pl_rep {H : Hp} {v : V} {n : Nat} (h : Pl H v) : ∀ x ∈ List.replicate n v, Pl H x := fun x hx => by rw [List.eq_of_mem_replicate hx]; exact h
theorem pl_app {H : Hp} {xs ys : List V} (h1 : ∀ x ∈ xs, Pl H x) (h2 : ∀ x ∈ ys, Pl H x) : ∀ x ∈ xs ++ ys, Pl H x := fun x hx => (List.mem_append.mp hx).elim (h1 x) (h2 x)
theorem pl_one {H : Hp} {v : V} (h : Pl H v) : ∀ x ∈ [v], Pl H x := fun x hx => by simp at hx; subst hx; exact h
theorem bad_app {xs ys : List V} (h : ys.all tollV = false) : (xs ++ ys).all tollV = false := by rw [List.all_append, h, Bool.and_false]
theorem bad_pre {xs ys : List V} (h : xs.all tollV = false) : (xs ++ ys).all tollV = false := by rw [List.all_append, h, Bool.false_and]
theorem bad_rep {v : V} {n : Nat} (h : tollV v = false) (hn : 0 < n) : (List.replicate n v).all tollV = false := by
  cases n with
  | zero => omega
  | succ n => rw [List.replicate_succ, List.all_cons, h, Bool.false_and]
def sp_tollsR (t : Adr) : Sp := fun vs H Q _ => ∃ (r l lk l2 du d0 d1 d2 d3 d4 : Addr) (hs ks : List Int) (far : Int), vs = [.ref r, .ref lk, .ref du, .int far] ∧ RingAt t.C_Ring H r l hs ∧ RingAt t.C_Ring H lk l2 ks ∧ DueAt H du d0 d1 d2 d3 d4 ∧
  ks.length = hs.length ∧ 2 ≤ hs.length ∧ hs.length ≤ 100 ∧ Small hs ∧ hs.sum = 0 ∧ ks.sum ≠ 0 ∧ 0 ≤ far ∧ ∀ H', Same H H' → Q (.bl true) H'
theorem ok_tollsR (T : Txt K mg t) : FnOk P w K mg base CX0 11 t.f_law_tolls_right t.d_law_tolls_right P_law_tolls_right (sp_tollsR t) := by
  have G_law_told := ok_told (P := P) (w := w) (base := base) T (ok_lends T) T.F_law_ends.kp T.B_law_ends
  have G_law_all := (ok_all (P := P) (w := w) (base := base) T (ok_lwith T) T.F_law_with_tolls.kp T.B_law_with_tolls).or (ok_all (P := P) (w := w) (base := base) T (ok_lends T) T.F_law_ends.kp T.B_law_ends)
  have G_Ring_houses := ok_Ring_houses (P := P) (w := w) (base := base) T
  refine T.F_law_tolls_right.ok sc_law_tolls_right (fun vs H Q E h => ?_) (fun cdv A outer s H vs Q E hr h => ?_)
  · obtain ⟨r, l, lk, l2, du, d0, d1, d2, d3, d4, hs, ks, far, rfl, _⟩ := h
    rfl
  · obtain ⟨r, l, lk, l2, du, d0, d1, d2, d3, d4, hs, ks, far, rfl, RA, RB, DU, hlk, h2, hl, hsm, hz, hkz, hf, q⟩ := h
    refine ⟨_, (pss_cons (ps_set (i := 4) sc_law_tolls_right.nd rfl (by first | exact Or.inl rfl | exact Or.inr rfl) (pe_callB (lenK K) (by rfl) T.b_len bt_len (pa_cons (pe_meth0 (pv 0) T.cl_Ring T.m_Ring_houses G_Ring_houses (hr.mono (by decide)) T.B_Ring_houses .nil pass0) pa_nil se_Call)))
      (pss_cons (ps_set (i := 5) sc_law_tolls_right.nd rfl (by first | exact Or.inl rfl | exact Or.inr rfl) (pe_op (op_mul.or op_rep) (pe_lst (pa_cons pe_int pa_nil se_Constant)) (pe_op op_sub (pv 4) pe_int)))
      (pss_cons (ps_set (i := 6) sc_law_tolls_right.nd rfl (by first | exact Or.inl rfl | exact Or.inr rfl) (pe_lst (pa_cons pe_non (pa_cons (pe_lst pa_nil) (pa_cons (pv 5) (pa_cons (pe_op (op_add.or op_cat) (pv 5) (pe_lst (pa_cons pe_int (pa_cons pe_int pa_nil se_Constant) se_Constant))) (pa_cons (pe_op op_repT (pe_tup (pa_cons pe_int pa_nil se_Constant)) (pv 4)) (pa_cons (pe_op (op_add.or op_cat) (pe_lst (pa_cons (pe_un un_neg pe_int) pa_nil se_UnaryOp)) (pv 5)) (pa_cons (pe_op (op_add.or op_cat) (pv 5) (pe_lst (pa_cons pe_int pa_nil se_Constant))) (pa_cons (pe_op (op_add.or op_cat) (pv 5) (pe_lst (pa_cons (pe_op (op_add.or op_cat) pe_int (pv 3)) pa_nil se_BinOp))) pa_nil se_BinOp) se_BinOp) se_BinOp) se_BinOp) se_BinOp) se_Name) se_List) se_Constant)))
      (pss_cons (ps_set (i := 6) sc_law_tolls_right.nd rfl (by first | exact Or.inl rfl | exact Or.inr rfl) (pe_op (op_add.or op_cat) (pv 6) (pe_lst (pa_cons (pe_op (op_add.or op_cat) (pe_lst (pa_cons pe_bl pa_nil se_Constant)) (pv 5)) (pa_cons (pe_op (op_mul.or op_rep) (pe_lst (pa_cons pe_str pa_nil se_Constant)) (pv 4)) (pa_cons pe_dnew (pa_cons (pe_op (op_mul.or op_rep) (pe_lst (pa_cons pe_non pa_nil se_Constant)) (pv 4)) pa_nil se_BinOp) se_Dict) se_BinOp) se_BinOp))))
      (pss_cons (ps_for PassesOwn.never rfl (piT K (pe_tup (pa_cons (pv 0) (pa_cons (pv 1) pa_nil se_Name) se_Name))) (pg_name (i := 7) sc_law_tolls_right.nd rfl (by first | exact Or.inl rfl | exact Or.inr rfl))
      (pss_one (ps_if (PW.pt (pw_or (pt_not (pt_val (pe_call G_law_all (hr.mono (by decide)) rfl T.g_law_all T.F_law_all.kp T.B_law_all .nil pass0 (pa_cons (pe_glob (v := .ref _) rfl T.g_law_with_tolls rfl) (pa_cons (pv 7) (pa_cons (pv 6) (pa_cons (pe_ix (ixK K) (pv 2) pe_int (fun _ _ => rfl)) pa_nil se_Subscript) se_Name) se_Name) se_Name)))) (pw_or1 (pt_not (pt_val (pe_call G_law_all (hr.mono (by decide)) rfl T.g_law_all T.F_law_all.kp T.B_law_all .nil pass0 (pa_cons (pe_glob (v := .ref _) rfl T.g_law_ends rfl) (pa_cons (pv 7) (pa_cons (pv 6) (pa_cons (pe_ix (ixK K) (pv 2) pe_int (fun _ _ => rfl)) pa_nil se_Subscript) se_Name) se_Name) se_Name)))))))
      (pss_one (ps_ret pe_bl))
      pss_nil)))
      (pss_cons (ps_if (pt_cmpR (neK K hr.units0) (pe_call G_law_told (hr.mono (by decide)) rfl T.g_law_told T.F_law_told.kp T.B_law_told .nil pass0 (pa_cons (pe_glob (v := .ref _) rfl T.g_law_ends rfl) (pa_cons (pv 0) (pa_cons (pe_op (op_mul.or op_rep) (pe_lst (pa_cons pe_int pa_nil se_Constant)) (pv 4)) pa_nil se_BinOp) se_Name) se_Name)) (pe_ix (ixK K) (pv 2) pe_int (fun _ _ => rfl)) (nomark _))
      (pss_one (ps_ret pe_bl))
      pss_nil)
      (pss_one (ps_ret (pe_cmpR (eqK K hr.units0) (pe_call G_law_told (hr.mono (by decide)) rfl T.g_law_told T.F_law_told.kp T.B_law_told .nil pass0 (pa_cons (pe_glob (v := .ref _) rfl T.g_law_ends rfl) (pa_cons (pv 1) (pa_cons (pe_op (op_mul.or op_rep) (pe_lst (pa_cons pe_int pa_nil se_Constant)) (pv 4)) pa_nil se_BinOp) se_Name) se_Name)) (pe_ix (ixK K) (pv 2) pe_int (fun _ _ => rfl)) (nomark _)))))))))), ?_⟩
    obtain ⟨⟨dr, er⟩, el⟩ := id RA
    have hbig := big
    refine ⟨_, rfl, r, dr, _, rfl, er, rfl, r, l, hs, rfl, RA, fun D H1 hD s1 e1 => ?_⟩
    refine ⟨D, _, rfl, .inl (SqL.of e1), ?_⟩
    rw [List.length_map]
    refine ⟨by show 1 ≤ sizeLine; decide, fun t0 ht0 => ?_⟩
    generalize gq : L2.upd _ t0 _ = H2
    have s2 := new_same ht0 gq
    have f0 := new_it gq
    clear gq
    refine ⟨_, rfl, _, _, rfl, rfl, .inr ⟨t0, _, _, rfl, rfl, f0, by omega, by omega, by show 1 * _ ≤ _; omega, fun o ho => ?_⟩⟩
    rw [flat1, show ((hs.length : Int) - 1).toNat = hs.length - 1 by omega]
    generalize gq : L2.upd _ o _ = H3
    have s3 := new_same ho gq
    have eo := new_it gq
    clear gq
    have S3 := s1.trans (s2.trans s3)
    refine ⟨by show 0 ≤ sizeLine; decide, fun a1 ha1 => ?_⟩
    generalize gq : L2.upd _ a1 _ = H4
    have s4 := new_same ha1 gq
    have e1' := new_it gq
    clear gq
    have eo4 := s4 _ _ eo
    refine ⟨_, rfl, _, rfl, by show 2 ≤ sizeLine; decide, fun t1 ht1 => ?_⟩
    generalize gq : L2.upd _ t1 _ = H5
    have s5 := new_same ht1 gq
    have f1 := new_it gq
    clear gq
    refine .inr ⟨o, t1, _, _, rfl, rfl, s5 _ _ eo4, f1, by rw [List.length_replicate]; show _ + 2 ≤ _; omega, fun a2 ha2 => ?_⟩
    generalize gq : L2.upd _ a2 _ = H6
    have s6 := new_same ha2 gq
    have e2 := new_it gq
    clear gq
    refine ⟨by show 1 ≤ sizeLine; decide, fun t2 ht2 => ?_⟩
    generalize gq : L2.upd _ t2 _ = H7
    have s7 := new_same ht2 gq
    have f2 := new_it gq
    clear gq
    refine ⟨_, rfl, t2, _, _, rfl, rfl, f2, by simp, by omega, by show 1 * _ ≤ _; omega, fun a3 ha3 => ?_⟩
    generalize gq : L2.upd _ a3 _ = H8
    have s8 := new_same ha3 gq
    have e3 := new_it gq
    clear gq
    have eo8 := (s5.trans (s6.trans (s7.trans s8))) _ _ eo4
    refine ⟨_, rfl, by show 1 ≤ sizeLine; decide, fun t3 ht3 => ?_⟩
    generalize gq : L2.upd _ t3 _ = H9
    have s9 := new_same ht3 gq
    have f3 := new_it gq
    clear gq
    refine ⟨_, rfl, .inr ⟨t3, o, _, _, rfl, rfl, f3, s9 _ _ eo8, by rw [List.length_replicate]; show 1 + _ ≤ _; omega, fun a4 ha4 => ?_⟩⟩
    generalize gq : L2.upd _ a4 _ = H10
    have s10 := new_same ha4 gq
    have e4 := new_it gq
    clear gq
    refine ⟨_, rfl, by show 1 ≤ sizeLine; decide, fun t4 ht4 => ?_⟩
    generalize gq : L2.upd _ t4 _ = H11
    have s11 := new_same ht4 gq
    have f4 := new_it gq
    clear gq
    have eo11 := (s9.trans (s10.trans s11)) _ _ eo8
    refine .inr ⟨o, t4, _, _, rfl, rfl, eo11, f4, by rw [List.length_replicate]; show _ + 1 ≤ _; omega, fun a5 ha5 => ?_⟩
    generalize gq : L2.upd _ a5 _ = H12
    have s12 := new_same ha5 gq
    have e5 := new_it gq
    clear gq
    refine ⟨_, rfl, _, rfl, .inl ⟨_, _, rfl, rfl, by show 1 ≤ sizeLine; decide, fun t5 ht5 => ?_⟩⟩
    generalize gq : L2.upd _ t5 _ = H13
    have s13 := new_same ht5 gq
    have f5 := new_it gq
    clear gq
    have eo13 := (s12.trans s13) _ _ eo11
    refine .inr ⟨o, t5, _, _, rfl, rfl, eo13, f5, by rw [List.length_replicate]; show _ + 1 ≤ _; omega, fun a6 ha6 => ?_⟩
    generalize gq : L2.upd _ a6 _ = H14
    have s14 := new_same ha6 gq
    have e6 := new_it gq
    clear gq
    have eo14 := s14 _ _ eo13
    refine ⟨by show 8 ≤ sizeLine; decide, fun B1 hB1 => ?_⟩
    generalize gq : L2.upd _ B1 _ = H15
    have s15 := new_same hB1 gq
    have eB1 := new_it gq
    clear gq
    have S14 := S3.trans (s4.trans (s5.trans (s6.trans (s7.trans (s8.trans (s9.trans (s10.trans (s11.trans (s12.trans (s13.trans s14))))))))))
    have e1' := (s5.trans (s6.trans (s7.trans (s8.trans (s9.trans (s10.trans (s11.trans (s12.trans (s13.trans s14))))))))) _ _ e1'
    have e2 := (s7.trans (s8.trans (s9.trans (s10.trans (s11.trans (s12.trans (s13.trans s14))))))) _ _ e2
    have e3 := (s9.trans (s10.trans (s11.trans (s12.trans (s13.trans s14))))) _ _ e3
    have e4 := (s11.trans (s12.trans (s13.trans s14))) _ _ e4
    have e5 := (s13.trans s14) _ _ e5
    clear s1 s2 s3 s4 s5 s6 s7 s8 s9 s10 s11 s12 s13 s14 S3 eo eo4 eo8 eo11 eo13 f0 f1 f2 f3 f4 f5 ht0 ht1 ht2 ht3 ht4 ht5 ha1 ha2 ha3 ha4 ha5 ha6 ho hD
    dsimp only [gName]
    have eo15 := s15 _ _ eo14
    refine ⟨_, rfl, ?_⟩
    refine ⟨by show 1 ≤ sizeLine; decide, fun t6 ht6 => ?_⟩
    generalize gq : L2.upd _ t6 _ = H16
    have s16 := new_same ht6 gq
    have f6 := new_it gq
    clear gq
    refine ⟨_, rfl, .inr ⟨t6, o, _, _, rfl, rfl, f6, s16 _ _ eo15, by rw [List.length_replicate]; show 1 + _ ≤ _; omega, fun a7 ha7 => ?_⟩⟩
    generalize gq : L2.upd _ a7 _ = H17
    have s17 := new_same ha7 gq
    have e7 := new_it gq
    clear gq
    refine ⟨by show 1 ≤ sizeLine; decide, fun t7 ht7 => ?_⟩
    generalize gq : L2.upd _ t7 _ = H18
    have s18 := new_same ht7 gq
    have f7 := new_it gq
    clear gq
    refine ⟨_, rfl, .inr ⟨t7, _, _, rfl, rfl, f7, by omega, by omega, by show 1 * _ ≤ _; omega, fun a8 ha8 => ?_⟩⟩
    rw [flat1, Int.toNat_natCast]
    generalize gq : L2.upd _ a8 _ = H19
    have s19 := new_same ha8 gq
    have e8 := new_it gq
    clear gq
    intro a9 ha9
    generalize gq : L2.upd _ a9 _ = H20
    have s20 := new_same ha9 gq
    have e9 := new_it gq
    clear gq
    refine ⟨by show 1 ≤ sizeLine; decide, fun t8 ht8 => ?_⟩
    generalize gq : L2.upd _ t8 _ = H21
    have s21 := new_same ht8 gq
    have f8 := new_it gq
    clear gq
    refine ⟨_, rfl, .inr ⟨t8, _, _, rfl, rfl, f8, by omega, by omega, by show 1 * _ ≤ _; omega, fun a10 ha10 => ?_⟩⟩
    rw [flat1, Int.toNat_natCast]
    generalize gq : L2.upd _ a10 _ = H22
    have s22 := new_same ha10 gq
    have e10 := new_it gq
    clear gq
    refine ⟨by show 4 ≤ sizeLine; decide, fun B2 hB2 => ?_⟩
    generalize gq : L2.upd _ B2 _ = H23
    have s23 := new_same hB2 gq
    have eB2 := new_it gq
    clear gq
    have s1523 := s16.trans (s17.trans (s18.trans (s19.trans (s20.trans (s21.trans (s22.trans s23))))))
    refine .inr ⟨B1, B2, _, _, rfl, rfl, s1523 _ _ eB1, eB2, by show 8 + 4 ≤ sizeLine; decide, fun B hB => ?_⟩
    generalize gq : L2.upd _ B _ = H24
    have s24 := new_same hB gq
    have eB := new_it gq
    clear gq
    have e7 := (s18.trans (s19.trans (s20.trans (s21.trans (s22.trans (s23.trans s24)))))) _ _ e7
    have e8 := (s20.trans (s21.trans (s22.trans (s23.trans s24)))) _ _ e8
    have e9 := (s21.trans (s22.trans (s23.trans s24))) _ _ e9
    have e10 := (s23.trans s24) _ _ e10
    have s1424 := s15.trans (s1523.trans s24)
    have e1' := s1424 _ _ e1'
    have e2 := s1424 _ _ e2
    have e3 := s1424 _ _ e3
    have e4 := s1424 _ _ e4
    have e5 := s1424 _ _ e5
    have e6 := s1424 _ _ e6
    have eo := s1424 _ _ eo14
    have SS := S14.trans s1424
    clear s15 s16 s17 s18 s19 s20 s21 s22 s23 s24 s1523 s1424 S14 eo14 eo15 eB1 eB2 f6 f7 f8 ht6 ht7 ht8 ha7 ha8 ha9 ha10 hB1 hB2 hB e1
    have RA := RA.same SS
    have RB := RB.same SS
    have DU := DU.same SS
    have bad : ∀ x ∈ ([.non, .ref a1, .ref o, .ref a2, .ref a3, .ref a4, .ref a5, .ref a6] ++ [.ref a7, .ref a8, .ref a9, .ref a10] : List V), BadT H24 x hs.length := by
      intro x hx
      simp only [List.cons_append, List.nil_append, List.mem_cons, List.not_mem_nil, or_false] at hx
      have ti : ∀ i : Int, Pl H24 (.int i) := fun _ => True.intro
      rcases hx with rfl | rfl | rfl | rfl | rfl | rfl | rfl | rfl | rfl | rfl | rfl | rfl
      · exact .inl True.intro
      · exact .inr ⟨a1, _, rfl, e1', fun x hx => by simp at hx, by decide, .inl (by show 0 ≠ _; omega)⟩
      · exact .inr ⟨o, _, rfl, eo, pl_rep (ti 1), by rw [List.length_replicate]; omega, .inl (by rw [List.length_replicate]; omega)⟩
      · exact .inr ⟨a2, _, rfl, e2, pl_app (pl_rep (ti 1)) (fun x hx => by simp at hx; subst hx; exact ti 1), by rw [List.length_append, List.length_replicate]; show _ + 2 ≤ _; omega, .inl (by rw [List.length_append, List.length_replicate]; show _ + 2 ≠ _; omega)⟩
      · exact .inl (.inl ⟨_, e3⟩)
      · exact .inr ⟨a4, _, rfl, e4, pl_app (pl_one (ti (-1))) (pl_rep (ti 1)), by rw [List.length_append, List.length_replicate]; show 1 + _ ≤ _; omega, .inr (bad_pre (by decide))⟩
      · exact .inr ⟨a5, _, rfl, e5, pl_app (pl_rep (ti 1)) (pl_one (ti 1001)), by rw [List.length_append, List.length_replicate]; show _ + 1 ≤ _; omega, .inr (bad_app (by decide))⟩
      · refine .inr ⟨a6, _, rfl, e6, pl_app (pl_rep (ti 1)) (pl_one (ti _)), by rw [List.length_append, List.length_replicate]; show _ + 1 ≤ _; omega, .inr (bad_app ?_)⟩
        show (tollB (1001 + far) && true) = false
        unfold tollB
        rw [show decide (1001 + far ≤ 1000) = false from decide_eq_false (by omega), Bool.and_false, Bool.false_and]
      · exact .inr ⟨a7, _, rfl, e7, pl_app (pl_one True.intro) (pl_rep (ti 1)), by rw [List.length_append, List.length_replicate]; show 1 + _ ≤ _; omega, .inr (bad_pre (by decide))⟩
      · exact .inr ⟨a8, _, rfl, e8, pl_rep True.intro, by rw [List.length_replicate]; omega, .inr (bad_rep rfl (by omega))⟩
      · exact .inl (.inr e9)
      · exact .inr ⟨a10, _, rfl, e10, pl_rep True.intro, by rw [List.length_replicate]; omega, .inr (bad_rep rfl (by omega))⟩
    clear e1' eo e2 e3 e4 e5 e6 e7 e8 e9 e10
    dsimp only [gName]
    refine ⟨_, rfl, _, rfl, by show 2 ≤ sizeLine; decide, fun tp htp => ?_⟩
    generalize gq : L2.upd _ tp _ = H25
    have s25 := new_same htp gq
    have etp := new_it gq
    clear gq
    refine ⟨tp, rfl, ⟨_, SqT.of etp⟩, ?_⟩
    refine for_tup (xs := [.ref r, .ref lk]) (fun i σ H5 => ∃ v, σ = [some (.ref r), some (.ref lk), some (.ref du), some (.int far), some (.int hs.length), some (.ref o), some (.ref B), v] ∧ Same H25 H5) ⟨none, rfl, Same.refl _⟩ ?_ ?_ ?_
    · rintro i σ H5 hi ⟨v, rfl, S5⟩
      exact SqT.of (S5 _ _ etp)
    · rintro i x σ H5 hx ⟨v, rfl, S5⟩
      have hx' : ∃ p l' hs', x = .ref p ∧ RingAt t.C_Ring H24 p l' hs' ∧ hs'.length = hs.length := by
        have := List.mem_of_getElem? hx
        simp only [List.mem_cons, List.not_mem_nil, or_false] at this
        rcases this with rfl | rfl
        · exact ⟨r, l, hs, rfl, RA, rfl⟩
        · exact ⟨lk, l2, ks, rfl, RB, hlk⟩
      obtain ⟨p, l', hs', rfl, RC, hlc⟩ := hx'
      have SC := s25.trans S5
      dsimp only [gName]
      refine ⟨_, rfl, _, rfl, _, rfl, .inl ⟨du, _, _, _, rfl, rfl, SqL.of (SC _ _ DU.li), rfl, ?_⟩⟩
      refine .inl ⟨.ref p, B, d1, _, 1, rfl, SC _ _ eB, SC _ _ DU.a1, by show 12 ≤ 100; decide, fun x hx => ?_, fun H6 s6 => ?_⟩
      · intro H' Q' Qn s' q'
        exact ⟨p, l', x, hs', rfl, RC.same (SC.trans s'), by rw [hlc]; exact (bad x hx).same (SC.trans s'), rz_told (t := t) (k := 1) (by decide) q'⟩
      refine ⟨_, rfl, iteF ?_⟩
      have SC6 := SC.trans s6
      refine ⟨_, rfl, _, rfl, _, rfl, .inl ⟨du, _, _, _, rfl, rfl, SqL.of (SC6 _ _ DU.li), rfl, ?_⟩⟩
      refine .inr ⟨.ref p, B, d1, _, 1, rfl, SC6 _ _ eB, SC6 _ _ DU.a1, by show 12 ≤ 100; decide, fun x hx => ?_, fun H7 s7 => ?_⟩
      · intro H' Q' Qn s' q'
        exact ⟨p, l', x, hs', rfl, RC.same (SC6.trans s'), .inl ⟨by rw [hlc]; exact (bad x hx).same (SC6.trans s'), rz_told (t := t) (k := 1) (by decide) q'⟩⟩
      exact ⟨_, rfl, iteF ⟨_, rfl, S5.trans (s6.trans s7)⟩⟩
    rintro σ H5 ⟨v, rfl, S5⟩
    have SC := s25.trans S5
    have tz : Toll (List.replicate hs.length (0 : Int)) := fun x hx => by rw [List.eq_of_mem_replicate hx]; decide
    have zs : (List.replicate hs.length (0 : Int)).sum = 0 := by
      generalize hs.length = n
      induction n with
      | zero => rfl
      | succ n ih => rw [List.replicate_succ, List.sum_cons, ih]; rfl
    refine ⟨_, rfl, by show 1 ≤ sizeLine; decide, fun t9 ht9 => ?_⟩
    generalize gq : L2.upd _ t9 _ = H26
    have s26 := new_same ht9 gq
    have f9 := new_it gq
    clear gq
    refine ⟨_, rfl, .inr ⟨t9, _, _, rfl, rfl, f9, by omega, by omega, by show 1 * _ ≤ _; omega, fun z1 hz1 => ?_⟩⟩
    rw [flat1, Int.toNat_natCast, show (List.replicate hs.length (V.int 0)) = (List.replicate hs.length (0 : Int)).map V.int from List.map_replicate.symm]
    generalize gq : L2.upd _ z1 _ = H27
    have s27 := new_same hz1 gq
    have g1 := new_it gq
    clear gq
    have SD := SC.trans (s26.trans s27)
    refine ⟨.ref r, .ref z1, rfl, r, l, .ref z1, hs, rfl, RA.same SD, .inr ⟨List.replicate hs.length 0, ⟨z1, rfl, g1, List.length_replicate, by omega, tz⟩, .inr ⟨hz, zs, h2, by omega, hsm, rz_told (t := t) (k := 1) (by decide) fun r' H28 s28 e28 => ?_⟩⟩⟩
    have SE := SD.trans s28
    refine ⟨_, rfl, .inl ⟨du, _, _, _, rfl, rfl, SqL.of (SE _ _ DU.li), rfl, ?_⟩⟩
    refine .inr ⟨r', d1, _, _, rfl, rfl, SqL.of e28, SqL.of (SE _ _ DU.a1), due_flat 1, due_flat 1, _, rfl, ?_⟩
    rw [due_eq]
    refine iteF ?_
    refine ⟨_, rfl, by show 1 ≤ sizeLine; decide, fun t10 ht10 => ?_⟩
    generalize gq : L2.upd _ t10 _ = H29
    have s29 := new_same ht10 gq
    have f10 := new_it gq
    clear gq
    refine ⟨_, rfl, .inr ⟨t10, _, _, rfl, rfl, f10, by omega, by omega, by show 1 * _ ≤ _; omega, fun z2 hz2 => ?_⟩⟩
    rw [flat1, Int.toNat_natCast, show (List.replicate hs.length (V.int 0)) = (List.replicate hs.length (0 : Int)).map V.int from List.map_replicate.symm]
    generalize gq : L2.upd _ z2 _ = H30
    have s30 := new_same hz2 gq
    have g2 := new_it gq
    clear gq
    have SF := SE.trans (s29.trans s30)
    refine ⟨.ref lk, .ref z2, rfl, lk, l2, .ref z2, ks, rfl, RB.same SF, .inr ⟨List.replicate hs.length 0, ⟨z2, rfl, g2, by rw [List.length_replicate]; omega, by omega, tz⟩, .inl ⟨hkz, rzl_told (t := t) fun r' H31 s31 e31 => ?_⟩⟩⟩
    have SG := SF.trans s31
    refine ⟨_, rfl, .inl ⟨du, _, _, _, rfl, rfl, SqL.of (SG _ _ DU.li), rfl, ?_⟩⟩
    refine .inr ⟨r', d4, _, _, rfl, rfl, SqL.of e31, SqL.of (SG _ _ DU.a4), due_flat 4, due_flat 4, ?_⟩
    rw [due_eq]
    exact q _ (SS.trans SG)

/-! ### what lacks in all -/
def E_law_lack (t : Adr) (Q : VK) : XK := fun Cv dx H' => Cv = .ref t.C_Lacking ∧ ∃ d n, dx = some d ∧ H' d = some (.xd [("total", .int n)]) ∧ ∀ H2, Same H' H2 → Q (.int n) H2
def R_law_lack (t : Adr) (c : Addr) : Prop := c = t.C_Lacking
theorem rp_law_lack (T : Txt K mg t) : ∀ c, R_law_lack t c → IsX K c ∧ PySem.W.mroIn K c (.ref t.C_Lacking) = some true := by
  rintro c rfl
  exact ⟨.inr ⟨_, T.x_Lacking⟩, T.xm_Lacking_Lacking⟩
def sp_lack (t : Adr) : Sp := fun vs H Q _ => ∃ (r l : Addr) (d : Int) (hs : List Int), vs = [.ref r, .int d] ∧ RingAt t.C_Ring H r l hs ∧ 2 ≤ hs.length ∧ hs.length ≤ 400 ∧ hs.sum ≠ 0 ∧ ∀ H', Same H H' → Q (.int hs.sum) H'
theorem ok_lack (T : Txt K mg t) : FnOk P w K mg base CX0 9 t.f_law_lack t.d_law_lack P_law_lack (sp_lack t) := by
  have G_law_plain := ok_lplain (P := P) (w := w) (base := base) T
  have G_ends := ok_endsX (P := P) (w := w) (base := base) T
  have G_within := ok_withinX (P := P) (w := w) (base := base) T
  have G_Ring_houses := ok_Ring_houses (P := P) (w := w) (base := base) T
  refine T.F_law_lack.ok sc_law_lack (fun vs H Q E h => ?_) (fun cdv A outer s H vs Q E hr h => ?_)
  · obtain ⟨r, l, d, hs, rfl, _⟩ := h
    rfl
  · obtain ⟨r, l, d, hs, rfl, RA, h2, hl, hz, q⟩ := h
    refine ⟨_, (pss_cons (ps_try (E := E_law_lack t Q) (Rp := R_law_lack t) (i := 2) rfl rfl rfl rfl (fun pn W th => (pss_one (ps_if (pt_cmpR op_lt (pv 1) pe_int (nomark _))
      (pss_one (ps_expr (pe_call G_law_plain (hr.mono (by decide)) rfl T.g_law_plain T.F_law_plain.kp T.B_law_plain .nil (Thr.passes th rfl) (pa_cons (pv 0) (pa_cons (pv 1) pa_nil se_Name) se_Name))))
      (pss_one (ps_if (pt_cmpR (eqK K hr.units0) (pv 1) pe_int (nomark _))
      (pss_one (ps_expr (pe_call G_ends (hr.mono (by decide)) rfl T.g_ends T.F_ends.kp T.B_ends .nil (Thr.passes th rfl) (pa_cons (pv 0) (pa_cons (pe_op (op_mul.or op_rep) (pe_lst (pa_cons pe_int pa_nil se_Constant)) (pe_callB (lenK K) (by rfl) T.b_len bt_len (pa_cons (pe_meth0 (pv 0) T.cl_Ring T.m_Ring_houses G_Ring_houses (hr.mono (by decide)) T.B_Ring_houses .nil pass0) pa_nil se_Call))) pa_nil se_BinOp) se_Name))))
      (pss_one (ps_expr (pe_call G_within (hr.mono (by decide)) rfl T.g_within T.F_within.kp T.B_within .nil (Thr.passes th rfl) (pa_cons (pv 0) (pa_cons pe_int pa_nil se_Constant) se_Name)))))))))
      rfl T.g_Lacking (.inr ⟨_, T.x_Lacking⟩) (rp_law_lack T) (fun ea => (pss_one (ps_ret (pe_xget K (pv 2))))) sc_law_lack.nd rfl rfl)
      (pss_one (ps_ret pe_int))), ?_⟩
    have rz : RzL t.C_Lacking hs.sum H (E_law_lack t Q) := fun H' d s e => ⟨rfl, d, _, rfl, e, fun H2 s2 => q H2 (s.trans s2)⟩
    refine ⟨?_, ?_⟩
    · refine ⟨_, rfl, _, _, rfl, rfl, _, rfl, ite2 (fun _ => ?_) (fun _ => ?_)⟩
      · exact ⟨_, rfl, _, rfl, r, l, d, hs, rfl, RA, hz, rz⟩
      · refine ⟨_, rfl, .inl ⟨rfl, _, rfl, ite2 (fun _ => ?_) (fun _ => ?_)⟩⟩
        · refine ⟨_, rfl, by show 1 ≤ sizeLine; decide, fun t0 ht0 => ?_⟩
          generalize gq : L2.upd _ t0 _ = H1
          have s1 := new_same ht0 gq
          have f0 := new_it gq
          clear gq
          obtain ⟨⟨dr, er⟩, el⟩ := id (RA.same s1)
          refine ⟨_, rfl, r, dr, _, rfl, er, rfl, r, l, hs, rfl, RA.same s1, fun D H2 hD s2 e2 => ?_⟩
          refine ⟨D, _, rfl, .inl (SqL.of e2), .inr ⟨t0, _, _, rfl, rfl, s2 _ _ f0, by omega, by rw [List.length_map]; omega, by rw [List.length_map]; have := big; show 1 * _ ≤ _; omega, fun a ha => ?_⟩⟩
          rw [flat1, Int.toNat_natCast, List.length_map, show (List.replicate hs.length (V.int 1)) = (List.replicate hs.length (1 : Int)).map V.int from List.map_replicate.symm]
          generalize gq : L2.upd _ a _ = H3
          have s3 := new_same ha gq
          have ea := new_it gq
          clear gq
          have S3 := s1.trans (s2.trans s3)
          exact ⟨r, l, .ref a, hs, rfl, RA.same S3, .inr ⟨List.replicate hs.length 1, ⟨a, rfl, ea, List.length_replicate, by omega, fun x hx => by rw [List.eq_of_mem_replicate hx]; decide⟩, .inl ⟨hz, rz.same S3⟩⟩⟩
        · exact ⟨_, rfl, r, l, .int 5, hs, rfl, RA, True.intro, .inr ⟨⟨5, rfl, by decide⟩, hz, rz⟩⟩
    · rintro Cv dx H' ea ⟨rfl, d, n, rfl, hd, qq⟩ hn
      refine ⟨t.C_Lacking, rfl, rfl, ?_⟩
      exact ⟨_, rfl, ea, _, d, _, _, rfl, upd_same, (same_upd hn) _ _ hd, T.xk_Lacking, T.xa_Lacking_total, rfl, qq _ (same_upd hn)⟩
def sp_lackR (t : Adr) : Sp := fun vs H Q _ => ∃ (r l lk l2 du d0 d1 d2 d3 d4 : Addr) (h0 : Int) (hs ks : List Int) (far : Int), vs = [.ref r, .ref lk, .ref du, .int far] ∧ RingAt t.C_Ring H r l (h0 :: hs) ∧ RingAt t.C_Ring H lk l2 ks ∧ DueAt H du d0 d1 d2 d3 d4 ∧
  1 ≤ hs.length ∧ hs.length ≤ 100 ∧ Small hs ∧ -900000 ≤ h0 ∧ h0 ≤ 900000 ∧ (h0 :: hs).sum = 0 ∧ ks.sum ≠ 0 ∧ 0 ≤ far ∧ ∀ H', Same H H' → Q (.bl true) H'
theorem ok_lackR (T : Txt K mg t) : FnOk P w K mg base CX0 11 t.f_law_lacking_right t.d_law_lacking_right P_law_lacking_right (sp_lackR t) := by
  have G_law_told := ok_told (P := P) (w := w) (base := base) T (ok_lwithin T) T.F_law_within.kp T.B_law_within
  have G_law_all := (ok_all (P := P) (w := w) (base := base) T (ok_lwithin T) T.F_law_within.kp T.B_law_within).or ((ok_all (P := P) (w := w) (base := base) T (ok_lturned T) T.F_law_turned.kp T.B_law_turned).or (ok_all (P := P) (w := w) (base := base) T ((ok_lplain T).mono (by decide)) T.F_law_plain.kp T.B_law_plain))
  have G_Ring_houses := ok_Ring_houses (P := P) (w := w) (base := base) T
  have G_Ring_init__ := ok_Ring_init (P := P) (w := w) (base := base) T
  have G_law_lack := ok_lack (P := P) (w := w) (base := base) T
  refine T.F_law_lacking_right.ok sc_law_lacking_right (fun vs H Q E h => ?_) (fun cdv A outer s H vs Q E hr h => ?_)
  · obtain ⟨r, l, lk, l2, du, d0, d1, d2, d3, d4, h0, hs, ks, far, rfl, _⟩ := h
    rfl
  · obtain ⟨r, l, lk, l2, du, d0, d1, d2, d3, d4, h0, hs, ks, far, rfl, RA, RB, DU, h1, hl, hsm, hlo, hhi, hz, hkz, hf, q⟩ := h
    refine ⟨_, (pss_cons (ps_set (i := 4) sc_law_lacking_right.nd rfl (by first | exact Or.inl rfl | exact Or.inr rfl) (pe_lst (pa_cons pe_non (pa_cons (pe_un un_neg pe_int) (pa_cons (pe_op op_sub (pe_un un_neg pe_int) (pv 3)) (pa_cons pe_str (pa_cons pe_bl (pa_cons (pe_lst (pa_cons pe_int pa_nil se_Constant)) pa_nil se_List) se_Constant) se_Constant) se_BinOp) se_UnaryOp) se_Constant)))
      (pss_cons (ps_if (PW.pt (pw_or (pt_not (pt_val (pe_call G_law_all (hr.mono (by decide)) rfl T.g_law_all T.F_law_all.kp T.B_law_all .nil pass0 (pa_cons (pe_glob (v := .ref _) rfl T.g_law_within rfl) (pa_cons (pv 0) (pa_cons (pv 4) (pa_cons (pe_ix (ixK K) (pv 2) pe_int (fun _ _ => rfl)) pa_nil se_Subscript) se_Name) se_Name) se_Name)))) (pw_or1 (pt_not (pt_val (pe_call G_law_all (hr.mono (by decide)) rfl T.g_law_all T.F_law_all.kp T.B_law_all .nil pass0 (pa_cons (pe_glob (v := .ref _) rfl T.g_law_within rfl) (pa_cons (pv 1) (pa_cons (pv 4) (pa_cons (pe_ix (ixK K) (pv 2) pe_int (fun _ _ => rfl)) pa_nil se_Subscript) se_Name) se_Name) se_Name)))))))
      (pss_one (ps_ret pe_bl))
      pss_nil)
      (pss_cons (ps_if (pt_not (pt_val (pe_call G_law_all (hr.mono (by decide)) rfl T.g_law_all T.F_law_all.kp T.B_law_all .nil pass0 (pa_cons (pe_glob (v := .ref _) rfl T.g_law_turned rfl) (pa_cons (pv 0) (pa_cons (pe_lst (pa_cons pe_non (pa_cons pe_str (pa_cons pe_bl (pa_cons (pe_lst (pa_cons pe_int pa_nil se_Constant)) (pa_cons (pe_tup (pa_cons pe_int pa_nil se_Constant)) pa_nil se_Tuple) se_List) se_Constant) se_Constant) se_Constant)) (pa_cons (pe_ix (ixK K) (pv 2) pe_int (fun _ _ => rfl)) pa_nil se_Subscript) se_List) se_Name) se_Name))))
      (pss_one (ps_ret pe_bl))
      pss_nil)
      (pss_cons (ps_if (PW.pt (pw_or (pt_cmpR (neK K hr.units0) (pe_call G_law_told (hr.mono (by decide)) rfl T.g_law_told T.F_law_told.kp T.B_law_told .nil pass0 (pa_cons (pe_glob (v := .ref _) rfl T.g_law_within rfl) (pa_cons (pv 1) (pa_cons pe_int pa_nil se_Constant) se_Name) se_Name)) (pe_ix (ixK K) (pv 2) pe_int (fun _ _ => rfl)) (nomark _)) (pw_or1 (pt_not (pt_val (pe_call G_law_all (hr.mono (by decide)) rfl T.g_law_all T.F_law_all.kp T.B_law_all .nil pass0 (pa_cons (pe_glob (v := .ref _) rfl T.g_law_plain rfl) (pa_cons (pv 1) (pa_cons (pe_lst (pa_cons pe_int (pa_cons pe_int pa_nil se_Constant) se_Constant)) (pa_cons (pe_ix (ixK K) (pv 2) pe_int (fun _ _ => rfl)) pa_nil se_Subscript) se_List) se_Name) se_Name)))))))
      (pss_one (ps_ret pe_bl))
      pss_nil)
      (pss_cons (ps_set (i := 5) sc_law_lacking_right.nd rfl (by first | exact Or.inl rfl | exact Or.inr rfl) (pe_meth0 (pv 0) T.cl_Ring T.m_Ring_houses G_Ring_houses (hr.mono (by decide)) T.B_Ring_houses .nil pass0))
      (pss_cons (ps_for PassesOwn.never rfl (piT K (pe_tup (pa_cons pe_int (pa_cons (pe_un un_neg pe_int) (pa_cons (pe_op (op_add.or op_cat) pe_int (pe_op op_mod (pv 3) pe_int)) (pa_cons (pe_op op_sub (pe_un un_neg pe_int) (pe_op op_mod (pv 3) pe_int)) pa_nil se_BinOp) se_BinOp) se_UnaryOp) se_Constant))) (pg_name (i := 6) sc_law_lacking_right.nd rfl (by first | exact Or.inl rfl | exact Or.inr rfl))
      (pss_cons (ps_set (i := 7) sc_law_lacking_right.nd rfl (by first | exact Or.inl rfl | exact Or.inr rfl) (pe_make T.M_Ring G_Ring_init__ (hr.mono (by decide)) rfl T.g_Ring T.B_Ring_init__ .nil pass0 (pa_cons (pe_op (op_add.or op_cat) (pe_lst (pa_cons (pe_op (op_add.or op_cat) (pe_ix (ixK K) (pv 5) pe_int (fun _ _ => rfl)) (pv 6)) pa_nil se_BinOp)) (pe_slice (slK K) (pv 5) (po_some pe_int) po_none)) pa_nil se_BinOp)))
      (pss_one (ps_if (pt_not (pt_val (pe_callB (allK K rfl) (by rfl) T.b_all bt_all (pa_cons (pe_comp (sc := defScope s_law_lacking_right) (XN := N_law_lacking_right) (N' := ["_law_door", "_law_by", "_law_less"]) (t := 1) (ix := [6, 7]) rfl ⟨rfl, by decide +kernel, by decide +kernel, by decide +kernel, by decide +kernel, rfl, by decide +kernel⟩ rfl rfl (pi_range1 rfl T.b_range (pa_cons pe_int pa_nil se_Constant)) (fun _ _ _ _ _ => (pg_name (i := 0) (show List.Nodup (["_law_door", "_law_by", "_law_less"] : List Str) by decide +kernel) rfl (Or.inl rfl))) (fun _ _ _ _ _ => (pe_cmpR (eqK K hr.units0) (pe_call G_law_lack (hr.mono (by decide)) rfl T.g_law_lack T.F_law_lack.kp T.B_law_lack .nil pass0 (pa_cons (pv 2) (pa_cons (pv 0) pa_nil se_Name) se_Name)) (pv 1) (nomark _)))) pa_nil se_ListComp))))
      (pss_one (ps_ret pe_bl))
      pss_nil))))
      (pss_one (ps_ret pe_bl)))))))), ?_⟩
    have hbig := big
    refine ⟨_, rfl, _, rfl, _, rfl, _, _, rfl, rfl, ?_⟩
    refine ⟨by show 1 ≤ sizeLine; decide, fun b1 hb1 => ?_⟩
    generalize gq : L2.upd _ b1 _ = H1
    have s1 := new_same hb1 gq
    have e1 := new_it gq
    clear gq
    refine ⟨by show 6 ≤ sizeLine; decide, fun B hB => ?_⟩
    generalize gq : L2.upd _ B _ = H2
    have s2 := new_same hB gq
    have eB := new_it gq
    clear gq
    have e1 := s2 _ _ e1
    have S2 := s1.trans s2
    have RA := RA.same S2
    have RB := RB.same S2
    have DU := DU.same S2
    clear s1 s2 hb1 hB
    have bad : ∀ x ∈ ([.non, .int (-1), .int (-1 - far), .str "1", .bl true, .ref b1] : List V), Pl H2 x ∧ BadM x := by
      intro x hx
      simp only [List.mem_cons, List.not_mem_nil, or_false] at hx
      rcases hx with rfl | rfl | rfl | rfl | rfl | rfl
      · exact ⟨True.intro, .inl rfl⟩
      · exact ⟨True.intro, .inr ⟨_, rfl, by decide⟩⟩
      · exact ⟨True.intro, .inr ⟨_, rfl, by omega⟩⟩
      · exact ⟨True.intro, .inl rfl⟩
      · exact ⟨True.intro, .inl rfl⟩
      · exact ⟨.inl ⟨_, e1⟩, .inl rfl⟩
    dsimp only [gName]
    refine ⟨_, rfl, _, rfl, _, rfl, .inl ⟨du, _, _, _, rfl, rfl, SqL.of DU.li, rfl, ?_⟩⟩
    refine .inl ⟨.ref r, B, d2, _, 2, rfl, eB, DU.a2, by show 6 ≤ 100; decide, fun x hx => ?_, fun H3 s3 => ?_⟩
    · intro H' Q' Qn s' q'
      exact ⟨r, l, x, _, rfl, RA.same s', (bad x hx).1.same s', .inl ⟨(bad x hx).2, rz_told (t := t) (k := 2) (by decide) q'⟩⟩
    refine ⟨_, rfl, iteF ?_⟩
    refine ⟨_, rfl, _, rfl, _, rfl, .inl ⟨du, _, _, _, rfl, rfl, SqL.of (s3 _ _ DU.li), rfl, ?_⟩⟩
    refine .inl ⟨.ref lk, B, d2, _, 2, rfl, s3 _ _ eB, s3 _ _ DU.a2, by show 6 ≤ 100; decide, fun x hx => ?_, fun H4 s4 => ?_⟩
    · intro H' Q' Qn s' q'
      exact ⟨lk, l2, x, _, rfl, RB.same (s3.trans s'), (bad x hx).1.same (s3.trans s'), .inl ⟨(bad x hx).2, rz_told (t := t) (k := 2) (by decide) q'⟩⟩
    refine ⟨_, rfl, iteF ?_⟩
    have S4 := s3.trans s4
    have SS := S2.trans S4
    have RA := RA.same S4
    have RB := RB.same S4
    have DU := DU.same S4
    clear S2 s3 s4 S4 bad
    refine ⟨_, rfl, by show 1 ≤ sizeLine; decide, fun c1 hc1 => ?_⟩
    generalize gq : L2.upd _ c1 _ = H5
    have s5 := new_same hc1 gq
    have e5 := new_it gq
    clear gq
    refine ⟨by show 1 ≤ sizeLine; decide, fun c2 hc2 => ?_⟩
    generalize gq : L2.upd _ c2 _ = H6
    have s6 := new_same hc2 gq
    have e6 := new_it gq
    clear gq
    refine ⟨by show 5 ≤ sizeLine; decide, fun C hC => ?_⟩
    generalize gq : L2.upd _ C _ = H7
    have s7 := new_same hC gq
    have eC := new_it gq
    clear gq
    have S7 := s5.trans (s6.trans s7)
    have e5 := (s6.trans s7) _ _ e5
    have e6 := s7 _ _ e6
    have SS := SS.trans S7
    have RA := RA.same S7
    have RB := RB.same S7
    have DU := DU.same S7
    clear s5 s6 s7 S7 hc1 hc2 hC
    have bad : ∀ x ∈ ([.non, .str "1", .bl true, .ref c1, .ref c2] : List V), Pl H7 x ∧ wnV x = false := by
      intro x hx
      simp only [List.mem_cons, List.not_mem_nil, or_false] at hx
      rcases hx with rfl | rfl | rfl | rfl | rfl
      · exact ⟨True.intro, rfl⟩
      · exact ⟨True.intro, rfl⟩
      · exact ⟨True.intro, rfl⟩
      · exact ⟨.inl ⟨_, e5⟩, rfl⟩
      · exact ⟨.inr (.inl ⟨_, e6⟩), rfl⟩
    refine ⟨_, rfl, .inl ⟨du, _, _, _, rfl, rfl, SqL.of DU.li, rfl, ?_⟩⟩
    refine .inr (.inl ⟨.ref r, C, d2, _, 2, rfl, eC, DU.a2, by show 5 ≤ 100; decide, fun x hx => ?_, fun H8 s8 => ?_⟩)
    · intro H' Q' Qn s' q'
      exact ⟨.ref r, x, rfl, (bad x hx).1.same s', (bad x hx).2, rz_told (t := t) (k := 2) (by decide) q'⟩
    refine ⟨_, rfl, iteF ?_⟩
    have SS := SS.trans s8
    have RA := RA.same s8
    have RB := RB.same s8
    have DU := DU.same s8
    clear s8 bad e5 e6 eC
    refine ⟨_, rfl, .ref lk, .int 5, rfl, lk, l2, .int 5, ks, rfl, RB, True.intro, .inr ⟨⟨5, rfl, by decide⟩, hkz, rzl_told (t := t) fun r' H9 s9 e9 => ?_⟩⟩
    refine ⟨_, rfl, .inl ⟨du, _, _, _, rfl, rfl, SqL.of (s9 _ _ DU.li), rfl, ?_⟩⟩
    refine .inr ⟨r', d4, _, _, rfl, rfl, SqL.of e9, SqL.of (s9 _ _ DU.a4), due_flat 4, due_flat 4, _, rfl, ?_⟩
    rw [due_eq]
    refine iteF ?_
    refine ⟨_, rfl, by show 2 ≤ sizeLine; decide, fun c3 hc3 => ?_⟩
    generalize gq : L2.upd _ c3 _ = H10
    have s10 := new_same hc3 gq
    have e10 := new_it gq
    clear gq
    have S10 := s9.trans s10
    have SS := SS.trans S10
    have RA := RA.same S10
    have RB := RB.same S10
    have DU := DU.same S10
    clear s9 s10 S10 e9
    refine ⟨_, rfl, .inl ⟨du, _, _, _, rfl, rfl, SqL.of DU.li, rfl, ?_⟩⟩
    refine .inr (.inr ⟨.ref lk, c3, d4, _, 4, rfl, e10, DU.a4, by show 2 ≤ 100; decide, fun x hx => ?_, fun H11 s11 => ?_⟩)
    · intro H' Q' Qn s' q'
      simp only [List.mem_cons, List.not_mem_nil, or_false] at hx
      rcases hx with rfl | rfl
      · exact ⟨lk, l2, 0, ks, rfl, RB.same s', hkz, rzl_told (t := t) q'⟩
      · exact ⟨lk, l2, 1, ks, rfl, RB.same s', hkz, rzl_told (t := t) q'⟩
    refine ⟨_, rfl, iteF ?_⟩
    have SS := SS.trans s11
    have RA := RA.same s11
    clear RB DU e10 hc3 eB e1
    obtain ⟨⟨dr, er⟩, el⟩ := id RA
    refine ⟨_, rfl, r, dr, _, rfl, er, rfl, r, l, _, rfl, RA, fun D H12 hD s12 e12 => ?_⟩
    have SS := SS.trans s12
    clear RA er el s11 hD s12
    dsimp only [gName]
    refine ⟨_, rfl, _, rfl, _, _, rfl, rfl, (by show (0 : Int) < 900; decide), .inl ⟨_, _, rfl, rfl, ?_⟩⟩
    refine ⟨_, rfl, _, rfl, _, _, rfl, rfl, (by show (0 : Int) < 900; decide), _, _, rfl, rfl, by show 4 ≤ sizeLine; decide, fun tp htp => ?_⟩
    generalize gq : L2.upd _ tp _ = H13
    have s13 := new_same htp gq
    have etp := new_it gq
    clear gq
    have SS := SS.trans s13
    have e12 := s13 _ _ e12
    have hm0 : 0 ≤ far % 900 := Int.emod_nonneg _ (by decide)
    have hm1 : far % 900 < 900 := Int.emod_lt_of_pos _ (by decide)
    generalize far % 900 = fm at hm0 hm1 etp ⊢
    refine ⟨tp, rfl, ⟨_, SqT.of etp⟩, ?_⟩
    refine for_tup (xs := [.int 1, .int (-1), .int (2 + fm), .int (-2 - fm)]) (fun i σ H5 => ∃ v1 v2, σ = [some (.ref r), some (.ref lk), some (.ref du), some (.int far), some (.ref B), some (.ref D), v1, v2] ∧ Same H13 H5) ⟨_, _, rfl, Same.refl _⟩ ?_ ?_ ?_
    · rintro i σ H5 hi ⟨v1, v2, rfl, S5⟩
      exact SqT.of (S5 _ _ etp)
    · rintro i x σ H5 hx ⟨v1, v2, rfl, S5⟩
      have hx' : ∃ b, x = .int b ∧ b ≠ 0 ∧ -1000 ≤ b ∧ b ≤ 1000 := by
        have := List.mem_of_getElem? hx
        simp only [List.mem_cons, List.not_mem_nil, or_false] at this
        rcases this with rfl | rfl | rfl | rfl
        · exact ⟨_, rfl, by decide, by decide, by decide⟩
        · exact ⟨_, rfl, by decide, by decide, by decide⟩
        · exact ⟨_, rfl, by omega, by omega, by omega⟩
        · exact ⟨_, rfl, by omega, by omega, by omega⟩
      obtain ⟨b, rfl, hb0, hb1, hb2⟩ := hx'
      have eD := S5 _ _ e12
      dsimp only [gName]
      refine ⟨_, rfl, .inl ⟨D, _, 0, .int h0, rfl, rfl, SqL.of eD, atI_ints (ns := h0 :: hs) (by decide) (by rw [List.length_cons]; omega), ?_⟩⟩
      refine ⟨_, rfl, .inl ⟨_, _, rfl, rfl, by show 1 ≤ sizeLine; decide, fun p hp => ?_⟩⟩
      generalize gq : L2.upd _ p _ = H6
      have s6 := new_same hp gq
      have e6 := new_it gq
      clear gq
      refine ⟨_, rfl, _, rfl, D, _, rfl, SqL.of (s6 _ _ eD), fun c hc => ?_⟩
      rw [show cutV ((h0 :: hs).map V.int) (some 1) none = hs.map V.int from cut_hi (h0 :: hs) 1]
      generalize gq : L2.upd _ c _ = H7
      have s7 := new_same hc gq
      have e7 := new_it gq
      clear gq
      refine .inr ⟨p, c, _, _, rfl, rfl, s7 _ _ e6, e7, by rw [List.length_map]; show 1 + _ ≤ _; omega, fun e he => ?_⟩
      generalize gq : L2.upd _ e _ = H8
      have s8 := new_same he gq
      have e8 := new_it gq
      clear gq
      change H8 e = some (.lst (((h0 + b) :: hs).map V.int)) at e8
      have hsm2 : Small ((h0 + b) :: hs) := fun y hy => by
        rcases List.mem_cons.mp hy with rfl | hy
        · omega
        · exact hsm y hy
      have hsum : ((h0 + b) :: hs).sum = b := by
        rw [List.sum_cons] at hz ⊢
        omega
      refine fun x dx hx hdx ne => ⟨x, e, dx, (h0 + b) :: hs, rfl, upd_same, ?_, by rw [List.length_cons]; omega, by rw [List.length_cons]; omega, hsm2.houses, fun l3 H9 hl3 bt RC => ⟨rfl, ?_⟩⟩
      · rw [upd_ne (ne_of_none e8 hx), upd_ne (ne_of_none e8 hdx)]; exact e8
      have s9 := made_same hx hdx bt
      have S9 := S5.trans (s6.trans (s7.trans (s8.trans s9)))
      dsimp only [gName]
      refine ⟨4, rfl, by decide, by decide, fun D2 hD2 => ?_⟩
      refine comp_range0 (t := 1) (n := 4) (fun _ => .bl true) (by show 4 ≤ sizeLine; decide) (by decide) hD2 (fun k H10 Z hk S10 z => ?_) (fun H10 S10 e10 => ?_)
      · refine ⟨_, rfl, _, rfl, x, l3, _, _, rfl, RC.same S10, by rw [List.length_cons]; omega, by rw [List.length_cons]; omega, by rw [hsum]; exact hb0, fun H11 s11 => ?_⟩
        refine ⟨_, rfl, .inl ⟨rfl, ?_⟩⟩
        rw [hsum]
        have := z H11 s11
        rw [show (decide (V.int b = V.int b)) = true from decide_eq_true rfl]
        exact this
      · refine ⟨D2, List.replicate 4 true, rfl, SqL.of (by rw [e10]; rfl), _, rfl, ?_⟩
        exact iteF ⟨_, _, rfl, S9.trans S10⟩
    rintro σ H5 ⟨v1, v2, rfl, S5⟩
    exact q _ (SS.trans S5)

end
end Ev


end
noncomputable section

set_option Elab.async false
set_option linter.all false
set_option maxRecDepth 100000
set_option maxHeartbeats 0
seal L2.PE L2.PT L2.PS L2.PSs L2.PA L2.PI L2.PG L2.PGs L2.OpR L2.UnR L2.CallR L2.IxR L2.SlR L2.MtR L2.PO L2.PSet L2.PW
namespace Ev
open PySem L2
section
variable {P : Program} {w : World} {K : PySem.W.Frag} {mg : Str → Option Value} {base : Heap} {t : Adr}
/-! ### noughts -/
theorem sum_zero : ∀ n : Nat, (List.replicate n (0 : Int)).sum = 0
  | 0 => rfl
  | n + 1 => by rw [List.replicate_succ, List.sum_cons, sum_zero n]; rfl
theorem zip_zero : ∀ n : Nat, List.zipWith (fun x y => x + y) (List.replicate n (0 : Int)) (List.replicate n 0) = List.replicate n 0
  | 0 => rfl
  | n + 1 => by rw [List.replicate_succ, List.zipWith_cons_cons, zip_zero n]; rfl
theorem runW_zero : ∀ n : Nat, runW 0 (List.replicate n (0 : Int)) = List.replicate n 0
  | 0 => rfl
  | n + 1 => by
    rw [List.replicate_succ, runW]
    show (0 : Int) :: runW (0 + 0) _ = _
    rw [show (0 + 0 : Int) = 0 from rfl, runW_zero n]
theorem fold_zero (f : Int → Int → Int) (a : Int) (h : f a 0 = a) : ∀ n : Nat, (List.replicate n (0 : Int)).foldl f a = a
  | 0 => rfl
  | n + 1 => by rw [List.replicate_succ, List.foldl_cons, h, fold_zero f a h n]
theorem wid_great {n : Nat} : widestI (1000000 :: (-1000000) :: List.replicate n 0) = 500000 := by
  have e : runW 0 (1000000 :: (-1000000) :: List.replicate n 0) = 1000000 :: 0 :: List.replicate n 0 := by
    show (0 + 1000000 : Int) :: (0 + 1000000 + -1000000 : Int) :: runW (0 + 1000000 + -1000000) (List.replicate n 0) = _
    rw [show (0 + 1000000 + -1000000 : Int) = 0 by decide, runW_zero]
    rfl
  unfold widestI
  rw [e, List.foldl_cons, List.foldl_cons, List.foldl_cons, List.foldl_cons, fold_zero max _ (by decide), fold_zero min _ (by decide)]
  decide

/-! ### the law -/
def sp_law (K : PySem.W.Frag) : Sp := fun vs H Q _ => ∃ (a : Addr) (ns : List Int), vs = [.ref a] ∧ SqL K H a (ns.map V.int) ∧ ns.length ≤ 63 ∧ ∀ H', Q (.bl true) H'
abbrev lawK : Nat := 14
theorem due_of (k : Nat) : [V.bl (decide (V.int (k : Int) = V.int 0)), V.bl (decide (V.int (k : Int) = V.int 1)), V.bl (decide (V.int (k : Int) = V.int 2)), V.bl (decide (V.int (k : Int) = V.int 3)), V.bl (decide (V.int (k : Int) = V.int 4)), V.bl false, V.bl true] = dueV k := by
  have e : ∀ j : Nat, decide (V.int (k : Int) = V.int (j : Int)) = decide (k = j) := fun j => by
    by_cases h : k = j
    · subst h; simp
    · rw [decide_eq_false h, decide_eq_false (fun z => h (by injection z with z; omega))]
  have e0 := e 0
  have e1 := e 1
  have e2 := e 2
  have e3 := e 3
  have e4 := e 4
  unfold dueV
  rw [← e0, ← e1, ← e2, ← e3, ← e4]
  rfl
theorem ok_law (T : Txt K mg t) : FnOk P w K mg base CX0 lawK t.f_law t.d_law P_law (sp_law K) := by
  have G_law_cell_at := ok_cell_at (P := P) (w := w) (base := base) T
  have G_law_houses := ok_houses (P := P) (w := w) (base := base) T
  have G_law_rings_right := ok_rings (P := P) (w := w) (base := base) T
  have G_law_tolls_right := ok_tollsR (P := P) (w := w) (base := base) T
  have G_law_lacking_right := ok_lackR (P := P) (w := w) (base := base) T
  have G_law_told := ok_told (P := P) (w := w) (base := base) T (ok_ltog T) T.F_law_together.kp T.B_law_together
  have G_together := ok_together (P := P) (w := w) (base := base) T
  have G_widest := ok_widest (P := P) (w := w) (base := base) T
  have G_along := ok_along (P := P) (w := w) (base := base) T
  have G_Ring_init__ := ok_Ring_init (P := P) (w := w) (base := base) T
  have G_Ring_houses := ok_Ring_houses (P := P) (w := w) (base := base) T
  refine T.F_law.ok sc_law (fun vs H Q E h => ?_) (fun cdv A outer s H vs Q E hr h => ?_)
  · obtain ⟨a, ns, rfl, _⟩ := h
    rfl
  · obtain ⟨a, ns, rfl, hs, hl, q⟩ := h
    refine ⟨_, (pss_cons (ps_set (i := 1) sc_law.nd rfl (by first | exact Or.inl rfl | exact Or.inr rfl) (pe_op op_mod (pe_call G_law_cell_at (hr.mono (by decide)) rfl T.g_law_cell_at T.F_law_cell_at.kp T.B_law_cell_at .nil pass0 (pa_cons (pv 0) (pa_cons pe_int pa_nil se_Constant) se_Name)) (pe_op op_pow pe_int pe_int)))
      (pss_cons (ps_set (i := 2) sc_law.nd rfl (by first | exact Or.inl rfl | exact Or.inr rfl) (pe_lst pa_nil))
      (pss_cons (ps_for PassesOwn.never rfl (pi_range1 rfl T.b_range (pa_cons pe_int pa_nil se_Constant)) (pg_name (i := 3) sc_law.nd rfl (by first | exact Or.inl rfl | exact Or.inr rfl))
      (pss_one (ps_expr (bmK K PySem.F.plainAttrs_list PySem.F.slot_list_append PySem.F.type_list_append mtr_append (pv 2) (pa_cons (pe_lst (pa_cons (pe_cmpR (eqK K hr.units0) (pv 3) pe_int (nomark _)) (pa_cons (pe_cmpR (eqK K hr.units0) (pv 3) pe_int (nomark _)) (pa_cons (pe_cmpR (eqK K hr.units0) (pv 3) pe_int (nomark _)) (pa_cons (pe_cmpR (eqK K hr.units0) (pv 3) pe_int (nomark _)) (pa_cons (pe_cmpR (eqK K hr.units0) (pv 3) pe_int (nomark _)) (pa_cons pe_bl (pa_cons pe_bl pa_nil se_Constant) se_Constant) se_Compare) se_Compare) se_Compare) se_Compare) se_Compare)) pa_nil se_List)))))
      (pss_cons (ps_set (i := 4) sc_law.nd rfl (by first | exact Or.inl rfl | exact Or.inr rfl) (pe_call G_law_houses (hr.mono (by decide)) rfl T.g_law_houses T.F_law_houses.kp T.B_law_houses .nil pass0 (pa_cons (pv 0) (pa_cons pe_int pa_nil se_Constant) se_Name)))
      (pss_cons (ps_par (i := 5) (j := 6) rfl sc_law.nd rfl rfl (by decide) rfl rfl (pa_cons (pe_make T.M_Ring G_Ring_init__ (hr.mono (by decide)) rfl T.g_Ring T.B_Ring_init__ .nil pass0 (pa_cons (pv 4) pa_nil se_Name)) (pa_cons (pe_make T.M_Ring G_Ring_init__ (hr.mono (by decide)) rfl T.g_Ring T.B_Ring_init__ .nil pass0 (pa_cons (pe_op (op_add.or op_cat) (pe_lst (pa_cons (pe_op (op_add.or op_cat) (pe_ix (ixK K) (pv 4) pe_int (fun _ _ => rfl)) pe_int) pa_nil se_BinOp)) (pe_slice (slK K) (pv 4) (po_some pe_int) po_none)) pa_nil se_BinOp)) pa_nil se_Call) se_Call) (by with_unfolding_all rfl))
      (pss_cons (ps_if (PW.pt (pw_or (pt_not (pt_val (pe_call G_law_rings_right (hr.mono (by decide)) rfl T.g_law_rings_right T.F_law_rings_right.kp T.B_law_rings_right .nil pass0 (pa_cons (pe_ix (ixK K) (pv 2) pe_int (fun _ _ => rfl)) (pa_cons (pv 1) pa_nil se_Name) se_Subscript)))) (pw_or1 (pt_not (pt_val (pe_call G_law_tolls_right (hr.mono (by decide)) rfl T.g_law_tolls_right T.F_law_tolls_right.kp T.B_law_tolls_right .nil pass0 (pa_cons (pv 5) (pa_cons (pv 6) (pa_cons (pv 2) (pa_cons (pv 1) pa_nil se_Name) se_Name) se_Name) se_Name)))))))
      (pss_one (ps_ret pe_bl))
      pss_nil)
      (pss_cons (ps_if (pt_not (pt_val (pe_call G_law_lacking_right (hr.mono (by decide)) rfl T.g_law_lacking_right T.F_law_lacking_right.kp T.B_law_lacking_right .nil pass0 (pa_cons (pv 5) (pa_cons (pv 6) (pa_cons (pv 2) (pa_cons (pv 1) pa_nil se_Name) se_Name) se_Name) se_Name))))
      (pss_one (ps_ret pe_bl))
      pss_nil)
      (pss_cons (ps_set (i := 7) sc_law.nd rfl (by first | exact Or.inl rfl | exact Or.inr rfl) (pe_op (op_mul.or op_rep) (pe_lst (pa_cons pe_int pa_nil se_Constant)) (pe_op op_sub (pe_callB (lenK K) (by rfl) T.b_len bt_len (pa_cons (pv 4) pa_nil se_Name)) pe_int)))
      (pss_cons (ps_set (i := 8) sc_law.nd rfl (by first | exact Or.inl rfl | exact Or.inr rfl) (pe_make T.M_Ring G_Ring_init__ (hr.mono (by decide)) rfl T.g_Ring T.B_Ring_init__ .nil pass0 (pa_cons (pe_op (op_add.or op_cat) (pe_lst (pa_cons pe_int (pa_cons (pe_un un_neg pe_int) pa_nil se_UnaryOp) se_Constant)) (pv 7)) pa_nil se_BinOp)))
      (pss_cons (ps_if (pt_cmpR (neK K hr.units0) (pe_call G_law_told (hr.mono (by decide)) rfl T.g_law_told T.F_law_told.kp T.B_law_told .nil pass0 (pa_cons (pe_glob (v := .ref _) rfl T.g_law_together rfl) (pa_cons (pv 5) (pa_cons (pe_make T.M_Ring G_Ring_init__ (hr.mono (by decide)) rfl T.g_Ring T.B_Ring_init__ .nil pass0 (pa_cons (pe_op (op_add.or op_cat) (pe_lst (pa_cons pe_int (pa_cons pe_int (pa_cons pe_int pa_nil se_Constant) se_Constant) se_Constant)) (pv 7)) pa_nil se_BinOp)) pa_nil se_Call) se_Name) se_Name)) (pe_ix (ixK K) (pv 2) pe_int (fun _ _ => rfl)) (nomark _))
      (pss_one (ps_ret pe_bl))
      pss_nil)
      (pss_cons (ps_if (pt_cmpR (neK K hr.units0) (pe_call G_law_told (hr.mono (by decide)) rfl T.g_law_told T.F_law_told.kp T.B_law_told .nil pass0 (pa_cons (pe_glob (v := .ref _) rfl T.g_law_together rfl) (pa_cons (pe_make T.M_Ring G_Ring_init__ (hr.mono (by decide)) rfl T.g_Ring T.B_Ring_init__ .nil pass0 (pa_cons (pe_op (op_add.or op_cat) (pe_lst (pa_cons pe_int (pa_cons pe_int (pa_cons pe_int pa_nil se_Constant) se_Constant) se_Constant)) (pv 7)) pa_nil se_BinOp)) (pa_cons (pv 5) pa_nil se_Name) se_Call) se_Name)) (pe_ix (ixK K) (pv 2) pe_int (fun _ _ => rfl)) (nomark _))
      (pss_one (ps_ret pe_bl))
      pss_nil)
      (pss_cons (ps_for PassesOwn.never rfl (piT K (pe_tup (pa_cons (pe_lst (pa_cons pe_int (pa_cons pe_int pa_nil se_Constant) se_Constant)) (pa_cons (pe_lst (pa_cons pe_int (pa_cons (pe_un un_neg pe_int) pa_nil se_UnaryOp) se_Constant)) pa_nil se_List) se_List))) (pg_name (i := 9) sc_law.nd rfl (by first | exact Or.inl rfl | exact Or.inr rfl))
      (pss_one (ps_if (pt_cmpR (neK K hr.units0) (pe_call G_law_told (hr.mono (by decide)) rfl T.g_law_told T.F_law_told.kp T.B_law_told .nil pass0 (pa_cons (pe_glob (v := .ref _) rfl T.g_law_together rfl) (pa_cons (pv 8) (pa_cons (pe_make T.M_Ring G_Ring_init__ (hr.mono (by decide)) rfl T.g_Ring T.B_Ring_init__ .nil pass0 (pa_cons (pe_op (op_add.or op_cat) (pv 9) (pv 7)) pa_nil se_BinOp)) pa_nil se_Call) se_Name) se_Name)) (pe_ix (ixK K) (pv 2) pe_int (fun _ _ => rfl)) (nomark _))
      (pss_one (ps_ret pe_bl))
      pss_nil)))
      (pss_cons (ps_if (pt_cmpR (neK K hr.units0) (pe_slice (slK K) (pe_meth0 (pe_call G_together (hr.mono (by decide)) rfl T.g_together T.F_together.kp T.B_together .nil pass0 (pa_cons (pv 8) (pa_cons (pe_make T.M_Ring G_Ring_init__ (hr.mono (by decide)) rfl T.g_Ring T.B_Ring_init__ .nil pass0 (pa_cons (pe_op (op_add.or op_cat) (pe_lst (pa_cons (pe_un un_neg pe_int) (pa_cons pe_int pa_nil se_Constant) se_UnaryOp)) (pv 7)) pa_nil se_BinOp)) pa_nil se_Call) se_Name)) T.cl_Ring T.m_Ring_houses G_Ring_houses (hr.mono (by decide)) T.B_Ring_houses .nil pass0) po_none (po_some pe_int)) (pe_lst (pa_cons pe_int (pa_cons (pe_un un_neg pe_int) pa_nil se_UnaryOp) se_Constant)) (nomark _))
      (pss_one (ps_ret pe_bl))
      pss_nil)
      (pss_one (ps_ret (pe_and (pe_cmpR (eqK K hr.units0) (pe_meth0 (pv 5) T.cl_Ring T.m_Ring_houses G_Ring_houses (hr.mono (by decide)) T.B_Ring_houses .nil pass0) (pv 4) (nomark _)) (pe_and (pe_cmpR (eqK K hr.units0) (pe_call G_widest (hr.mono (by decide)) rfl T.g_widest T.F_widest.kp T.B_widest .nil pass0 (pa_cons (pv 8) pa_nil se_Name)) pe_int (nomark _)) (pe_one (pe_cmpR (eqK K hr.units0) (pe_slice (slK K) (pe_call G_along (hr.mono (by decide)) rfl T.g_along T.F_along.kp T.B_along .nil pass0 (pa_cons (pv 8) pa_nil se_Name)) po_none (po_some pe_int)) (pe_lst (pa_cons pe_int (pa_cons pe_int pa_nil se_Constant) se_Constant)) (nomark _)))))))))))))))))))), ?_⟩
    have hbig := big
    refine ⟨_, rfl, a, ns, 0, rfl, hs, by decide, ?_⟩
    refine ⟨_, _, rfl, rfl, ⟨by decide, by decide, by decide⟩, _, _, rfl, rfl, (by show (0 : Int) < 10 ^ 6; decide), ?_⟩
    dsimp only [gName]
    generalize hfar : ns.getD (Int.toNat 0) 0 % 10 ^ Int.toNat 6 = far
    have hf0 : 0 ≤ far := by rw [← hfar]; exact Int.emod_nonneg _ (by decide)
    clear hfar
    refine ⟨by show 0 ≤ sizeLine; decide, fun g hg => ?_⟩
    have s0 : Same H (L2.upd H g (.lst [])) := same_upd hg
    refine ⟨5, rfl, by decide, by decide, ?_⟩
    refine for_range0 (n := 5) (fun i σ H5 => ∃ v, ∃ ds : List Addr, σ = [some (.ref a), some (.int far), some (.ref g), v, none, none, none, none, none, none] ∧ Same H H5 ∧ ds.length = i ∧ H5 g = some (.lst (ds.map V.ref)) ∧ ∀ j b, ds[j]? = some b → H5 b = some (.lst (dueV j))) ⟨none, [], rfl, s0, rfl, upd_same, fun j b z => by simp at z⟩ ?_ ?_
    · rintro i σ H5 hi ⟨v, ds, rfl, S5, hdl, eg, eds⟩
      dsimp only [gName]
      refine ⟨_, rfl, .inl ⟨rfl, _, SqL.of eg⟩, ?_⟩
      refine ⟨_, rfl, .inl ⟨rfl, _, rfl, .inl ⟨rfl, _, rfl, .inl ⟨rfl, _, rfl, .inl ⟨rfl, _, rfl, .inl ⟨rfl, ?_⟩⟩⟩⟩⟩⟩
      refine ⟨by show 7 ≤ sizeLine; decide, fun p hp => ?_⟩
      rw [due_of]
      generalize gq : L2.upd _ p _ = H6
      have s6 := new_same hp gq
      have e6 := new_it gq
      clear gq
      have eg6 := s6 _ _ eg
      refine ⟨g, _, _, rfl, rfl, eg6, by rw [List.length_map]; omega, ?_⟩
      have ng : ∀ b j, H6 b = some (.lst (dueV j)) → b ≠ g := fun b j z => ne_of z eg6 (fun y => by
        injection y with y
        cases ds with
        | nil => simp [dueV] at y
        | cons d ds => simp [dueV] at y)
      refine ⟨_, ds ++ [p], rfl, (S5.trans s6).upd hg, by rw [List.length_append]; show _ + 1 = _; omega, ?_, fun j b hj => ?_⟩
      · rw [upd_same, List.map_append]; rfl
      · by_cases hj' : j < ds.length
        · rw [List.getElem?_append_left hj'] at hj
          have z := s6 _ _ (eds j b hj)
          rw [upd_ne (ng b j z)]; exact z
        · rw [List.getElem?_append_right (by omega)] at hj
          have hj0 : j - ds.length = 0 := by
            cases hq : j - ds.length with
            | zero => rfl
            | succ m => rw [hq] at hj; simp at hj
          rw [hj0] at hj
          have hb : p = b := by simpa using hj
          have hji : j = i := by omega
          subst hb hji
          rw [upd_ne (ng p j e6)]; exact e6
    rintro σ H5 ⟨v, ds, rfl, S5, hdl, eg, eds⟩
    obtain ⟨d0, d1, d2, d3, d4, rfl⟩ : ∃ d0 d1 d2 d3 d4, ds = [d0, d1, d2, d3, d4] := by
      match ds, hdl with
      | [x0, x1, x2, x3, x4], _ => exact ⟨x0, x1, x2, x3, x4, rfl⟩
    have DU : DueAt H5 g d0 d1 d2 d3 d4 := ⟨eg, eds 0 d0 rfl, eds 1 d1 rfl, eds 2 d2 rfl, eds 3 d3 rfl, eds 4 d4 rfl⟩
    clear eg eds hdl
    refine ⟨_, rfl, a, ns, 6, rfl, S5.seq hs, hl, fun D H6 hD s6 eD => ?_⟩
    have DU := DU.same s6
    have hlen := houses_length ns 6
    have sm := houses_small (ns := ns) (first := 6) (by decide)
    have hz := houses_sum ns 6
    have h00 := house0 (ns := ns) (first := 6) (by decide)
    generalize housesI ns 6 = HS at eD hlen sm hz h00
    obtain ⟨h0, h1, hs', rfl⟩ : ∃ h0 h1 hs', HS = h0 :: h1 :: hs' := by
      match HS, hlen with
      | x :: y :: r, _ => exact ⟨x, y, r, rfl⟩
    have hl' : hs'.length ≤ 63 := by rw [List.length_cons, List.length_cons] at hlen; omega
    change -500000 ≤ h0 ∧ h0 ≤ 500000 at h00
    have hsm : Small (h0 :: h1 :: hs') := fun x hx => by have := sm x hx; omega
    have hsm1 : Small (h1 :: hs') := fun x hx => hsm x (List.mem_cons_of_mem _ hx)
    have hsmk : Small ((h0 + 1) :: h1 :: hs') := fun x hx => by
      rcases List.mem_cons.mp hx with rfl | hx
      · omega
      · exact hsm1 x hx
    have hkz : ((h0 + 1) :: h1 :: hs').sum ≠ 0 := by rw [List.sum_cons] at hz ⊢; omega
    clear sm hlen S5 hs
    dsimp only [gName]
    refine ⟨_, rfl, fun r1 dx1 hr1 hd1 nr1 => ⟨r1, D, dx1, _, rfl, upd_same, ?_, by simp, by simp; omega, hsm.houses, fun l1 H7 hl1 bt1 RA => ⟨rfl, ?_⟩⟩⟩
    · rw [upd_ne (ne_of_none eD hr1), upd_ne (ne_of_none eD hd1)]; exact eD
    have s7 := made_same hr1 hd1 bt1
    have eD := s7 _ _ eD
    have DU := DU.same s7
    clear hr1 hd1 bt1 hl1 s7 s6 hD nr1
    refine ⟨_, rfl, .inl ⟨D, _, 0, .int h0, rfl, rfl, SqL.of eD, atI_ints (ns := h0 :: h1 :: hs') (by decide) (by rw [List.length_cons]; omega), .inl ⟨_, _, rfl, rfl, by show 1 ≤ sizeLine; decide, fun p hp => ?_⟩⟩⟩
    generalize gq : L2.upd _ p _ = H8
    have s8 := new_same hp gq
    have e8 := new_it gq
    clear gq
    refine ⟨_, rfl, _, rfl, D, _, rfl, SqL.of (s8 _ _ eD), fun c hc => ?_⟩
    rw [show cutV ((h0 :: h1 :: hs').map V.int) (some 1) none = (h1 :: hs').map V.int from cut_hi (h0 :: h1 :: hs') 1]
    generalize gq : L2.upd _ c _ = H9
    have s9 := new_same hc gq
    have e9 := new_it gq
    clear gq
    refine .inr ⟨p, c, _, _, rfl, rfl, s9 _ _ e8, e9, by simp only [List.length_map, List.length_cons, List.length_nil]; omega, fun e he => ?_⟩
    generalize gq : L2.upd _ e _ = H10
    have s10 := new_same he gq
    have e10 := new_it gq
    clear gq
    change H10 e = some (.lst (((h0 + 1) :: h1 :: hs').map V.int)) at e10
    refine fun r2 dx2 hr2 hd2 nr2 => ⟨r2, e, dx2, (h0 + 1) :: h1 :: hs', rfl, upd_same, ?_, by simp, by simp; omega, hsmk.houses, fun l2 H11 hl2 bt2 RB => ⟨rfl, ?_⟩⟩
    · rw [upd_ne (ne_of_none e10 hr2), upd_ne (ne_of_none e10 hd2)]; exact e10
    have S11 := s8.trans (s9.trans (s10.trans (made_same hr2 hd2 bt2)))
    have RA := RA.same S11
    have DU := DU.same S11
    have eD := S11 _ _ eD
    clear S11 s8 s9 s10 hp hc he e8 e9 e10 hr2 hd2 bt2 hl2 nr2
    refine ⟨_, _, rfl, ?_⟩
    refine ⟨_, rfl, .inl ⟨g, _, _, _, rfl, rfl, SqL.of DU.li, rfl, _, rfl, d0, far, rfl, DU.a0, hf0, fun H12 s12 => ⟨_, rfl, iteF ?_⟩⟩⟩
    refine ⟨_, rfl, _, rfl, _, rfl, _, rfl, r1, l1, r2, l2, g, d0, d1, d2, d3, d4, _, _, far, rfl, RA.same s12, RB.same s12, DU.same s12, by simp, by simp, by simp; omega, hsm, hz, hkz, hf0, fun H13 s13 => ⟨_, rfl, iteF ?_⟩⟩
    have S13 := s12.trans s13
    have RA := RA.same S13
    have RB := RB.same S13
    have DU := DU.same S13
    have eD := S13 _ _ eD
    clear S13 s12 s13
    refine ⟨_, rfl, _, rfl, _, rfl, _, rfl, r1, l1, r2, l2, g, d0, d1, d2, d3, d4, h0, h1 :: hs', _, far, rfl, RA, RB, DU, by simp, by simp; omega, hsm1, by omega, by omega, hz, hkz, hf0, fun H14 s14 => ⟨_, rfl, iteF ?_⟩⟩
    have RA := RA.same s14
    have DU := DU.same s14
    have eD := s14 _ _ eD
    clear RB s14 hkz hsmk
    refine ⟨by show 1 ≤ sizeLine; decide, fun t0 ht0 => ?_⟩
    generalize gq : L2.upd _ t0 _ = H15
    have s15 := new_same ht0 gq
    have f0 := new_it gq
    clear gq
    refine ⟨_, rfl, D, _, rfl, .inl (SqL.of (s15 _ _ eD)), _, _, rfl, rfl, .inr ⟨t0, _, _, rfl, rfl, f0, by rw [List.length_map, List.length_cons, List.length_cons]; omega, by rw [List.length_map, List.length_cons, List.length_cons]; omega, by simp only [List.length_map, List.length_cons, List.length_nil]; omega, fun z hz' => ?_⟩⟩
    rw [flat1, show (((h0 :: h1 :: hs').map V.int).length - 2 : Int).toNat = hs'.length by rw [List.length_map, List.length_cons, List.length_cons]; omega, show (List.replicate hs'.length (V.int 0)) = (List.replicate hs'.length (0 : Int)).map V.int from List.map_replicate.symm]
    generalize gq : L2.upd _ z _ = H16
    have s16 := new_same hz' gq
    have ez := new_it gq
    clear gq
    have S16 := s15.trans s16
    have RA := RA.same S16
    have DU := DU.same S16
    have eD := S16 _ _ eD
    clear S16 s15 s16 f0 ht0 hz'
    dsimp only [gName]
    have n0 : ∀ x ∈ List.replicate hs'.length (0 : Int), x = 0 := fun x hx => List.eq_of_mem_replicate hx
    have smz : ∀ {u v : Int}, -1000000 ≤ u → u ≤ 1000000 → -1000000 ≤ v → v ≤ 1000000 → Small (u :: v :: List.replicate hs'.length 0) := fun {u v} a1 a2 a3 a4 x hx => by
      rcases List.mem_cons.mp hx with rfl | hx
      · exact ⟨a1, a2⟩
      rcases List.mem_cons.mp hx with rfl | hx
      · exact ⟨a3, a4⟩
      · rw [n0 x hx]; decide
    have smg : Small (1000000 :: (-1000000) :: List.replicate hs'.length 0) := smz (by decide) (by decide) (by decide) (by decide)
    have sm3 : Small (0 :: 0 :: 0 :: List.replicate hs'.length 0) := fun x hx => by
      rcases List.mem_cons.mp hx with rfl | hx
      · decide
      · exact smz (by decide) (by decide) (by decide) (by decide) x hx
    refine ⟨_, rfl, by show 2 ≤ sizeLine; decide, fun pG hpG => ?_⟩
    generalize gq : L2.upd _ pG _ = HaG
    have saG := new_same hpG gq
    have eaG := new_it gq
    clear gq
    refine ⟨_, rfl, .inr ⟨pG, z, _, _, rfl, rfl, eaG, saG _ _ ez, by simp only [List.length_map, List.length_cons, List.length_nil, List.length_replicate]; omega, fun eG heG => ?_⟩⟩
    generalize gq : L2.upd _ eG _ = HbG
    have sbG := new_same heG gq
    have ebG := new_it gq
    clear gq
    change HbG eG = some (.lst ((1000000 :: (-1000000) :: List.replicate hs'.length 0).map V.int)) at ebG
    refine fun xG dxG hxG hdxG neG => ⟨xG, eG, dxG, 1000000 :: (-1000000) :: List.replicate hs'.length 0, rfl, upd_same, ?_, by simp only [List.length_cons, List.length_replicate]; omega, by simp only [List.length_cons, List.length_replicate]; omega, Small.houses smg, fun lG HcG hlG btG RG => ⟨rfl, ?_⟩⟩
    · rw [upd_ne (ne_of_none ebG hxG), upd_ne (ne_of_none ebG hdxG)]; exact ebG
    have SG := saG.trans (sbG.trans (made_same hxG hdxG btG))
    clear hxG hdxG btG hlG neG ebG sbG heG
    clear saG eaG hpG
    have RA := RA.same SG
    have DU := DU.same SG
    have eD := SG _ _ eD
    have ez := SG _ _ ez
    clear SG
    dsimp only [gName]
    refine ⟨_, rfl, ?_⟩
    refine ⟨by show 3 ≤ sizeLine; decide, fun pX1 hpX1 => ?_⟩
    generalize gq : L2.upd _ pX1 _ = HaX1
    have saX1 := new_same hpX1 gq
    have eaX1 := new_it gq
    clear gq
    refine ⟨_, rfl, .inr ⟨pX1, z, _, _, rfl, rfl, eaX1, saX1 _ _ ez, by simp only [List.length_map, List.length_cons, List.length_nil, List.length_replicate]; omega, fun eX1 heX1 => ?_⟩⟩
    generalize gq : L2.upd _ eX1 _ = HbX1
    have sbX1 := new_same heX1 gq
    have ebX1 := new_it gq
    clear gq
    change HbX1 eX1 = some (.lst ((0 :: 0 :: 0 :: List.replicate hs'.length 0).map V.int)) at ebX1
    refine fun xX1 dxX1 hxX1 hdxX1 neX1 => ⟨xX1, eX1, dxX1, 0 :: 0 :: 0 :: List.replicate hs'.length 0, rfl, upd_same, ?_, by simp only [List.length_cons, List.length_replicate]; omega, by simp only [List.length_cons, List.length_replicate]; omega, Small.houses sm3, fun lX1 HcX1 hlX1 btX1 RX1 => ⟨rfl, ?_⟩⟩
    · rw [upd_ne (ne_of_none ebX1 hxX1), upd_ne (ne_of_none ebX1 hdxX1)]; exact ebX1
    have SX1 := saX1.trans (sbX1.trans (made_same hxX1 hdxX1 btX1))
    clear hxX1 hdxX1 btX1 hlX1 neX1 ebX1 sbX1 heX1
    clear saX1 eaX1 hpX1
    refine ⟨.ref r1, .ref xX1, rfl, r1, l1, xX1, lX1, _, _, rfl, RA.same SX1, RX1, by simp only [List.length_cons]; omega, .inl (by simp only [List.length_cons, List.length_replicate]; omega), rz_told (t := t) (k := 3) (by decide) fun r' H' s' e' => ?_⟩
    have S1 := SX1.trans s'
    have RA := RA.same S1
    have RG := RG.same S1
    have DU := DU.same S1
    have eD := S1 _ _ eD
    have ez := S1 _ _ ez
    refine ⟨_, rfl, .inl ⟨g, _, _, _, rfl, rfl, SqL.of DU.li, rfl, ?_⟩⟩
    refine .inr ⟨r', d3, _, _, rfl, rfl, SqL.of e', SqL.of DU.a3, due_flat 3, due_flat 3, _, rfl, ?_⟩
    rw [due_eq]
    refine iteF ?_
    clear S1 SX1 RX1 s' e'
    refine ⟨by show 3 ≤ sizeLine; decide, fun pX2 hpX2 => ?_⟩
    generalize gq : L2.upd _ pX2 _ = HaX2
    have saX2 := new_same hpX2 gq
    have eaX2 := new_it gq
    clear gq
    refine ⟨_, rfl, .inr ⟨pX2, z, _, _, rfl, rfl, eaX2, saX2 _ _ ez, by simp only [List.length_map, List.length_cons, List.length_nil, List.length_replicate]; omega, fun eX2 heX2 => ?_⟩⟩
    generalize gq : L2.upd _ eX2 _ = HbX2
    have sbX2 := new_same heX2 gq
    have ebX2 := new_it gq
    clear gq
    change HbX2 eX2 = some (.lst ((0 :: 0 :: 0 :: List.replicate hs'.length 0).map V.int)) at ebX2
    refine fun xX2 dxX2 hxX2 hdxX2 neX2 => ⟨xX2, eX2, dxX2, 0 :: 0 :: 0 :: List.replicate hs'.length 0, rfl, upd_same, ?_, by simp only [List.length_cons, List.length_replicate]; omega, by simp only [List.length_cons, List.length_replicate]; omega, Small.houses sm3, fun lX2 HcX2 hlX2 btX2 RX2 => ⟨rfl, ?_⟩⟩
    · rw [upd_ne (ne_of_none ebX2 hxX2), upd_ne (ne_of_none ebX2 hdxX2)]; exact ebX2
    have SX2 := saX2.trans (sbX2.trans (made_same hxX2 hdxX2 btX2))
    clear hxX2 hdxX2 btX2 hlX2 neX2 ebX2 sbX2 heX2
    clear saX2 eaX2 hpX2
    refine ⟨_, rfl, .ref xX2, .ref r1, rfl, xX2, lX2, r1, l1, _, _, rfl, RX2, RA.same SX2, by simp only [List.length_cons, List.length_replicate]; omega, .inl (by simp only [List.length_cons, List.length_replicate]; omega), rz_told (t := t) (k := 3) (by decide) fun r' H' s' e' => ?_⟩
    have S1 := SX2.trans s'
    have RA := RA.same S1
    have RG := RG.same S1
    have DU := DU.same S1
    have eD := S1 _ _ eD
    have ez := S1 _ _ ez
    refine ⟨_, rfl, .inl ⟨g, _, _, _, rfl, rfl, SqL.of DU.li, rfl, ?_⟩⟩
    refine .inr ⟨r', d3, _, _, rfl, rfl, SqL.of e', SqL.of DU.a3, due_flat 3, due_flat 3, _, rfl, ?_⟩
    rw [due_eq]
    refine iteF ?_
    clear S1 SX2 RX2 s' e'
    refine ⟨by show 2 ≤ sizeLine; decide, fun q1 hq1 => ?_⟩
    generalize gq : L2.upd _ q1 _ = Hq1
    have sq1 := new_same hq1 gq
    have eq1 := new_it gq
    clear gq
    refine ⟨_, rfl, by show 2 ≤ sizeLine; decide, fun q2 hq2 => ?_⟩
    generalize gq : L2.upd _ q2 _ = Hq2
    have sq2 := new_same hq2 gq
    have eq2 := new_it gq
    clear gq
    refine ⟨by show 2 ≤ sizeLine; decide, fun tp htp => ?_⟩
    generalize gq : L2.upd _ tp _ = Hq3
    have sq3 := new_same htp gq
    have etp := new_it gq
    clear gq
    have S1 := sq1.trans (sq2.trans sq3)
    have eq1 := (sq2.trans sq3) _ _ eq1
    have eq2 := sq3 _ _ eq2
    have RA := RA.same S1
    have RG := RG.same S1
    have DU := DU.same S1
    have eD := S1 _ _ eD
    have ez := S1 _ _ ez
    clear S1 sq1 sq2 sq3 hq1 hq2 htp
    refine ⟨tp, rfl, ⟨_, SqT.of etp⟩, ?_⟩
    refine for_tup (xs := [.ref q1, .ref q2]) (fun i σ H5 => ∃ v9, σ = [some (.ref a), some (.int far), some (.ref g), v, some (.ref D), some (.ref r1), some (.ref r2), some (.ref z), some (.ref xG), v9] ∧ Same Hq3 H5) ⟨_, rfl, Same.refl _⟩ ?_ ?_ ?_
    · rintro i σ H5 hi ⟨v9, rfl, S5⟩
      exact SqT.of (S5 _ _ etp)
    · rintro i x σ H5 hx ⟨v9, rfl, S5⟩
      have hx' : ∃ p u w, x = .ref p ∧ Hq3 p = some (.lst [.int u, .int w]) ∧ (-1 ≤ u ∧ u ≤ 1 ∧ -1 ≤ w ∧ w ≤ 1) ∧ (addI (1000000 :: (-1000000) :: List.replicate hs'.length 0) (u :: w :: List.replicate hs'.length 0)).all houseB = false := by
        have := List.mem_of_getElem? hx
        simp only [List.mem_cons, List.not_mem_nil, or_false] at this
        rcases this with rfl | rfl
        · refine ⟨q1, 1, 0, rfl, eq1, by decide, ?_⟩
          show (houseB (1000000 + 1) && _) = false
          rw [show houseB (1000000 + 1) = false by decide, Bool.false_and]
        · refine ⟨q2, 0, -1, rfl, eq2, by decide, ?_⟩
          show (houseB (1000000 + 0) && (houseB (-1000000 + -1) && _)) = false
          rw [show houseB (-1000000 + -1) = false by decide, Bool.false_and, Bool.and_false]
      obtain ⟨p, u, w', rfl, ep, hb, hbad⟩ := hx'
      dsimp only [gName]
      refine ⟨_, rfl, ?_⟩
      refine ⟨_, rfl, _, rfl, .inr ⟨p, z, _, _, rfl, rfl, S5 _ _ ep, S5 _ _ ez, by simp only [List.length_map, List.length_cons, List.length_nil, List.length_replicate]; omega, fun eX3 heX3 => ?_⟩⟩
      generalize gq : L2.upd _ eX3 _ = HbX3
      have sbX3 := new_same heX3 gq
      have ebX3 := new_it gq
      clear gq
      change HbX3 eX3 = some (.lst ((u :: w' :: List.replicate hs'.length 0).map V.int)) at ebX3
      refine fun xX3 dxX3 hxX3 hdxX3 neX3 => ⟨xX3, eX3, dxX3, u :: w' :: List.replicate hs'.length 0, rfl, upd_same, ?_, by simp only [List.length_cons, List.length_replicate]; omega, by simp only [List.length_cons, List.length_replicate]; omega, Small.houses (smz (by omega) (by omega) (by omega) (by omega)), fun lX3 HcX3 hlX3 btX3 RX3 => ⟨rfl, ?_⟩⟩
      · rw [upd_ne (ne_of_none ebX3 hxX3), upd_ne (ne_of_none ebX3 hdxX3)]; exact ebX3
      have SX3 := (sbX3.trans (made_same hxX3 hdxX3 btX3))
      clear hxX3 hdxX3 btX3 hlX3 neX3 ebX3 sbX3 heX3
      have S6 := S5.trans SX3
      refine ⟨.ref xG, .ref xX3, rfl, xG, lG, xX3, lX3, _, _, rfl, RG.same S6, RX3, by simp only [List.length_cons, List.length_replicate]; omega, .inr ⟨by simp only [List.length_cons, List.length_replicate], hbad⟩, rz_told (t := t) (k := 3) (by decide) fun r' H' s' e' => ?_⟩
      have DU := DU.same (S6.trans s')
      refine ⟨_, rfl, .inl ⟨g, _, _, _, rfl, rfl, SqL.of DU.li, rfl, ?_⟩⟩
      refine .inr ⟨r', d3, _, _, rfl, rfl, SqL.of e', SqL.of DU.a3, due_flat 3, due_flat 3, _, rfl, ?_⟩
      rw [due_eq]
      exact iteF ⟨_, rfl, S6.trans s'⟩
    rintro σ H5 ⟨v9, rfl, S5⟩
    have RA := RA.same S5
    have RG := RG.same S5
    have eD := S5 _ _ eD
    have ez := S5 _ _ ez
    clear S5 etp eq1 eq2 DU
    refine ⟨_, rfl, ?_⟩
    refine ⟨_, rfl, by show 2 ≤ sizeLine; decide, fun pX4 hpX4 => ?_⟩
    generalize gq : L2.upd _ pX4 _ = HaX4
    have saX4 := new_same hpX4 gq
    have eaX4 := new_it gq
    clear gq
    refine ⟨_, rfl, .inr ⟨pX4, z, _, _, rfl, rfl, eaX4, saX4 _ _ ez, by simp only [List.length_map, List.length_cons, List.length_nil, List.length_replicate]; omega, fun eX4 heX4 => ?_⟩⟩
    generalize gq : L2.upd _ eX4 _ = HbX4
    have sbX4 := new_same heX4 gq
    have ebX4 := new_it gq
    clear gq
    change HbX4 eX4 = some (.lst (((-1) :: 1 :: List.replicate hs'.length 0).map V.int)) at ebX4
    refine fun xX4 dxX4 hxX4 hdxX4 neX4 => ⟨xX4, eX4, dxX4, (-1) :: 1 :: List.replicate hs'.length 0, rfl, upd_same, ?_, by simp only [List.length_cons, List.length_replicate]; omega, by simp only [List.length_cons, List.length_replicate]; omega, Small.houses (smz (by decide) (by decide) (by decide) (by decide)), fun lX4 HcX4 hlX4 btX4 RX4 => ⟨rfl, ?_⟩⟩
    · rw [upd_ne (ne_of_none ebX4 hxX4), upd_ne (ne_of_none ebX4 hdxX4)]; exact ebX4
    have SX4 := saX4.trans (sbX4.trans (made_same hxX4 hdxX4 btX4))
    clear hxX4 hdxX4 btX4 hlX4 neX4 ebX4 sbX4 heX4
    clear saX4 eaX4 hpX4
    have hadd : addI (1000000 :: (-1000000) :: List.replicate hs'.length 0) ((-1) :: 1 :: List.replicate hs'.length 0) = 999999 :: (-999999) :: List.replicate hs'.length 0 := by
      show (1000000 + -1 : Int) :: (-1000000 + 1 : Int) :: List.zipWith (fun x y => x + y) (List.replicate hs'.length 0) (List.replicate hs'.length 0) = _
      rw [zip_zero]
      rfl
    refine ⟨xG, lG, xX4, lX4, _, _, rfl, RG.same SX4, RX4, by simp only [List.length_cons, List.length_replicate], by simp only [List.length_cons, List.length_replicate]; omega, by simp only [List.length_cons, List.length_replicate]; omega, by rw [hadd]; exact smz (by decide) (by decide) (by decide) (by decide), fun p l' H6 hp hl' s6 RP => ?_⟩
    rw [hadd] at RP
    obtain ⟨⟨dp, ep⟩, elp⟩ := id RP
    refine ⟨p, dp, _, rfl, ep, rfl, p, l', _, rfl, RP, fun F H7 hF s7 eF => ?_⟩
    refine ⟨_, rfl, F, _, rfl, SqL.of eF, fun c hc => ?_⟩
    rw [show cutV ((999999 :: (-999999) :: List.replicate hs'.length 0).map V.int) none (some 2) = ([999999, -999999] : List Int).map V.int from cut_lo (999999 :: (-999999) :: List.replicate hs'.length 0) 2]
    generalize gq : L2.upd _ c _ = H8
    have s8 := new_same hc gq
    have ec := new_it gq
    clear gq
    refine ⟨_, rfl, by show 2 ≤ sizeLine; decide, fun q3 hq3 => ?_⟩
    generalize gq : L2.upd _ q3 _ = H9
    have s9 := new_same hq3 gq
    have e9 := new_it gq
    clear gq
    refine .inr ⟨c, q3, _, _, rfl, rfl, SqL.of (s9 _ _ ec), SqL.of e9, by decide, by decide, _, rfl, ?_⟩
    refine iteF ?_
    have S9 := SX4.trans (s6.trans (s7.trans (s8.trans s9)))
    have RA := RA.same S9
    have RG := RG.same S9
    have eD := S9 _ _ eD
    clear S9 SX4 s6 s7 s8 s9 RX4 RP ep elp eF ec e9 hp hl' hF hc hq3
    obtain ⟨⟨dr, er⟩, el⟩ := id RA
    refine ⟨_, rfl, r1, dr, _, rfl, er, rfl, r1, l1, _, rfl, RA, fun F H10 hF s10 eF => ?_⟩
    refine ⟨_, rfl, .inr ⟨F, D, _, _, rfl, rfl, SqL.of eF, SqL.of (s10 _ _ eD), by simp [flatV], by simp [flatV], ?_⟩⟩
    rw [eqVs_ints, decide_eq_true rfl]
    refine ⟨_, rfl, iteT ?_⟩
    have RG := RG.same s10
    have gz : (1000000 :: (-1000000) :: List.replicate hs'.length (0 : Int)).sum = 0 := by
      rw [List.sum_cons, List.sum_cons, sum_zero]; rfl
    refine ⟨_, rfl, xG, lG, _, rfl, RG, by simp only [List.length_cons, List.length_replicate]; omega, by simp only [List.length_cons, List.length_replicate]; omega, smg, gz, fun H11 s11 => ?_⟩
    rw [wid_great]
    refine .inl ⟨rfl, _, rfl, iteT ?_⟩
    refine ⟨_, rfl, xG, lG, _, rfl, RG.same s11, by simp only [List.length_cons, List.length_replicate]; omega, by simp only [List.length_cons, List.length_replicate]; omega, smg, gz, fun F2 H12 hF2 s12 eF2 => ?_⟩
    refine ⟨_, rfl, F2, _, rfl, SqL.of eF2, fun c hc => ?_⟩
    rw [show cutV ((runI 0 (1000000 :: (-1000000) :: List.replicate hs'.length 0)).map V.int) none (some 2) = ([1000000, 0] : List Int).map V.int from cut_lo (runI 0 (1000000 :: (-1000000) :: List.replicate hs'.length 0)) 2]
    generalize gq : L2.upd _ c _ = H13
    have s13 := new_same hc gq
    have ec := new_it gq
    clear gq
    refine ⟨by show 2 ≤ sizeLine; decide, fun q3 hq3 => ?_⟩
    generalize gq : L2.upd _ q3 _ = H14
    have s14 := new_same hq3 gq
    have e14 := new_it gq
    clear gq
    refine .inr ⟨c, q3, _, _, rfl, rfl, SqL.of (s14 _ _ ec), SqL.of e14, by decide, by decide, ?_⟩
    exact q _

end
end Ev


end

set_option Elab.async false
set_option linter.all false
set_option maxRecDepth 100000
set_option maxHeartbeats 0
namespace Ev
open PySem L2
section

end
theorem bind1 {K : PySem.W.Frag} {f : Addr} {fd : FuncData} (F : Fun K "law" "law" s_law f fd) (s : Shared) (v : Value) : BindsTo s fd ⟨[v], []⟩ [("_law_script", v)] := by
  obtain ⟨oc, od, kV, doc, pm, an, cdv, ct, osl, rfl, lk, hcd⟩ := F.ex
  exact .of_eq rfl
theorem txt_mk {K : PySem.W.Frag} {h : Heap} {mg : Str → Option Value} (X : K.In h) (G : h.Ns mainGlobals mg)
    {f_wall : Addr} {oc_wall kV_wall dc_wall pm_wall cd_wall ct_wall : Value} {od_wall an_wall : Option Addr} {sl_wall : Array (Option Value)}
    {f_Even_init__ : Addr} {oc_Even_init__ kV_Even_init__ dc_Even_init__ pm_Even_init__ cd_Even_init__ ct_Even_init__ : Value} {od_Even_init__ an_Even_init__ : Option Addr} {sl_Even_init__ : Array (Option Value)}
    {f_Even_evens : Addr} {oc_Even_evens kV_Even_evens dc_Even_evens pm_Even_evens cd_Even_evens ct_Even_evens : Value} {od_Even_evens an_Even_evens : Option Addr} {sl_Even_evens : Array (Option Value)}
    {f_Even_shows : Addr} {oc_Even_shows kV_Even_shows dc_Even_shows pm_Even_shows cd_Even_shows ct_Even_shows : Value} {od_Even_shows an_Even_shows : Option Addr} {sl_Even_shows : Array (Option Value)}
    {f_Uneven_init__ : Addr} {oc_Uneven_init__ kV_Uneven_init__ dc_Uneven_init__ pm_Uneven_init__ cd_Uneven_init__ ct_Uneven_init__ : Value} {od_Uneven_init__ an_Uneven_init__ : Option Addr} {sl_Uneven_init__ : Array (Option Value)}
    {f_Uneven_shows : Addr} {oc_Uneven_shows kV_Uneven_shows dc_Uneven_shows pm_Uneven_shows cd_Uneven_shows ct_Uneven_shows : Value} {od_Uneven_shows an_Uneven_shows : Option Addr} {sl_Uneven_shows : Array (Option Value)}
    {f_Within_init__ : Addr} {oc_Within_init__ kV_Within_init__ dc_Within_init__ pm_Within_init__ cd_Within_init__ ct_Within_init__ : Value} {od_Within_init__ an_Within_init__ : Option Addr} {sl_Within_init__ : Array (Option Value)}
    {f_Within_shows : Addr} {oc_Within_shows kV_Within_shows dc_Within_shows pm_Within_shows cd_Within_shows ct_Within_shows : Value} {od_Within_shows an_Within_shows : Option Addr} {sl_Within_shows : Array (Option Value)}
    {f_Stretch_init__ : Addr} {oc_Stretch_init__ kV_Stretch_init__ dc_Stretch_init__ pm_Stretch_init__ cd_Stretch_init__ ct_Stretch_init__ : Value} {od_Stretch_init__ an_Stretch_init__ : Option Addr} {sl_Stretch_init__ : Array (Option Value)}
    {f_Stretch_shows : Addr} {oc_Stretch_shows kV_Stretch_shows dc_Stretch_shows pm_Stretch_shows cd_Stretch_shows ct_Stretch_shows : Value} {od_Stretch_shows an_Stretch_shows : Option Addr} {sl_Stretch_shows : Array (Option Value)}
    {f_Lacking_init__ : Addr} {oc_Lacking_init__ kV_Lacking_init__ dc_Lacking_init__ pm_Lacking_init__ cd_Lacking_init__ ct_Lacking_init__ : Value} {od_Lacking_init__ an_Lacking_init__ : Option Addr} {sl_Lacking_init__ : Array (Option Value)}
    {f_is_whole_number : Addr} {oc_is_whole_number kV_is_whole_number dc_is_whole_number pm_is_whole_number cd_is_whole_number ct_is_whole_number : Value} {od_is_whole_number an_is_whole_number : Option Addr} {sl_is_whole_number : Array (Option Value)}
    {f_is_house : Addr} {oc_is_house kV_is_house dc_is_house pm_is_house cd_is_house ct_is_house : Value} {od_is_house an_is_house : Option Addr} {sl_is_house : Array (Option Value)}
    {f_are_houses : Addr} {oc_are_houses kV_are_houses dc_are_houses pm_are_houses cd_are_houses ct_are_houses : Value} {od_are_houses an_are_houses : Option Addr} {sl_are_houses : Array (Option Value)}
    {f_Ring_init__ : Addr} {oc_Ring_init__ kV_Ring_init__ dc_Ring_init__ pm_Ring_init__ cd_Ring_init__ ct_Ring_init__ : Value} {od_Ring_init__ an_Ring_init__ : Option Addr} {sl_Ring_init__ : Array (Option Value)}
    {f_Ring_houses : Addr} {oc_Ring_houses kV_Ring_houses dc_Ring_houses pm_Ring_houses cd_Ring_houses ct_Ring_houses : Value} {od_Ring_houses an_Ring_houses : Option Addr} {sl_Ring_houses : Array (Option Value)}
    {f_Ring_whole : Addr} {oc_Ring_whole kV_Ring_whole dc_Ring_whole pm_Ring_whole cd_Ring_whole ct_Ring_whole : Value} {od_Ring_whole an_Ring_whole : Option Addr} {sl_Ring_whole : Array (Option Value)}
    {f_turned : Addr} {oc_turned kV_turned dc_turned pm_turned cd_turned ct_turned : Value} {od_turned an_turned : Option Addr} {sl_turned : Array (Option Value)}
    {f_together : Addr} {oc_together kV_together dc_together pm_together cd_together ct_together : Value} {od_together an_together : Option Addr} {sl_together : Array (Option Value)}
    {f_is_toll : Addr} {oc_is_toll kV_is_toll dc_is_toll pm_is_toll cd_is_toll ct_is_toll : Value} {od_is_toll an_is_toll : Option Addr} {sl_is_toll : Array (Option Value)}
    {f_tolls_for : Addr} {oc_tolls_for kV_tolls_for dc_tolls_for pm_tolls_for cd_tolls_for ct_tolls_for : Value} {od_tolls_for an_tolls_for : Option Addr} {sl_tolls_for : Array (Option Value)}
    {f_along : Addr} {oc_along kV_along dc_along pm_along cd_along ct_along : Value} {od_along an_along : Option Addr} {sl_along : Array (Option Value)}
    {f_lowest_middle : Addr} {oc_lowest_middle kV_lowest_middle dc_lowest_middle pm_lowest_middle cd_lowest_middle ct_lowest_middle : Value} {od_lowest_middle an_lowest_middle : Option Addr} {sl_lowest_middle : Array (Option Value)}
    {f_least_over_last : Addr} {oc_least_over_last kV_least_over_last dc_least_over_last pm_least_over_last cd_least_over_last ct_least_over_last : Value} {od_least_over_last an_least_over_last : Option Addr} {sl_least_over_last : Array (Option Value)}
    {f_greatest_over_last : Addr} {oc_greatest_over_last kV_greatest_over_last dc_greatest_over_last pm_greatest_over_last cd_greatest_over_last ct_greatest_over_last : Value} {od_greatest_over_last an_greatest_over_last : Option Addr} {sl_greatest_over_last : Array (Option Value)}
    {f_full_step : Addr} {oc_full_step kV_full_step dc_full_step pm_full_step cd_full_step ct_full_step : Value} {od_full_step an_full_step : Option Addr} {sl_full_step : Array (Option Value)}
    {f_steps_down : Addr} {oc_steps_down kV_steps_down dc_steps_down pm_steps_down cd_steps_down ct_steps_down : Value} {od_steps_down an_steps_down : Option Addr} {sl_steps_down : Array (Option Value)}
    {f_prices_by : Addr} {oc_prices_by kV_prices_by dc_prices_by pm_prices_by cd_prices_by ct_prices_by : Value} {od_prices_by an_prices_by : Option Addr} {sl_prices_by : Array (Option Value)}
    {f_least : Addr} {oc_least kV_least dc_least pm_least cd_least ct_least : Value} {od_least an_least : Option Addr} {sl_least : Array (Option Value)}
    {f_ends : Addr} {oc_ends kV_ends dc_ends pm_ends cd_ends ct_ends : Value} {od_ends an_ends : Option Addr} {sl_ends : Array (Option Value)}
    {f_stretch_between : Addr} {oc_stretch_between kV_stretch_between dc_stretch_between pm_stretch_between cd_stretch_between ct_stretch_between : Value} {od_stretch_between an_stretch_between : Option Addr} {sl_stretch_between : Array (Option Value)}
    {f_within : Addr} {oc_within kV_within dc_within pm_within cd_within ct_within : Value} {od_within an_within : Option Addr} {sl_within : Array (Option Value)}
    {f_widest : Addr} {oc_widest kV_widest dc_widest pm_widest cd_widest ct_widest : Value} {od_widest an_widest : Option Addr} {sl_widest : Array (Option Value)}
    {f_law_cell_at : Addr} {oc_law_cell_at kV_law_cell_at dc_law_cell_at pm_law_cell_at cd_law_cell_at ct_law_cell_at : Value} {od_law_cell_at an_law_cell_at : Option Addr} {sl_law_cell_at : Array (Option Value)}
    {f_law_draw : Addr} {oc_law_draw kV_law_draw dc_law_draw pm_law_draw cd_law_draw ct_law_draw : Value} {od_law_draw an_law_draw : Option Addr} {sl_law_draw : Array (Option Value)}
    {f_law_houses : Addr} {oc_law_houses kV_law_houses dc_law_houses pm_law_houses cd_law_houses ct_law_houses : Value} {od_law_houses an_law_houses : Option Addr} {sl_law_houses : Array (Option Value)}
    {f_law_kinds : Addr} {oc_law_kinds kV_law_kinds dc_law_kinds pm_law_kinds cd_law_kinds ct_law_kinds : Value} {od_law_kinds an_law_kinds : Option Addr} {sl_law_kinds : Array (Option Value)}
    {f_law_told : Addr} {oc_law_told kV_law_told dc_law_told pm_law_told cd_law_told ct_law_told : Value} {od_law_told an_law_told : Option Addr} {sl_law_told : Array (Option Value)}
    {f_law_ring : Addr} {oc_law_ring kV_law_ring dc_law_ring pm_law_ring cd_law_ring ct_law_ring : Value} {od_law_ring an_law_ring : Option Addr} {sl_law_ring : Array (Option Value)}
    {f_law_with_tolls : Addr} {oc_law_with_tolls kV_law_with_tolls dc_law_with_tolls pm_law_with_tolls cd_law_with_tolls ct_law_with_tolls : Value} {od_law_with_tolls an_law_with_tolls : Option Addr} {sl_law_with_tolls : Array (Option Value)}
    {f_law_ends : Addr} {oc_law_ends kV_law_ends dc_law_ends pm_law_ends cd_law_ends ct_law_ends : Value} {od_law_ends an_law_ends : Option Addr} {sl_law_ends : Array (Option Value)}
    {f_law_within : Addr} {oc_law_within kV_law_within dc_law_within pm_law_within cd_law_within ct_law_within : Value} {od_law_within an_law_within : Option Addr} {sl_law_within : Array (Option Value)}
    {f_law_turned : Addr} {oc_law_turned kV_law_turned dc_law_turned pm_law_turned cd_law_turned ct_law_turned : Value} {od_law_turned an_law_turned : Option Addr} {sl_law_turned : Array (Option Value)}
    {f_law_together : Addr} {oc_law_together kV_law_together dc_law_together pm_law_together cd_law_together ct_law_together : Value} {od_law_together an_law_together : Option Addr} {sl_law_together : Array (Option Value)}
    {f_law_plain : Addr} {oc_law_plain kV_law_plain dc_law_plain pm_law_plain cd_law_plain ct_law_plain : Value} {od_law_plain an_law_plain : Option Addr} {sl_law_plain : Array (Option Value)}
    {f_law_lack : Addr} {oc_law_lack kV_law_lack dc_law_lack pm_law_lack cd_law_lack ct_law_lack : Value} {od_law_lack an_law_lack : Option Addr} {sl_law_lack : Array (Option Value)}
    {f_law_all : Addr} {oc_law_all kV_law_all dc_law_all pm_law_all cd_law_all ct_law_all : Value} {od_law_all an_law_all : Option Addr} {sl_law_all : Array (Option Value)}
    {f_law_rings_right : Addr} {oc_law_rings_right kV_law_rings_right dc_law_rings_right pm_law_rings_right cd_law_rings_right ct_law_rings_right : Value} {od_law_rings_right an_law_rings_right : Option Addr} {sl_law_rings_right : Array (Option Value)}
    {f_law_tolls_right : Addr} {oc_law_tolls_right kV_law_tolls_right dc_law_tolls_right pm_law_tolls_right cd_law_tolls_right ct_law_tolls_right : Value} {od_law_tolls_right an_law_tolls_right : Option Addr} {sl_law_tolls_right : Array (Option Value)}
    {f_law_lacking_right : Addr} {oc_law_lacking_right kV_law_lacking_right dc_law_lacking_right pm_law_lacking_right cd_law_lacking_right ct_law_lacking_right : Value} {od_law_lacking_right an_law_lacking_right : Option Addr} {sl_law_lacking_right : Array (Option Value)}
    {f_law : Addr} {oc_law kV_law dc_law pm_law cd_law ct_law : Value} {od_law an_law : Option Addr} {sl_law : Array (Option Value)}
    {C_Even : Addr}
    {C_Uneven : Addr}
    {C_Within : Addr}
    {C_Stretch : Addr}
    {C_Ring : Addr}
    {C_RingError : Addr}
    {C_BadRing : Addr}
    {C_BadTolls : Addr}
    {C_BadMost : Addr}
    {C_Unlike : Addr}
    {C_Lacking : Addr}
    {C_BadText : Addr}
    {v_FARTHEST_NUMBER : Tok}
    {v_FEWEST_HOUSES : Tok}
    {v_HIGHEST_TOLL : Tok}
    (aC_Even : PySem.W.nsIn K mainGlobals "Even" = some (some (.ref C_Even)))
    (aC_Uneven : PySem.W.nsIn K mainGlobals "Uneven" = some (some (.ref C_Uneven)))
    (aC_Within : PySem.W.nsIn K mainGlobals "Within" = some (some (.ref C_Within)))
    (aC_Stretch : PySem.W.nsIn K mainGlobals "Stretch" = some (some (.ref C_Stretch)))
    (aC_Ring : PySem.W.nsIn K mainGlobals "Ring" = some (some (.ref C_Ring)))
    (aC_RingError : PySem.W.nsIn K mainGlobals "RingError" = some (some (.ref C_RingError)))
    (aC_BadRing : PySem.W.nsIn K mainGlobals "BadRing" = some (some (.ref C_BadRing)))
    (aC_BadTolls : PySem.W.nsIn K mainGlobals "BadTolls" = some (some (.ref C_BadTolls)))
    (aC_BadMost : PySem.W.nsIn K mainGlobals "BadMost" = some (some (.ref C_BadMost)))
    (aC_Unlike : PySem.W.nsIn K mainGlobals "Unlike" = some (some (.ref C_Unlike)))
    (aC_Lacking : PySem.W.nsIn K mainGlobals "Lacking" = some (some (.ref C_Lacking)))
    (aC_BadText : PySem.W.nsIn K mainGlobals "BadText" = some (some (.ref C_BadText)))
    (a_wall : PySem.W.nsIn K mainGlobals "_wall" = some (some (.ref f_wall)))
    (l_wall : K.lookup f_wall = some ⟨oc_wall, od_wall, .func (PySem.W.fnOf "_wall" "_wall" (defArgs s_wall) (defBody s_wall) (defScope s_wall) .none kV_wall dc_wall pm_wall an_wall cd_wall ct_wall), sl_wall⟩)
    (c_wall : PySem.W.codeIn K cd_wall "_wall" = true)
    (k_wall : PySem.W.keepIn K (.ref f_wall) = true)
    (a_Even_init__ : PySem.W.findIn K (.ref C_Even) "__init__" = some (some (.ref f_Even_init__)))
    (i_Even_init__ : PySem.W.isFn K (.ref f_Even_init__) = true)
    (l_Even_init__ : K.lookup f_Even_init__ = some ⟨oc_Even_init__, od_Even_init__, .func (PySem.W.fnOf "__init__" "Even.__init__" (defArgs s_Even_init__) (defBody s_Even_init__) (defScope s_Even_init__) .none kV_Even_init__ dc_Even_init__ pm_Even_init__ an_Even_init__ cd_Even_init__ ct_Even_init__), sl_Even_init__⟩)
    (c_Even_init__ : PySem.W.codeIn K cd_Even_init__ "Even.__init__" = true)
    (k_Even_init__ : PySem.W.keepIn K (.ref f_Even_init__) = true)
    (a_Even_evens : PySem.W.findIn K (.ref C_Even) "evens" = some (some (.ref f_Even_evens)))
    (i_Even_evens : PySem.W.isFn K (.ref f_Even_evens) = true)
    (l_Even_evens : K.lookup f_Even_evens = some ⟨oc_Even_evens, od_Even_evens, .func (PySem.W.fnOf "evens" "Even.evens" (defArgs s_Even_evens) (defBody s_Even_evens) (defScope s_Even_evens) .none kV_Even_evens dc_Even_evens pm_Even_evens an_Even_evens cd_Even_evens ct_Even_evens), sl_Even_evens⟩)
    (c_Even_evens : PySem.W.codeIn K cd_Even_evens "Even.evens" = true)
    (k_Even_evens : PySem.W.keepIn K (.ref f_Even_evens) = true)
    (a_Even_shows : PySem.W.findIn K (.ref C_Even) "shows" = some (some (.ref f_Even_shows)))
    (i_Even_shows : PySem.W.isFn K (.ref f_Even_shows) = true)
    (l_Even_shows : K.lookup f_Even_shows = some ⟨oc_Even_shows, od_Even_shows, .func (PySem.W.fnOf "shows" "Even.shows" (defArgs s_Even_shows) (defBody s_Even_shows) (defScope s_Even_shows) .none kV_Even_shows dc_Even_shows pm_Even_shows an_Even_shows cd_Even_shows ct_Even_shows), sl_Even_shows⟩)
    (c_Even_shows : PySem.W.codeIn K cd_Even_shows "Even.shows" = true)
    (k_Even_shows : PySem.W.keepIn K (.ref f_Even_shows) = true)
    (a_Uneven_init__ : PySem.W.findIn K (.ref C_Uneven) "__init__" = some (some (.ref f_Uneven_init__)))
    (i_Uneven_init__ : PySem.W.isFn K (.ref f_Uneven_init__) = true)
    (l_Uneven_init__ : K.lookup f_Uneven_init__ = some ⟨oc_Uneven_init__, od_Uneven_init__, .func (PySem.W.fnOf "__init__" "Uneven.__init__" (defArgs s_Uneven_init__) (defBody s_Uneven_init__) (defScope s_Uneven_init__) .none kV_Uneven_init__ dc_Uneven_init__ pm_Uneven_init__ an_Uneven_init__ cd_Uneven_init__ ct_Uneven_init__), sl_Uneven_init__⟩)
    (c_Uneven_init__ : PySem.W.codeIn K cd_Uneven_init__ "Uneven.__init__" = true)
    (k_Uneven_init__ : PySem.W.keepIn K (.ref f_Uneven_init__) = true)
    (a_Uneven_shows : PySem.W.findIn K (.ref C_Uneven) "shows" = some (some (.ref f_Uneven_shows)))
    (i_Uneven_shows : PySem.W.isFn K (.ref f_Uneven_shows) = true)
    (l_Uneven_shows : K.lookup f_Uneven_shows = some ⟨oc_Uneven_shows, od_Uneven_shows, .func (PySem.W.fnOf "shows" "Uneven.shows" (defArgs s_Uneven_shows) (defBody s_Uneven_shows) (defScope s_Uneven_shows) .none kV_Uneven_shows dc_Uneven_shows pm_Uneven_shows an_Uneven_shows cd_Uneven_shows ct_Uneven_shows), sl_Uneven_shows⟩)
    (c_Uneven_shows : PySem.W.codeIn K cd_Uneven_shows "Uneven.shows" = true)
    (k_Uneven_shows : PySem.W.keepIn K (.ref f_Uneven_shows) = true)
    (a_Within_init__ : PySem.W.findIn K (.ref C_Within) "__init__" = some (some (.ref f_Within_init__)))
    (i_Within_init__ : PySem.W.isFn K (.ref f_Within_init__) = true)
    (l_Within_init__ : K.lookup f_Within_init__ = some ⟨oc_Within_init__, od_Within_init__, .func (PySem.W.fnOf "__init__" "Within.__init__" (defArgs s_Within_init__) (defBody s_Within_init__) (defScope s_Within_init__) .none kV_Within_init__ dc_Within_init__ pm_Within_init__ an_Within_init__ cd_Within_init__ ct_Within_init__), sl_Within_init__⟩)
    (c_Within_init__ : PySem.W.codeIn K cd_Within_init__ "Within.__init__" = true)
    (k_Within_init__ : PySem.W.keepIn K (.ref f_Within_init__) = true)
    (a_Within_shows : PySem.W.findIn K (.ref C_Within) "shows" = some (some (.ref f_Within_shows)))
    (i_Within_shows : PySem.W.isFn K (.ref f_Within_shows) = true)
    (l_Within_shows : K.lookup f_Within_shows = some ⟨oc_Within_shows, od_Within_shows, .func (PySem.W.fnOf "shows" "Within.shows" (defArgs s_Within_shows) (defBody s_Within_shows) (defScope s_Within_shows) .none kV_Within_shows dc_Within_shows pm_Within_shows an_Within_shows cd_Within_shows ct_Within_shows), sl_Within_shows⟩)
    (c_Within_shows : PySem.W.codeIn K cd_Within_shows "Within.shows" = true)
    (k_Within_shows : PySem.W.keepIn K (.ref f_Within_shows) = true)
    (a_Stretch_init__ : PySem.W.findIn K (.ref C_Stretch) "__init__" = some (some (.ref f_Stretch_init__)))
    (i_Stretch_init__ : PySem.W.isFn K (.ref f_Stretch_init__) = true)
    (l_Stretch_init__ : K.lookup f_Stretch_init__ = some ⟨oc_Stretch_init__, od_Stretch_init__, .func (PySem.W.fnOf "__init__" "Stretch.__init__" (defArgs s_Stretch_init__) (defBody s_Stretch_init__) (defScope s_Stretch_init__) .none kV_Stretch_init__ dc_Stretch_init__ pm_Stretch_init__ an_Stretch_init__ cd_Stretch_init__ ct_Stretch_init__), sl_Stretch_init__⟩)
    (c_Stretch_init__ : PySem.W.codeIn K cd_Stretch_init__ "Stretch.__init__" = true)
    (k_Stretch_init__ : PySem.W.keepIn K (.ref f_Stretch_init__) = true)
    (a_Stretch_shows : PySem.W.findIn K (.ref C_Stretch) "shows" = some (some (.ref f_Stretch_shows)))
    (i_Stretch_shows : PySem.W.isFn K (.ref f_Stretch_shows) = true)
    (l_Stretch_shows : K.lookup f_Stretch_shows = some ⟨oc_Stretch_shows, od_Stretch_shows, .func (PySem.W.fnOf "shows" "Stretch.shows" (defArgs s_Stretch_shows) (defBody s_Stretch_shows) (defScope s_Stretch_shows) .none kV_Stretch_shows dc_Stretch_shows pm_Stretch_shows an_Stretch_shows cd_Stretch_shows ct_Stretch_shows), sl_Stretch_shows⟩)
    (c_Stretch_shows : PySem.W.codeIn K cd_Stretch_shows "Stretch.shows" = true)
    (k_Stretch_shows : PySem.W.keepIn K (.ref f_Stretch_shows) = true)
    (a_Lacking_init__ : PySem.W.findIn K (.ref C_Lacking) "__init__" = some (some (.ref f_Lacking_init__)))
    (i_Lacking_init__ : PySem.W.isFn K (.ref f_Lacking_init__) = true)
    (l_Lacking_init__ : K.lookup f_Lacking_init__ = some ⟨oc_Lacking_init__, od_Lacking_init__, .func (PySem.W.fnOf "__init__" "Lacking.__init__" (defArgs s_Lacking_init__) (defBody s_Lacking_init__) (defScope s_Lacking_init__) .none kV_Lacking_init__ dc_Lacking_init__ pm_Lacking_init__ an_Lacking_init__ cd_Lacking_init__ ct_Lacking_init__), sl_Lacking_init__⟩)
    (c_Lacking_init__ : PySem.W.codeIn K cd_Lacking_init__ "Lacking.__init__" = true)
    (k_Lacking_init__ : PySem.W.keepIn K (.ref f_Lacking_init__) = true)
    (a_is_whole_number : PySem.W.nsIn K mainGlobals "is_whole_number" = some (some (.ref f_is_whole_number)))
    (l_is_whole_number : K.lookup f_is_whole_number = some ⟨oc_is_whole_number, od_is_whole_number, .func (PySem.W.fnOf "is_whole_number" "is_whole_number" (defArgs s_is_whole_number) (defBody s_is_whole_number) (defScope s_is_whole_number) .none kV_is_whole_number dc_is_whole_number pm_is_whole_number an_is_whole_number cd_is_whole_number ct_is_whole_number), sl_is_whole_number⟩)
    (c_is_whole_number : PySem.W.codeIn K cd_is_whole_number "is_whole_number" = true)
    (k_is_whole_number : PySem.W.keepIn K (.ref f_is_whole_number) = true)
    (a_is_house : PySem.W.nsIn K mainGlobals "is_house" = some (some (.ref f_is_house)))
    (l_is_house : K.lookup f_is_house = some ⟨oc_is_house, od_is_house, .func (PySem.W.fnOf "is_house" "is_house" (defArgs s_is_house) (defBody s_is_house) (defScope s_is_house) .none kV_is_house dc_is_house pm_is_house an_is_house cd_is_house ct_is_house), sl_is_house⟩)
    (c_is_house : PySem.W.codeIn K cd_is_house "is_house" = true)
    (k_is_house : PySem.W.keepIn K (.ref f_is_house) = true)
    (a_are_houses : PySem.W.nsIn K mainGlobals "are_houses" = some (some (.ref f_are_houses)))
    (l_are_houses : K.lookup f_are_houses = some ⟨oc_are_houses, od_are_houses, .func (PySem.W.fnOf "are_houses" "are_houses" (defArgs s_are_houses) (defBody s_are_houses) (defScope s_are_houses) .none kV_are_houses dc_are_houses pm_are_houses an_are_houses cd_are_houses ct_are_houses), sl_are_houses⟩)
    (c_are_houses : PySem.W.codeIn K cd_are_houses "are_houses" = true)
    (k_are_houses : PySem.W.keepIn K (.ref f_are_houses) = true)
    (a_Ring_init__ : PySem.W.findIn K (.ref C_Ring) "__init__" = some (some (.ref f_Ring_init__)))
    (i_Ring_init__ : PySem.W.isFn K (.ref f_Ring_init__) = true)
    (l_Ring_init__ : K.lookup f_Ring_init__ = some ⟨oc_Ring_init__, od_Ring_init__, .func (PySem.W.fnOf "__init__" "Ring.__init__" (defArgs s_Ring_init__) (defBody s_Ring_init__) (defScope s_Ring_init__) .none kV_Ring_init__ dc_Ring_init__ pm_Ring_init__ an_Ring_init__ cd_Ring_init__ ct_Ring_init__), sl_Ring_init__⟩)
    (c_Ring_init__ : PySem.W.codeIn K cd_Ring_init__ "Ring.__init__" = true)
    (k_Ring_init__ : PySem.W.keepIn K (.ref f_Ring_init__) = true)
    (a_Ring_houses : PySem.W.findIn K (.ref C_Ring) "houses" = some (some (.ref f_Ring_houses)))
    (i_Ring_houses : PySem.W.isFn K (.ref f_Ring_houses) = true)
    (l_Ring_houses : K.lookup f_Ring_houses = some ⟨oc_Ring_houses, od_Ring_houses, .func (PySem.W.fnOf "houses" "Ring.houses" (defArgs s_Ring_houses) (defBody s_Ring_houses) (defScope s_Ring_houses) .none kV_Ring_houses dc_Ring_houses pm_Ring_houses an_Ring_houses cd_Ring_houses ct_Ring_houses), sl_Ring_houses⟩)
    (c_Ring_houses : PySem.W.codeIn K cd_Ring_houses "Ring.houses" = true)
    (k_Ring_houses : PySem.W.keepIn K (.ref f_Ring_houses) = true)
    (a_Ring_whole : PySem.W.findIn K (.ref C_Ring) "whole" = some (some (.ref f_Ring_whole)))
    (i_Ring_whole : PySem.W.isFn K (.ref f_Ring_whole) = true)
    (l_Ring_whole : K.lookup f_Ring_whole = some ⟨oc_Ring_whole, od_Ring_whole, .func (PySem.W.fnOf "whole" "Ring.whole" (defArgs s_Ring_whole) (defBody s_Ring_whole) (defScope s_Ring_whole) .none kV_Ring_whole dc_Ring_whole pm_Ring_whole an_Ring_whole cd_Ring_whole ct_Ring_whole), sl_Ring_whole⟩)
    (c_Ring_whole : PySem.W.codeIn K cd_Ring_whole "Ring.whole" = true)
    (k_Ring_whole : PySem.W.keepIn K (.ref f_Ring_whole) = true)
    (a_turned : PySem.W.nsIn K mainGlobals "turned" = some (some (.ref f_turned)))
    (l_turned : K.lookup f_turned = some ⟨oc_turned, od_turned, .func (PySem.W.fnOf "turned" "turned" (defArgs s_turned) (defBody s_turned) (defScope s_turned) .none kV_turned dc_turned pm_turned an_turned cd_turned ct_turned), sl_turned⟩)
    (c_turned : PySem.W.codeIn K cd_turned "turned" = true)
    (k_turned : PySem.W.keepIn K (.ref f_turned) = true)
    (a_together : PySem.W.nsIn K mainGlobals "together" = some (some (.ref f_together)))
    (l_together : K.lookup f_together = some ⟨oc_together, od_together, .func (PySem.W.fnOf "together" "together" (defArgs s_together) (defBody s_together) (defScope s_together) .none kV_together dc_together pm_together an_together cd_together ct_together), sl_together⟩)
    (c_together : PySem.W.codeIn K cd_together "together" = true)
    (k_together : PySem.W.keepIn K (.ref f_together) = true)
    (a_is_toll : PySem.W.nsIn K mainGlobals "is_toll" = some (some (.ref f_is_toll)))
    (l_is_toll : K.lookup f_is_toll = some ⟨oc_is_toll, od_is_toll, .func (PySem.W.fnOf "is_toll" "is_toll" (defArgs s_is_toll) (defBody s_is_toll) (defScope s_is_toll) .none kV_is_toll dc_is_toll pm_is_toll an_is_toll cd_is_toll ct_is_toll), sl_is_toll⟩)
    (c_is_toll : PySem.W.codeIn K cd_is_toll "is_toll" = true)
    (k_is_toll : PySem.W.keepIn K (.ref f_is_toll) = true)
    (a_tolls_for : PySem.W.nsIn K mainGlobals "tolls_for" = some (some (.ref f_tolls_for)))
    (l_tolls_for : K.lookup f_tolls_for = some ⟨oc_tolls_for, od_tolls_for, .func (PySem.W.fnOf "tolls_for" "tolls_for" (defArgs s_tolls_for) (defBody s_tolls_for) (defScope s_tolls_for) .none kV_tolls_for dc_tolls_for pm_tolls_for an_tolls_for cd_tolls_for ct_tolls_for), sl_tolls_for⟩)
    (c_tolls_for : PySem.W.codeIn K cd_tolls_for "tolls_for" = true)
    (k_tolls_for : PySem.W.keepIn K (.ref f_tolls_for) = true)
    (a_along : PySem.W.nsIn K mainGlobals "along" = some (some (.ref f_along)))
    (l_along : K.lookup f_along = some ⟨oc_along, od_along, .func (PySem.W.fnOf "along" "along" (defArgs s_along) (defBody s_along) (defScope s_along) .none kV_along dc_along pm_along an_along cd_along ct_along), sl_along⟩)
    (c_along : PySem.W.codeIn K cd_along "along" = true)
    (k_along : PySem.W.keepIn K (.ref f_along) = true)
    (a_lowest_middle : PySem.W.nsIn K mainGlobals "lowest_middle" = some (some (.ref f_lowest_middle)))
    (l_lowest_middle : K.lookup f_lowest_middle = some ⟨oc_lowest_middle, od_lowest_middle, .func (PySem.W.fnOf "lowest_middle" "lowest_middle" (defArgs s_lowest_middle) (defBody s_lowest_middle) (defScope s_lowest_middle) .none kV_lowest_middle dc_lowest_middle pm_lowest_middle an_lowest_middle cd_lowest_middle ct_lowest_middle), sl_lowest_middle⟩)
    (c_lowest_middle : PySem.W.codeIn K cd_lowest_middle "lowest_middle" = true)
    (k_lowest_middle : PySem.W.keepIn K (.ref f_lowest_middle) = true)
    (a_least_over_last : PySem.W.nsIn K mainGlobals "least_over_last" = some (some (.ref f_least_over_last)))
    (l_least_over_last : K.lookup f_least_over_last = some ⟨oc_least_over_last, od_least_over_last, .func (PySem.W.fnOf "least_over_last" "least_over_last" (defArgs s_least_over_last) (defBody s_least_over_last) (defScope s_least_over_last) .none kV_least_over_last dc_least_over_last pm_least_over_last an_least_over_last cd_least_over_last ct_least_over_last), sl_least_over_last⟩)
    (c_least_over_last : PySem.W.codeIn K cd_least_over_last "least_over_last" = true)
    (k_least_over_last : PySem.W.keepIn K (.ref f_least_over_last) = true)
    (a_greatest_over_last : PySem.W.nsIn K mainGlobals "greatest_over_last" = some (some (.ref f_greatest_over_last)))
    (l_greatest_over_last : K.lookup f_greatest_over_last = some ⟨oc_greatest_over_last, od_greatest_over_last, .func (PySem.W.fnOf "greatest_over_last" "greatest_over_last" (defArgs s_greatest_over_last) (defBody s_greatest_over_last) (defScope s_greatest_over_last) .none kV_greatest_over_last dc_greatest_over_last pm_greatest_over_last an_greatest_over_last cd_greatest_over_last ct_greatest_over_last), sl_greatest_over_last⟩)
    (c_greatest_over_last : PySem.W.codeIn K cd_greatest_over_last "greatest_over_last" = true)
    (k_greatest_over_last : PySem.W.keepIn K (.ref f_greatest_over_last) = true)
    (a_full_step : PySem.W.nsIn K mainGlobals "full_step" = some (some (.ref f_full_step)))
    (l_full_step : K.lookup f_full_step = some ⟨oc_full_step, od_full_step, .func (PySem.W.fnOf "full_step" "full_step" (defArgs s_full_step) (defBody s_full_step) (defScope s_full_step) .none kV_full_step dc_full_step pm_full_step an_full_step cd_full_step ct_full_step), sl_full_step⟩)
    (c_full_step : PySem.W.codeIn K cd_full_step "full_step" = true)
    (k_full_step : PySem.W.keepIn K (.ref f_full_step) = true)
    (a_steps_down : PySem.W.nsIn K mainGlobals "steps_down" = some (some (.ref f_steps_down)))
    (l_steps_down : K.lookup f_steps_down = some ⟨oc_steps_down, od_steps_down, .func (PySem.W.fnOf "steps_down" "steps_down" (defArgs s_steps_down) (defBody s_steps_down) (defScope s_steps_down) .none kV_steps_down dc_steps_down pm_steps_down an_steps_down cd_steps_down ct_steps_down), sl_steps_down⟩)
    (c_steps_down : PySem.W.codeIn K cd_steps_down "steps_down" = true)
    (k_steps_down : PySem.W.keepIn K (.ref f_steps_down) = true)
    (a_prices_by : PySem.W.nsIn K mainGlobals "prices_by" = some (some (.ref f_prices_by)))
    (l_prices_by : K.lookup f_prices_by = some ⟨oc_prices_by, od_prices_by, .func (PySem.W.fnOf "prices_by" "prices_by" (defArgs s_prices_by) (defBody s_prices_by) (defScope s_prices_by) .none kV_prices_by dc_prices_by pm_prices_by an_prices_by cd_prices_by ct_prices_by), sl_prices_by⟩)
    (c_prices_by : PySem.W.codeIn K cd_prices_by "prices_by" = true)
    (k_prices_by : PySem.W.keepIn K (.ref f_prices_by) = true)
    (a_least : PySem.W.nsIn K mainGlobals "least" = some (some (.ref f_least)))
    (l_least : K.lookup f_least = some ⟨oc_least, od_least, .func (PySem.W.fnOf "least" "least" (defArgs s_least) (defBody s_least) (defScope s_least) .none kV_least dc_least pm_least an_least cd_least ct_least), sl_least⟩)
    (c_least : PySem.W.codeIn K cd_least "least" = true)
    (k_least : PySem.W.keepIn K (.ref f_least) = true)
    (a_ends : PySem.W.nsIn K mainGlobals "ends" = some (some (.ref f_ends)))
    (l_ends : K.lookup f_ends = some ⟨oc_ends, od_ends, .func (PySem.W.fnOf "ends" "ends" (defArgs s_ends) (defBody s_ends) (defScope s_ends) .none kV_ends dc_ends pm_ends an_ends cd_ends ct_ends), sl_ends⟩)
    (c_ends : PySem.W.codeIn K cd_ends "ends" = true)
    (k_ends : PySem.W.keepIn K (.ref f_ends) = true)
    (a_stretch_between : PySem.W.nsIn K mainGlobals "stretch_between" = some (some (.ref f_stretch_between)))
    (l_stretch_between : K.lookup f_stretch_between = some ⟨oc_stretch_between, od_stretch_between, .func (PySem.W.fnOf "stretch_between" "stretch_between" (defArgs s_stretch_between) (defBody s_stretch_between) (defScope s_stretch_between) .none kV_stretch_between dc_stretch_between pm_stretch_between an_stretch_between cd_stretch_between ct_stretch_between), sl_stretch_between⟩)
    (c_stretch_between : PySem.W.codeIn K cd_stretch_between "stretch_between" = true)
    (k_stretch_between : PySem.W.keepIn K (.ref f_stretch_between) = true)
    (a_within : PySem.W.nsIn K mainGlobals "within" = some (some (.ref f_within)))
    (l_within : K.lookup f_within = some ⟨oc_within, od_within, .func (PySem.W.fnOf "within" "within" (defArgs s_within) (defBody s_within) (defScope s_within) .none kV_within dc_within pm_within an_within cd_within ct_within), sl_within⟩)
    (c_within : PySem.W.codeIn K cd_within "within" = true)
    (k_within : PySem.W.keepIn K (.ref f_within) = true)
    (a_widest : PySem.W.nsIn K mainGlobals "widest" = some (some (.ref f_widest)))
    (l_widest : K.lookup f_widest = some ⟨oc_widest, od_widest, .func (PySem.W.fnOf "widest" "widest" (defArgs s_widest) (defBody s_widest) (defScope s_widest) .none kV_widest dc_widest pm_widest an_widest cd_widest ct_widest), sl_widest⟩)
    (c_widest : PySem.W.codeIn K cd_widest "widest" = true)
    (k_widest : PySem.W.keepIn K (.ref f_widest) = true)
    (a_law_cell_at : PySem.W.nsIn K mainGlobals "_law_cell_at" = some (some (.ref f_law_cell_at)))
    (l_law_cell_at : K.lookup f_law_cell_at = some ⟨oc_law_cell_at, od_law_cell_at, .func (PySem.W.fnOf "_law_cell_at" "_law_cell_at" (defArgs s_law_cell_at) (defBody s_law_cell_at) (defScope s_law_cell_at) .none kV_law_cell_at dc_law_cell_at pm_law_cell_at an_law_cell_at cd_law_cell_at ct_law_cell_at), sl_law_cell_at⟩)
    (c_law_cell_at : PySem.W.codeIn K cd_law_cell_at "_law_cell_at" = true)
    (k_law_cell_at : PySem.W.keepIn K (.ref f_law_cell_at) = true)
    (a_law_draw : PySem.W.nsIn K mainGlobals "_law_draw" = some (some (.ref f_law_draw)))
    (l_law_draw : K.lookup f_law_draw = some ⟨oc_law_draw, od_law_draw, .func (PySem.W.fnOf "_law_draw" "_law_draw" (defArgs s_law_draw) (defBody s_law_draw) (defScope s_law_draw) .none kV_law_draw dc_law_draw pm_law_draw an_law_draw cd_law_draw ct_law_draw), sl_law_draw⟩)
    (c_law_draw : PySem.W.codeIn K cd_law_draw "_law_draw" = true)
    (k_law_draw : PySem.W.keepIn K (.ref f_law_draw) = true)
    (a_law_houses : PySem.W.nsIn K mainGlobals "_law_houses" = some (some (.ref f_law_houses)))
    (l_law_houses : K.lookup f_law_houses = some ⟨oc_law_houses, od_law_houses, .func (PySem.W.fnOf "_law_houses" "_law_houses" (defArgs s_law_houses) (defBody s_law_houses) (defScope s_law_houses) .none kV_law_houses dc_law_houses pm_law_houses an_law_houses cd_law_houses ct_law_houses), sl_law_houses⟩)
    (c_law_houses : PySem.W.codeIn K cd_law_houses "_law_houses" = true)
    (k_law_houses : PySem.W.keepIn K (.ref f_law_houses) = true)
    (a_law_kinds : PySem.W.nsIn K mainGlobals "_law_kinds" = some (some (.ref f_law_kinds)))
    (l_law_kinds : K.lookup f_law_kinds = some ⟨oc_law_kinds, od_law_kinds, .func (PySem.W.fnOf "_law_kinds" "_law_kinds" (defArgs s_law_kinds) (defBody s_law_kinds) (defScope s_law_kinds) .none kV_law_kinds dc_law_kinds pm_law_kinds an_law_kinds cd_law_kinds ct_law_kinds), sl_law_kinds⟩)
    (c_law_kinds : PySem.W.codeIn K cd_law_kinds "_law_kinds" = true)
    (k_law_kinds : PySem.W.keepIn K (.ref f_law_kinds) = true)
    (a_law_told : PySem.W.nsIn K mainGlobals "_law_told" = some (some (.ref f_law_told)))
    (l_law_told : K.lookup f_law_told = some ⟨oc_law_told, od_law_told, .func (PySem.W.fnOf "_law_told" "_law_told" (defArgs s_law_told) (defBody s_law_told) (defScope s_law_told) .none kV_law_told dc_law_told pm_law_told an_law_told cd_law_told ct_law_told), sl_law_told⟩)
    (c_law_told : PySem.W.codeIn K cd_law_told "_law_told" = true)
    (k_law_told : PySem.W.keepIn K (.ref f_law_told) = true)
    (a_law_ring : PySem.W.nsIn K mainGlobals "_law_ring" = some (some (.ref f_law_ring)))
    (l_law_ring : K.lookup f_law_ring = some ⟨oc_law_ring, od_law_ring, .func (PySem.W.fnOf "_law_ring" "_law_ring" (defArgs s_law_ring) (defBody s_law_ring) (defScope s_law_ring) .none kV_law_ring dc_law_ring pm_law_ring an_law_ring cd_law_ring ct_law_ring), sl_law_ring⟩)
    (c_law_ring : PySem.W.codeIn K cd_law_ring "_law_ring" = true)
    (k_law_ring : PySem.W.keepIn K (.ref f_law_ring) = true)
    (a_law_with_tolls : PySem.W.nsIn K mainGlobals "_law_with_tolls" = some (some (.ref f_law_with_tolls)))
    (l_law_with_tolls : K.lookup f_law_with_tolls = some ⟨oc_law_with_tolls, od_law_with_tolls, .func (PySem.W.fnOf "_law_with_tolls" "_law_with_tolls" (defArgs s_law_with_tolls) (defBody s_law_with_tolls) (defScope s_law_with_tolls) .none kV_law_with_tolls dc_law_with_tolls pm_law_with_tolls an_law_with_tolls cd_law_with_tolls ct_law_with_tolls), sl_law_with_tolls⟩)
    (c_law_with_tolls : PySem.W.codeIn K cd_law_with_tolls "_law_with_tolls" = true)
    (k_law_with_tolls : PySem.W.keepIn K (.ref f_law_with_tolls) = true)
    (a_law_ends : PySem.W.nsIn K mainGlobals "_law_ends" = some (some (.ref f_law_ends)))
    (l_law_ends : K.lookup f_law_ends = some ⟨oc_law_ends, od_law_ends, .func (PySem.W.fnOf "_law_ends" "_law_ends" (defArgs s_law_ends) (defBody s_law_ends) (defScope s_law_ends) .none kV_law_ends dc_law_ends pm_law_ends an_law_ends cd_law_ends ct_law_ends), sl_law_ends⟩)
    (c_law_ends : PySem.W.codeIn K cd_law_ends "_law_ends" = true)
    (k_law_ends : PySem.W.keepIn K (.ref f_law_ends) = true)
    (a_law_within : PySem.W.nsIn K mainGlobals "_law_within" = some (some (.ref f_law_within)))
    (l_law_within : K.lookup f_law_within = some ⟨oc_law_within, od_law_within, .func (PySem.W.fnOf "_law_within" "_law_within" (defArgs s_law_within) (defBody s_law_within) (defScope s_law_within) .none kV_law_within dc_law_within pm_law_within an_law_within cd_law_within ct_law_within), sl_law_within⟩)
    (c_law_within : PySem.W.codeIn K cd_law_within "_law_within" = true)
    (k_law_within : PySem.W.keepIn K (.ref f_law_within) = true)
    (a_law_turned : PySem.W.nsIn K mainGlobals "_law_turned" = some (some (.ref f_law_turned)))
    (l_law_turned : K.lookup f_law_turned = some ⟨oc_law_turned, od_law_turned, .func (PySem.W.fnOf "_law_turned" "_law_turned" (defArgs s_law_turned) (defBody s_law_turned) (defScope s_law_turned) .none kV_law_turned dc_law_turned pm_law_turned an_law_turned cd_law_turned ct_law_turned), sl_law_turned⟩)
    (c_law_turned : PySem.W.codeIn K cd_law_turned "_law_turned" = true)
    (k_law_turned : PySem.W.keepIn K (.ref f_law_turned) = true)
    (a_law_together : PySem.W.nsIn K mainGlobals "_law_together" = some (some (.ref f_law_together)))
    (l_law_together : K.lookup f_law_together = some ⟨oc_law_together, od_law_together, .func (PySem.W.fnOf "_law_together" "_law_together" (defArgs s_law_together) (defBody s_law_together) (defScope s_law_together) .none kV_law_together dc_law_together pm_law_together an_law_together cd_law_together ct_law_together), sl_law_together⟩)
    (c_law_together : PySem.W.codeIn K cd_law_together "_law_together" = true)
    (k_law_together : PySem.W.keepIn K (.ref f_law_together) = true)
    (a_law_plain : PySem.W.nsIn K mainGlobals "_law_plain" = some (some (.ref f_law_plain)))
    (l_law_plain : K.lookup f_law_plain = some ⟨oc_law_plain, od_law_plain, .func (PySem.W.fnOf "_law_plain" "_law_plain" (defArgs s_law_plain) (defBody s_law_plain) (defScope s_law_plain) .none kV_law_plain dc_law_plain pm_law_plain an_law_plain cd_law_plain ct_law_plain), sl_law_plain⟩)
    (c_law_plain : PySem.W.codeIn K cd_law_plain "_law_plain" = true)
    (k_law_plain : PySem.W.keepIn K (.ref f_law_plain) = true)
    (a_law_lack : PySem.W.nsIn K mainGlobals "_law_lack" = some (some (.ref f_law_lack)))
    (l_law_lack : K.lookup f_law_lack = some ⟨oc_law_lack, od_law_lack, .func (PySem.W.fnOf "_law_lack" "_law_lack" (defArgs s_law_lack) (defBody s_law_lack) (defScope s_law_lack) .none kV_law_lack dc_law_lack pm_law_lack an_law_lack cd_law_lack ct_law_lack), sl_law_lack⟩)
    (c_law_lack : PySem.W.codeIn K cd_law_lack "_law_lack" = true)
    (k_law_lack : PySem.W.keepIn K (.ref f_law_lack) = true)
    (a_law_all : PySem.W.nsIn K mainGlobals "_law_all" = some (some (.ref f_law_all)))
    (l_law_all : K.lookup f_law_all = some ⟨oc_law_all, od_law_all, .func (PySem.W.fnOf "_law_all" "_law_all" (defArgs s_law_all) (defBody s_law_all) (defScope s_law_all) .none kV_law_all dc_law_all pm_law_all an_law_all cd_law_all ct_law_all), sl_law_all⟩)
    (c_law_all : PySem.W.codeIn K cd_law_all "_law_all" = true)
    (k_law_all : PySem.W.keepIn K (.ref f_law_all) = true)
    (a_law_rings_right : PySem.W.nsIn K mainGlobals "_law_rings_right" = some (some (.ref f_law_rings_right)))
    (l_law_rings_right : K.lookup f_law_rings_right = some ⟨oc_law_rings_right, od_law_rings_right, .func (PySem.W.fnOf "_law_rings_right" "_law_rings_right" (defArgs s_law_rings_right) (defBody s_law_rings_right) (defScope s_law_rings_right) .none kV_law_rings_right dc_law_rings_right pm_law_rings_right an_law_rings_right cd_law_rings_right ct_law_rings_right), sl_law_rings_right⟩)
    (c_law_rings_right : PySem.W.codeIn K cd_law_rings_right "_law_rings_right" = true)
    (k_law_rings_right : PySem.W.keepIn K (.ref f_law_rings_right) = true)
    (a_law_tolls_right : PySem.W.nsIn K mainGlobals "_law_tolls_right" = some (some (.ref f_law_tolls_right)))
    (l_law_tolls_right : K.lookup f_law_tolls_right = some ⟨oc_law_tolls_right, od_law_tolls_right, .func (PySem.W.fnOf "_law_tolls_right" "_law_tolls_right" (defArgs s_law_tolls_right) (defBody s_law_tolls_right) (defScope s_law_tolls_right) .none kV_law_tolls_right dc_law_tolls_right pm_law_tolls_right an_law_tolls_right cd_law_tolls_right ct_law_tolls_right), sl_law_tolls_right⟩)
    (c_law_tolls_right : PySem.W.codeIn K cd_law_tolls_right "_law_tolls_right" = true)
    (k_law_tolls_right : PySem.W.keepIn K (.ref f_law_tolls_right) = true)
    (a_law_lacking_right : PySem.W.nsIn K mainGlobals "_law_lacking_right" = some (some (.ref f_law_lacking_right)))
    (l_law_lacking_right : K.lookup f_law_lacking_right = some ⟨oc_law_lacking_right, od_law_lacking_right, .func (PySem.W.fnOf "_law_lacking_right" "_law_lacking_right" (defArgs s_law_lacking_right) (defBody s_law_lacking_right) (defScope s_law_lacking_right) .none kV_law_lacking_right dc_law_lacking_right pm_law_lacking_right an_law_lacking_right cd_law_lacking_right ct_law_lacking_right), sl_law_lacking_right⟩)
    (c_law_lacking_right : PySem.W.codeIn K cd_law_lacking_right "_law_lacking_right" = true)
    (k_law_lacking_right : PySem.W.keepIn K (.ref f_law_lacking_right) = true)
    (a_law : PySem.W.nsIn K mainGlobals "law" = some (some (.ref f_law)))
    (l_law : K.lookup f_law = some ⟨oc_law, od_law, .func (PySem.W.fnOf "law" "law" (defArgs s_law) (defBody s_law) (defScope s_law) .none kV_law dc_law pm_law an_law cd_law ct_law), sl_law⟩)
    (c_law : PySem.W.codeIn K cd_law "law" = true)
    (k_law : PySem.W.keepIn K (.ref f_law) = true)
    (pg_Even : PySem.W.plainGet K C_Even Str.empty = true)
    (hd_Even : PySem.W.hasDictIn K C_Even = true)
    (po_Even : PySem.W.plainOver K C_Even = true)
    (sa_Even : PySem.W.findIn K (.ref C_Even) "__setattr__" = some (some (.builtin "object.__setattr__")))
    (mk_Even : PySem.W.makesIn K C_Even = true)
    (kc_Even : PySem.W.keepIn K (.ref C_Even) = true)
    (n_Even_carried : PySem.W.findIn K (.ref C_Even) "carried" = some none)
    (n_Even_prices : PySem.W.findIn K (.ref C_Even) "prices" = some none)
    (pg_Uneven : PySem.W.plainGet K C_Uneven Str.empty = true)
    (hd_Uneven : PySem.W.hasDictIn K C_Uneven = true)
    (po_Uneven : PySem.W.plainOver K C_Uneven = true)
    (sa_Uneven : PySem.W.findIn K (.ref C_Uneven) "__setattr__" = some (some (.builtin "object.__setattr__")))
    (mk_Uneven : PySem.W.makesIn K C_Uneven = true)
    (kc_Uneven : PySem.W.keepIn K (.ref C_Uneven) = true)
    (n_Uneven_total : PySem.W.findIn K (.ref C_Uneven) "total" = some none)
    (pg_Within : PySem.W.plainGet K C_Within Str.empty = true)
    (hd_Within : PySem.W.hasDictIn K C_Within = true)
    (po_Within : PySem.W.plainOver K C_Within = true)
    (sa_Within : PySem.W.findIn K (.ref C_Within) "__setattr__" = some (some (.builtin "object.__setattr__")))
    (mk_Within : PySem.W.makesIn K C_Within = true)
    (kc_Within : PySem.W.keepIn K (.ref C_Within) = true)
    (n_Within_carried : PySem.W.findIn K (.ref C_Within) "carried" = some none)
    (pg_Stretch : PySem.W.plainGet K C_Stretch Str.empty = true)
    (hd_Stretch : PySem.W.hasDictIn K C_Stretch = true)
    (po_Stretch : PySem.W.plainOver K C_Stretch = true)
    (sa_Stretch : PySem.W.findIn K (.ref C_Stretch) "__setattr__" = some (some (.builtin "object.__setattr__")))
    (mk_Stretch : PySem.W.makesIn K C_Stretch = true)
    (kc_Stretch : PySem.W.keepIn K (.ref C_Stretch) = true)
    (n_Stretch_first : PySem.W.findIn K (.ref C_Stretch) "first" = some none)
    (n_Stretch_many : PySem.W.findIn K (.ref C_Stretch) "many" = some none)
    (pg_Ring : PySem.W.plainGet K C_Ring Str.empty = true)
    (hd_Ring : PySem.W.hasDictIn K C_Ring = true)
    (po_Ring : PySem.W.plainOver K C_Ring = true)
    (sa_Ring : PySem.W.findIn K (.ref C_Ring) "__setattr__" = some (some (.builtin "object.__setattr__")))
    (mk_Ring : PySem.W.makesIn K C_Ring = true)
    (kc_Ring : PySem.W.keepIn K (.ref C_Ring) = true)
    (n_Ring_numbers : PySem.W.findIn K (.ref C_Ring) "numbers" = some none)
    (yx_RingError : PySem.W.excIn K C_RingError bmV "ValueError.__new__" = true)
    (yxm_RingError_RingError : PySem.W.mroIn K C_RingError (.ref C_RingError) = some true)
    (yx_BadRing : PySem.W.excIn K C_BadRing bmV "ValueError.__new__" = true)
    (yxm_BadRing_BadRing : PySem.W.mroIn K C_BadRing (.ref C_BadRing) = some true)
    (yxm_BadRing_RingError : PySem.W.mroIn K C_BadRing (.ref C_RingError) = some true)
    (yx_BadTolls : PySem.W.excIn K C_BadTolls bmV "ValueError.__new__" = true)
    (yxm_BadTolls_BadTolls : PySem.W.mroIn K C_BadTolls (.ref C_BadTolls) = some true)
    (yxm_BadTolls_RingError : PySem.W.mroIn K C_BadTolls (.ref C_RingError) = some true)
    (yx_BadMost : PySem.W.excIn K C_BadMost bmV "ValueError.__new__" = true)
    (yxm_BadMost_BadMost : PySem.W.mroIn K C_BadMost (.ref C_BadMost) = some true)
    (yxm_BadMost_RingError : PySem.W.mroIn K C_BadMost (.ref C_RingError) = some true)
    (yx_Unlike : PySem.W.excIn K C_Unlike bmV "ValueError.__new__" = true)
    (yxm_Unlike_Unlike : PySem.W.mroIn K C_Unlike (.ref C_Unlike) = some true)
    (yxm_Unlike_RingError : PySem.W.mroIn K C_Unlike (.ref C_RingError) = some true)
    (yx_Lacking : excInI K C_Lacking bmV "ValueError.__new__" f_Lacking_init__ = true)
    (yxn_Lacking : PySem.W.isFn K (.ref f_Lacking_init__) = true)
    (ykc_Lacking : PySem.W.keepIn K (.ref C_Lacking) = true)
    (yxs_Lacking : PySem.W.findIn K (.ref C_Lacking) "__setattr__" = some (some (.builtin "object.__setattr__")))
    (yxl_Lacking : PySem.W.lackIn K C_Lacking C_RingError = true)
    (yxa_Lacking_total : PySem.W.findIn K (.ref C_Lacking) "total" = some none)
    (yr1_RingError : PySem.W.specialIn K (.ref C_RingError) "__getattribute__" = some (some (.builtin "type.__getattribute__")))
    (yr2_RingError : PySem.W.readsIn K C_RingError (.type "type") = true)
    (yr3_RingError : PySem.W.findCls K (.ref C_RingError) (.type "type") "__init__" = some (.val (.builtin "ValueError.__init__")))
    (yxm_Lacking_Lacking : PySem.W.mroIn K C_Lacking (.ref C_Lacking) = some true)
    (yxm_Lacking_RingError : PySem.W.mroIn K C_Lacking (.ref C_RingError) = some true)
    (yx_BadText : PySem.W.excIn K C_BadText bmV "ValueError.__new__" = true)
    (yxm_BadText_BadText : PySem.W.mroIn K C_BadText (.ref C_BadText) = some true)
    (yxm_BadText_RingError : PySem.W.mroIn K C_BadText (.ref C_RingError) = some true)
    (xk1_RingError : PySem.W.findIn K (.ref C_RingError) "__getattribute__" = some (some (.builtin "BaseException.__getattribute__")))
    (xk2_RingError : PySem.W.findIn K (.ref C_RingError) "__getattr__" = some none)
    (xk3_RingError : PySem.W.mroIn K C_RingError (.type "BaseException") = some true)
    (xk4_RingError : PySem.W.mroIn K C_RingError (.type "object") = some true)
    (xk5_RingError : PySem.W.hasDictIn K C_RingError = true)
    (xk6_RingError : PySem.W.findIn K (.ref C_RingError) "__class__" = some (some (.builtin "object.__class__")))
    (xk1_BadRing : PySem.W.findIn K (.ref C_BadRing) "__getattribute__" = some (some (.builtin "BaseException.__getattribute__")))
    (xk2_BadRing : PySem.W.findIn K (.ref C_BadRing) "__getattr__" = some none)
    (xk3_BadRing : PySem.W.mroIn K C_BadRing (.type "BaseException") = some true)
    (xk4_BadRing : PySem.W.mroIn K C_BadRing (.type "object") = some true)
    (xk5_BadRing : PySem.W.hasDictIn K C_BadRing = true)
    (xk6_BadRing : PySem.W.findIn K (.ref C_BadRing) "__class__" = some (some (.builtin "object.__class__")))
    (xk1_BadTolls : PySem.W.findIn K (.ref C_BadTolls) "__getattribute__" = some (some (.builtin "BaseException.__getattribute__")))
    (xk2_BadTolls : PySem.W.findIn K (.ref C_BadTolls) "__getattr__" = some none)
    (xk3_BadTolls : PySem.W.mroIn K C_BadTolls (.type "BaseException") = some true)
    (xk4_BadTolls : PySem.W.mroIn K C_BadTolls (.type "object") = some true)
    (xk5_BadTolls : PySem.W.hasDictIn K C_BadTolls = true)
    (xk6_BadTolls : PySem.W.findIn K (.ref C_BadTolls) "__class__" = some (some (.builtin "object.__class__")))
    (xk1_BadMost : PySem.W.findIn K (.ref C_BadMost) "__getattribute__" = some (some (.builtin "BaseException.__getattribute__")))
    (xk2_BadMost : PySem.W.findIn K (.ref C_BadMost) "__getattr__" = some none)
    (xk3_BadMost : PySem.W.mroIn K C_BadMost (.type "BaseException") = some true)
    (xk4_BadMost : PySem.W.mroIn K C_BadMost (.type "object") = some true)
    (xk5_BadMost : PySem.W.hasDictIn K C_BadMost = true)
    (xk6_BadMost : PySem.W.findIn K (.ref C_BadMost) "__class__" = some (some (.builtin "object.__class__")))
    (xk1_Unlike : PySem.W.findIn K (.ref C_Unlike) "__getattribute__" = some (some (.builtin "BaseException.__getattribute__")))
    (xk2_Unlike : PySem.W.findIn K (.ref C_Unlike) "__getattr__" = some none)
    (xk3_Unlike : PySem.W.mroIn K C_Unlike (.type "BaseException") = some true)
    (xk4_Unlike : PySem.W.mroIn K C_Unlike (.type "object") = some true)
    (xk5_Unlike : PySem.W.hasDictIn K C_Unlike = true)
    (xk6_Unlike : PySem.W.findIn K (.ref C_Unlike) "__class__" = some (some (.builtin "object.__class__")))
    (xk1_Lacking : PySem.W.findIn K (.ref C_Lacking) "__getattribute__" = some (some (.builtin "BaseException.__getattribute__")))
    (xk2_Lacking : PySem.W.findIn K (.ref C_Lacking) "__getattr__" = some none)
    (xk3_Lacking : PySem.W.mroIn K C_Lacking (.type "BaseException") = some true)
    (xk4_Lacking : PySem.W.mroIn K C_Lacking (.type "object") = some true)
    (xk5_Lacking : PySem.W.hasDictIn K C_Lacking = true)
    (xk6_Lacking : PySem.W.findIn K (.ref C_Lacking) "__class__" = some (some (.builtin "object.__class__")))
    (xk1_BadText : PySem.W.findIn K (.ref C_BadText) "__getattribute__" = some (some (.builtin "BaseException.__getattribute__")))
    (xk2_BadText : PySem.W.findIn K (.ref C_BadText) "__getattr__" = some none)
    (xk3_BadText : PySem.W.mroIn K C_BadText (.type "BaseException") = some true)
    (xk4_BadText : PySem.W.mroIn K C_BadText (.type "object") = some true)
    (xk5_BadText : PySem.W.hasDictIn K C_BadText = true)
    (xk6_BadText : PySem.W.findIn K (.ref C_BadText) "__class__" = some (some (.builtin "object.__class__")))
    (j1_Ring : PySem.W.findIn K (.ref C_Ring) "__class__" = some (some (.builtin "object.__class__")))
    (j2_Ring : PySem.W.mroIn K C_Ring (.type "object") = some true)
    (j3 : PySem.W.specialIn K (.builtin "object.__class__") "__get__" = some (some (.builtin "getset_descriptor.__get__")))
    (j4 : PySem.W.takesIn K (.builtin "object.__class__") = some true)
    (isi_Ring_Ring : PySem.W.kitOne K (.ref C_Ring) (.ref C_Ring) = some true)
    (isi_BadRing_BadRing : PySem.W.kitOne K (.ref C_BadRing) (.ref C_BadRing) = some true)
    (isi_BadRing_BadTolls : PySem.W.kitOne K (.ref C_BadRing) (.ref C_BadTolls) = some false)
    (isi_BadRing_BadMost : PySem.W.kitOne K (.ref C_BadRing) (.ref C_BadMost) = some false)
    (isi_BadRing_Unlike : PySem.W.kitOne K (.ref C_BadRing) (.ref C_Unlike) = some false)
    (isi_BadRing_Lacking : PySem.W.kitOne K (.ref C_BadRing) (.ref C_Lacking) = some false)
    (isi_BadRing_BadText : PySem.W.kitOne K (.ref C_BadRing) (.ref C_BadText) = some false)
    (isi_BadRing_ValueError : PySem.W.kitOne K (.ref C_BadRing) (.type "ValueError") = some true)
    (isi_BadTolls_BadRing : PySem.W.kitOne K (.ref C_BadTolls) (.ref C_BadRing) = some false)
    (isi_BadTolls_BadTolls : PySem.W.kitOne K (.ref C_BadTolls) (.ref C_BadTolls) = some true)
    (isi_BadTolls_BadMost : PySem.W.kitOne K (.ref C_BadTolls) (.ref C_BadMost) = some false)
    (isi_BadTolls_Unlike : PySem.W.kitOne K (.ref C_BadTolls) (.ref C_Unlike) = some false)
    (isi_BadTolls_Lacking : PySem.W.kitOne K (.ref C_BadTolls) (.ref C_Lacking) = some false)
    (isi_BadTolls_BadText : PySem.W.kitOne K (.ref C_BadTolls) (.ref C_BadText) = some false)
    (isi_BadTolls_ValueError : PySem.W.kitOne K (.ref C_BadTolls) (.type "ValueError") = some true)
    (isi_BadMost_BadRing : PySem.W.kitOne K (.ref C_BadMost) (.ref C_BadRing) = some false)
    (isi_BadMost_BadTolls : PySem.W.kitOne K (.ref C_BadMost) (.ref C_BadTolls) = some false)
    (isi_BadMost_BadMost : PySem.W.kitOne K (.ref C_BadMost) (.ref C_BadMost) = some true)
    (isi_BadMost_Unlike : PySem.W.kitOne K (.ref C_BadMost) (.ref C_Unlike) = some false)
    (isi_BadMost_Lacking : PySem.W.kitOne K (.ref C_BadMost) (.ref C_Lacking) = some false)
    (isi_BadMost_BadText : PySem.W.kitOne K (.ref C_BadMost) (.ref C_BadText) = some false)
    (isi_BadMost_ValueError : PySem.W.kitOne K (.ref C_BadMost) (.type "ValueError") = some true)
    (isi_Unlike_BadRing : PySem.W.kitOne K (.ref C_Unlike) (.ref C_BadRing) = some false)
    (isi_Unlike_BadTolls : PySem.W.kitOne K (.ref C_Unlike) (.ref C_BadTolls) = some false)
    (isi_Unlike_BadMost : PySem.W.kitOne K (.ref C_Unlike) (.ref C_BadMost) = some false)
    (isi_Unlike_Unlike : PySem.W.kitOne K (.ref C_Unlike) (.ref C_Unlike) = some true)
    (isi_Unlike_Lacking : PySem.W.kitOne K (.ref C_Unlike) (.ref C_Lacking) = some false)
    (isi_Unlike_BadText : PySem.W.kitOne K (.ref C_Unlike) (.ref C_BadText) = some false)
    (isi_Unlike_ValueError : PySem.W.kitOne K (.ref C_Unlike) (.type "ValueError") = some true)
    (isi_Lacking_BadRing : PySem.W.kitOne K (.ref C_Lacking) (.ref C_BadRing) = some false)
    (isi_Lacking_BadTolls : PySem.W.kitOne K (.ref C_Lacking) (.ref C_BadTolls) = some false)
    (isi_Lacking_BadMost : PySem.W.kitOne K (.ref C_Lacking) (.ref C_BadMost) = some false)
    (isi_Lacking_Unlike : PySem.W.kitOne K (.ref C_Lacking) (.ref C_Unlike) = some false)
    (isi_Lacking_Lacking : PySem.W.kitOne K (.ref C_Lacking) (.ref C_Lacking) = some true)
    (isi_Lacking_BadText : PySem.W.kitOne K (.ref C_Lacking) (.ref C_BadText) = some false)
    (isi_Lacking_ValueError : PySem.W.kitOne K (.ref C_Lacking) (.type "ValueError") = some true)
    (z_ValueError : PySem.W.nsIn K mainGlobals "ValueError" = some none)
    (z_abs : PySem.W.nsIn K mainGlobals "abs" = some none)
    (z_all : PySem.W.nsIn K mainGlobals "all" = some none)
    (z_bool : PySem.W.nsIn K mainGlobals "bool" = some none)
    (z_enumerate : PySem.W.nsIn K mainGlobals "enumerate" = some none)
    (z_int : PySem.W.nsIn K mainGlobals "int" = some none)
    (z_isinstance : PySem.W.nsIn K mainGlobals "isinstance" = some none)
    (z_len : PySem.W.nsIn K mainGlobals "len" = some none)
    (z_list : PySem.W.nsIn K mainGlobals "list" = some none)
    (z_max : PySem.W.nsIn K mainGlobals "max" = some none)
    (z_min : PySem.W.nsIn K mainGlobals "min" = some none)
    (z_range : PySem.W.nsIn K mainGlobals "range" = some none)
    (z_sorted : PySem.W.nsIn K mainGlobals "sorted" = some none)
    (z_sum : PySem.W.nsIn K mainGlobals "sum" = some none)
    (z_zip : PySem.W.nsIn K mainGlobals "zip" = some none)
    (v_FARTHEST_NUMBER_ : PySem.W.nsIn K mainGlobals "FARTHEST_NUMBER" = some (some (.int 1000000 v_FARTHEST_NUMBER)))
    (v_FEWEST_HOUSES_ : PySem.W.nsIn K mainGlobals "FEWEST_HOUSES" = some (some (.int 2 v_FEWEST_HOUSES)))
    (v_HIGHEST_TOLL_ : PySem.W.nsIn K mainGlobals "HIGHEST_TOLL" = some (some (.int 1000 v_HIGHEST_TOLL)))
    : ∃ t : Adr, Txt K mg t := by
  have F_wall := fun_mk (st := s_wall) l_wall c_wall k_wall
  have B_wall := F_wall.binds (ps := P_wall) fun _ _ _ _ _ _ us hl => match us, hl with | [_], _ => rfl
  have F_Even_init__ := fun_mk (st := s_Even_init__) l_Even_init__ c_Even_init__ k_Even_init__
  have B_Even_init__ := F_Even_init__.binds (ps := P_Even_init__) fun _ _ _ _ _ _ us hl => match us, hl with | [_, _, _], _ => rfl
  have F_Even_evens := fun_mk (st := s_Even_evens) l_Even_evens c_Even_evens k_Even_evens
  have B_Even_evens := F_Even_evens.binds (ps := P_Even_evens) fun _ _ _ _ _ _ us hl => match us, hl with | [_, _], _ => rfl
  have F_Even_shows := fun_mk (st := s_Even_shows) l_Even_shows c_Even_shows k_Even_shows
  have B_Even_shows := F_Even_shows.binds (ps := P_Even_shows) fun _ _ _ _ _ _ us hl => match us, hl with | [_, _, _], _ => rfl
  have F_Uneven_init__ := fun_mk (st := s_Uneven_init__) l_Uneven_init__ c_Uneven_init__ k_Uneven_init__
  have B_Uneven_init__ := F_Uneven_init__.binds (ps := P_Uneven_init__) fun _ _ _ _ _ _ us hl => match us, hl with | [_, _], _ => rfl
  have F_Uneven_shows := fun_mk (st := s_Uneven_shows) l_Uneven_shows c_Uneven_shows k_Uneven_shows
  have B_Uneven_shows := F_Uneven_shows.binds (ps := P_Uneven_shows) fun _ _ _ _ _ _ us hl => match us, hl with | [_, _, _], _ => rfl
  have F_Within_init__ := fun_mk (st := s_Within_init__) l_Within_init__ c_Within_init__ k_Within_init__
  have B_Within_init__ := F_Within_init__.binds (ps := P_Within_init__) fun _ _ _ _ _ _ us hl => match us, hl with | [_, _], _ => rfl
  have F_Within_shows := fun_mk (st := s_Within_shows) l_Within_shows c_Within_shows k_Within_shows
  have B_Within_shows := F_Within_shows.binds (ps := P_Within_shows) fun _ _ _ _ _ _ us hl => match us, hl with | [_, _, _], _ => rfl
  have F_Stretch_init__ := fun_mk (st := s_Stretch_init__) l_Stretch_init__ c_Stretch_init__ k_Stretch_init__
  have B_Stretch_init__ := F_Stretch_init__.binds (ps := P_Stretch_init__) fun _ _ _ _ _ _ us hl => match us, hl with | [_, _, _], _ => rfl
  have F_Stretch_shows := fun_mk (st := s_Stretch_shows) l_Stretch_shows c_Stretch_shows k_Stretch_shows
  have B_Stretch_shows := F_Stretch_shows.binds (ps := P_Stretch_shows) fun _ _ _ _ _ _ us hl => match us, hl with | [_, _, _], _ => rfl
  have F_Lacking_init__ := fun_mk (st := s_Lacking_init__) l_Lacking_init__ c_Lacking_init__ k_Lacking_init__
  have B_Lacking_init__ := F_Lacking_init__.binds (ps := P_Lacking_init__) fun _ _ _ _ _ _ us hl => match us, hl with | [_, _], _ => rfl
  have F_is_whole_number := fun_mk (st := s_is_whole_number) l_is_whole_number c_is_whole_number k_is_whole_number
  have B_is_whole_number := F_is_whole_number.binds (ps := P_is_whole_number) fun _ _ _ _ _ _ us hl => match us, hl with | [_], _ => rfl
  have F_is_house := fun_mk (st := s_is_house) l_is_house c_is_house k_is_house
  have B_is_house := F_is_house.binds (ps := P_is_house) fun _ _ _ _ _ _ us hl => match us, hl with | [_], _ => rfl
  have F_are_houses := fun_mk (st := s_are_houses) l_are_houses c_are_houses k_are_houses
  have B_are_houses := F_are_houses.binds (ps := P_are_houses) fun _ _ _ _ _ _ us hl => match us, hl with | [_], _ => rfl
  have F_Ring_init__ := fun_mk (st := s_Ring_init__) l_Ring_init__ c_Ring_init__ k_Ring_init__
  have B_Ring_init__ := F_Ring_init__.binds (ps := P_Ring_init__) fun _ _ _ _ _ _ us hl => match us, hl with | [_, _], _ => rfl
  have F_Ring_houses := fun_mk (st := s_Ring_houses) l_Ring_houses c_Ring_houses k_Ring_houses
  have B_Ring_houses := F_Ring_houses.binds (ps := P_Ring_houses) fun _ _ _ _ _ _ us hl => match us, hl with | [_], _ => rfl
  have F_Ring_whole := fun_mk (st := s_Ring_whole) l_Ring_whole c_Ring_whole k_Ring_whole
  have B_Ring_whole := F_Ring_whole.binds (ps := P_Ring_whole) fun _ _ _ _ _ _ us hl => match us, hl with | [_], _ => rfl
  have F_turned := fun_mk (st := s_turned) l_turned c_turned k_turned
  have B_turned := F_turned.binds (ps := P_turned) fun _ _ _ _ _ _ us hl => match us, hl with | [_, _], _ => rfl
  have F_together := fun_mk (st := s_together) l_together c_together k_together
  have B_together := F_together.binds (ps := P_together) fun _ _ _ _ _ _ us hl => match us, hl with | [_, _], _ => rfl
  have F_is_toll := fun_mk (st := s_is_toll) l_is_toll c_is_toll k_is_toll
  have B_is_toll := F_is_toll.binds (ps := P_is_toll) fun _ _ _ _ _ _ us hl => match us, hl with | [_], _ => rfl
  have F_tolls_for := fun_mk (st := s_tolls_for) l_tolls_for c_tolls_for k_tolls_for
  have B_tolls_for := F_tolls_for.binds (ps := P_tolls_for) fun _ _ _ _ _ _ us hl => match us, hl with | [_, _], _ => rfl
  have F_along := fun_mk (st := s_along) l_along c_along k_along
  have B_along := F_along.binds (ps := P_along) fun _ _ _ _ _ _ us hl => match us, hl with | [_], _ => rfl
  have F_lowest_middle := fun_mk (st := s_lowest_middle) l_lowest_middle c_lowest_middle k_lowest_middle
  have B_lowest_middle := F_lowest_middle.binds (ps := P_lowest_middle) fun _ _ _ _ _ _ us hl => match us, hl with | [_, _], _ => rfl
  have F_least_over_last := fun_mk (st := s_least_over_last) l_least_over_last c_least_over_last k_least_over_last
  have B_least_over_last := F_least_over_last.binds (ps := P_least_over_last) fun _ _ _ _ _ _ us hl => match us, hl with | [_, _], _ => rfl
  have F_greatest_over_last := fun_mk (st := s_greatest_over_last) l_greatest_over_last c_greatest_over_last k_greatest_over_last
  have B_greatest_over_last := F_greatest_over_last.binds (ps := P_greatest_over_last) fun _ _ _ _ _ _ us hl => match us, hl with | [_, _], _ => rfl
  have F_full_step := fun_mk (st := s_full_step) l_full_step c_full_step k_full_step
  have B_full_step := F_full_step.binds (ps := P_full_step) fun _ _ _ _ _ _ us hl => match us, hl with | [_, _], _ => rfl
  have F_steps_down := fun_mk (st := s_steps_down) l_steps_down c_steps_down k_steps_down
  have B_steps_down := F_steps_down.binds (ps := P_steps_down) fun _ _ _ _ _ _ us hl => match us, hl with | [_, _], _ => rfl
  have F_prices_by := fun_mk (st := s_prices_by) l_prices_by c_prices_by k_prices_by
  have B_prices_by := F_prices_by.binds (ps := P_prices_by) fun _ _ _ _ _ _ us hl => match us, hl with | [_], _ => rfl
  have F_least := fun_mk (st := s_least) l_least c_least k_least
  have B_least := F_least.binds (ps := P_least) fun _ _ _ _ _ _ us hl => match us, hl with | [_, _], _ => rfl
  have F_ends := fun_mk (st := s_ends) l_ends c_ends k_ends
  have B_ends := F_ends.binds (ps := P_ends) fun _ _ _ _ _ _ us hl => match us, hl with | [_, _], _ => rfl
  have F_stretch_between := fun_mk (st := s_stretch_between) l_stretch_between c_stretch_between k_stretch_between
  have B_stretch_between := F_stretch_between.binds (ps := P_stretch_between) fun _ _ _ _ _ _ us hl => match us, hl with | [_, _], _ => rfl
  have F_within := fun_mk (st := s_within) l_within c_within k_within
  have B_within := F_within.binds (ps := P_within) fun _ _ _ _ _ _ us hl => match us, hl with | [_, _], _ => rfl
  have F_widest := fun_mk (st := s_widest) l_widest c_widest k_widest
  have B_widest := F_widest.binds (ps := P_widest) fun _ _ _ _ _ _ us hl => match us, hl with | [_], _ => rfl
  have F_law_cell_at := fun_mk (st := s_law_cell_at) l_law_cell_at c_law_cell_at k_law_cell_at
  have B_law_cell_at := F_law_cell_at.binds (ps := P_law_cell_at) fun _ _ _ _ _ _ us hl => match us, hl with | [_, _], _ => rfl
  have F_law_draw := fun_mk (st := s_law_draw) l_law_draw c_law_draw k_law_draw
  have B_law_draw := F_law_draw.binds (ps := P_law_draw) fun _ _ _ _ _ _ us hl => match us, hl with | [_, _, _], _ => rfl
  have F_law_houses := fun_mk (st := s_law_houses) l_law_houses c_law_houses k_law_houses
  have B_law_houses := F_law_houses.binds (ps := P_law_houses) fun _ _ _ _ _ _ us hl => match us, hl with | [_, _], _ => rfl
  have F_law_kinds := fun_mk (st := s_law_kinds) l_law_kinds c_law_kinds k_law_kinds
  have B_law_kinds := F_law_kinds.binds (ps := P_law_kinds) fun _ _ _ _ _ _ us hl => match us, hl with | [_], _ => rfl
  have F_law_told := fun_mk (st := s_law_told) l_law_told c_law_told k_law_told
  have B_law_told := F_law_told.binds (ps := P_law_told) fun _ _ _ _ _ _ us hl => match us, hl with | [_, _, _], _ => rfl
  have F_law_ring := fun_mk (st := s_law_ring) l_law_ring c_law_ring k_law_ring
  have B_law_ring := F_law_ring.binds (ps := P_law_ring) fun _ _ _ _ _ _ us hl => match us, hl with | [_, _], _ => rfl
  have F_law_with_tolls := fun_mk (st := s_law_with_tolls) l_law_with_tolls c_law_with_tolls k_law_with_tolls
  have B_law_with_tolls := F_law_with_tolls.binds (ps := P_law_with_tolls) fun _ _ _ _ _ _ us hl => match us, hl with | [_, _], _ => rfl
  have F_law_ends := fun_mk (st := s_law_ends) l_law_ends c_law_ends k_law_ends
  have B_law_ends := F_law_ends.binds (ps := P_law_ends) fun _ _ _ _ _ _ us hl => match us, hl with | [_, _], _ => rfl
  have F_law_within := fun_mk (st := s_law_within) l_law_within c_law_within k_law_within
  have B_law_within := F_law_within.binds (ps := P_law_within) fun _ _ _ _ _ _ us hl => match us, hl with | [_, _], _ => rfl
  have F_law_turned := fun_mk (st := s_law_turned) l_law_turned c_law_turned k_law_turned
  have B_law_turned := F_law_turned.binds (ps := P_law_turned) fun _ _ _ _ _ _ us hl => match us, hl with | [_, _], _ => rfl
  have F_law_together := fun_mk (st := s_law_together) l_law_together c_law_together k_law_together
  have B_law_together := F_law_together.binds (ps := P_law_together) fun _ _ _ _ _ _ us hl => match us, hl with | [_, _], _ => rfl
  have F_law_plain := fun_mk (st := s_law_plain) l_law_plain c_law_plain k_law_plain
  have B_law_plain := F_law_plain.binds (ps := P_law_plain) fun _ _ _ _ _ _ us hl => match us, hl with | [_, _], _ => rfl
  have F_law_lack := fun_mk (st := s_law_lack) l_law_lack c_law_lack k_law_lack
  have B_law_lack := F_law_lack.binds (ps := P_law_lack) fun _ _ _ _ _ _ us hl => match us, hl with | [_, _], _ => rfl
  have F_law_all := fun_mk (st := s_law_all) l_law_all c_law_all k_law_all
  have B_law_all := F_law_all.binds (ps := P_law_all) fun _ _ _ _ _ _ us hl => match us, hl with | [_, _, _, _], _ => rfl
  have F_law_rings_right := fun_mk (st := s_law_rings_right) l_law_rings_right c_law_rings_right k_law_rings_right
  have B_law_rings_right := F_law_rings_right.binds (ps := P_law_rings_right) fun _ _ _ _ _ _ us hl => match us, hl with | [_, _], _ => rfl
  have F_law_tolls_right := fun_mk (st := s_law_tolls_right) l_law_tolls_right c_law_tolls_right k_law_tolls_right
  have B_law_tolls_right := F_law_tolls_right.binds (ps := P_law_tolls_right) fun _ _ _ _ _ _ us hl => match us, hl with | [_, _, _, _], _ => rfl
  have F_law_lacking_right := fun_mk (st := s_law_lacking_right) l_law_lacking_right c_law_lacking_right k_law_lacking_right
  have B_law_lacking_right := F_law_lacking_right.binds (ps := P_law_lacking_right) fun _ _ _ _ _ _ us hl => match us, hl with | [_, _, _, _], _ => rfl
  have F_law := fun_mk (st := s_law) l_law c_law k_law
  have B_law := F_law.binds (ps := P_law) fun _ _ _ _ _ _ us hl => match us, hl with | [_], _ => rfl
  exact ⟨⟨f_wall, _, f_Even_init__, _, f_Even_evens, _, f_Even_shows, _, f_Uneven_init__, _, f_Uneven_shows, _, f_Within_init__, _, f_Within_shows, _, f_Stretch_init__, _, f_Stretch_shows, _, f_Lacking_init__, _, f_is_whole_number, _, f_is_house, _, f_are_houses, _, f_Ring_init__, _, f_Ring_houses, _, f_Ring_whole, _, f_turned, _, f_together, _, f_is_toll, _, f_tolls_for, _, f_along, _, f_lowest_middle, _, f_least_over_last, _, f_greatest_over_last, _, f_full_step, _, f_steps_down, _, f_prices_by, _, f_least, _, f_ends, _, f_stretch_between, _, f_within, _, f_widest, _, f_law_cell_at, _, f_law_draw, _, f_law_houses, _, f_law_kinds, _, f_law_told, _, f_law_ring, _, f_law_with_tolls, _, f_law_ends, _, f_law_within, _, f_law_turned, _, f_law_together, _, f_law_plain, _, f_law_lack, _, f_law_all, _, f_law_rings_right, _, f_law_tolls_right, _, f_law_lacking_right, _, f_law, _, C_Even, C_Uneven, C_Within, C_Stretch, C_Ring, C_RingError, C_BadRing, C_BadTolls, C_BadMost, C_Unlike, C_Lacking, C_BadText, v_FARTHEST_NUMBER, v_FEWEST_HOUSES, v_HIGHEST_TOLL⟩,
    ⟨F_wall,
     B_wall,
     PySem.W.mg_of X G a_wall,
     F_Even_init__,
     B_Even_init__,
     F_Even_evens,
     B_Even_evens,
     F_Even_shows,
     B_Even_shows,
     F_Uneven_init__,
     B_Uneven_init__,
     F_Uneven_shows,
     B_Uneven_shows,
     F_Within_init__,
     B_Within_init__,
     F_Within_shows,
     B_Within_shows,
     F_Stretch_init__,
     B_Stretch_init__,
     F_Stretch_shows,
     B_Stretch_shows,
     F_Lacking_init__,
     B_Lacking_init__,
     F_is_whole_number,
     B_is_whole_number,
     PySem.W.mg_of X G a_is_whole_number,
     F_is_house,
     B_is_house,
     PySem.W.mg_of X G a_is_house,
     F_are_houses,
     B_are_houses,
     PySem.W.mg_of X G a_are_houses,
     F_Ring_init__,
     B_Ring_init__,
     F_Ring_houses,
     B_Ring_houses,
     F_Ring_whole,
     B_Ring_whole,
     F_turned,
     B_turned,
     PySem.W.mg_of X G a_turned,
     F_together,
     B_together,
     PySem.W.mg_of X G a_together,
     F_is_toll,
     B_is_toll,
     PySem.W.mg_of X G a_is_toll,
     F_tolls_for,
     B_tolls_for,
     PySem.W.mg_of X G a_tolls_for,
     F_along,
     B_along,
     PySem.W.mg_of X G a_along,
     F_lowest_middle,
     B_lowest_middle,
     PySem.W.mg_of X G a_lowest_middle,
     F_least_over_last,
     B_least_over_last,
     PySem.W.mg_of X G a_least_over_last,
     F_greatest_over_last,
     B_greatest_over_last,
     PySem.W.mg_of X G a_greatest_over_last,
     F_full_step,
     B_full_step,
     PySem.W.mg_of X G a_full_step,
     F_steps_down,
     B_steps_down,
     PySem.W.mg_of X G a_steps_down,
     F_prices_by,
     B_prices_by,
     PySem.W.mg_of X G a_prices_by,
     F_least,
     B_least,
     PySem.W.mg_of X G a_least,
     F_ends,
     B_ends,
     PySem.W.mg_of X G a_ends,
     F_stretch_between,
     B_stretch_between,
     PySem.W.mg_of X G a_stretch_between,
     F_within,
     B_within,
     PySem.W.mg_of X G a_within,
     F_widest,
     B_widest,
     PySem.W.mg_of X G a_widest,
     F_law_cell_at,
     B_law_cell_at,
     PySem.W.mg_of X G a_law_cell_at,
     F_law_draw,
     B_law_draw,
     PySem.W.mg_of X G a_law_draw,
     F_law_houses,
     B_law_houses,
     PySem.W.mg_of X G a_law_houses,
     F_law_kinds,
     B_law_kinds,
     PySem.W.mg_of X G a_law_kinds,
     F_law_told,
     B_law_told,
     PySem.W.mg_of X G a_law_told,
     F_law_ring,
     B_law_ring,
     PySem.W.mg_of X G a_law_ring,
     F_law_with_tolls,
     B_law_with_tolls,
     PySem.W.mg_of X G a_law_with_tolls,
     F_law_ends,
     B_law_ends,
     PySem.W.mg_of X G a_law_ends,
     F_law_within,
     B_law_within,
     PySem.W.mg_of X G a_law_within,
     F_law_turned,
     B_law_turned,
     PySem.W.mg_of X G a_law_turned,
     F_law_together,
     B_law_together,
     PySem.W.mg_of X G a_law_together,
     F_law_plain,
     B_law_plain,
     PySem.W.mg_of X G a_law_plain,
     F_law_lack,
     B_law_lack,
     PySem.W.mg_of X G a_law_lack,
     F_law_all,
     B_law_all,
     PySem.W.mg_of X G a_law_all,
     F_law_rings_right,
     B_law_rings_right,
     PySem.W.mg_of X G a_law_rings_right,
     F_law_tolls_right,
     B_law_tolls_right,
     PySem.W.mg_of X G a_law_tolls_right,
     F_law_lacking_right,
     B_law_lacking_right,
     PySem.W.mg_of X G a_law_lacking_right,
     F_law,
     B_law,
     PySem.W.mg_of X G a_law,
     PySem.W.mg_of X G aC_Even,
     ⟨pg_Even, hd_Even, po_Even, sa_Even⟩,
     ⟨mk_Even, a_Even_init__, i_Even_init__, kc_Even⟩,
     ⟨a_Even_evens, i_Even_evens, k_Even_evens⟩,
     ⟨a_Even_shows, i_Even_shows, k_Even_shows⟩,
     n_Even_carried,
     n_Even_prices,
     PySem.W.mg_of X G aC_Uneven,
     ⟨pg_Uneven, hd_Uneven, po_Uneven, sa_Uneven⟩,
     ⟨mk_Uneven, a_Uneven_init__, i_Uneven_init__, kc_Uneven⟩,
     ⟨a_Uneven_shows, i_Uneven_shows, k_Uneven_shows⟩,
     n_Uneven_total,
     PySem.W.mg_of X G aC_Within,
     ⟨pg_Within, hd_Within, po_Within, sa_Within⟩,
     ⟨mk_Within, a_Within_init__, i_Within_init__, kc_Within⟩,
     ⟨a_Within_shows, i_Within_shows, k_Within_shows⟩,
     n_Within_carried,
     PySem.W.mg_of X G aC_Stretch,
     ⟨pg_Stretch, hd_Stretch, po_Stretch, sa_Stretch⟩,
     ⟨mk_Stretch, a_Stretch_init__, i_Stretch_init__, kc_Stretch⟩,
     ⟨a_Stretch_shows, i_Stretch_shows, k_Stretch_shows⟩,
     n_Stretch_first,
     n_Stretch_many,
     PySem.W.mg_of X G aC_Ring,
     ⟨pg_Ring, hd_Ring, po_Ring, sa_Ring⟩,
     ⟨mk_Ring, a_Ring_init__, i_Ring_init__, kc_Ring⟩,
     ⟨a_Ring_houses, i_Ring_houses, k_Ring_houses⟩,
     ⟨a_Ring_whole, i_Ring_whole, k_Ring_whole⟩,
     n_Ring_numbers,
     PySem.W.mg_of X G aC_RingError,
     yx_RingError,
     yxm_RingError_RingError,
     PySem.W.mg_of X G aC_BadRing,
     yx_BadRing,
     yxm_BadRing_BadRing,
     yxm_BadRing_RingError,
     PySem.W.mg_of X G aC_BadTolls,
     yx_BadTolls,
     yxm_BadTolls_BadTolls,
     yxm_BadTolls_RingError,
     PySem.W.mg_of X G aC_BadMost,
     yx_BadMost,
     yxm_BadMost_BadMost,
     yxm_BadMost_RingError,
     PySem.W.mg_of X G aC_Unlike,
     yx_Unlike,
     yxm_Unlike_Unlike,
     yxm_Unlike_RingError,
     PySem.W.mg_of X G aC_Lacking,
     yx_Lacking,
     yxn_Lacking,
     ykc_Lacking,
     yxs_Lacking,
     yxl_Lacking,
     yxa_Lacking_total,
     yr1_RingError,
     yr2_RingError,
     yr3_RingError,
     yxm_Lacking_Lacking,
     yxm_Lacking_RingError,
     PySem.W.mg_of X G aC_BadText,
     yx_BadText,
     yxm_BadText_BadText,
     yxm_BadText_RingError,
     ⟨xk1_RingError, xk2_RingError, xk3_RingError, xk4_RingError, xk5_RingError, xk6_RingError, j3, j4⟩,
     ⟨xk1_BadRing, xk2_BadRing, xk3_BadRing, xk4_BadRing, xk5_BadRing, xk6_BadRing, j3, j4⟩,
     ⟨xk1_BadTolls, xk2_BadTolls, xk3_BadTolls, xk4_BadTolls, xk5_BadTolls, xk6_BadTolls, j3, j4⟩,
     ⟨xk1_BadMost, xk2_BadMost, xk3_BadMost, xk4_BadMost, xk5_BadMost, xk6_BadMost, j3, j4⟩,
     ⟨xk1_Unlike, xk2_Unlike, xk3_Unlike, xk4_Unlike, xk5_Unlike, xk6_Unlike, j3, j4⟩,
     ⟨xk1_Lacking, xk2_Lacking, xk3_Lacking, xk4_Lacking, xk5_Lacking, xk6_Lacking, j3, j4⟩,
     ⟨xk1_BadText, xk2_BadText, xk3_BadText, xk4_BadText, xk5_BadText, xk6_BadText, j3, j4⟩,
     j1_Ring,
     j2_Ring,
     j3,
     j4,
     kit_b K "bool" "int" true (by decide +kernel),
     kit_b K "bool" "bool" true (by decide +kernel),
     isi_Ring_Ring,
     kit_b K "NoneType" "int" false (by decide +kernel),
     kit_b K "str" "int" false (by decide +kernel),
     kit_b K "list" "int" false (by decide +kernel),
     kit_b K "tuple" "int" false (by decide +kernel),
     kit_b K "dict" "int" false (by decide +kernel),
     kit_b K "NoneType" "list" false (by decide +kernel),
     kit_b K "str" "list" false (by decide +kernel),
     kit_b K "int" "list" false (by decide +kernel),
     kit_b K "bool" "list" false (by decide +kernel),
     kit_b K "tuple" "list" false (by decide +kernel),
     kit_b K "dict" "list" false (by decide +kernel),
     isi_BadRing_BadRing,
     isi_BadRing_BadTolls,
     isi_BadRing_BadMost,
     isi_BadRing_Unlike,
     isi_BadRing_Lacking,
     isi_BadRing_BadText,
     isi_BadRing_ValueError,
     isi_BadTolls_BadRing,
     isi_BadTolls_BadTolls,
     isi_BadTolls_BadMost,
     isi_BadTolls_Unlike,
     isi_BadTolls_Lacking,
     isi_BadTolls_BadText,
     isi_BadTolls_ValueError,
     isi_BadMost_BadRing,
     isi_BadMost_BadTolls,
     isi_BadMost_BadMost,
     isi_BadMost_Unlike,
     isi_BadMost_Lacking,
     isi_BadMost_BadText,
     isi_BadMost_ValueError,
     isi_Unlike_BadRing,
     isi_Unlike_BadTolls,
     isi_Unlike_BadMost,
     isi_Unlike_Unlike,
     isi_Unlike_Lacking,
     isi_Unlike_BadText,
     isi_Unlike_ValueError,
     isi_Lacking_BadRing,
     isi_Lacking_BadTolls,
     isi_Lacking_BadMost,
     isi_Lacking_Unlike,
     isi_Lacking_Lacking,
     isi_Lacking_BadText,
     isi_Lacking_ValueError,
     kit_b K "int" "int" true (by decide +kernel),
     kit_b K "int" "bool" false (by decide +kernel),
     kit_b K "list" "list" true (by decide +kernel),
     PySem.W.mg_none_of X G z_ValueError,
     PySem.W.mg_none_of X G z_abs,
     PySem.W.mg_none_of X G z_all,
     PySem.W.mg_none_of X G z_bool,
     PySem.W.mg_none_of X G z_enumerate,
     PySem.W.mg_none_of X G z_int,
     PySem.W.mg_none_of X G z_isinstance,
     PySem.W.mg_none_of X G z_len,
     PySem.W.mg_none_of X G z_list,
     PySem.W.mg_none_of X G z_max,
     PySem.W.mg_none_of X G z_min,
     PySem.W.mg_none_of X G z_range,
     PySem.W.mg_none_of X G z_sorted,
     PySem.W.mg_none_of X G z_sum,
     PySem.W.mg_none_of X G z_zip,
     PySem.W.mg_of X G v_FARTHEST_NUMBER_,
     PySem.W.mg_of X G v_FEWEST_HOUSES_,
     PySem.W.mg_of X G v_HIGHEST_TOLL_⟩⟩
theorem all_mk {l : PySem.W.OpenLaw} {w : World} {K : PySem.W.Frag} {h : Heap} {mg : Str → Option Value} {fa : Addr} (X : K.In h) (G : h.Ns mainGlobals mg) (hfa : mg "law" = some (.ref fa))
    {f_wall : Addr} {oc_wall kV_wall dc_wall pm_wall cd_wall ct_wall : Value} {od_wall an_wall : Option Addr} {sl_wall : Array (Option Value)}
    {f_Even_init__ : Addr} {oc_Even_init__ kV_Even_init__ dc_Even_init__ pm_Even_init__ cd_Even_init__ ct_Even_init__ : Value} {od_Even_init__ an_Even_init__ : Option Addr} {sl_Even_init__ : Array (Option Value)}
    {f_Even_evens : Addr} {oc_Even_evens kV_Even_evens dc_Even_evens pm_Even_evens cd_Even_evens ct_Even_evens : Value} {od_Even_evens an_Even_evens : Option Addr} {sl_Even_evens : Array (Option Value)}
    {f_Even_shows : Addr} {oc_Even_shows kV_Even_shows dc_Even_shows pm_Even_shows cd_Even_shows ct_Even_shows : Value} {od_Even_shows an_Even_shows : Option Addr} {sl_Even_shows : Array (Option Value)}
    {f_Uneven_init__ : Addr} {oc_Uneven_init__ kV_Uneven_init__ dc_Uneven_init__ pm_Uneven_init__ cd_Uneven_init__ ct_Uneven_init__ : Value} {od_Uneven_init__ an_Uneven_init__ : Option Addr} {sl_Uneven_init__ : Array (Option Value)}
    {f_Uneven_shows : Addr} {oc_Uneven_shows kV_Uneven_shows dc_Uneven_shows pm_Uneven_shows cd_Uneven_shows ct_Uneven_shows : Value} {od_Uneven_shows an_Uneven_shows : Option Addr} {sl_Uneven_shows : Array (Option Value)}
    {f_Within_init__ : Addr} {oc_Within_init__ kV_Within_init__ dc_Within_init__ pm_Within_init__ cd_Within_init__ ct_Within_init__ : Value} {od_Within_init__ an_Within_init__ : Option Addr} {sl_Within_init__ : Array (Option Value)}
    {f_Within_shows : Addr} {oc_Within_shows kV_Within_shows dc_Within_shows pm_Within_shows cd_Within_shows ct_Within_shows : Value} {od_Within_shows an_Within_shows : Option Addr} {sl_Within_shows : Array (Option Value)}
    {f_Stretch_init__ : Addr} {oc_Stretch_init__ kV_Stretch_init__ dc_Stretch_init__ pm_Stretch_init__ cd_Stretch_init__ ct_Stretch_init__ : Value} {od_Stretch_init__ an_Stretch_init__ : Option Addr} {sl_Stretch_init__ : Array (Option Value)}
    {f_Stretch_shows : Addr} {oc_Stretch_shows kV_Stretch_shows dc_Stretch_shows pm_Stretch_shows cd_Stretch_shows ct_Stretch_shows : Value} {od_Stretch_shows an_Stretch_shows : Option Addr} {sl_Stretch_shows : Array (Option Value)}
    {f_Lacking_init__ : Addr} {oc_Lacking_init__ kV_Lacking_init__ dc_Lacking_init__ pm_Lacking_init__ cd_Lacking_init__ ct_Lacking_init__ : Value} {od_Lacking_init__ an_Lacking_init__ : Option Addr} {sl_Lacking_init__ : Array (Option Value)}
    {f_is_whole_number : Addr} {oc_is_whole_number kV_is_whole_number dc_is_whole_number pm_is_whole_number cd_is_whole_number ct_is_whole_number : Value} {od_is_whole_number an_is_whole_number : Option Addr} {sl_is_whole_number : Array (Option Value)}
    {f_is_house : Addr} {oc_is_house kV_is_house dc_is_house pm_is_house cd_is_house ct_is_house : Value} {od_is_house an_is_house : Option Addr} {sl_is_house : Array (Option Value)}
    {f_are_houses : Addr} {oc_are_houses kV_are_houses dc_are_houses pm_are_houses cd_are_houses ct_are_houses : Value} {od_are_houses an_are_houses : Option Addr} {sl_are_houses : Array (Option Value)}
    {f_Ring_init__ : Addr} {oc_Ring_init__ kV_Ring_init__ dc_Ring_init__ pm_Ring_init__ cd_Ring_init__ ct_Ring_init__ : Value} {od_Ring_init__ an_Ring_init__ : Option Addr} {sl_Ring_init__ : Array (Option Value)}
    {f_Ring_houses : Addr} {oc_Ring_houses kV_Ring_houses dc_Ring_houses pm_Ring_houses cd_Ring_houses ct_Ring_houses : Value} {od_Ring_houses an_Ring_houses : Option Addr} {sl_Ring_houses : Array (Option Value)}
    {f_Ring_whole : Addr} {oc_Ring_whole kV_Ring_whole dc_Ring_whole pm_Ring_whole cd_Ring_whole ct_Ring_whole : Value} {od_Ring_whole an_Ring_whole : Option Addr} {sl_Ring_whole : Array (Option Value)}
    {f_turned : Addr} {oc_turned kV_turned dc_turned pm_turned cd_turned ct_turned : Value} {od_turned an_turned : Option Addr} {sl_turned : Array (Option Value)}
    {f_together : Addr} {oc_together kV_together dc_together pm_together cd_together ct_together : Value} {od_together an_together : Option Addr} {sl_together : Array (Option Value)}
    {f_is_toll : Addr} {oc_is_toll kV_is_toll dc_is_toll pm_is_toll cd_is_toll ct_is_toll : Value} {od_is_toll an_is_toll : Option Addr} {sl_is_toll : Array (Option Value)}
    {f_tolls_for : Addr} {oc_tolls_for kV_tolls_for dc_tolls_for pm_tolls_for cd_tolls_for ct_tolls_for : Value} {od_tolls_for an_tolls_for : Option Addr} {sl_tolls_for : Array (Option Value)}
    {f_along : Addr} {oc_along kV_along dc_along pm_along cd_along ct_along : Value} {od_along an_along : Option Addr} {sl_along : Array (Option Value)}
    {f_lowest_middle : Addr} {oc_lowest_middle kV_lowest_middle dc_lowest_middle pm_lowest_middle cd_lowest_middle ct_lowest_middle : Value} {od_lowest_middle an_lowest_middle : Option Addr} {sl_lowest_middle : Array (Option Value)}
    {f_least_over_last : Addr} {oc_least_over_last kV_least_over_last dc_least_over_last pm_least_over_last cd_least_over_last ct_least_over_last : Value} {od_least_over_last an_least_over_last : Option Addr} {sl_least_over_last : Array (Option Value)}
    {f_greatest_over_last : Addr} {oc_greatest_over_last kV_greatest_over_last dc_greatest_over_last pm_greatest_over_last cd_greatest_over_last ct_greatest_over_last : Value} {od_greatest_over_last an_greatest_over_last : Option Addr} {sl_greatest_over_last : Array (Option Value)}
    {f_full_step : Addr} {oc_full_step kV_full_step dc_full_step pm_full_step cd_full_step ct_full_step : Value} {od_full_step an_full_step : Option Addr} {sl_full_step : Array (Option Value)}
    {f_steps_down : Addr} {oc_steps_down kV_steps_down dc_steps_down pm_steps_down cd_steps_down ct_steps_down : Value} {od_steps_down an_steps_down : Option Addr} {sl_steps_down : Array (Option Value)}
    {f_prices_by : Addr} {oc_prices_by kV_prices_by dc_prices_by pm_prices_by cd_prices_by ct_prices_by : Value} {od_prices_by an_prices_by : Option Addr} {sl_prices_by : Array (Option Value)}
    {f_least : Addr} {oc_least kV_least dc_least pm_least cd_least ct_least : Value} {od_least an_least : Option Addr} {sl_least : Array (Option Value)}
    {f_ends : Addr} {oc_ends kV_ends dc_ends pm_ends cd_ends ct_ends : Value} {od_ends an_ends : Option Addr} {sl_ends : Array (Option Value)}
    {f_stretch_between : Addr} {oc_stretch_between kV_stretch_between dc_stretch_between pm_stretch_between cd_stretch_between ct_stretch_between : Value} {od_stretch_between an_stretch_between : Option Addr} {sl_stretch_between : Array (Option Value)}
    {f_within : Addr} {oc_within kV_within dc_within pm_within cd_within ct_within : Value} {od_within an_within : Option Addr} {sl_within : Array (Option Value)}
    {f_widest : Addr} {oc_widest kV_widest dc_widest pm_widest cd_widest ct_widest : Value} {od_widest an_widest : Option Addr} {sl_widest : Array (Option Value)}
    {f_law_cell_at : Addr} {oc_law_cell_at kV_law_cell_at dc_law_cell_at pm_law_cell_at cd_law_cell_at ct_law_cell_at : Value} {od_law_cell_at an_law_cell_at : Option Addr} {sl_law_cell_at : Array (Option Value)}
    {f_law_draw : Addr} {oc_law_draw kV_law_draw dc_law_draw pm_law_draw cd_law_draw ct_law_draw : Value} {od_law_draw an_law_draw : Option Addr} {sl_law_draw : Array (Option Value)}
    {f_law_houses : Addr} {oc_law_houses kV_law_houses dc_law_houses pm_law_houses cd_law_houses ct_law_houses : Value} {od_law_houses an_law_houses : Option Addr} {sl_law_houses : Array (Option Value)}
    {f_law_kinds : Addr} {oc_law_kinds kV_law_kinds dc_law_kinds pm_law_kinds cd_law_kinds ct_law_kinds : Value} {od_law_kinds an_law_kinds : Option Addr} {sl_law_kinds : Array (Option Value)}
    {f_law_told : Addr} {oc_law_told kV_law_told dc_law_told pm_law_told cd_law_told ct_law_told : Value} {od_law_told an_law_told : Option Addr} {sl_law_told : Array (Option Value)}
    {f_law_ring : Addr} {oc_law_ring kV_law_ring dc_law_ring pm_law_ring cd_law_ring ct_law_ring : Value} {od_law_ring an_law_ring : Option Addr} {sl_law_ring : Array (Option Value)}
    {f_law_with_tolls : Addr} {oc_law_with_tolls kV_law_with_tolls dc_law_with_tolls pm_law_with_tolls cd_law_with_tolls ct_law_with_tolls : Value} {od_law_with_tolls an_law_with_tolls : Option Addr} {sl_law_with_tolls : Array (Option Value)}
    {f_law_ends : Addr} {oc_law_ends kV_law_ends dc_law_ends pm_law_ends cd_law_ends ct_law_ends : Value} {od_law_ends an_law_ends : Option Addr} {sl_law_ends : Array (Option Value)}
    {f_law_within : Addr} {oc_law_within kV_law_within dc_law_within pm_law_within cd_law_within ct_law_within : Value} {od_law_within an_law_within : Option Addr} {sl_law_within : Array (Option Value)}
    {f_law_turned : Addr} {oc_law_turned kV_law_turned dc_law_turned pm_law_turned cd_law_turned ct_law_turned : Value} {od_law_turned an_law_turned : Option Addr} {sl_law_turned : Array (Option Value)}
    {f_law_together : Addr} {oc_law_together kV_law_together dc_law_together pm_law_together cd_law_together ct_law_together : Value} {od_law_together an_law_together : Option Addr} {sl_law_together : Array (Option Value)}
    {f_law_plain : Addr} {oc_law_plain kV_law_plain dc_law_plain pm_law_plain cd_law_plain ct_law_plain : Value} {od_law_plain an_law_plain : Option Addr} {sl_law_plain : Array (Option Value)}
    {f_law_lack : Addr} {oc_law_lack kV_law_lack dc_law_lack pm_law_lack cd_law_lack ct_law_lack : Value} {od_law_lack an_law_lack : Option Addr} {sl_law_lack : Array (Option Value)}
    {f_law_all : Addr} {oc_law_all kV_law_all dc_law_all pm_law_all cd_law_all ct_law_all : Value} {od_law_all an_law_all : Option Addr} {sl_law_all : Array (Option Value)}
    {f_law_rings_right : Addr} {oc_law_rings_right kV_law_rings_right dc_law_rings_right pm_law_rings_right cd_law_rings_right ct_law_rings_right : Value} {od_law_rings_right an_law_rings_right : Option Addr} {sl_law_rings_right : Array (Option Value)}
    {f_law_tolls_right : Addr} {oc_law_tolls_right kV_law_tolls_right dc_law_tolls_right pm_law_tolls_right cd_law_tolls_right ct_law_tolls_right : Value} {od_law_tolls_right an_law_tolls_right : Option Addr} {sl_law_tolls_right : Array (Option Value)}
    {f_law_lacking_right : Addr} {oc_law_lacking_right kV_law_lacking_right dc_law_lacking_right pm_law_lacking_right cd_law_lacking_right ct_law_lacking_right : Value} {od_law_lacking_right an_law_lacking_right : Option Addr} {sl_law_lacking_right : Array (Option Value)}
    {f_law : Addr} {oc_law kV_law dc_law pm_law cd_law ct_law : Value} {od_law an_law : Option Addr} {sl_law : Array (Option Value)}
    {C_Even : Addr}
    {C_Uneven : Addr}
    {C_Within : Addr}
    {C_Stretch : Addr}
    {C_Ring : Addr}
    {C_RingError : Addr}
    {C_BadRing : Addr}
    {C_BadTolls : Addr}
    {C_BadMost : Addr}
    {C_Unlike : Addr}
    {C_Lacking : Addr}
    {C_BadText : Addr}
    {v_FARTHEST_NUMBER : Tok}
    {v_FEWEST_HOUSES : Tok}
    {v_HIGHEST_TOLL : Tok}
    (aC_Even : PySem.W.nsIn K mainGlobals "Even" = some (some (.ref C_Even)))
    (aC_Uneven : PySem.W.nsIn K mainGlobals "Uneven" = some (some (.ref C_Uneven)))
    (aC_Within : PySem.W.nsIn K mainGlobals "Within" = some (some (.ref C_Within)))
    (aC_Stretch : PySem.W.nsIn K mainGlobals "Stretch" = some (some (.ref C_Stretch)))
    (aC_Ring : PySem.W.nsIn K mainGlobals "Ring" = some (some (.ref C_Ring)))
    (aC_RingError : PySem.W.nsIn K mainGlobals "RingError" = some (some (.ref C_RingError)))
    (aC_BadRing : PySem.W.nsIn K mainGlobals "BadRing" = some (some (.ref C_BadRing)))
    (aC_BadTolls : PySem.W.nsIn K mainGlobals "BadTolls" = some (some (.ref C_BadTolls)))
    (aC_BadMost : PySem.W.nsIn K mainGlobals "BadMost" = some (some (.ref C_BadMost)))
    (aC_Unlike : PySem.W.nsIn K mainGlobals "Unlike" = some (some (.ref C_Unlike)))
    (aC_Lacking : PySem.W.nsIn K mainGlobals "Lacking" = some (some (.ref C_Lacking)))
    (aC_BadText : PySem.W.nsIn K mainGlobals "BadText" = some (some (.ref C_BadText)))
    (a_wall : PySem.W.nsIn K mainGlobals "_wall" = some (some (.ref f_wall)))
    (l_wall : K.lookup f_wall = some ⟨oc_wall, od_wall, .func (PySem.W.fnOf "_wall" "_wall" (defArgs s_wall) (defBody s_wall) (defScope s_wall) .none kV_wall dc_wall pm_wall an_wall cd_wall ct_wall), sl_wall⟩)
    (c_wall : PySem.W.codeIn K cd_wall "_wall" = true)
    (k_wall : PySem.W.keepIn K (.ref f_wall) = true)
    (a_Even_init__ : PySem.W.findIn K (.ref C_Even) "__init__" = some (some (.ref f_Even_init__)))
    (i_Even_init__ : PySem.W.isFn K (.ref f_Even_init__) = true)
    (l_Even_init__ : K.lookup f_Even_init__ = some ⟨oc_Even_init__, od_Even_init__, .func (PySem.W.fnOf "__init__" "Even.__init__" (defArgs s_Even_init__) (defBody s_Even_init__) (defScope s_Even_init__) .none kV_Even_init__ dc_Even_init__ pm_Even_init__ an_Even_init__ cd_Even_init__ ct_Even_init__), sl_Even_init__⟩)
    (c_Even_init__ : PySem.W.codeIn K cd_Even_init__ "Even.__init__" = true)
    (k_Even_init__ : PySem.W.keepIn K (.ref f_Even_init__) = true)
    (a_Even_evens : PySem.W.findIn K (.ref C_Even) "evens" = some (some (.ref f_Even_evens)))
    (i_Even_evens : PySem.W.isFn K (.ref f_Even_evens) = true)
    (l_Even_evens : K.lookup f_Even_evens = some ⟨oc_Even_evens, od_Even_evens, .func (PySem.W.fnOf "evens" "Even.evens" (defArgs s_Even_evens) (defBody s_Even_evens) (defScope s_Even_evens) .none kV_Even_evens dc_Even_evens pm_Even_evens an_Even_evens cd_Even_evens ct_Even_evens), sl_Even_evens⟩)
    (c_Even_evens : PySem.W.codeIn K cd_Even_evens "Even.evens" = true)
    (k_Even_evens : PySem.W.keepIn K (.ref f_Even_evens) = true)
    (a_Even_shows : PySem.W.findIn K (.ref C_Even) "shows" = some (some (.ref f_Even_shows)))
    (i_Even_shows : PySem.W.isFn K (.ref f_Even_shows) = true)
    (l_Even_shows : K.lookup f_Even_shows = some ⟨oc_Even_shows, od_Even_shows, .func (PySem.W.fnOf "shows" "Even.shows" (defArgs s_Even_shows) (defBody s_Even_shows) (defScope s_Even_shows) .none kV_Even_shows dc_Even_shows pm_Even_shows an_Even_shows cd_Even_shows ct_Even_shows), sl_Even_shows⟩)
    (c_Even_shows : PySem.W.codeIn K cd_Even_shows "Even.shows" = true)
    (k_Even_shows : PySem.W.keepIn K (.ref f_Even_shows) = true)
    (a_Uneven_init__ : PySem.W.findIn K (.ref C_Uneven) "__init__" = some (some (.ref f_Uneven_init__)))
    (i_Uneven_init__ : PySem.W.isFn K (.ref f_Uneven_init__) = true)
    (l_Uneven_init__ : K.lookup f_Uneven_init__ = some ⟨oc_Uneven_init__, od_Uneven_init__, .func (PySem.W.fnOf "__init__" "Uneven.__init__" (defArgs s_Uneven_init__) (defBody s_Uneven_init__) (defScope s_Uneven_init__) .none kV_Uneven_init__ dc_Uneven_init__ pm_Uneven_init__ an_Uneven_init__ cd_Uneven_init__ ct_Uneven_init__), sl_Uneven_init__⟩)
    (c_Uneven_init__ : PySem.W.codeIn K cd_Uneven_init__ "Uneven.__init__" = true)
    (k_Uneven_init__ : PySem.W.keepIn K (.ref f_Uneven_init__) = true)
    (a_Uneven_shows : PySem.W.findIn K (.ref C_Uneven) "shows" = some (some (.ref f_Uneven_shows)))
    (i_Uneven_shows : PySem.W.isFn K (.ref f_Uneven_shows) = true)
    (l_Uneven_shows : K.lookup f_Uneven_shows = some ⟨oc_Uneven_shows, od_Uneven_shows, .func (PySem.W.fnOf "shows" "Uneven.shows" (defArgs s_Uneven_shows) (defBody s_Uneven_shows) (defScope s_Uneven_shows) .none kV_Uneven_shows dc_Uneven_shows pm_Uneven_shows an_Uneven_shows cd_Uneven_shows ct_Uneven_shows), sl_Uneven_shows⟩)
    (c_Uneven_shows : PySem.W.codeIn K cd_Uneven_shows "Uneven.shows" = true)
    (k_Uneven_shows : PySem.W.keepIn K (.ref f_Uneven_shows) = true)
    (a_Within_init__ : PySem.W.findIn K (.ref C_Within) "__init__" = some (some (.ref f_Within_init__)))
    (i_Within_init__ : PySem.W.isFn K (.ref f_Within_init__) = true)
    (l_Within_init__ : K.lookup f_Within_init__ = some ⟨oc_Within_init__, od_Within_init__, .func (PySem.W.fnOf "__init__" "Within.__init__" (defArgs s_Within_init__) (defBody s_Within_init__) (defScope s_Within_init__) .none kV_Within_init__ dc_Within_init__ pm_Within_init__ an_Within_init__ cd_Within_init__ ct_Within_init__), sl_Within_init__⟩)
    (c_Within_init__ : PySem.W.codeIn K cd_Within_init__ "Within.__init__" = true)
    (k_Within_init__ : PySem.W.keepIn K (.ref f_Within_init__) = true)
    (a_Within_shows : PySem.W.findIn K (.ref C_Within) "shows" = some (some (.ref f_Within_shows)))
    (i_Within_shows : PySem.W.isFn K (.ref f_Within_shows) = true)
    (l_Within_shows : K.lookup f_Within_shows = some ⟨oc_Within_shows, od_Within_shows, .func (PySem.W.fnOf "shows" "Within.shows" (defArgs s_Within_shows) (defBody s_Within_shows) (defScope s_Within_shows) .none kV_Within_shows dc_Within_shows pm_Within_shows an_Within_shows cd_Within_shows ct_Within_shows), sl_Within_shows⟩)
    (c_Within_shows : PySem.W.codeIn K cd_Within_shows "Within.shows" = true)
    (k_Within_shows : PySem.W.keepIn K (.ref f_Within_shows) = true)
    (a_Stretch_init__ : PySem.W.findIn K (.ref C_Stretch) "__init__" = some (some (.ref f_Stretch_init__)))
    (i_Stretch_init__ : PySem.W.isFn K (.ref f_Stretch_init__) = true)
    (l_Stretch_init__ : K.lookup f_Stretch_init__ = some ⟨oc_Stretch_init__, od_Stretch_init__, .func (PySem.W.fnOf "__init__" "Stretch.__init__" (defArgs s_Stretch_init__) (defBody s_Stretch_init__) (defScope s_Stretch_init__) .none kV_Stretch_init__ dc_Stretch_init__ pm_Stretch_init__ an_Stretch_init__ cd_Stretch_init__ ct_Stretch_init__), sl_Stretch_init__⟩)
    (c_Stretch_init__ : PySem.W.codeIn K cd_Stretch_init__ "Stretch.__init__" = true)
    (k_Stretch_init__ : PySem.W.keepIn K (.ref f_Stretch_init__) = true)
    (a_Stretch_shows : PySem.W.findIn K (.ref C_Stretch) "shows" = some (some (.ref f_Stretch_shows)))
    (i_Stretch_shows : PySem.W.isFn K (.ref f_Stretch_shows) = true)
    (l_Stretch_shows : K.lookup f_Stretch_shows = some ⟨oc_Stretch_shows, od_Stretch_shows, .func (PySem.W.fnOf "shows" "Stretch.shows" (defArgs s_Stretch_shows) (defBody s_Stretch_shows) (defScope s_Stretch_shows) .none kV_Stretch_shows dc_Stretch_shows pm_Stretch_shows an_Stretch_shows cd_Stretch_shows ct_Stretch_shows), sl_Stretch_shows⟩)
    (c_Stretch_shows : PySem.W.codeIn K cd_Stretch_shows "Stretch.shows" = true)
    (k_Stretch_shows : PySem.W.keepIn K (.ref f_Stretch_shows) = true)
    (a_Lacking_init__ : PySem.W.findIn K (.ref C_Lacking) "__init__" = some (some (.ref f_Lacking_init__)))
    (i_Lacking_init__ : PySem.W.isFn K (.ref f_Lacking_init__) = true)
    (l_Lacking_init__ : K.lookup f_Lacking_init__ = some ⟨oc_Lacking_init__, od_Lacking_init__, .func (PySem.W.fnOf "__init__" "Lacking.__init__" (defArgs s_Lacking_init__) (defBody s_Lacking_init__) (defScope s_Lacking_init__) .none kV_Lacking_init__ dc_Lacking_init__ pm_Lacking_init__ an_Lacking_init__ cd_Lacking_init__ ct_Lacking_init__), sl_Lacking_init__⟩)
    (c_Lacking_init__ : PySem.W.codeIn K cd_Lacking_init__ "Lacking.__init__" = true)
    (k_Lacking_init__ : PySem.W.keepIn K (.ref f_Lacking_init__) = true)
    (a_is_whole_number : PySem.W.nsIn K mainGlobals "is_whole_number" = some (some (.ref f_is_whole_number)))
    (l_is_whole_number : K.lookup f_is_whole_number = some ⟨oc_is_whole_number, od_is_whole_number, .func (PySem.W.fnOf "is_whole_number" "is_whole_number" (defArgs s_is_whole_number) (defBody s_is_whole_number) (defScope s_is_whole_number) .none kV_is_whole_number dc_is_whole_number pm_is_whole_number an_is_whole_number cd_is_whole_number ct_is_whole_number), sl_is_whole_number⟩)
    (c_is_whole_number : PySem.W.codeIn K cd_is_whole_number "is_whole_number" = true)
    (k_is_whole_number : PySem.W.keepIn K (.ref f_is_whole_number) = true)
    (a_is_house : PySem.W.nsIn K mainGlobals "is_house" = some (some (.ref f_is_house)))
    (l_is_house : K.lookup f_is_house = some ⟨oc_is_house, od_is_house, .func (PySem.W.fnOf "is_house" "is_house" (defArgs s_is_house) (defBody s_is_house) (defScope s_is_house) .none kV_is_house dc_is_house pm_is_house an_is_house cd_is_house ct_is_house), sl_is_house⟩)
    (c_is_house : PySem.W.codeIn K cd_is_house "is_house" = true)
    (k_is_house : PySem.W.keepIn K (.ref f_is_house) = true)
    (a_are_houses : PySem.W.nsIn K mainGlobals "are_houses" = some (some (.ref f_are_houses)))
    (l_are_houses : K.lookup f_are_houses = some ⟨oc_are_houses, od_are_houses, .func (PySem.W.fnOf "are_houses" "are_houses" (defArgs s_are_houses) (defBody s_are_houses) (defScope s_are_houses) .none kV_are_houses dc_are_houses pm_are_houses an_are_houses cd_are_houses ct_are_houses), sl_are_houses⟩)
    (c_are_houses : PySem.W.codeIn K cd_are_houses "are_houses" = true)
    (k_are_houses : PySem.W.keepIn K (.ref f_are_houses) = true)
    (a_Ring_init__ : PySem.W.findIn K (.ref C_Ring) "__init__" = some (some (.ref f_Ring_init__)))
    (i_Ring_init__ : PySem.W.isFn K (.ref f_Ring_init__) = true)
    (l_Ring_init__ : K.lookup f_Ring_init__ = some ⟨oc_Ring_init__, od_Ring_init__, .func (PySem.W.fnOf "__init__" "Ring.__init__" (defArgs s_Ring_init__) (defBody s_Ring_init__) (defScope s_Ring_init__) .none kV_Ring_init__ dc_Ring_init__ pm_Ring_init__ an_Ring_init__ cd_Ring_init__ ct_Ring_init__), sl_Ring_init__⟩)
    (c_Ring_init__ : PySem.W.codeIn K cd_Ring_init__ "Ring.__init__" = true)
    (k_Ring_init__ : PySem.W.keepIn K (.ref f_Ring_init__) = true)
    (a_Ring_houses : PySem.W.findIn K (.ref C_Ring) "houses" = some (some (.ref f_Ring_houses)))
    (i_Ring_houses : PySem.W.isFn K (.ref f_Ring_houses) = true)
    (l_Ring_houses : K.lookup f_Ring_houses = some ⟨oc_Ring_houses, od_Ring_houses, .func (PySem.W.fnOf "houses" "Ring.houses" (defArgs s_Ring_houses) (defBody s_Ring_houses) (defScope s_Ring_houses) .none kV_Ring_houses dc_Ring_houses pm_Ring_houses an_Ring_houses cd_Ring_houses ct_Ring_houses), sl_Ring_houses⟩)
    (c_Ring_houses : PySem.W.codeIn K cd_Ring_houses "Ring.houses" = true)
    (k_Ring_houses : PySem.W.keepIn K (.ref f_Ring_houses) = true)
    (a_Ring_whole : PySem.W.findIn K (.ref C_Ring) "whole" = some (some (.ref f_Ring_whole)))
    (i_Ring_whole : PySem.W.isFn K (.ref f_Ring_whole) = true)
    (l_Ring_whole : K.lookup f_Ring_whole = some ⟨oc_Ring_whole, od_Ring_whole, .func (PySem.W.fnOf "whole" "Ring.whole" (defArgs s_Ring_whole) (defBody s_Ring_whole) (defScope s_Ring_whole) .none kV_Ring_whole dc_Ring_whole pm_Ring_whole an_Ring_whole cd_Ring_whole ct_Ring_whole), sl_Ring_whole⟩)
    (c_Ring_whole : PySem.W.codeIn K cd_Ring_whole "Ring.whole" = true)
    (k_Ring_whole : PySem.W.keepIn K (.ref f_Ring_whole) = true)
    (a_turned : PySem.W.nsIn K mainGlobals "turned" = some (some (.ref f_turned)))
    (l_turned : K.lookup f_turned = some ⟨oc_turned, od_turned, .func (PySem.W.fnOf "turned" "turned" (defArgs s_turned) (defBody s_turned) (defScope s_turned) .none kV_turned dc_turned pm_turned an_turned cd_turned ct_turned), sl_turned⟩)
    (c_turned : PySem.W.codeIn K cd_turned "turned" = true)
    (k_turned : PySem.W.keepIn K (.ref f_turned) = true)
    (a_together : PySem.W.nsIn K mainGlobals "together" = some (some (.ref f_together)))
    (l_together : K.lookup f_together = some ⟨oc_together, od_together, .func (PySem.W.fnOf "together" "together" (defArgs s_together) (defBody s_together) (defScope s_together) .none kV_together dc_together pm_together an_together cd_together ct_together), sl_together⟩)
    (c_together : PySem.W.codeIn K cd_together "together" = true)
    (k_together : PySem.W.keepIn K (.ref f_together) = true)
    (a_is_toll : PySem.W.nsIn K mainGlobals "is_toll" = some (some (.ref f_is_toll)))
    (l_is_toll : K.lookup f_is_toll = some ⟨oc_is_toll, od_is_toll, .func (PySem.W.fnOf "is_toll" "is_toll" (defArgs s_is_toll) (defBody s_is_toll) (defScope s_is_toll) .none kV_is_toll dc_is_toll pm_is_toll an_is_toll cd_is_toll ct_is_toll), sl_is_toll⟩)
    (c_is_toll : PySem.W.codeIn K cd_is_toll "is_toll" = true)
    (k_is_toll : PySem.W.keepIn K (.ref f_is_toll) = true)
    (a_tolls_for : PySem.W.nsIn K mainGlobals "tolls_for" = some (some (.ref f_tolls_for)))
    (l_tolls_for : K.lookup f_tolls_for = some ⟨oc_tolls_for, od_tolls_for, .func (PySem.W.fnOf "tolls_for" "tolls_for" (defArgs s_tolls_for) (defBody s_tolls_for) (defScope s_tolls_for) .none kV_tolls_for dc_tolls_for pm_tolls_for an_tolls_for cd_tolls_for ct_tolls_for), sl_tolls_for⟩)
    (c_tolls_for : PySem.W.codeIn K cd_tolls_for "tolls_for" = true)
    (k_tolls_for : PySem.W.keepIn K (.ref f_tolls_for) = true)
    (a_along : PySem.W.nsIn K mainGlobals "along" = some (some (.ref f_along)))
    (l_along : K.lookup f_along = some ⟨oc_along, od_along, .func (PySem.W.fnOf "along" "along" (defArgs s_along) (defBody s_along) (defScope s_along) .none kV_along dc_along pm_along an_along cd_along ct_along), sl_along⟩)
    (c_along : PySem.W.codeIn K cd_along "along" = true)
    (k_along : PySem.W.keepIn K (.ref f_along) = true)
    (a_lowest_middle : PySem.W.nsIn K mainGlobals "lowest_middle" = some (some (.ref f_lowest_middle)))
    (l_lowest_middle : K.lookup f_lowest_middle = some ⟨oc_lowest_middle, od_lowest_middle, .func (PySem.W.fnOf "lowest_middle" "lowest_middle" (defArgs s_lowest_middle) (defBody s_lowest_middle) (defScope s_lowest_middle) .none kV_lowest_middle dc_lowest_middle pm_lowest_middle an_lowest_middle cd_lowest_middle ct_lowest_middle), sl_lowest_middle⟩)
    (c_lowest_middle : PySem.W.codeIn K cd_lowest_middle "lowest_middle" = true)
    (k_lowest_middle : PySem.W.keepIn K (.ref f_lowest_middle) = true)
    (a_least_over_last : PySem.W.nsIn K mainGlobals "least_over_last" = some (some (.ref f_least_over_last)))
    (l_least_over_last : K.lookup f_least_over_last = some ⟨oc_least_over_last, od_least_over_last, .func (PySem.W.fnOf "least_over_last" "least_over_last" (defArgs s_least_over_last) (defBody s_least_over_last) (defScope s_least_over_last) .none kV_least_over_last dc_least_over_last pm_least_over_last an_least_over_last cd_least_over_last ct_least_over_last), sl_least_over_last⟩)
    (c_least_over_last : PySem.W.codeIn K cd_least_over_last "least_over_last" = true)
    (k_least_over_last : PySem.W.keepIn K (.ref f_least_over_last) = true)
    (a_greatest_over_last : PySem.W.nsIn K mainGlobals "greatest_over_last" = some (some (.ref f_greatest_over_last)))
    (l_greatest_over_last : K.lookup f_greatest_over_last = some ⟨oc_greatest_over_last, od_greatest_over_last, .func (PySem.W.fnOf "greatest_over_last" "greatest_over_last" (defArgs s_greatest_over_last) (defBody s_greatest_over_last) (defScope s_greatest_over_last) .none kV_greatest_over_last dc_greatest_over_last pm_greatest_over_last an_greatest_over_last cd_greatest_over_last ct_greatest_over_last), sl_greatest_over_last⟩)
    (c_greatest_over_last : PySem.W.codeIn K cd_greatest_over_last "greatest_over_last" = true)
    (k_greatest_over_last : PySem.W.keepIn K (.ref f_greatest_over_last) = true)
    (a_full_step : PySem.W.nsIn K mainGlobals "full_step" = some (some (.ref f_full_step)))
    (l_full_step : K.lookup f_full_step = some ⟨oc_full_step, od_full_step, .func (PySem.W.fnOf "full_step" "full_step" (defArgs s_full_step) (defBody s_full_step) (defScope s_full_step) .none kV_full_step dc_full_step pm_full_step an_full_step cd_full_step ct_full_step), sl_full_step⟩)
    (c_full_step : PySem.W.codeIn K cd_full_step "full_step" = true)
    (k_full_step : PySem.W.keepIn K (.ref f_full_step) = true)
    (a_steps_down : PySem.W.nsIn K mainGlobals "steps_down" = some (some (.ref f_steps_down)))
    (l_steps_down : K.lookup f_steps_down = some ⟨oc_steps_down, od_steps_down, .func (PySem.W.fnOf "steps_down" "steps_down" (defArgs s_steps_down) (defBody s_steps_down) (defScope s_steps_down) .none kV_steps_down dc_steps_down pm_steps_down an_steps_down cd_steps_down ct_steps_down), sl_steps_down⟩)
    (c_steps_down : PySem.W.codeIn K cd_steps_down "steps_down" = true)
    (k_steps_down : PySem.W.keepIn K (.ref f_steps_down) = true)
    (a_prices_by : PySem.W.nsIn K mainGlobals "prices_by" = some (some (.ref f_prices_by)))
    (l_prices_by : K.lookup f_prices_by = some ⟨oc_prices_by, od_prices_by, .func (PySem.W.fnOf "prices_by" "prices_by" (defArgs s_prices_by) (defBody s_prices_by) (defScope s_prices_by) .none kV_prices_by dc_prices_by pm_prices_by an_prices_by cd_prices_by ct_prices_by), sl_prices_by⟩)
    (c_prices_by : PySem.W.codeIn K cd_prices_by "prices_by" = true)
    (k_prices_by : PySem.W.keepIn K (.ref f_prices_by) = true)
    (a_least : PySem.W.nsIn K mainGlobals "least" = some (some (.ref f_least)))
    (l_least : K.lookup f_least = some ⟨oc_least, od_least, .func (PySem.W.fnOf "least" "least" (defArgs s_least) (defBody s_least) (defScope s_least) .none kV_least dc_least pm_least an_least cd_least ct_least), sl_least⟩)
    (c_least : PySem.W.codeIn K cd_least "least" = true)
    (k_least : PySem.W.keepIn K (.ref f_least) = true)
    (a_ends : PySem.W.nsIn K mainGlobals "ends" = some (some (.ref f_ends)))
    (l_ends : K.lookup f_ends = some ⟨oc_ends, od_ends, .func (PySem.W.fnOf "ends" "ends" (defArgs s_ends) (defBody s_ends) (defScope s_ends) .none kV_ends dc_ends pm_ends an_ends cd_ends ct_ends), sl_ends⟩)
    (c_ends : PySem.W.codeIn K cd_ends "ends" = true)
    (k_ends : PySem.W.keepIn K (.ref f_ends) = true)
    (a_stretch_between : PySem.W.nsIn K mainGlobals "stretch_between" = some (some (.ref f_stretch_between)))
    (l_stretch_between : K.lookup f_stretch_between = some ⟨oc_stretch_between, od_stretch_between, .func (PySem.W.fnOf "stretch_between" "stretch_between" (defArgs s_stretch_between) (defBody s_stretch_between) (defScope s_stretch_between) .none kV_stretch_between dc_stretch_between pm_stretch_between an_stretch_between cd_stretch_between ct_stretch_between), sl_stretch_between⟩)
    (c_stretch_between : PySem.W.codeIn K cd_stretch_between "stretch_between" = true)
    (k_stretch_between : PySem.W.keepIn K (.ref f_stretch_between) = true)
    (a_within : PySem.W.nsIn K mainGlobals "within" = some (some (.ref f_within)))
    (l_within : K.lookup f_within = some ⟨oc_within, od_within, .func (PySem.W.fnOf "within" "within" (defArgs s_within) (defBody s_within) (defScope s_within) .none kV_within dc_within pm_within an_within cd_within ct_within), sl_within⟩)
    (c_within : PySem.W.codeIn K cd_within "within" = true)
    (k_within : PySem.W.keepIn K (.ref f_within) = true)
    (a_widest : PySem.W.nsIn K mainGlobals "widest" = some (some (.ref f_widest)))
    (l_widest : K.lookup f_widest = some ⟨oc_widest, od_widest, .func (PySem.W.fnOf "widest" "widest" (defArgs s_widest) (defBody s_widest) (defScope s_widest) .none kV_widest dc_widest pm_widest an_widest cd_widest ct_widest), sl_widest⟩)
    (c_widest : PySem.W.codeIn K cd_widest "widest" = true)
    (k_widest : PySem.W.keepIn K (.ref f_widest) = true)
    (a_law_cell_at : PySem.W.nsIn K mainGlobals "_law_cell_at" = some (some (.ref f_law_cell_at)))
    (l_law_cell_at : K.lookup f_law_cell_at = some ⟨oc_law_cell_at, od_law_cell_at, .func (PySem.W.fnOf "_law_cell_at" "_law_cell_at" (defArgs s_law_cell_at) (defBody s_law_cell_at) (defScope s_law_cell_at) .none kV_law_cell_at dc_law_cell_at pm_law_cell_at an_law_cell_at cd_law_cell_at ct_law_cell_at), sl_law_cell_at⟩)
    (c_law_cell_at : PySem.W.codeIn K cd_law_cell_at "_law_cell_at" = true)
    (k_law_cell_at : PySem.W.keepIn K (.ref f_law_cell_at) = true)
    (a_law_draw : PySem.W.nsIn K mainGlobals "_law_draw" = some (some (.ref f_law_draw)))
    (l_law_draw : K.lookup f_law_draw = some ⟨oc_law_draw, od_law_draw, .func (PySem.W.fnOf "_law_draw" "_law_draw" (defArgs s_law_draw) (defBody s_law_draw) (defScope s_law_draw) .none kV_law_draw dc_law_draw pm_law_draw an_law_draw cd_law_draw ct_law_draw), sl_law_draw⟩)
    (c_law_draw : PySem.W.codeIn K cd_law_draw "_law_draw" = true)
    (k_law_draw : PySem.W.keepIn K (.ref f_law_draw) = true)
    (a_law_houses : PySem.W.nsIn K mainGlobals "_law_houses" = some (some (.ref f_law_houses)))
    (l_law_houses : K.lookup f_law_houses = some ⟨oc_law_houses, od_law_houses, .func (PySem.W.fnOf "_law_houses" "_law_houses" (defArgs s_law_houses) (defBody s_law_houses) (defScope s_law_houses) .none kV_law_houses dc_law_houses pm_law_houses an_law_houses cd_law_houses ct_law_houses), sl_law_houses⟩)
    (c_law_houses : PySem.W.codeIn K cd_law_houses "_law_houses" = true)
    (k_law_houses : PySem.W.keepIn K (.ref f_law_houses) = true)
    (a_law_kinds : PySem.W.nsIn K mainGlobals "_law_kinds" = some (some (.ref f_law_kinds)))
    (l_law_kinds : K.lookup f_law_kinds = some ⟨oc_law_kinds, od_law_kinds, .func (PySem.W.fnOf "_law_kinds" "_law_kinds" (defArgs s_law_kinds) (defBody s_law_kinds) (defScope s_law_kinds) .none kV_law_kinds dc_law_kinds pm_law_kinds an_law_kinds cd_law_kinds ct_law_kinds), sl_law_kinds⟩)
    (c_law_kinds : PySem.W.codeIn K cd_law_kinds "_law_kinds" = true)
    (k_law_kinds : PySem.W.keepIn K (.ref f_law_kinds) = true)
    (a_law_told : PySem.W.nsIn K mainGlobals "_law_told" = some (some (.ref f_law_told)))
    (l_law_told : K.lookup f_law_told = some ⟨oc_law_told, od_law_told, .func (PySem.W.fnOf "_law_told" "_law_told" (defArgs s_law_told) (defBody s_law_told) (defScope s_law_told) .none kV_law_told dc_law_told pm_law_told an_law_told cd_law_told ct_law_told), sl_law_told⟩)
    (c_law_told : PySem.W.codeIn K cd_law_told "_law_told" = true)
    (k_law_told : PySem.W.keepIn K (.ref f_law_told) = true)
    (a_law_ring : PySem.W.nsIn K mainGlobals "_law_ring" = some (some (.ref f_law_ring)))
    (l_law_ring : K.lookup f_law_ring = some ⟨oc_law_ring, od_law_ring, .func (PySem.W.fnOf "_law_ring" "_law_ring" (defArgs s_law_ring) (defBody s_law_ring) (defScope s_law_ring) .none kV_law_ring dc_law_ring pm_law_ring an_law_ring cd_law_ring ct_law_ring), sl_law_ring⟩)
    (c_law_ring : PySem.W.codeIn K cd_law_ring "_law_ring" = true)
    (k_law_ring : PySem.W.keepIn K (.ref f_law_ring) = true)
    (a_law_with_tolls : PySem.W.nsIn K mainGlobals "_law_with_tolls" = some (some (.ref f_law_with_tolls)))
    (l_law_with_tolls : K.lookup f_law_with_tolls = some ⟨oc_law_with_tolls, od_law_with_tolls, .func (PySem.W.fnOf "_law_with_tolls" "_law_with_tolls" (defArgs s_law_with_tolls) (defBody s_law_with_tolls) (defScope s_law_with_tolls) .none kV_law_with_tolls dc_law_with_tolls pm_law_with_tolls an_law_with_tolls cd_law_with_tolls ct_law_with_tolls), sl_law_with_tolls⟩)
    (c_law_with_tolls : PySem.W.codeIn K cd_law_with_tolls "_law_with_tolls" = true)
    (k_law_with_tolls : PySem.W.keepIn K (.ref f_law_with_tolls) = true)
    (a_law_ends : PySem.W.nsIn K mainGlobals "_law_ends" = some (some (.ref f_law_ends)))
    (l_law_ends : K.lookup f_law_ends = some ⟨oc_law_ends, od_law_ends, .func (PySem.W.fnOf "_law_ends" "_law_ends" (defArgs s_law_ends) (defBody s_law_ends) (defScope s_law_ends) .none kV_law_ends dc_law_ends pm_law_ends an_law_ends cd_law_ends ct_law_ends), sl_law_ends⟩)
    (c_law_ends : PySem.W.codeIn K cd_law_ends "_law_ends" = true)
    (k_law_ends : PySem.W.keepIn K (.ref f_law_ends) = true)
    (a_law_within : PySem.W.nsIn K mainGlobals "_law_within" = some (some (.ref f_law_within)))
    (l_law_within : K.lookup f_law_within = some ⟨oc_law_within, od_law_within, .func (PySem.W.fnOf "_law_within" "_law_within" (defArgs s_law_within) (defBody s_law_within) (defScope s_law_within) .none kV_law_within dc_law_within pm_law_within an_law_within cd_law_within ct_law_within), sl_law_within⟩)
    (c_law_within : PySem.W.codeIn K cd_law_within "_law_within" = true)
    (k_law_within : PySem.W.keepIn K (.ref f_law_within) = true)
    (a_law_turned : PySem.W.nsIn K mainGlobals "_law_turned" = some (some (.ref f_law_turned)))
    (l_law_turned : K.lookup f_law_turned = some ⟨oc_law_turned, od_law_turned, .func (PySem.W.fnOf "_law_turned" "_law_turned" (defArgs s_law_turned) (defBody s_law_turned) (defScope s_law_turned) .none kV_law_turned dc_law_turned pm_law_turned an_law_turned cd_law_turned ct_law_turned), sl_law_turned⟩)
    (c_law_turned : PySem.W.codeIn K cd_law_turned "_law_turned" = true)
    (k_law_turned : PySem.W.keepIn K (.ref f_law_turned) = true)
    (a_law_together : PySem.W.nsIn K mainGlobals "_law_together" = some (some (.ref f_law_together)))
    (l_law_together : K.lookup f_law_together = some ⟨oc_law_together, od_law_together, .func (PySem.W.fnOf "_law_together" "_law_together" (defArgs s_law_together) (defBody s_law_together) (defScope s_law_together) .none kV_law_together dc_law_together pm_law_together an_law_together cd_law_together ct_law_together), sl_law_together⟩)
    (c_law_together : PySem.W.codeIn K cd_law_together "_law_together" = true)
    (k_law_together : PySem.W.keepIn K (.ref f_law_together) = true)
    (a_law_plain : PySem.W.nsIn K mainGlobals "_law_plain" = some (some (.ref f_law_plain)))
    (l_law_plain : K.lookup f_law_plain = some ⟨oc_law_plain, od_law_plain, .func (PySem.W.fnOf "_law_plain" "_law_plain" (defArgs s_law_plain) (defBody s_law_plain) (defScope s_law_plain) .none kV_law_plain dc_law_plain pm_law_plain an_law_plain cd_law_plain ct_law_plain), sl_law_plain⟩)
    (c_law_plain : PySem.W.codeIn K cd_law_plain "_law_plain" = true)
    (k_law_plain : PySem.W.keepIn K (.ref f_law_plain) = true)
    (a_law_lack : PySem.W.nsIn K mainGlobals "_law_lack" = some (some (.ref f_law_lack)))
    (l_law_lack : K.lookup f_law_lack = some ⟨oc_law_lack, od_law_lack, .func (PySem.W.fnOf "_law_lack" "_law_lack" (defArgs s_law_lack) (defBody s_law_lack) (defScope s_law_lack) .none kV_law_lack dc_law_lack pm_law_lack an_law_lack cd_law_lack ct_law_lack), sl_law_lack⟩)
    (c_law_lack : PySem.W.codeIn K cd_law_lack "_law_lack" = true)
    (k_law_lack : PySem.W.keepIn K (.ref f_law_lack) = true)
    (a_law_all : PySem.W.nsIn K mainGlobals "_law_all" = some (some (.ref f_law_all)))
    (l_law_all : K.lookup f_law_all = some ⟨oc_law_all, od_law_all, .func (PySem.W.fnOf "_law_all" "_law_all" (defArgs s_law_all) (defBody s_law_all) (defScope s_law_all) .none kV_law_all dc_law_all pm_law_all an_law_all cd_law_all ct_law_all), sl_law_all⟩)
    (c_law_all : PySem.W.codeIn K cd_law_all "_law_all" = true)
    (k_law_all : PySem.W.keepIn K (.ref f_law_all) = true)
    (a_law_rings_right : PySem.W.nsIn K mainGlobals "_law_rings_right" = some (some (.ref f_law_rings_right)))
    (l_law_rings_right : K.lookup f_law_rings_right = some ⟨oc_law_rings_right, od_law_rings_right, .func (PySem.W.fnOf "_law_rings_right" "_law_rings_right" (defArgs s_law_rings_right) (defBody s_law_rings_right) (defScope s_law_rings_right) .none kV_law_rings_right dc_law_rings_right pm_law_rings_right an_law_rings_right cd_law_rings_right ct_law_rings_right), sl_law_rings_right⟩)
    (c_law_rings_right : PySem.W.codeIn K cd_law_rings_right "_law_rings_right" = true)
    (k_law_rings_right : PySem.W.keepIn K (.ref f_law_rings_right) = true)
    (a_law_tolls_right : PySem.W.nsIn K mainGlobals "_law_tolls_right" = some (some (.ref f_law_tolls_right)))
    (l_law_tolls_right : K.lookup f_law_tolls_right = some ⟨oc_law_tolls_right, od_law_tolls_right, .func (PySem.W.fnOf "_law_tolls_right" "_law_tolls_right" (defArgs s_law_tolls_right) (defBody s_law_tolls_right) (defScope s_law_tolls_right) .none kV_law_tolls_right dc_law_tolls_right pm_law_tolls_right an_law_tolls_right cd_law_tolls_right ct_law_tolls_right), sl_law_tolls_right⟩)
    (c_law_tolls_right : PySem.W.codeIn K cd_law_tolls_right "_law_tolls_right" = true)
    (k_law_tolls_right : PySem.W.keepIn K (.ref f_law_tolls_right) = true)
    (a_law_lacking_right : PySem.W.nsIn K mainGlobals "_law_lacking_right" = some (some (.ref f_law_lacking_right)))
    (l_law_lacking_right : K.lookup f_law_lacking_right = some ⟨oc_law_lacking_right, od_law_lacking_right, .func (PySem.W.fnOf "_law_lacking_right" "_law_lacking_right" (defArgs s_law_lacking_right) (defBody s_law_lacking_right) (defScope s_law_lacking_right) .none kV_law_lacking_right dc_law_lacking_right pm_law_lacking_right an_law_lacking_right cd_law_lacking_right ct_law_lacking_right), sl_law_lacking_right⟩)
    (c_law_lacking_right : PySem.W.codeIn K cd_law_lacking_right "_law_lacking_right" = true)
    (k_law_lacking_right : PySem.W.keepIn K (.ref f_law_lacking_right) = true)
    (a_law : PySem.W.nsIn K mainGlobals "law" = some (some (.ref f_law)))
    (l_law : K.lookup f_law = some ⟨oc_law, od_law, .func (PySem.W.fnOf "law" "law" (defArgs s_law) (defBody s_law) (defScope s_law) .none kV_law dc_law pm_law an_law cd_law ct_law), sl_law⟩)
    (c_law : PySem.W.codeIn K cd_law "law" = true)
    (k_law : PySem.W.keepIn K (.ref f_law) = true)
    (pg_Even : PySem.W.plainGet K C_Even Str.empty = true)
    (hd_Even : PySem.W.hasDictIn K C_Even = true)
    (po_Even : PySem.W.plainOver K C_Even = true)
    (sa_Even : PySem.W.findIn K (.ref C_Even) "__setattr__" = some (some (.builtin "object.__setattr__")))
    (mk_Even : PySem.W.makesIn K C_Even = true)
    (kc_Even : PySem.W.keepIn K (.ref C_Even) = true)
    (n_Even_carried : PySem.W.findIn K (.ref C_Even) "carried" = some none)
    (n_Even_prices : PySem.W.findIn K (.ref C_Even) "prices" = some none)
    (pg_Uneven : PySem.W.plainGet K C_Uneven Str.empty = true)
    (hd_Uneven : PySem.W.hasDictIn K C_Uneven = true)
    (po_Uneven : PySem.W.plainOver K C_Uneven = true)
    (sa_Uneven : PySem.W.findIn K (.ref C_Uneven) "__setattr__" = some (some (.builtin "object.__setattr__")))
    (mk_Uneven : PySem.W.makesIn K C_Uneven = true)
    (kc_Uneven : PySem.W.keepIn K (.ref C_Uneven) = true)
    (n_Uneven_total : PySem.W.findIn K (.ref C_Uneven) "total" = some none)
    (pg_Within : PySem.W.plainGet K C_Within Str.empty = true)
    (hd_Within : PySem.W.hasDictIn K C_Within = true)
    (po_Within : PySem.W.plainOver K C_Within = true)
    (sa_Within : PySem.W.findIn K (.ref C_Within) "__setattr__" = some (some (.builtin "object.__setattr__")))
    (mk_Within : PySem.W.makesIn K C_Within = true)
    (kc_Within : PySem.W.keepIn K (.ref C_Within) = true)
    (n_Within_carried : PySem.W.findIn K (.ref C_Within) "carried" = some none)
    (pg_Stretch : PySem.W.plainGet K C_Stretch Str.empty = true)
    (hd_Stretch : PySem.W.hasDictIn K C_Stretch = true)
    (po_Stretch : PySem.W.plainOver K C_Stretch = true)
    (sa_Stretch : PySem.W.findIn K (.ref C_Stretch) "__setattr__" = some (some (.builtin "object.__setattr__")))
    (mk_Stretch : PySem.W.makesIn K C_Stretch = true)
    (kc_Stretch : PySem.W.keepIn K (.ref C_Stretch) = true)
    (n_Stretch_first : PySem.W.findIn K (.ref C_Stretch) "first" = some none)
    (n_Stretch_many : PySem.W.findIn K (.ref C_Stretch) "many" = some none)
    (pg_Ring : PySem.W.plainGet K C_Ring Str.empty = true)
    (hd_Ring : PySem.W.hasDictIn K C_Ring = true)
    (po_Ring : PySem.W.plainOver K C_Ring = true)
    (sa_Ring : PySem.W.findIn K (.ref C_Ring) "__setattr__" = some (some (.builtin "object.__setattr__")))
    (mk_Ring : PySem.W.makesIn K C_Ring = true)
    (kc_Ring : PySem.W.keepIn K (.ref C_Ring) = true)
    (n_Ring_numbers : PySem.W.findIn K (.ref C_Ring) "numbers" = some none)
    (yx_RingError : PySem.W.excIn K C_RingError bmV "ValueError.__new__" = true)
    (yxm_RingError_RingError : PySem.W.mroIn K C_RingError (.ref C_RingError) = some true)
    (yx_BadRing : PySem.W.excIn K C_BadRing bmV "ValueError.__new__" = true)
    (yxm_BadRing_BadRing : PySem.W.mroIn K C_BadRing (.ref C_BadRing) = some true)
    (yxm_BadRing_RingError : PySem.W.mroIn K C_BadRing (.ref C_RingError) = some true)
    (yx_BadTolls : PySem.W.excIn K C_BadTolls bmV "ValueError.__new__" = true)
    (yxm_BadTolls_BadTolls : PySem.W.mroIn K C_BadTolls (.ref C_BadTolls) = some true)
    (yxm_BadTolls_RingError : PySem.W.mroIn K C_BadTolls (.ref C_RingError) = some true)
    (yx_BadMost : PySem.W.excIn K C_BadMost bmV "ValueError.__new__" = true)
    (yxm_BadMost_BadMost : PySem.W.mroIn K C_BadMost (.ref C_BadMost) = some true)
    (yxm_BadMost_RingError : PySem.W.mroIn K C_BadMost (.ref C_RingError) = some true)
    (yx_Unlike : PySem.W.excIn K C_Unlike bmV "ValueError.__new__" = true)
    (yxm_Unlike_Unlike : PySem.W.mroIn K C_Unlike (.ref C_Unlike) = some true)
    (yxm_Unlike_RingError : PySem.W.mroIn K C_Unlike (.ref C_RingError) = some true)
    (yx_Lacking : excInI K C_Lacking bmV "ValueError.__new__" f_Lacking_init__ = true)
    (yxn_Lacking : PySem.W.isFn K (.ref f_Lacking_init__) = true)
    (ykc_Lacking : PySem.W.keepIn K (.ref C_Lacking) = true)
    (yxs_Lacking : PySem.W.findIn K (.ref C_Lacking) "__setattr__" = some (some (.builtin "object.__setattr__")))
    (yxl_Lacking : PySem.W.lackIn K C_Lacking C_RingError = true)
    (yxa_Lacking_total : PySem.W.findIn K (.ref C_Lacking) "total" = some none)
    (yr1_RingError : PySem.W.specialIn K (.ref C_RingError) "__getattribute__" = some (some (.builtin "type.__getattribute__")))
    (yr2_RingError : PySem.W.readsIn K C_RingError (.type "type") = true)
    (yr3_RingError : PySem.W.findCls K (.ref C_RingError) (.type "type") "__init__" = some (.val (.builtin "ValueError.__init__")))
    (yxm_Lacking_Lacking : PySem.W.mroIn K C_Lacking (.ref C_Lacking) = some true)
    (yxm_Lacking_RingError : PySem.W.mroIn K C_Lacking (.ref C_RingError) = some true)
    (yx_BadText : PySem.W.excIn K C_BadText bmV "ValueError.__new__" = true)
    (yxm_BadText_BadText : PySem.W.mroIn K C_BadText (.ref C_BadText) = some true)
    (yxm_BadText_RingError : PySem.W.mroIn K C_BadText (.ref C_RingError) = some true)
    (xk1_RingError : PySem.W.findIn K (.ref C_RingError) "__getattribute__" = some (some (.builtin "BaseException.__getattribute__")))
    (xk2_RingError : PySem.W.findIn K (.ref C_RingError) "__getattr__" = some none)
    (xk3_RingError : PySem.W.mroIn K C_RingError (.type "BaseException") = some true)
    (xk4_RingError : PySem.W.mroIn K C_RingError (.type "object") = some true)
    (xk5_RingError : PySem.W.hasDictIn K C_RingError = true)
    (xk6_RingError : PySem.W.findIn K (.ref C_RingError) "__class__" = some (some (.builtin "object.__class__")))
    (xk1_BadRing : PySem.W.findIn K (.ref C_BadRing) "__getattribute__" = some (some (.builtin "BaseException.__getattribute__")))
    (xk2_BadRing : PySem.W.findIn K (.ref C_BadRing) "__getattr__" = some none)
    (xk3_BadRing : PySem.W.mroIn K C_BadRing (.type "BaseException") = some true)
    (xk4_BadRing : PySem.W.mroIn K C_BadRing (.type "object") = some true)
    (xk5_BadRing : PySem.W.hasDictIn K C_BadRing = true)
    (xk6_BadRing : PySem.W.findIn K (.ref C_BadRing) "__class__" = some (some (.builtin "object.__class__")))
    (xk1_BadTolls : PySem.W.findIn K (.ref C_BadTolls) "__getattribute__" = some (some (.builtin "BaseException.__getattribute__")))
    (xk2_BadTolls : PySem.W.findIn K (.ref C_BadTolls) "__getattr__" = some none)
    (xk3_BadTolls : PySem.W.mroIn K C_BadTolls (.type "BaseException") = some true)
    (xk4_BadTolls : PySem.W.mroIn K C_BadTolls (.type "object") = some true)
    (xk5_BadTolls : PySem.W.hasDictIn K C_BadTolls = true)
    (xk6_BadTolls : PySem.W.findIn K (.ref C_BadTolls) "__class__" = some (some (.builtin "object.__class__")))
    (xk1_BadMost : PySem.W.findIn K (.ref C_BadMost) "__getattribute__" = some (some (.builtin "BaseException.__getattribute__")))
    (xk2_BadMost : PySem.W.findIn K (.ref C_BadMost) "__getattr__" = some none)
    (xk3_BadMost : PySem.W.mroIn K C_BadMost (.type "BaseException") = some true)
    (xk4_BadMost : PySem.W.mroIn K C_BadMost (.type "object") = some true)
    (xk5_BadMost : PySem.W.hasDictIn K C_BadMost = true)
    (xk6_BadMost : PySem.W.findIn K (.ref C_BadMost) "__class__" = some (some (.builtin "object.__class__")))
    (xk1_Unlike : PySem.W.findIn K (.ref C_Unlike) "__getattribute__" = some (some (.builtin "BaseException.__getattribute__")))
    (xk2_Unlike : PySem.W.findIn K (.ref C_Unlike) "__getattr__" = some none)
    (xk3_Unlike : PySem.W.mroIn K C_Unlike (.type "BaseException") = some true)
    (xk4_Unlike : PySem.W.mroIn K C_Unlike (.type "object") = some true)
    (xk5_Unlike : PySem.W.hasDictIn K C_Unlike = true)
    (xk6_Unlike : PySem.W.findIn K (.ref C_Unlike) "__class__" = some (some (.builtin "object.__class__")))
    (xk1_Lacking : PySem.W.findIn K (.ref C_Lacking) "__getattribute__" = some (some (.builtin "BaseException.__getattribute__")))
    (xk2_Lacking : PySem.W.findIn K (.ref C_Lacking) "__getattr__" = some none)
    (xk3_Lacking : PySem.W.mroIn K C_Lacking (.type "BaseException") = some true)
    (xk4_Lacking : PySem.W.mroIn K C_Lacking (.type "object") = some true)
    (xk5_Lacking : PySem.W.hasDictIn K C_Lacking = true)
    (xk6_Lacking : PySem.W.findIn K (.ref C_Lacking) "__class__" = some (some (.builtin "object.__class__")))
    (xk1_BadText : PySem.W.findIn K (.ref C_BadText) "__getattribute__" = some (some (.builtin "BaseException.__getattribute__")))
    (xk2_BadText : PySem.W.findIn K (.ref C_BadText) "__getattr__" = some none)
    (xk3_BadText : PySem.W.mroIn K C_BadText (.type "BaseException") = some true)
    (xk4_BadText : PySem.W.mroIn K C_BadText (.type "object") = some true)
    (xk5_BadText : PySem.W.hasDictIn K C_BadText = true)
    (xk6_BadText : PySem.W.findIn K (.ref C_BadText) "__class__" = some (some (.builtin "object.__class__")))
    (j1_Ring : PySem.W.findIn K (.ref C_Ring) "__class__" = some (some (.builtin "object.__class__")))
    (j2_Ring : PySem.W.mroIn K C_Ring (.type "object") = some true)
    (j3 : PySem.W.specialIn K (.builtin "object.__class__") "__get__" = some (some (.builtin "getset_descriptor.__get__")))
    (j4 : PySem.W.takesIn K (.builtin "object.__class__") = some true)
    (isi_Ring_Ring : PySem.W.kitOne K (.ref C_Ring) (.ref C_Ring) = some true)
    (isi_BadRing_BadRing : PySem.W.kitOne K (.ref C_BadRing) (.ref C_BadRing) = some true)
    (isi_BadRing_BadTolls : PySem.W.kitOne K (.ref C_BadRing) (.ref C_BadTolls) = some false)
    (isi_BadRing_BadMost : PySem.W.kitOne K (.ref C_BadRing) (.ref C_BadMost) = some false)
    (isi_BadRing_Unlike : PySem.W.kitOne K (.ref C_BadRing) (.ref C_Unlike) = some false)
    (isi_BadRing_Lacking : PySem.W.kitOne K (.ref C_BadRing) (.ref C_Lacking) = some false)
    (isi_BadRing_BadText : PySem.W.kitOne K (.ref C_BadRing) (.ref C_BadText) = some false)
    (isi_BadRing_ValueError : PySem.W.kitOne K (.ref C_BadRing) (.type "ValueError") = some true)
    (isi_BadTolls_BadRing : PySem.W.kitOne K (.ref C_BadTolls) (.ref C_BadRing) = some false)
    (isi_BadTolls_BadTolls : PySem.W.kitOne K (.ref C_BadTolls) (.ref C_BadTolls) = some true)
    (isi_BadTolls_BadMost : PySem.W.kitOne K (.ref C_BadTolls) (.ref C_BadMost) = some false)
    (isi_BadTolls_Unlike : PySem.W.kitOne K (.ref C_BadTolls) (.ref C_Unlike) = some false)
    (isi_BadTolls_Lacking : PySem.W.kitOne K (.ref C_BadTolls) (.ref C_Lacking) = some false)
    (isi_BadTolls_BadText : PySem.W.kitOne K (.ref C_BadTolls) (.ref C_BadText) = some false)
    (isi_BadTolls_ValueError : PySem.W.kitOne K (.ref C_BadTolls) (.type "ValueError") = some true)
    (isi_BadMost_BadRing : PySem.W.kitOne K (.ref C_BadMost) (.ref C_BadRing) = some false)
    (isi_BadMost_BadTolls : PySem.W.kitOne K (.ref C_BadMost) (.ref C_BadTolls) = some false)
    (isi_BadMost_BadMost : PySem.W.kitOne K (.ref C_BadMost) (.ref C_BadMost) = some true)
    (isi_BadMost_Unlike : PySem.W.kitOne K (.ref C_BadMost) (.ref C_Unlike) = some false)
    (isi_BadMost_Lacking : PySem.W.kitOne K (.ref C_BadMost) (.ref C_Lacking) = some false)
    (isi_BadMost_BadText : PySem.W.kitOne K (.ref C_BadMost) (.ref C_BadText) = some false)
    (isi_BadMost_ValueError : PySem.W.kitOne K (.ref C_BadMost) (.type "ValueError") = some true)
    (isi_Unlike_BadRing : PySem.W.kitOne K (.ref C_Unlike) (.ref C_BadRing) = some false)
    (isi_Unlike_BadTolls : PySem.W.kitOne K (.ref C_Unlike) (.ref C_BadTolls) = some false)
    (isi_Unlike_BadMost : PySem.W.kitOne K (.ref C_Unlike) (.ref C_BadMost) = some false)
    (isi_Unlike_Unlike : PySem.W.kitOne K (.ref C_Unlike) (.ref C_Unlike) = some true)
    (isi_Unlike_Lacking : PySem.W.kitOne K (.ref C_Unlike) (.ref C_Lacking) = some false)
    (isi_Unlike_BadText : PySem.W.kitOne K (.ref C_Unlike) (.ref C_BadText) = some false)
    (isi_Unlike_ValueError : PySem.W.kitOne K (.ref C_Unlike) (.type "ValueError") = some true)
    (isi_Lacking_BadRing : PySem.W.kitOne K (.ref C_Lacking) (.ref C_BadRing) = some false)
    (isi_Lacking_BadTolls : PySem.W.kitOne K (.ref C_Lacking) (.ref C_BadTolls) = some false)
    (isi_Lacking_BadMost : PySem.W.kitOne K (.ref C_Lacking) (.ref C_BadMost) = some false)
    (isi_Lacking_Unlike : PySem.W.kitOne K (.ref C_Lacking) (.ref C_Unlike) = some false)
    (isi_Lacking_Lacking : PySem.W.kitOne K (.ref C_Lacking) (.ref C_Lacking) = some true)
    (isi_Lacking_BadText : PySem.W.kitOne K (.ref C_Lacking) (.ref C_BadText) = some false)
    (isi_Lacking_ValueError : PySem.W.kitOne K (.ref C_Lacking) (.type "ValueError") = some true)
    (z_ValueError : PySem.W.nsIn K mainGlobals "ValueError" = some none)
    (z_abs : PySem.W.nsIn K mainGlobals "abs" = some none)
    (z_all : PySem.W.nsIn K mainGlobals "all" = some none)
    (z_bool : PySem.W.nsIn K mainGlobals "bool" = some none)
    (z_enumerate : PySem.W.nsIn K mainGlobals "enumerate" = some none)
    (z_int : PySem.W.nsIn K mainGlobals "int" = some none)
    (z_isinstance : PySem.W.nsIn K mainGlobals "isinstance" = some none)
    (z_len : PySem.W.nsIn K mainGlobals "len" = some none)
    (z_list : PySem.W.nsIn K mainGlobals "list" = some none)
    (z_max : PySem.W.nsIn K mainGlobals "max" = some none)
    (z_min : PySem.W.nsIn K mainGlobals "min" = some none)
    (z_range : PySem.W.nsIn K mainGlobals "range" = some none)
    (z_sorted : PySem.W.nsIn K mainGlobals "sorted" = some none)
    (z_sum : PySem.W.nsIn K mainGlobals "sum" = some none)
    (z_zip : PySem.W.nsIn K mainGlobals "zip" = some none)
    (v_FARTHEST_NUMBER_ : PySem.W.nsIn K mainGlobals "FARTHEST_NUMBER" = some (some (.int 1000000 v_FARTHEST_NUMBER)))
    (v_FEWEST_HOUSES_ : PySem.W.nsIn K mainGlobals "FEWEST_HOUSES" = some (some (.int 2 v_FEWEST_HOUSES)))
    (v_HIGHEST_TOLL_ : PySem.W.nsIn K mainGlobals "HIGHEST_TOLL" = some (some (.int 1000 v_HIGHEST_TOLL)))
    : ∃ fd : FuncData, (∀ (s : Shared) (v : Value), BindsTo s fd ⟨[v], []⟩ [("_law_script", v)]) ∧ ∀ base : Heap, K.In base → base.Ns mainGlobals mg → FnOk l.prog w K mg base CX0 lawK fa fd ["_law_script"] (sp_law K) := by
  obtain ⟨t, T⟩ := txt_mk X G aC_Even aC_Uneven aC_Within aC_Stretch aC_Ring aC_RingError aC_BadRing aC_BadTolls aC_BadMost aC_Unlike aC_Lacking aC_BadText a_wall l_wall c_wall k_wall a_Even_init__ i_Even_init__ l_Even_init__ c_Even_init__ k_Even_init__ a_Even_evens i_Even_evens l_Even_evens c_Even_evens k_Even_evens a_Even_shows i_Even_shows l_Even_shows c_Even_shows k_Even_shows a_Uneven_init__ i_Uneven_init__ l_Uneven_init__ c_Uneven_init__ k_Uneven_init__ a_Uneven_shows i_Uneven_shows l_Uneven_shows c_Uneven_shows k_Uneven_shows a_Within_init__ i_Within_init__ l_Within_init__ c_Within_init__ k_Within_init__ a_Within_shows i_Within_shows l_Within_shows c_Within_shows k_Within_shows a_Stretch_init__ i_Stretch_init__ l_Stretch_init__ c_Stretch_init__ k_Stretch_init__ a_Stretch_shows i_Stretch_shows l_Stretch_shows c_Stretch_shows k_Stretch_shows a_Lacking_init__ i_Lacking_init__ l_Lacking_init__ c_Lacking_init__ k_Lacking_init__ a_is_whole_number l_is_whole_number c_is_whole_number k_is_whole_number a_is_house l_is_house c_is_house k_is_house a_are_houses l_are_houses c_are_houses k_are_houses a_Ring_init__ i_Ring_init__ l_Ring_init__ c_Ring_init__ k_Ring_init__ a_Ring_houses i_Ring_houses l_Ring_houses c_Ring_houses k_Ring_houses a_Ring_whole i_Ring_whole l_Ring_whole c_Ring_whole k_Ring_whole a_turned l_turned c_turned k_turned a_together l_together c_together k_together a_is_toll l_is_toll c_is_toll k_is_toll a_tolls_for l_tolls_for c_tolls_for k_tolls_for a_along l_along c_along k_along a_lowest_middle l_lowest_middle c_lowest_middle k_lowest_middle a_least_over_last l_least_over_last c_least_over_last k_least_over_last a_greatest_over_last l_greatest_over_last c_greatest_over_last k_greatest_over_last a_full_step l_full_step c_full_step k_full_step a_steps_down l_steps_down c_steps_down k_steps_down a_prices_by l_prices_by c_prices_by k_prices_by a_least l_least c_least k_least a_ends l_ends c_ends k_ends a_stretch_between l_stretch_between c_stretch_between k_stretch_between a_within l_within c_within k_within a_widest l_widest c_widest k_widest a_law_cell_at l_law_cell_at c_law_cell_at k_law_cell_at a_law_draw l_law_draw c_law_draw k_law_draw a_law_houses l_law_houses c_law_houses k_law_houses a_law_kinds l_law_kinds c_law_kinds k_law_kinds a_law_told l_law_told c_law_told k_law_told a_law_ring l_law_ring c_law_ring k_law_ring a_law_with_tolls l_law_with_tolls c_law_with_tolls k_law_with_tolls a_law_ends l_law_ends c_law_ends k_law_ends a_law_within l_law_within c_law_within k_law_within a_law_turned l_law_turned c_law_turned k_law_turned a_law_together l_law_together c_law_together k_law_together a_law_plain l_law_plain c_law_plain k_law_plain a_law_lack l_law_lack c_law_lack k_law_lack a_law_all l_law_all c_law_all k_law_all a_law_rings_right l_law_rings_right c_law_rings_right k_law_rings_right a_law_tolls_right l_law_tolls_right c_law_tolls_right k_law_tolls_right a_law_lacking_right l_law_lacking_right c_law_lacking_right k_law_lacking_right a_law l_law c_law k_law pg_Even hd_Even po_Even sa_Even mk_Even kc_Even n_Even_carried n_Even_prices pg_Uneven hd_Uneven po_Uneven sa_Uneven mk_Uneven kc_Uneven n_Uneven_total pg_Within hd_Within po_Within sa_Within mk_Within kc_Within n_Within_carried pg_Stretch hd_Stretch po_Stretch sa_Stretch mk_Stretch kc_Stretch n_Stretch_first n_Stretch_many pg_Ring hd_Ring po_Ring sa_Ring mk_Ring kc_Ring n_Ring_numbers yx_RingError yxm_RingError_RingError yx_BadRing yxm_BadRing_BadRing yxm_BadRing_RingError yx_BadTolls yxm_BadTolls_BadTolls yxm_BadTolls_RingError yx_BadMost yxm_BadMost_BadMost yxm_BadMost_RingError yx_Unlike yxm_Unlike_Unlike yxm_Unlike_RingError yx_Lacking yxn_Lacking ykc_Lacking yxs_Lacking yxl_Lacking yxa_Lacking_total yr1_RingError yr2_RingError yr3_RingError yxm_Lacking_Lacking yxm_Lacking_RingError yx_BadText yxm_BadText_BadText yxm_BadText_RingError xk1_RingError xk2_RingError xk3_RingError xk4_RingError xk5_RingError xk6_RingError xk1_BadRing xk2_BadRing xk3_BadRing xk4_BadRing xk5_BadRing xk6_BadRing xk1_BadTolls xk2_BadTolls xk3_BadTolls xk4_BadTolls xk5_BadTolls xk6_BadTolls xk1_BadMost xk2_BadMost xk3_BadMost xk4_BadMost xk5_BadMost xk6_BadMost xk1_Unlike xk2_Unlike xk3_Unlike xk4_Unlike xk5_Unlike xk6_Unlike xk1_Lacking xk2_Lacking xk3_Lacking xk4_Lacking xk5_Lacking xk6_Lacking xk1_BadText xk2_BadText xk3_BadText xk4_BadText xk5_BadText xk6_BadText j1_Ring j2_Ring j3 j4 isi_Ring_Ring isi_BadRing_BadRing isi_BadRing_BadTolls isi_BadRing_BadMost isi_BadRing_Unlike isi_BadRing_Lacking isi_BadRing_BadText isi_BadRing_ValueError isi_BadTolls_BadRing isi_BadTolls_BadTolls isi_BadTolls_BadMost isi_BadTolls_Unlike isi_BadTolls_Lacking isi_BadTolls_BadText isi_BadTolls_ValueError isi_BadMost_BadRing isi_BadMost_BadTolls isi_BadMost_BadMost isi_BadMost_Unlike isi_BadMost_Lacking isi_BadMost_BadText isi_BadMost_ValueError isi_Unlike_BadRing isi_Unlike_BadTolls isi_Unlike_BadMost isi_Unlike_Unlike isi_Unlike_Lacking isi_Unlike_BadText isi_Unlike_ValueError isi_Lacking_BadRing isi_Lacking_BadTolls isi_Lacking_BadMost isi_Lacking_Unlike isi_Lacking_Lacking isi_Lacking_BadText isi_Lacking_ValueError z_ValueError z_abs z_all z_bool z_enumerate z_int z_isinstance z_len z_list z_max z_min z_range z_sorted z_sum z_zip v_FARTHEST_NUMBER_ v_FEWEST_HOUSES_ v_HIGHEST_TOLL_
  have e := hfa.symm.trans T.g_law
  cases e
  exact ⟨t.d_law, fun s v => bind1 T.F_law s v, fun base _ _ => ok_law T⟩
theorem walk {l : PySem.W.OpenLaw} {q : Program} {loose : List Str} {XP : (Str → Option Value) → Heap → Prop} {YP : World → Heap → Prop} {d : DefRec} {K : Params → PySem.W.Frag} (hn : l.most = some 63) (hdf : d.params.defaults = [])
    (hY : ∀ (w : World) (h : Heap), YP w h → (K w.params).In h)
    (F : ∀ (w : World) (mg : Str → Option Value) (fa : Addr) (h : Heap), (K w.params).In h → h.Ns mainGlobals mg → mg d.name = some (.ref fa) →
      ∃ fd : FuncData, (∀ (s : Shared) (u : Value), BindsTo s fd ⟨[u], []⟩ [("_law_script", u)]) ∧ ∀ base : Heap, (K w.params).In base → base.Ns mainGlobals mg → FnOk l.prog w (K w.params) mg base CX0 lawK fa fd ["_law_script"] (sp_law (K w.params))) :
    PySem.W.WalkO q loose XP YP l.row.toRowW d [] (fun f vs => PySem.call f vs) :=
  L2.walk_of (n := 63) (k := lawK) (x := "_law_script") (CX := fun _ => CX0) (sp := fun w => sp_law (K w.params)) hn (by decide) hdf ⟨rfl, by decide, by decide⟩ hY F (fun _ _ a ns hl _ hS => ⟨a, ns, rfl, hS, hl, fun _ => rfl⟩) fun _ _ _ _ _ z => z
end Ev
def PySem.W.Fast.tw5040076541392249596 : Unit := ()
def PySem.W.Fast.tw12439983435894311233 : Unit := ()
def PySem.W.Fast.tw3712741999205357495 : Unit := ()
def PySem.W.Fast.tw3824193067163699500 : Unit := ()
def PySem.W.Fast.tw3517558520387440176 : Unit := ()
def PySem.W.Fast.tw5639534150481306386 : Unit := ()
def PySem.W.Fast.tw14329940978785915896 : Unit := ()
def PySem.W.Fast.tw5986105086364542968 : Unit := ()
def PySem.W.Fast.tw1242186130016608557 : Unit := ()
def PySem.W.Fast.tw1550254528881157121 : Unit := ()
def PySem.W.Fast.tw2946865448789748050 : Unit := ()
def PySem.W.Fast.tw12945800586307267594 : Unit := ()
def PySem.W.Fast.tw16347256852766635874 : Unit := ()
def PySem.W.Fast.tw1448224154595296830 : Unit := ()
def PySem.W.Fast.tw17701004288179336353 : Unit := ()
def PySem.W.Fast.tw13772728807303708604 : Unit := ()
def PySem.W.Fast.tw10944092245624203515 : Unit := ()
def PySem.W.Fast.tw17288270240114962599 : Unit := ()
def PySem.W.Fast.tw15765335875745464567 : Unit := ()
def PySem.W.Fast.tw17817021321506728574 : Unit := ()
def PySem.W.Fast.tw2458775120579482700 : Unit := ()
def PySem.W.Fast.tw2867769579113843036 : Unit := ()
def PySem.W.Fast.tw3201272846838200265 : Unit := ()
def PySem.W.Fast.tw15212951354160800965 : Unit := ()
def PySem.W.Fast.tw5844078425344888521 : Unit := ()
def PySem.W.Fast.tw5458587123643688895 : Unit := ()
def PySem.W.Fast.tw14097780870485646069 : Unit := ()
def PySem.W.Fast.tw1137237309563376279 : Unit := ()
def PySem.W.Fast.tw9596076132876597567 : Unit := ()
def PySem.W.Fast.tw8570324070875760359 : Unit := ()
def PySem.W.Fast.tw5309764721698406509 : Unit := ()
def PySem.W.Fast.tw2287546151818782330 : Unit := ()
def PySem.W.Fast.tw13592771306485522072 : Unit := ()
def PySem.W.Fast.tw1910775366488912554 : Unit := ()
def PySem.W.Fast.tw14175274877520073580 : Unit := ()
def PySem.W.Fast.tw13166937734291850555 : Unit := ()
def PySem.W.Fast.tw6656486712295592414 : Unit := ()
def PySem.W.Fast.tw384920600500599229 : Unit := ()
def PySem.W.Fast.tw14885334190420822481 : Unit := ()
def PySem.W.Fast.tw4020340196158367320 : Unit := ()
def PySem.W.Fast.tw11946819078441899157 : Unit := ()
def PySem.W.Fast.tw14516284120818080462 : Unit := ()
def PySem.W.Fast.tw14307985911901152094 : Unit := ()
def PySem.W.Fast.tw9752197388489831876 : Unit := ()
def PySem.W.Fast.tw5723704486377481712 : Unit := ()
def PySem.W.Fast.tw13310217366415628101 : Unit := ()
def PySem.W.Fast.tw49992422882444470 : Unit := ()
def PySem.W.Fast.tw12626653856324622936 : Unit := ()
def PySem.W.Fast.tw12679616603046499698 : Unit := ()
def PySem.W.Fast.tw3309389929500620912 : Unit := ()
def PySem.W.Fast.tw4934494940832048187 : Unit := ()
def PySem.W.Fast.tw15075064954122440068 : Unit := ()
def PySem.W.Fast.tw13778374677103722763 : Unit := ()
def PySem.W.Fast.tw5555918962479892421 : Unit := ()
def PySem.W.Fast.tw15323215890119988823 : Unit := ()
def PySem.W.Fast.tw4700077526742795493 : Unit := ()
def PySem.W.Fast.tw4379073906245306572 : Unit := ()
def PySem.W.Fast.tw12306913610957087940 : Unit := ()
def PySem.W.Fast.tw13938208044194852820 : Unit := ()
def PySem.W.Fast.tw8322360978476478502 : Unit := ()
def PySem.W.Fast.tw15349163036227029109 : Unit := ()
def PySem.W.Fast.tw5118166785038554679 : Unit := ()
def PySem.W.Fast.tw14903459045728604982 : Unit := ()
def PySem.W.Fast.tw16602561104292931471 : Unit := ()
def PySem.W.Fast.tw2517405759241063538 : Unit := ()
def PySem.W.Fast.tw12997373703593794069 : Unit := ()
def PySem.W.Fast.tw2611863475981637891 : Unit := ()
def PySem.W.Fast.tw17712481452693737992 : Unit := ()
def PySem.W.Fast.tw5265064308717253262 : Unit := ()
def PySem.W.Fast.tw17482506710874670159 : Unit := ()
def PySem.W.Fast.tw3898412080801928404 : Unit := ()
def PySem.W.Fast.tw3709231989692668716 : Unit := ()
def PySem.W.Fast.tw13464267386357469043 : Unit := ()
def PySem.W.Fast.tw2144240303110685514 : Unit := ()
def PySem.W.Fast.tw6956071908800936877 : Unit := ()
def PySem.W.Fast.tw16245840834514393389 : Unit := ()
def PySem.W.Fast.tw10039226914341964830 : Unit := ()
def PySem.W.Fast.tw9493514249448335821 : Unit := ()
def PySem.W.Fast.tw10494943723518395986 : Unit := ()
def PySem.W.Fast.tw5002645620551543098 : Unit := ()
def PySem.W.Fast.tw16450258156465195640 : Unit := ()
def PySem.W.Fast.tw7335338826244168830 : Unit := ()
def PySem.W.Fast.tw12300460869923442074 : Unit := ()
def PySem.W.Fast.tw8811684420927977136 : Unit := ()
def PySem.W.Fast.tw6163250149908635111 : Unit := ()
def PySem.W.Fast.tw1478099153940182909 : Unit := ()
def PySem.W.Fast.tw17862754915117784684 : Unit := ()
def PySem.W.Fast.tw18080453836097695742 : Unit := ()
def PySem.W.Fast.tw1775670746146728306 : Unit := ()
def PySem.W.Fast.tw14714186645381338167 : Unit := ()
def PySem.W.Fast.tw7260639538116004875 : Unit := ()
def PySem.W.Fast.tw15828668481296398068 : Unit := ()
def PySem.W.Fast.tw8022634961542022709 : Unit := ()
def PySem.W.Fast.tw5621158809697984777 : Unit := ()
def PySem.W.Fast.tw10228791525304042882 : Unit := ()
def PySem.W.Fast.tw11537856693688086569 : Unit := ()
def PySem.W.Fast.tw10753793841966923986 : Unit := ()
def PySem.W.Fast.tw14347826783183628751 : Unit := ()
def PySem.W.Fast.tw3207043897286083486 : Unit := ()
def PySem.W.Fast.tw12414621718761011750 : Unit := ()
def PySem.W.Fast.tw12113109201677917217 : Unit := ()
def PySem.W.Fast.tw565975964029190102 : Unit := ()
def PySem.W.Fast.tw3394831653679150269 : Unit := ()
def PySem.W.Fast.tw15570154895465901592 : Unit := ()
def PySem.W.Fast.tw2265689212196900011 : Unit := ()
def PySem.W.Fast.tw13242489439044862263 : Unit := ()
def PySem.W.Fast.tw17523351370315843212 : Unit := ()
def PySem.W.Fast.tw9426434277326457058 : Unit := ()
def PySem.W.Fast.tw15549407418966300439 : Unit := ()
def PySem.W.Fast.tw13583805880987947915 : Unit := ()
def PySem.W.Fast.tw9791632387426739867 : Unit := ()
def PySem.W.Fast.tw14144957925706804452 : Unit := ()
def PySem.W.Fast.tw8907647913055916798 : Unit := ()
def PySem.W.Fast.tw5026244666560476681 : Unit := ()
def PySem.W.Fast.tw4090580999617142401 : Unit := ()
def PySem.W.Fast.tw2134053479137945356 : Unit := ()
def PySem.W.Fast.tw17741824915642565313 : Unit := ()
def PySem.W.Fast.tw12765657308756042931 : Unit := ()
def PySem.W.Fast.tw4771601920034317740 : Unit := ()
def PySem.W.Fast.tw3087928810287677438 : Unit := ()
def PySem.W.Fast.tw17919314493849226368 : Unit := ()
def PySem.W.Fast.tw1523074187392669531 : Unit := ()
def PySem.W.Fast.tw3631164368717702890 : Unit := ()
def PySem.W.Fast.tw4456221700158929390 : Unit := ()
def PySem.W.Fast.tw11650758418064127980 : Unit := ()
def PySem.W.Fast.tw16396242214143880170 : Unit := ()
def PySem.W.Fast.tw4211780538200821772 : Unit := ()
def PySem.W.Fast.tw11999211950996169782 : Unit := ()
def PySem.W.Fast.tw11413569046418101060 : Unit := ()
def PySem.W.Fast.tw16081990137487020642 : Unit := ()
def PySem.W.Fast.tw12014667083996475207 : Unit := ()
def PySem.W.Fast.tw4610612643873371212 : Unit := ()
def PySem.W.Fast.tw13880036507427539330 : Unit := ()
def PySem.W.Fast.tw12727671911823793812 : Unit := ()
def PySem.W.Fast.tw2554054440685141102 : Unit := ()
def PySem.W.Fast.tw12300609051446877435 : Unit := ()
def PySem.W.Fast.tw13785063534269238737 : Unit := ()
def PySem.W.Fast.tw15379203570997155176 : Unit := ()
def PySem.W.Fast.tw2552808368182633061 : Unit := ()
def PySem.W.Fast.tw2679698049276810661 : Unit := ()
def PySem.W.Fast.tw14521203355358186163 : Unit := ()
def PySem.W.Fast.tw7357395813459141555 : Unit := ()
def PySem.W.Fast.tw595717829325941293 : Unit := ()
def PySem.W.Fast.tw1996510555445697833 : Unit := ()
def PySem.W.Fast.tw12100147298629677940 : Unit := ()
def PySem.W.Fast.tw7360258486234099179 : Unit := ()
def PySem.W.Fast.tw1288521415484767288 : Unit := ()
def PySem.W.Fast.tw9394761414312935369 : Unit := ()
def PySem.W.Fast.tw5174020949674585411 : Unit := ()
def PySem.W.Fast.tw17801721249979897084 : Unit := ()
def PySem.W.Fast.tw829018873001589227 : Unit := ()
def PySem.W.Fast.tw5223689818763263582 : Unit := ()
def PySem.W.Fast.tw8872802605361309136 : Unit := ()
def PySem.W.Fast.tw11831131537715749861 : Unit := ()
def PySem.W.Fast.tw1196690282040082671 : Unit := ()
def PySem.W.Fast.tw10770293460033410301 : Unit := ()
def PySem.W.Fast.tw4029491829061609199 : Unit := ()
def PySem.W.Fast.tw9830816372738024937 : Unit := ()
def PySem.W.Fast.tw12480916246012905289 : Unit := ()
def PySem.W.Fast.tw16205994959822538013 : Unit := ()
def PySem.W.Fast.tw16003083865670170130 : Unit := ()
def PySem.W.Fast.tw852094072071836321 : Unit := ()
def PySem.W.Fast.tw17794443694214235358 : Unit := ()
def PySem.W.Fast.tw495688205868775272 : Unit := ()
def PySem.W.Fast.tw97286677738013849 : Unit := ()
def PySem.W.Fast.tw7768666057712758861 : Unit := ()
def PySem.W.Fast.tw11599493809106506586 : Unit := ()
def PySem.W.Fast.tw13931577938272070412 : Unit := ()
def PySem.W.Fast.tw7242745773483137001 : Unit := ()
def PySem.W.Fast.tw15117870779452200919 : Unit := ()
def PySem.W.Fast.tw17620824905715061401 : Unit := ()
def PySem.W.Fast.tw18115287866836624231 : Unit := ()
def PySem.W.Fast.tw1047035817824084370 : Unit := ()
def PySem.W.Fast.tw1106841323066160133 : Unit := ()
def PySem.W.Fast.tw12128754921739259960 : Unit := ()
def PySem.W.Fast.tw17176450612652723215 : Unit := ()
def PySem.W.Fast.tw6563773887682997245 : Unit := ()
def PySem.W.Fast.tw4860096413077195451 : Unit := ()
def PySem.W.Fast.tw11806119420822626628 : Unit := ()
def PySem.W.Fast.tw16758453996187355205 : Unit := ()
def PySem.W.Fast.tw10205615793260806919 : Unit := ()
def PySem.W.Fast.tw13410409584932242540 : Unit := ()
def PySem.W.Fast.tw4070435917630084535 : Unit := ()
def PySem.W.Fast.tw13782983167165762594 : Unit := ()
def PySem.W.Fast.tw7969205802270398370 : Unit := ()
def PySem.W.Fast.tw5897743016914609787 : Unit := ()
def PySem.W.Fast.tw11529451975599172030 : Unit := ()
def PySem.W.Fast.tw2113055162994098014 : Unit := ()
def PySem.W.Fast.tw403892142791439673 : Unit := ()
def PySem.W.Fast.tw6293866430230135327 : Unit := ()
def PySem.W.Fast.tw2372805722577720838 : Unit := ()
def PySem.W.Fast.tw17685190516160706675 : Unit := ()
def PySem.W.Fast.tw3694399953550022255 : Unit := ()
def PySem.W.Fast.tw14106441166355470483 : Unit := ()
def PySem.W.Fast.tw16875816169186711650 : Unit := ()
def PySem.W.Fast.tw11394414848170516086 : Unit := ()
def PySem.W.Fast.tw48140913753930041 : Unit := ()
def PySem.W.Fast.tw7588542594997741195 : Unit := ()
def PySem.W.Fast.tw1715413650320604430 : Unit := ()
def PySem.W.Fast.tw7520818187090552179 : Unit := ()
def PySem.W.Fast.tw5138106227027430173 : Unit := ()
def PySem.W.Fast.tw11698893313721145309 : Unit := ()
def PySem.W.Fast.tw15144199975976287808 : Unit := ()
def PySem.W.Fast.tw3594411612900831488 : Unit := ()
def PySem.W.Fast.tw14584753015086493842 : Unit := ()
def PySem.W.Fast.tw7787195101995501883 : Unit := ()
def PySem.W.Fast.tw683338025145892712 : Unit := ()
def PySem.W.Fast.tw15374762802943783489 : Unit := ()
def PySem.W.Fast.tw1176394236170637455 : Unit := ()
def PySem.W.Fast.tw5922761261515808167 : Unit := ()
def PySem.W.Fast.tw1043752274933546675 : Unit := ()
def PySem.W.Fast.tw8213614498878837826 : Unit := ()
def PySem.W.Fast.tw17339442678446938938 : Unit := ()
def PySem.W.Fast.tw12744101941450076997 : Unit := ()
def PySem.W.Fast.tw4148740786591140877 : Unit := ()
def PySem.W.Fast.tw6020203075819612451 : Unit := ()
def PySem.W.Fast.tw8873762776560900248 : Unit := ()
def PySem.W.Fast.tw10650125139899852992 : Unit := ()
def PySem.W.Fast.tw1886479789646057667 : Unit := ()
def PySem.W.Fast.tw13212111729762741946 : Unit := ()
def PySem.W.Fast.tw8237294279499063052 : Unit := ()
def PySem.W.Fast.tw11096396075018388831 : Unit := ()
def PySem.W.Fast.tw1486242046520854089 : Unit := ()
def PySem.W.Fast.tw14201539492785078805 : Unit := ()
def PySem.W.Fast.tw17727511286630695418 : Unit := ()
def PySem.W.Fast.tw17425900071144204560 : Unit := ()
def PySem.W.Fast.tw11820100092475204479 : Unit := ()
def PySem.W.Fast.tw4837291654517153375 : Unit := ()
def PySem.W.Fast.tw8402884808148685324 : Unit := ()
def PySem.W.Fast.tw7188230163408747004 : Unit := ()
def PySem.W.Fast.tw16850123627750855588 : Unit := ()
def PySem.W.Fast.tw14569648452590513441 : Unit := ()
def PySem.W.Fast.tw3716856799640759707 : Unit := ()
def PySem.W.Fast.tw5832643496931131087 : Unit := ()
def PySem.W.Fast.tw15448633933403464037 : Unit := ()
def PySem.W.Fast.tw12792395447059002017 : Unit := ()
def PySem.W.Fast.tw8866805746887337614 : Unit := ()
def PySem.W.Fast.tw5187352477329676998 : Unit := ()
def PySem.W.Fast.tw15984260455491321297 : Unit := ()
def PySem.W.Fast.tw7513777798740023853 : Unit := ()
def PySem.W.Fast.tw1817415458212035960 : Unit := ()
def PySem.W.Fast.tw1703927449362991276 : Unit := ()
def PySem.W.Fast.tw2424513519270695261 : Unit := ()
def PySem.W.Fast.tw4210111744976066337 : Unit := ()
def PySem.W.Fast.tw11189212962969070174 : Unit := ()
def PySem.W.Fast.tw2154617641943174564 : Unit := ()
def PySem.W.Fast.tw7391744295967164564 : Unit := ()
def PySem.W.Fast.tw13829549750983499741 : Unit := ()
def PySem.W.Fast.tw4310487044692408372 : Unit := ()
def PySem.W.Fast.tw14106563785961397702 : Unit := ()
def PySem.W.Fast.tw6537188407762912366 : Unit := ()
def PySem.W.Fast.tw13169151176183417011 : Unit := ()
def PySem.W.Fast.tw7508163472996686946 : Unit := ()
def PySem.W.Fast.tw21468090037273407 : Unit := ()
def PySem.W.Fast.tw6962415902602198648 : Unit := ()
def PySem.W.Fast.tw8971419966968802764 : Unit := ()
def PySem.W.Fast.tw3838138831127102833 : Unit := ()
def PySem.W.Fast.tw5638429764582243408 : Unit := ()
def PySem.W.Fast.tw5806720486778905297 : Unit := ()
def PySem.W.Fast.tw10172091519531996972 : Unit := ()
def PySem.W.Fast.tw13188508161392740554 : Unit := ()
def PySem.W.Fast.tw15556313375996345318 : Unit := ()
def PySem.W.Fast.tw9486681732762277029 : Unit := ()
def PySem.W.Fast.tw14923679606347858509 : Unit := ()
def PySem.W.Fast.tw17468601977179960210 : Unit := ()
def PySem.W.Fast.tw10764497555677387082 : Unit := ()
def PySem.W.Fast.tw14267411842166218357 : Unit := ()
def PySem.W.Fast.tw6688394748715977533 : Unit := ()
def PySem.W.Fast.tw6682525083875797084 : Unit := ()
def PySem.W.Fast.tw12639122701751963788 : Unit := ()
def PySem.W.Fast.tw6291151045819051444 : Unit := ()
def PySem.W.Fast.tw11760401553459111541 : Unit := ()
def PySem.W.Fast.tw8542314888353745881 : Unit := ()
def PySem.W.Fast.tw6028272020245941847 : Unit := ()
def PySem.W.Fast.tw17597153154437719316 : Unit := ()
def PySem.W.Fast.tw17853714697636738068 : Unit := ()
def PySem.W.Fast.tw14976267852027945226 : Unit := ()
def PySem.W.Fast.tw8115470320900964388 : Unit := ()
def PySem.W.Fast.tw13918392308147133801 : Unit := ()
def PySem.W.Fast.tw14204815071844138004 : Unit := ()
def PySem.W.Fast.tw10244683629172720636 : Unit := ()
def PySem.W.Fast.tw16303133306748797311 : Unit := ()
def PySem.W.Fast.tw11363410279059094681 : Unit := ()
def PySem.W.Fast.tw6665857731249120902 : Unit := ()
def PySem.W.Fast.tw9477794646309389753 : Unit := ()
def PySem.W.Fast.tw7977490567816727660 : Unit := ()
def PySem.W.Fast.tw1081957979592927068 : Unit := ()
def PySem.W.Fast.tw8010706880088015677 : Unit := ()
def PySem.W.Fast.tw13385963172092939165 : Unit := ()
def PySem.W.Fast.tw6466798725353841588 : Unit := ()
def PySem.W.Fast.tw3184389839035341240 : Unit := ()
def PySem.W.Fast.tw7982602472659437937 : Unit := ()
def PySem.W.Fast.tw13031374736301700962 : Unit := ()
def PySem.W.Fast.tw3508071672031061852 : Unit := ()
def PySem.W.Fast.tw9146841735982467375 : Unit := ()
def PySem.W.Fast.tw6704831529850718698 : Unit := ()
def PySem.W.Fast.tw3934953182606151913 : Unit := ()
def PySem.W.Fast.tw9000305071254272407 : Unit := ()
def PySem.W.Fast.tw17053424644439507116 : Unit := ()
def PySem.W.Fast.tw7946153245723242981 : Unit := ()
def PySem.W.Fast.tw7530121914398132300 : Unit := ()
def PySem.W.Fast.tw12413586362070432228 : Unit := ()
def PySem.W.Fast.tw15022528762340308600 : Unit := ()
def PySem.W.Fast.tw11331026698768458467 : Unit := ()
def PySem.W.Fast.tw12134938357552388063 : Unit := ()
def PySem.W.Fast.tw1198678908127222383 : Unit := ()
def PySem.W.Fast.tw3238194872661060484 : Unit := ()
def PySem.W.Fast.tw2486530590946297260 : Unit := ()
def PySem.W.Fast.tw9525344092375331506 : Unit := ()
def PySem.W.Fast.tw2605308420012746910 : Unit := ()
def PySem.W.Fast.tw3144031871779477390 : Unit := ()
def PySem.W.Fast.tw4843558346157402501 : Unit := ()
def PySem.W.Fast.tw9735493125284688425 : Unit := ()
def PySem.W.Fast.tw11385329466438477203 : Unit := ()
def PySem.W.Fast.tw4771633004245605401 : Unit := ()
def PySem.W.Fast.tw15660529706738557938 : Unit := ()
def PySem.W.Fast.tw7072131058706600856 : Unit := ()
def PySem.W.Fast.tw12327110031244482138 : Unit := ()
def PySem.W.Fast.tw6901436819125805431 : Unit := ()
def PySem.W.Fast.tw1661273874989889468 : Unit := ()
def PySem.W.Fast.tw13914077076919229953 : Unit := ()
def PySem.W.Fast.tw17128649993157339039 : Unit := ()
def PySem.W.Fast.tw10542095555735019094 : Unit := ()
def PySem.W.Fast.tw17658286821552070052 : Unit := ()
def PySem.W.Fast.tw5044630738089172753 : Unit := ()
def PySem.W.Fast.tw897680906336939098 : Unit := ()
def PySem.W.Fast.tw5721868331986483612 : Unit := ()
def PySem.W.Fast.tw11524833283474189565 : Unit := ()
def PySem.W.Fast.tw15559455011955121649 : Unit := ()
def PySem.W.Fast.tw5982088119370097080 : Unit := ()
def PySem.W.Fast.tw17787796255671750154 : Unit := ()
def PySem.W.Fast.tw9132858456440185448 : Unit := ()
def PySem.W.Fast.tw827656340187781538 : Unit := ()
def PySem.W.Fast.tw14843861273809177994 : Unit := ()
def PySem.W.Fast.tw17631322694624601990 : Unit := ()
def PySem.W.Fast.tw17764649121645553012 : Unit := ()
def PySem.W.Fast.tw15080431198561072154 : Unit := ()
def PySem.W.Fast.tw14644712983637037709 : Unit := ()
def PySem.W.Fast.tw6146332375545076824 : Unit := ()
def PySem.W.Fast.tw1702517975707453990 : Unit := ()
def PySem.W.Fast.tw197358035079931891 : Unit := ()
def PySem.W.Fast.tw11336960833420287387 : Unit := ()
def PySem.W.Fast.tw13049302360355321964 : Unit := ()
def PySem.W.Fast.tw8891566405989206770 : Unit := ()
def PySem.W.Fast.tw7167444411345813621 : Unit := ()
def PySem.W.Fast.tw17171540976964178734 : Unit := ()
def PySem.W.Fast.tw3800357622831631087 : Unit := ()
def PySem.W.Fast.tw1394645041098581733 : Unit := ()
def PySem.W.Fast.tw1011635584775289346 : Unit := ()
def PySem.W.Fast.tw392950336676616598 : Unit := ()
def PySem.W.Fast.tw12996416556160909717 : Unit := ()
def PySem.W.Fast.tw10850760839870003868 : Unit := ()
def PySem.W.Fast.tw3037510942030122057 : Unit := ()
def PySem.W.Fast.tw10986516452349428711 : Unit := ()
def PySem.W.Fast.tw13069862289395546478 : Unit := ()
def PySem.W.Fast.tw16078859697224370324 : Unit := ()
def PySem.W.Fast.tw9631958540904810001 : Unit := ()
def PySem.W.Fast.tw5173001023281083858 : Unit := ()
def PySem.W.Fast.tw3137105504608662169 : Unit := ()
def PySem.W.Fast.tw6954360313913323102 : Unit := ()
def PySem.W.Fast.tw11405553046023036452 : Unit := ()
def PySem.W.Fast.tw18166324001166846075 : Unit := ()
def PySem.W.Fast.tw981747078838165911 : Unit := ()
def PySem.W.Fast.tw12114146716674555739 : Unit := ()
def PySem.W.Fast.tw15433671742391411075 : Unit := ()
def PySem.W.Fast.tw7587120455116379729 : Unit := ()
def PySem.W.Fast.tw2733223329750912363 : Unit := ()
def PySem.W.Fast.tw3646624303799603684 : Unit := ()
def PySem.W.Fast.tw15937649212904022221 : Unit := ()
def PySem.W.Fast.tw11763877236129483612 : Unit := ()
def PySem.W.Fast.tw2287471638417657625 : Unit := ()
def PySem.W.Fast.tw1499063781429406418 : Unit := ()
def PySem.W.Fast.tw1105918497692810717 : Unit := ()
def PySem.W.Fast.tw222096696157016523 : Unit := ()
def PySem.W.Fast.tw14362276550517751333 : Unit := ()
def PySem.W.Fast.tw1503413748043622019 : Unit := ()
def PySem.W.Fast.tw7015515803400565453 : Unit := ()
def PySem.W.Fast.tw12273951666998117058 : Unit := ()
def PySem.W.Fast.tw9704802152956593877 : Unit := ()
def PySem.W.Fast.tw1641288062052691982 : Unit := ()
def PySem.W.Fast.tw4295627904912230561 : Unit := ()
def PySem.W.Fast.tw11696072777621728639 : Unit := ()
def PySem.W.Fast.tw13202616396601683188 : Unit := ()
def PySem.W.Fast.tw5916311640258891355 : Unit := ()
def PySem.W.Fast.tw12506141257032628112 : Unit := ()
def PySem.W.Fast.tw3063750818688918479 : Unit := ()
def PySem.W.Fast.tw18218001110387856432 : Unit := ()
def PySem.W.Fast.tw4457024017823629266 : Unit := ()
def PySem.W.Fast.tw8448851166034371155 : Unit := ()
def PySem.W.Fast.tw1238965682040762143 : Unit := ()
def PySem.W.Fast.tw10559178041702172119 : Unit := ()
def PySem.W.Fast.tw11530306980482726357 : Unit := ()
def PySem.W.Fast.tw3455905797100374645 : Unit := ()
def PySem.W.Fast.tw11747484839689888026 : Unit := ()
def PySem.W.Fast.tw3734678678290533754 : Unit := ()
def PySem.W.Fast.tw3842845017072083681 : Unit := ()
def PySem.W.Fast.tw6514416588188084452 : Unit := ()
def PySem.W.Fast.tw14709354929807895047 : Unit := ()
def PySem.W.Fast.tw5243374903691744236 : Unit := ()
def PySem.W.Fast.tw5003887535595887093 : Unit := ()
def PySem.W.Fast.tw13094418073389798781 : Unit := ()
def PySem.W.Fast.tw15548637456293211363 : Unit := ()
def PySem.W.Fast.tw883161588210156278 : Unit := ()
def PySem.W.Fast.tw9110487103580143506 : Unit := ()
def PySem.W.Fast.tw6124414300610509894 : Unit := ()
def PySem.W.Fast.tw15720677284319341152 : Unit := ()
def PySem.W.Fast.tw6180774498583537677 : Unit := ()
def PySem.W.Fast.tw10600642954901804129 : Unit := ()
def PySem.W.Fast.tw10205656505981106177 : Unit := ()
def PySem.W.Fast.tw5396842138645279812 : Unit := ()
def PySem.W.Fast.tw10586853082721935905 : Unit := ()
def PySem.W.Fast.tw2990634821495764823 : Unit := ()
def PySem.W.Fast.tw17904626783203581293 : Unit := ()
def PySem.W.Fast.tw17863216732994707490 : Unit := ()
def PySem.W.Fast.tw5673584270656784225 : Unit := ()
def PySem.W.Fast.tw11884666112923605112 : Unit := ()
def PySem.W.Fast.tw13931178482330949724 : Unit := ()
def PySem.W.Fast.tw14432138968064256817 : Unit := ()
def PySem.W.Fast.tw15887327614246244833 : Unit := ()
def PySem.W.Fast.tw7390775402935519518 : Unit := ()
def PySem.W.Fast.tw16094083053655886080 : Unit := ()
def PySem.W.Fast.tw8889274615604659852 : Unit := ()
def PySem.W.Fast.tw8086557620275256618 : Unit := ()
def PySem.W.Fast.tw1988222820490733297 : Unit := ()
def PySem.W.Fast.tw3355214282818620223 : Unit := ()
def PySem.W.Fast.tw9196490402949723757 : Unit := ()
def PySem.W.Fast.tw7750924042399531961 : Unit := ()
def PySem.W.Fast.tw8444187451508254732 : Unit := ()
def PySem.W.Fast.tw3181040753759147634 : Unit := ()
def PySem.W.Fast.tw5104515270636545733 : Unit := ()
def PySem.W.Fast.tw2412828521143947949 : Unit := ()
def PySem.W.Fast.tw12652220253281153808 : Unit := ()
def PySem.W.Fast.tw14720298474409147504 : Unit := ()
def PySem.W.Fast.tw15912264261313273351 : Unit := ()
def PySem.W.Fast.tw11248904907001843523 : Unit := ()
def PySem.W.Fast.tw3880867797450470614 : Unit := ()
def PySem.W.Fast.tw15463143118135433698 : Unit := ()
def PySem.W.Fast.tw5190169610928407894 : Unit := ()
def PySem.W.Fast.tw5355784513722011944 : Unit := ()
def PySem.W.Fast.tw12872776964981039605 : Unit := ()
def PySem.W.Fast.tw1993463569168794907 : Unit := ()
def PySem.W.Fast.tw823920359515919223 : Unit := ()
def PySem.W.Fast.tw9389854449622406781 : Unit := ()
def PySem.W.Fast.tw8622534559775693652 : Unit := ()
def PySem.W.Fast.tw9392900520328725 : Unit := ()
def PySem.W.Fast.tw2982350954445527232 : Unit := ()
def PySem.W.Fast.tw6871141731254672960 : Unit := ()
def PySem.W.Fast.tw14129411131485052288 : Unit := ()
def PySem.W.Fast.tw3561320754333864771 : Unit := ()
def PySem.W.Fast.tw635021712371183688 : Unit := ()
def PySem.W.Fast.tw9275874611541291393 : Unit := ()
def PySem.W.Fast.tw10356394535594697718 : Unit := ()
def PySem.W.Fast.tw6394954168558919611 : Unit := ()
def PySem.W.Fast.tw3911162082002722339 : Unit := ()
def PySem.W.Fast.tw4697687660039050047 : Unit := ()
def PySem.W.Fast.tw16168771558125939460 : Unit := ()
def PySem.W.Fast.tw15951363004921791601 : Unit := ()
def PySem.W.Fast.tw4066561846315845069 : Unit := ()
def PySem.W.Fast.tw8454872649637558814 : Unit := ()
def PySem.W.Fast.tw15728831556592827875 : Unit := ()
def PySem.W.Fast.tw9124525705241532131 : Unit := ()
def PySem.W.Fast.tw6841536281354202961 : Unit := ()
def PySem.W.Fast.tw10039148216336846998 : Unit := ()
def PySem.W.Fast.tw10825649026929300164 : Unit := ()
def PySem.W.Fast.tw2793111432398061711 : Unit := ()
def PySem.W.Fast.tw7555470030151157610 : Unit := ()
def PySem.W.Fast.tw12111021904043708205 : Unit := ()
def PySem.W.Fast.tw15462246141797651860 : Unit := ()
def PySem.W.Fast.tw17010126762383466357 : Unit := ()
def PySem.W.Fast.tw5610594770980727954 : Unit := ()
def PySem.W.Fast.tw4423887642863168999 : Unit := ()
def PySem.W.Fast.tw11070256742972588806 : Unit := ()
def PySem.W.Fast.tw5269085302629692452 : Unit := ()
def PySem.W.Fast.tw11061256158777710293 : Unit := ()
def PySem.W.Fast.tw16903397905770845838 : Unit := ()
def PySem.W.Fast.tw4876099565329216874 : Unit := ()
def PySem.W.Fast.tw16076241924196473593 : Unit := ()
def PySem.W.Fast.tw1333150972707761036 : Unit := ()
def PySem.W.Fast.tw13596881393740422003 : Unit := ()
def PySem.W.Fast.tw3683359099737294864 : Unit := ()
def PySem.W.Fast.tw14496879729107182205 : Unit := ()
def PySem.W.Fast.tw3661499201922725299 : Unit := ()
def PySem.W.Fast.tw8072881116922009630 : Unit := ()
def PySem.W.Fast.tw3696479817619774049 : Unit := ()
def PySem.W.Fast.tw16352286358023194329 : Unit := ()
def PySem.W.Fast.tw15347559260919344806 : Unit := ()
def PySem.W.Fast.tw106348074261926123 : Unit := ()
def PySem.W.Fast.tw4860209567039655969 : Unit := ()
def PySem.W.Fast.tw12657624241284003839 : Unit := ()
def PySem.W.Fast.tw17667001572040879348 : Unit := ()
def PySem.W.Fast.tw3738451147031229529 : Unit := ()
def PySem.W.Fast.tw8747955515722918990 : Unit := ()
def PySem.W.Fast.tw14083036493996200646 : Unit := ()
def PySem.W.Fast.tw4886115982090561969 : Unit := ()
def PySem.W.Fast.tw12584910875051203104 : Unit := ()
def PySem.W.Fast.tw15331118769338708673 : Unit := ()
def PySem.W.Fast.tw13156812008598469839 : Unit := ()
def PySem.W.Fast.tw623575503101853806 : Unit := ()
def PySem.W.Fast.tw1544610310173391386 : Unit := ()
def PySem.W.Fast.tw18324881327109407365 : Unit := ()
def PySem.W.Fast.tw5340802043630762159 : Unit := ()
def PySem.W.Fast.tw11788213229167043242 : Unit := ()
def PySem.W.Fast.tw18156363846101674099 : Unit := ()
def PySem.W.Fast.tw5030617193455152119 : Unit := ()
def PySem.W.Fast.tw8922135449248662915 : Unit := ()
def PySem.W.Fast.tw2372985307567587163 : Unit := ()
def PySem.W.Fast.tw1128627240973565796 : Unit := ()
def PySem.W.Fast.tw5693886413981333624 : Unit := ()
def PySem.W.Fast.tw1656803985532064153 : Unit := ()
def PySem.W.Fast.tw5873804721035756825 : Unit := ()
def PySem.W.Fast.tw12580808669482990574 : Unit := ()
open PySem PySem.W PyProof.Rows
set_option maxRecDepth 100000 in
set_option maxHeartbeats 0 in
theorem PySem.Challenge.cw_evenring_k07_refused_holds : PySem.Challenge.rw_evenring_k07_refused.Holds := by
  w_on; o_law; k_head; (case hw => w_witness2)
  k_fill
  refine Ev.walk (l := PySem.Challenge.rw_evenring_k07_refused) rfl rfl (fun w h Y => PySem.W.kIn_of Y) ?F
  case F =>
    intro w mg fa h KX G hmg
    refine' Ev.all_mk KX G hmg ?q0 ?q1 ?q2 ?q3 ?q4 ?q5 ?q6 ?q7 ?q8 ?q9 ?q10 ?q11 ?q12 ?q13 ?q14 ?q15 ?q16 ?q17 ?q18 ?q19 ?q20 ?q21 ?q22 ?q23 ?q24 ?q25 ?q26 ?q27 ?q28 ?q29 ?q30 ?q31 ?q32 ?q33 ?q34 ?q35 ?q36 ?q37 ?q38 ?q39 ?q40 ?q41 ?q42 ?q43 ?q44 ?q45 ?q46 ?q47 ?q48 ?q49 ?q50 ?q51 ?q52 ?q53 ?q54 ?q55 ?q56 ?q57 ?q58 ?q59 ?q60 ?q61 ?q62 ?q63 ?q64 ?q65 ?q66 ?q67 ?q68 ?q69 ?q70 ?q71 ?q72 ?q73 ?q74 ?q75 ?q76 ?q77 ?q78 ?q79 ?q80 ?q81 ?q82 ?q83 ?q84 ?q85 ?q86 ?q87 ?q88 ?q89 ?q90 ?q91 ?q92 ?q93 ?q94 ?q95 ?q96 ?q97 ?q98 ?q99 ?q100 ?q101 ?q102 ?q103 ?q104 ?q105 ?q106 ?q107 ?q108 ?q109 ?q110 ?q111 ?q112 ?q113 ?q114 ?q115 ?q116 ?q117 ?q118 ?q119 ?q120 ?q121 ?q122 ?q123 ?q124 ?q125 ?q126 ?q127 ?q128 ?q129 ?q130 ?q131 ?q132 ?q133 ?q134 ?q135 ?q136 ?q137 ?q138 ?q139 ?q140 ?q141 ?q142 ?q143 ?q144 ?q145 ?q146 ?q147 ?q148 ?q149 ?q150 ?q151 ?q152 ?q153 ?q154 ?q155 ?q156 ?q157 ?q158 ?q159 ?q160 ?q161 ?q162 ?q163 ?q164 ?q165 ?q166 ?q167 ?q168 ?q169 ?q170 ?q171 ?q172 ?q173 ?q174 ?q175 ?q176 ?q177 ?q178 ?q179 ?q180 ?q181 ?q182 ?q183 ?q184 ?q185 ?q186 ?q187 ?q188 ?q189 ?q190 ?q191 ?q192 ?q193 ?q194 ?q195 ?q196 ?q197 ?q198 ?q199 ?q200 ?q201 ?q202 ?q203 ?q204 ?q205 ?q206 ?q207 ?q208 ?q209 ?q210 ?q211 ?q212 ?q213 ?q214 ?q215 ?q216 ?q217 ?q218 ?q219 ?q220 ?q221 ?q222 ?q223 ?q224 ?q225 ?q226 ?q227 ?q228 ?q229 ?q230 ?q231 ?q232 ?q233 ?q234 ?q235 ?q236 ?q237 ?q238 ?q239 ?q240 ?q241 ?q242 ?q243 ?q244 ?q245 ?q246 ?q247 ?q248 ?q249 ?q250 ?q251 ?q252 ?q253 ?q254 ?q255 ?q256 ?q257 ?q258 ?q259 ?q260 ?q261 ?q262 ?q263 ?q264 ?q265 ?q266 ?q267 ?q268 ?q269 ?q270 ?q271 ?q272 ?q273 ?q274 ?q275 ?q276 ?q277 ?q278 ?q279 ?q280 ?q281 ?q282 ?q283 ?q284 ?q285 ?q286 ?q287 ?q288 ?q289 ?q290 ?q291 ?q292 ?q293 ?q294 ?q295 ?q296 ?q297 ?q298 ?q299 ?q300 ?q301 ?q302 ?q303 ?q304 ?q305 ?q306 ?q307 ?q308 ?q309 ?q310 ?q311 ?q312 ?q313 ?q314 ?q315 ?q316 ?q317 ?q318 ?q319 ?q320 ?q321 ?q322 ?q323 ?q324 ?q325 ?q326 ?q327 ?q328 ?q329 ?q330 ?q331 ?q332 ?q333 ?q334 ?q335 ?q336 ?q337 ?q338 ?q339 ?q340 ?q341 ?q342 ?q343 ?q344 ?q345 ?q346 ?q347 ?q348 ?q349 ?q350 ?q351 ?q352 ?q353 ?q354 ?q355 ?q356 ?q357 ?q358 ?q359 ?q360 ?q361 ?q362 ?q363 ?q364 ?q365 ?q366 ?q367 ?q368 ?q369 ?q370 ?q371 ?q372 ?q373 ?q374 ?q375 ?q376 ?q377 ?q378 ?q379 ?q380 ?q381 ?q382 ?q383 ?q384 ?q385 ?q386 ?q387 ?q388 ?q389 ?q390 ?q391 ?q392 ?q393
    (case q0 => k_is)
    (case q1 => k_is)
    (case q2 => k_is)
    (case q3 => k_is)
    (case q4 => k_is)
    (case q5 => k_is)
    (case q6 => k_is)
    (case q7 => k_is)
    (case q8 => k_is)
    (case q9 => k_is)
    (case q10 => k_is)
    (case q11 => k_is)
    (case q12 => k_is)
    (case q13 => k_is)
    (case q14 => k_is)
    (case q15 => k_is)
    (case q16 => k_is)
    (case q17 => k_is)
    (case q18 => k_is)
    (case q19 => k_is)
    (case q20 => k_is)
    (case q21 => k_is)
    (case q22 => k_is)
    (case q23 => k_is)
    (case q24 => k_is)
    (case q25 => k_is)
    (case q26 => k_is)
    (case q27 => k_is)
    (case q28 => k_is)
    (case q29 => k_is)
    (case q30 => k_is)
    (case q31 => k_is)
    (case q32 => k_is)
    (case q33 => k_is)
    (case q34 => k_is)
    (case q35 => k_is)
    (case q36 => k_is)
    (case q37 => k_is)
    (case q38 => k_is)
    (case q39 => k_is)
    (case q40 => k_is)
    (case q41 => k_is)
    (case q42 => k_is)
    (case q43 => k_is)
    (case q44 => k_is)
    (case q45 => k_is)
    (case q46 => k_is)
    (case q47 => k_is)
    (case q48 => k_is)
    (case q49 => k_is)
    (case q50 => k_is)
    (case q51 => k_is)
    (case q52 => k_is)
    (case q53 => k_is)
    (case q54 => k_is)
    (case q55 => k_is)
    (case q56 => k_is)
    (case q57 => k_is)
    (case q58 => k_is)
    (case q59 => k_is)
    (case q60 => k_is)
    (case q61 => k_is)
    (case q62 => k_is)
    (case q63 => k_is)
    (case q64 => k_is)
    (case q65 => k_is)
    (case q66 => k_is)
    (case q67 => k_is)
    (case q68 => k_is)
    (case q69 => k_is)
    (case q70 => k_is)
    (case q71 => k_is)
    (case q72 => k_is)
    (case q73 => k_is)
    (case q74 => k_is)
    (case q75 => k_is)
    (case q76 => k_is)
    (case q77 => k_is)
    (case q78 => k_is)
    (case q79 => k_is)
    (case q80 => k_is)
    (case q81 => k_is)
    (case q82 => k_is)
    (case q83 => k_is)
    (case q84 => k_is)
    (case q85 => k_is)
    (case q86 => k_is)
    (case q87 => k_is)
    (case q88 => k_is)
    (case q89 => k_is)
    (case q90 => k_is)
    (case q91 => k_is)
    (case q92 => k_is)
    (case q93 => k_is)
    (case q94 => k_is)
    (case q95 => k_is)
    (case q96 => k_is)
    (case q97 => k_is)
    (case q98 => k_is)
    (case q99 => k_is)
    (case q100 => k_is)
    (case q101 => k_is)
    (case q102 => k_is)
    (case q103 => k_is)
    (case q104 => k_is)
    (case q105 => k_is)
    (case q106 => k_is)
    (case q107 => k_is)
    (case q108 => k_is)
    (case q109 => k_is)
    (case q110 => k_is)
    (case q111 => k_is)
    (case q112 => k_is)
    (case q113 => k_is)
    (case q114 => k_is)
    (case q115 => k_is)
    (case q116 => k_is)
    (case q117 => k_is)
    (case q118 => k_is)
    (case q119 => k_is)
    (case q120 => k_is)
    (case q121 => k_is)
    (case q122 => k_is)
    (case q123 => k_is)
    (case q124 => k_is)
    (case q125 => k_is)
    (case q126 => k_is)
    (case q127 => k_is)
    (case q128 => k_is)
    (case q129 => k_is)
    (case q130 => k_is)
    (case q131 => k_is)
    (case q132 => k_is)
    (case q133 => k_is)
    (case q134 => k_is)
    (case q135 => k_is)
    (case q136 => k_is)
    (case q137 => k_is)
    (case q138 => k_is)
    (case q139 => k_is)
    (case q140 => k_is)
    (case q141 => k_is)
    (case q142 => k_is)
    (case q143 => k_is)
    (case q144 => k_is)
    (case q145 => k_is)
    (case q146 => k_is)
    (case q147 => k_is)
    (case q148 => k_is)
    (case q149 => k_is)
    (case q150 => k_is)
    (case q151 => k_is)
    (case q152 => k_is)
    (case q153 => k_is)
    (case q154 => k_is)
    (case q155 => k_is)
    (case q156 => k_is)
    (case q157 => k_is)
    (case q158 => k_is)
    (case q159 => k_is)
    (case q160 => k_is)
    (case q161 => k_is)
    (case q162 => k_is)
    (case q163 => k_is)
    (case q164 => k_is)
    (case q165 => k_is)
    (case q166 => k_is)
    (case q167 => k_is)
    (case q168 => k_is)
    (case q169 => k_is)
    (case q170 => k_is)
    (case q171 => k_is)
    (case q172 => k_is)
    (case q173 => k_is)
    (case q174 => k_is)
    (case q175 => k_is)
    (case q176 => k_is)
    (case q177 => k_is)
    (case q178 => k_is)
    (case q179 => k_is)
    (case q180 => k_is)
    (case q181 => k_is)
    (case q182 => k_is)
    (case q183 => k_is)
    (case q184 => k_is)
    (case q185 => k_is)
    (case q186 => k_is)
    (case q187 => k_is)
    (case q188 => k_is)
    (case q189 => k_is)
    (case q190 => k_is)
    (case q191 => k_is)
    (case q192 => k_is)
    (case q193 => k_is)
    (case q194 => k_is)
    (case q195 => k_is)
    (case q196 => k_is)
    (case q197 => k_is)
    (case q198 => k_is)
    (case q199 => k_is)
    (case q200 => k_is)
    (case q201 => k_is)
    (case q202 => k_is)
    (case q203 => k_is)
    (case q204 => k_is)
    (case q205 => k_is)
    (case q206 => k_is)
    (case q207 => k_is)
    (case q208 => k_is)
    (case q209 => k_is)
    (case q210 => k_is)
    (case q211 => k_is)
    (case q212 => k_is)
    (case q213 => k_is)
    (case q214 => k_is)
    (case q215 => k_is)
    (case q216 => k_is)
    (case q217 => k_is)
    (case q218 => k_is)
    (case q219 => k_is)
    (case q220 => k_is)
    (case q221 => k_is)
    (case q222 => k_is)
    (case q223 => k_is)
    (case q224 => k_is)
    (case q225 => k_is)
    (case q226 => k_is)
    (case q227 => k_is)
    (case q228 => k_is)
    (case q229 => k_is)
    (case q230 => k_is)
    (case q231 => k_is)
    (case q232 => k_is)
    (case q233 => k_is)
    (case q234 => k_is)
    (case q235 => k_is)
    (case q236 => k_is)
    (case q237 => k_is)
    (case q238 => k_is)
    (case q239 => k_is)
    (case q240 => k_is)
    (case q241 => k_is)
    (case q242 => k_is)
    (case q243 => k_is)
    (case q244 => k_is)
    (case q245 => k_is)
    (case q246 => k_is)
    (case q247 => k_is)
    (case q248 => k_is)
    (case q249 => k_is)
    (case q250 => k_is)
    (case q251 => k_is)
    (case q252 => k_is)
    (case q253 => k_is)
    (case q254 => k_is)
    (case q255 => k_is)
    (case q256 => k_is)
    (case q257 => k_is)
    (case q258 => k_is)
    (case q259 => k_is)
    (case q260 => k_is)
    (case q261 => k_is)
    (case q262 => k_is)
    (case q263 => k_is)
    (case q264 => k_is)
    (case q265 => k_is)
    (case q266 => k_exc)
    (case q267 => k_is)
    (case q268 => k_exc)
    (case q269 => k_is)
    (case q270 => k_is)
    (case q271 => k_exc)
    (case q272 => k_is)
    (case q273 => k_is)
    (case q274 => k_exc)
    (case q275 => k_is)
    (case q276 => k_is)
    (case q277 => k_exc)
    (case q278 => k_is)
    (case q279 => k_is)
    (case q280 => kernel_rfl)
    (case q281 => k_is)
    (case q282 => k_is)
    (case q283 => k_is)
    (case q284 => kernel_rfl)
    (case q285 => k_is)
    (case q286 => k_is)
    (case q287 => k_is)
    (case q288 => k_is)
    (case q289 => k_is)
    (case q290 => k_is)
    (case q291 => k_exc)
    (case q292 => k_is)
    (case q293 => k_is)
    (case q294 => k_is)
    (case q295 => k_is)
    (case q296 => k_is)
    (case q297 => k_is)
    (case q298 => k_is)
    (case q299 => k_is)
    (case q300 => k_is)
    (case q301 => k_is)
    (case q302 => k_is)
    (case q303 => k_is)
    (case q304 => k_is)
    (case q305 => k_is)
    (case q306 => k_is)
    (case q307 => k_is)
    (case q308 => k_is)
    (case q309 => k_is)
    (case q310 => k_is)
    (case q311 => k_is)
    (case q312 => k_is)
    (case q313 => k_is)
    (case q314 => k_is)
    (case q315 => k_is)
    (case q316 => k_is)
    (case q317 => k_is)
    (case q318 => k_is)
    (case q319 => k_is)
    (case q320 => k_is)
    (case q321 => k_is)
    (case q322 => k_is)
    (case q323 => k_is)
    (case q324 => k_is)
    (case q325 => k_is)
    (case q326 => k_is)
    (case q327 => k_is)
    (case q328 => k_is)
    (case q329 => k_is)
    (case q330 => k_is)
    (case q331 => k_is)
    (case q332 => k_is)
    (case q333 => k_is)
    (case q334 => k_is)
    (case q335 => k_is)
    (case q336 => k_is)
    (case q337 => k_is)
    (case q338 => k_is)
    (case q339 => k_is)
    (case q340 => kit_is)
    (case q341 => kit_is)
    (case q342 => kit_is)
    (case q343 => kit_is)
    (case q344 => kit_is)
    (case q345 => kit_is)
    (case q346 => kit_is)
    (case q347 => kit_is)
    (case q348 => kit_is)
    (case q349 => kit_is)
    (case q350 => kit_is)
    (case q351 => kit_is)
    (case q352 => kit_is)
    (case q353 => kit_is)
    (case q354 => kit_is)
    (case q355 => kit_is)
    (case q356 => kit_is)
    (case q357 => kit_is)
    (case q358 => kit_is)
    (case q359 => kit_is)
    (case q360 => kit_is)
    (case q361 => kit_is)
    (case q362 => kit_is)
    (case q363 => kit_is)
    (case q364 => kit_is)
    (case q365 => kit_is)
    (case q366 => kit_is)
    (case q367 => kit_is)
    (case q368 => kit_is)
    (case q369 => kit_is)
    (case q370 => kit_is)
    (case q371 => kit_is)
    (case q372 => kit_is)
    (case q373 => kit_is)
    (case q374 => kit_is)
    (case q375 => kit_is)
    (case q376 => k_is)
    (case q377 => k_is)
    (case q378 => k_is)
    (case q379 => k_is)
    (case q380 => k_is)
    (case q381 => k_is)
    (case q382 => k_is)
    (case q383 => k_is)
    (case q384 => k_is)
    (case q385 => k_is)
    (case q386 => k_is)
    (case q387 => k_is)
    (case q388 => k_is)
    (case q389 => k_is)
    (case q390 => k_is)
    (case q391 => k_is)
    (case q392 => k_is)
    (case q393 => k_is)


