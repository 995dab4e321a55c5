import PyProof.Rows.All
import Wide.All
import OpenK.AllK
import Wide.FinOn
import Lean
import PyProof.EqAt
import PyProof.EqKinds
import PyProof.TupleCall
import PyProof.Rows.SortRuns
import PyProof.Rows.SortShell
import PyProof.ZipIter
import PyProof.CollectWalk
import PyProof.Dict
import PyProof.Rows.IntRules
import PyProof.Rows.SortPure
import PySem.Challenge.RW_evenring_k05_answers_by_hand
-- CHANGE: your row's module here, as the last of these rows
set_option Elab.async false
set_option linter.all false
set_option maxRecDepth 100000

namespace L2
open PySem PySem.Spec PyProof.Rows

/-- a key: an int or a str -/
abbrev Key := Sum Int Str
def keyIs : Key → Value → Bool
  | .inl k, v => Value.isInt k v
  | .inr x, v => Value.isStrOf x v
def keyH (w : World) : Key → Int
  | .inl k => hashInt k
  | .inr x => hashStr w x
theorem keyIs_shape : ∀ {k : Key} {v : Value}, keyIs k v = true → (∃ i t, k = Sum.inl i ∧ v = Value.int i t) ∨ (∃ x t, k = Sum.inr x ∧ v = Value.str x t)
  | .inl i, v, h => by
    obtain ⟨t, e⟩ := Value.isInt_shape (k := i) (v := v) h
    exact .inl ⟨i, t, rfl, e⟩
  | .inr x, v, h => by
    obtain ⟨t, e⟩ := Value.isStrOf_shape (x := x) (v := v) h
    exact .inr ⟨x, t, rfl, e⟩
theorem key_ll (a b : Int) : decide ((Sum.inl a : Key) = Sum.inl b) = (a == b) := by
  by_cases e : a = b
  · subst e; simp
  · have h : ¬ (Sum.inl a : Key) = Sum.inl b := fun q => e (Sum.inl.inj q)
    rw [decide_eq_false h]
    exact (beq_eq_false_iff_ne.mpr e).symm
theorem key_rr (a b : Str) : decide ((Sum.inr a : Key) = Sum.inr b) = decide (a = b) := by
  by_cases e : a = b
  · subst e; simp
  · have h : ¬ (Sum.inr a : Key) = Sum.inr b := fun q => e (Sum.inr.inj q)
    rw [decide_eq_false h, decide_eq_false e]
theorem key_lr (a : Int) (b : Str) : decide ((Sum.inl a : Key) = Sum.inr b) = false := decide_eq_false (fun q => nomatch q)
theorem key_rl (a : Str) (b : Int) : decide ((Sum.inr a : Key) = Sum.inl b) = false := decide_eq_false (fun q => nomatch q)

def mixKind (prog : Program) (w : World) : PySem.KeyKind prog w Key where
  is := keyIs
  hash := keyH w
  inj := fun v a b ha hb => by
    rcases keyIs_shape ha with ⟨i, t, rfl, rfl⟩ | ⟨x, t, rfl, rfl⟩
    · rcases keyIs_shape hb with ⟨j, u, rfl, e⟩ | ⟨y, u, rfl, e⟩
      · injection e with e1 _; rw [e1]
      · exact nomatch e
    · rcases keyIs_shape hb with ⟨j, u, rfl, e⟩ | ⟨y, u, rfl, e⟩
      · exact nomatch e
      · injection e with e1 _; rw [e1]
  byValue := fun k v h => by
    rcases keyIs_shape h with ⟨i, t, rfl, rfl⟩ | ⟨x, t, rfl, rfl⟩ <;> rfl
  pyHash := fun hv h => by
    rcases keyIs_shape hv with ⟨i, t, rfl, rfl⟩ | ⟨x, t, rfl, rfl⟩
    · exact wpAny_pyHash_int h
    · exact wpAny_pyHash_str h
  eqBool := fun hu hv h => by
    rcases keyIs_shape hu with ⟨i, t, rfl, rfl⟩ | ⟨x, t, rfl, rfl⟩
    · rcases keyIs_shape hv with ⟨j, u, rfl, rfl⟩ | ⟨y, u, rfl, rfl⟩
      · rw [key_ll] at h; exact wpAny_eqBool_int h
      · rw [key_lr] at h; exact SeqAt.EqAt.int_str i t y u _ _ _ _ h
    · rcases keyIs_shape hv with ⟨j, u, rfl, rfl⟩ | ⟨y, u, rfl, rfl⟩
      · rw [key_rl] at h; exact SeqAt.EqAt.str_int x t j u _ _ _ _ h
      · rw [key_rr] at h; exact wpAny_eqBool_str h
  «strs» := fun k x t v h => by
    rcases keyIs_shape h with ⟨i, u, rfl, e⟩ | ⟨y, u, rfl, e⟩
    · exact nomatch e
    · injection e with e1 _
      subst e1
      cases v <;> rfl

end L2

namespace L2
open PySem PySem.Spec PyProof.Rows

/-- a value, without the heap -/
inductive V where
  | non | bl (b : Bool) | int (i : Int) | str (x : Str) | byt (b : Array UInt8) | flt (b : UInt64) | ref (a : Addr) | ty (n : String)
  deriving DecidableEq

def RelV : V → Value → Prop
  | .non, u => u = Value.none
  | .bl b, u => u = Value.bool b
  | .int i, u => ∃ t, u = Value.int i t
  | .str x, u => ∃ t, u = Value.str x t
  | .byt b, u => ∃ t, u = Value.bytes b t
  | .flt b, u => ∃ t, u = Value.float b t
  | .ref a, u => u = Value.ref a
  | .ty n, u => u = Value.type n

abbrev Vals : List V → List Value → Prop := Paired RelV
theorem Vals.length {xs : List V} {us : List Value} (r : Vals xs us) : xs.length = us.length := Paired.length r
theorem Vals.get : ∀ {xs : List V} {us : List Value} {i : Nat} {x : V}, Vals xs us → xs[i]? = some x → ∃ u, us[i]? = some u ∧ RelV x u
  | _, _, _, _, .nil, e => by simp at e
  | _, _, 0, _, .cons r _, e => by simp at e; subst e; exact ⟨_, rfl, r⟩
  | _, _, i + 1, x, .cons _ t, e => by
    obtain ⟨u, h1, h2⟩ := Vals.get (i := i) (x := x) t (by simpa using e)
    exact ⟨u, by simpa using h1, h2⟩
theorem Vals.set {x : V} {u : Value} (r : RelV x u) : ∀ {xs : List V} {us : List Value} (i : Nat), Vals xs us → Vals (xs.set i x) (us.set i u)
  | _, _, _, .nil => .nil
  | _, _, 0, .cons _ t => .cons r t
  | _, _, i + 1, .cons q t => .cons q (Vals.set r i t)
theorem Vals.append : ∀ {xs ys : List V} {us ws : List Value}, Vals xs us → Vals ys ws → Vals (xs ++ ys) (us ++ ws)
  | _, _, _, _, .nil, s => s
  | _, _, _, _, .cons r t, s => .cons r (Vals.append t s)
theorem Vals.take : ∀ {xs : List V} {us : List Value} (n : Nat), Vals xs us → Vals (xs.take n) (us.take n)
  | _, _, 0, _ => .nil
  | _, _, _ + 1, .nil => .nil
  | _, _, n + 1, .cons r t => .cons r (Vals.take n t)
theorem Vals.drop : ∀ {xs : List V} {us : List Value} (n : Nat), Vals xs us → Vals (xs.drop n) (us.drop n)
  | _, _, 0, r => r
  | _, _, _ + 1, .nil => .nil
  | _, _, n + 1, .cons _ t => Vals.drop n t
theorem Vals.none_of : ∀ {xs : List V} {us : List Value} {i : Nat}, Vals xs us → xs[i]? = none → us[i]? = none := fun {xs us i} r e => by
  have h1 := r.length
  have h2 : xs.length ≤ i := List.getElem?_eq_none_iff.mp e
  exact List.getElem?_eq_none_iff.mpr (by omega)

def RelO : Option V → Option Value → Prop
  | some v, some u => RelV v u
  | none, none => True
  | _, _ => False
def KV {κ : Type} : List (κ × V) → List (κ × Value) → Prop := Paired fun (p : κ × V) (q : κ × Value) => p.1 = q.1 ∧ RelV p.2 q.2

/-- a key of a dict (00_mix): an int or a text -/
def kV : Key → V
  | .inl i => .int i
  | .inr x => .str x

/-- what stands at a tracked address -/
inductive HO where
  /-- a list -/
  | lst (xs : List V)
  /-- a tuple (never changes) -/
  | tup (xs : List V)
  /-- a dict whose keys are ints and texts; one whose keys are tuples of ints and texts (the empty one is both) -/
  | dK (kvs : List (Key × V)) | dT (kvs : List (List Key × V))
  /-- a set of ints: its members, its size -/
  | set (S : Int → Bool) (n : Nat)
  /-- an instance of the class at C, its dict at dx, its attributes -/
  | ins (C dx : Addr) (fs : List (Str × V))
  /-- the dict of the instance at x -/
  | own (x : Addr)
  /-- the dict of an exception -/
  | xd (fs : List (Str × V))
  /-- a bound method, f of x -/
  | met (f x : Addr)
  /-- a range object lo, lo + 1, .. below hi -/
  | rng (lo hi : Int)
  /-- a thing that is known to the object (the script; a dict while a loop walks it): read, never written while it is so -/
  | frz (o : Obj) (u : HO)
  /-- a code object's table -/
  | tbl (ps : Array Value)
  /-- any other thing, by what is true of its one object (a def of one's own: SetO a S n := HO.ext fun h => ..) -/
  | ext (φ : Heap → Prop)

abbrev Hp := Addr → Option HO
def upd (H : Hp) (a : Addr) (o : HO) : Hp := fun b => if b = a then some o else H b
theorem upd_same {H : Hp} {a : Addr} {o : HO} : upd H a o a = some o := by unfold upd; rw [if_pos rfl]
theorem upd_ne {H : Hp} {a b : Addr} {o : HO} (h : b ≠ a) : upd H a o b = H b := by unfold upd; rw [if_neg h]
theorem ne_of_none {H : Hp} {a b : Addr} {o : HO} (h : H a = some o) (h' : H b = none) : a ≠ b := by
  intro e; subst e; rw [h] at h'; cases h'

section
variable (P : Program) (w : World)
def ObjOk (H : Hp) (h : Heap) (a : Addr) : HO → Prop
  | .lst xs => xs.length ≤ sizeLine ∧ ∃ (its : List Value) (n : Nat), Vals xs its ∧ h.get? a = some { cls := .type "list", data := .seq its.toArray n }
  | .tup xs => xs.length ≤ sizeLine ∧ ∃ its : List Value, Vals xs its ∧ IsTup h a its.toArray
  | .dK kvs => kvs.length ≤ sizeLine ∧ (a == sysModules) = false ∧ ∃ vs, KV kvs vs ∧ h.DictOf (mixKind P w) a vs
  | .dT kvs => kvs.length ≤ sizeLine ∧ (a == sysModules) = false ∧ ∃ xs : List (List Key × Addr × Value),
      Paired (fun (p : List Key × V) (q : List Key × Addr × Value) => p.1 = q.1 ∧ H q.2.1 = some (.tup (p.1.map kV)) ∧ RelV p.2 q.2.2) kvs xs ∧
      ∃ o es ep, h.get? a = some o ∧ o.ExactDict ∧ o.data = .dict es ep ∧ es.toList = xs.map (entryOfKey (tupleKind (mixKind P w))) ∧ (xs.map (·.1)).Nodup
  | .set S n => h.SetOf (intKind P w) a S n
  | .ins C dx fs => H dx = some (.own a) ∧ fs.length ≤ 1000 ∧ dx ≠ a ∧ h.get? a = some (PySem.W.instObj C dx) ∧
      ∃ mA, h.Ns1 dx mA ∧ (∀ f, RelO (fs.lookup f) (mA f)) ∧ PySem.Within mA (fs.map (·.1))
  | .own _ => ∃ o, h.get? a = some o
  | .xd fs => ∃ mA, h.Ns1 a mA ∧ ∀ f, RelO (fs.lookup f) (mA f)
  | .rng lo hi => ∃ t u v, h.get? a = some { cls := .type "range", data := .fields #[.int lo t, .int hi u, .int 1 v] }
  | .frz o u => h.get? a = some o ∧ ObjOk H h a u
  | .tbl ps => h.get? a = some { cls := .none, data := .fields ps }
  | .met f x => h.get? a = some (PySem.W.methodObj (.ref f) (.ref x))
  | .ext φ => φ h ∧ (∃ o, h.get? a = some o) ∧ ∀ h1 h2 : Heap, φ h1 → (∀ o, h1.get? a = some o → h2.get? a = some o) → φ h2
/-- the abstract heap is held -/
def HOk (H : Hp) (h : Heap) : Prop := ∀ a o, H a = some o → ObjOk P w H h a o
end

section
variable {P : Program} {w : World} {H H' : Hp} {h h' : Heap} {a : Addr} {o : HO}
theorem ObjOk.lt (x : ObjOk P w H h a o) : a < h.objs.size := by
  cases o with
  | lst xs => obtain ⟨_, _, _, _, e⟩ := x; exact Heap.lt_size e
  | tup xs => obtain ⟨_, _, _, p⟩ := x; exact p.lt
  | dK kvs => obtain ⟨_, _, _, _, o, _, _, e, _⟩ := x; exact Heap.lt_size e
  | dT kvs => obtain ⟨_, _, _, _, o, _, _, e, _⟩ := x; exact Heap.lt_size e
  | set S n => obtain ⟨o, _, _, _, e, _⟩ := x; exact Heap.lt_size e
  | ins C dx fs => obtain ⟨_, _, _, e, _⟩ := x; exact Heap.lt_size e
  | own y => obtain ⟨_, e⟩ := x; exact Heap.lt_size e
  | xd fs => obtain ⟨_, ⟨_, _, _, e, _⟩, _⟩ := x; exact Heap.lt_size e
  | rng lo hi => obtain ⟨_, _, _, e⟩ := x; exact Heap.lt_size e
  | frz ob u => obtain ⟨e, _⟩ := x; exact Heap.lt_size e
  | tbl ps => exact Heap.lt_size (show h.get? a = some _ from x)
  | met f y => exact Heap.lt_size (show h.get? a = some _ from x)
  | ext φ => obtain ⟨_, ⟨_, e⟩, _⟩ := x; exact Heap.lt_size e
theorem Paired.mapP {α β : Type} {F G : α → β → Prop} : ∀ {l₁ : List α} {l₂ : List β}, Paired F l₁ l₂ → (∀ a b, F a b → G a b) → Paired G l₁ l₂
  | _, _, .nil, _ => .nil
  | _, _, .cons r t, f => .cons (f _ _ r) (Paired.mapP t f)
/-- what an object's description leans on: its own object, its own dict, the tuples -/
theorem ObjOk.stay (x : ObjOk P w H h a o) (k : ∀ b u, (b = a ∨ H b = some (.own a)) → h.get? b = some u → h'.get? b = some u)
    (ho : ∀ b, H b = some (.own a) → H' b = some (.own a)) (ht : ∀ b xs, H b = some (.tup xs) → H' b = some (.tup xs)) : ObjOk P w H' h' a o := by
  induction o with
  | lst xs => obtain ⟨z, its, n, r, e⟩ := x; exact ⟨z, its, n, r, k _ _ (.inl rfl) e⟩
  | tup xs => obtain ⟨z, its, r, ob, e, c⟩ := x; exact ⟨z, its, r, ob, k _ _ (.inl rfl) e, c⟩
  | dK kvs => obtain ⟨z, y, vs, r, ob, es, ep, e, c⟩ := x; exact ⟨z, y, vs, r, ob, es, ep, k _ _ (.inl rfl) e, c⟩
  | dT kvs =>
    obtain ⟨z, y, xs, r, ob, es, ep, e, c⟩ := x
    exact ⟨z, y, xs, Paired.mapP r fun p q z => ⟨z.1, ht _ _ z.2.1, z.2.2⟩, ob, es, ep, k _ _ (.inl rfl) e, c⟩
  | set S n => obtain ⟨ob, es, ep, t, e, c⟩ := x; exact ⟨ob, es, ep, t, k _ _ (.inl rfl) e, c⟩
  | ins C dx fs =>
    obtain ⟨d, z, ne, e, mA, ⟨od, es, ep, e2, c⟩, r⟩ := x
    exact ⟨ho _ d, z, ne, k _ _ (.inl rfl) e, mA, ⟨od, es, ep, k _ _ (.inr d) e2, c⟩, r⟩
  | own y => obtain ⟨ob, e⟩ := x; exact ⟨ob, k _ _ (.inl rfl) e⟩
  | xd fs => obtain ⟨mA, ⟨od, es, ep, e, c⟩, r⟩ := x; exact ⟨mA, ⟨od, es, ep, k _ _ (.inl rfl) e, c⟩, r⟩
  | rng lo hi => obtain ⟨t, u, v, e⟩ := x; exact ⟨t, u, v, k _ _ (.inl rfl) e⟩
  | frz ob u ih => obtain ⟨e, q⟩ := x; exact ⟨k _ _ (.inl rfl) e, ih q⟩
  | tbl ps =>
    have e : h.get? a = some { cls := .none, data := .fields ps } := x
    show h'.get? a = some { cls := .none, data := .fields ps }
    exact k a _ (.inl rfl) e
  | met f y =>
    have e : h.get? a = some (PySem.W.methodObj (.ref f) (.ref y)) := x
    show h'.get? a = some (PySem.W.methodObj (.ref f) (.ref y))
    exact k a _ (.inl rfl) e
  | ext φ => obtain ⟨p, ⟨o, e⟩, st⟩ := x; exact ⟨st _ _ p fun o q => k _ _ (.inl rfl) q, ⟨o, k _ _ (.inl rfl) e⟩, st⟩
theorem HOk.lt (x : HOk P w H h) (e : H a = some o) : a < h.objs.size := (x a o e).lt
theorem HOk.fresh (x : HOk P w H h) (e : h.objs.size ≤ a) : H a = none := by
  cases q : H a with
  | none => rfl
  | some u => exact absurd (Nat.lt_of_lt_of_le (x.lt q) e) (Nat.lt_irrefl _)
/-- every object of the heap is kept -/
theorem HOk.kept (x : HOk P w H h) (k : ∀ b u, h.get? b = some u → h'.get? b = some u) : HOk P w H h' := fun a o e =>
  (x a o e).stay (fun b u _ q => k b u q) (fun _ q => q) fun _ _ q => q
/-- a new object is laid and tracked -/
theorem HOk.laid (x : HOk P w H h) (k : ∀ b u, h.get? b = some u → h'.get? b = some u) (hp : h.objs.size ≤ a) (new : ObjOk P w (upd H a o) h' a o) : HOk P w (upd H a o) h' := fun b u e => by
  have hn := x.fresh hp
  by_cases hb : b = a
  · subst hb; rw [upd_same] at e; cases e; exact new
  · rw [upd_ne hb] at e
    exact (x b u e).stay (fun c v _ q => k c v q) (fun c q => by rw [upd_ne (ne_of_none q hn)]; exact q) fun c xs q => by rw [upd_ne (ne_of_none q hn)]; exact q
end

/-- what may be read as u: it is u, or a known u -/
def Rd (H : Hp) (a : Addr) (u : HO) : Prop := H a = some u ∨ ∃ o, H a = some (.frz o u)
theorem Rd.of {H : Hp} {a : Addr} {u : HO} (h : H a = some u) : Rd H a u := .inl h
theorem Rd.ok {P : Program} {w : World} {H : Hp} {h : Heap} {a : Addr} {u : HO} (r : Rd H a u) (x : HOk P w H h) : ObjOk P w H h a u := by
  rcases r with r | ⟨o, r⟩
  · exact x a u r
  · obtain ⟨_, q⟩ := x a _ r
    exact q
/-- what may be written -/
def Mut : Option HO → Prop
  | some (.lst _) => True
  | some (.dK _) => True
  | some (.dT _) => True
  | some (.set _ _) => True
  | some (.ins _ _ _) => True
  | some (.ext _) => True
  | _ => False
section
variable {P : Program} {w : World} {H : Hp} {h h' : Heap} {x e : Addr} {o' : HO}
/-- the object at e is changed: x itself, or the dict of the instance x -/
theorem HOk.write (ok : HOk P w H h) (mu : Mut (H x)) (he : e = x ∨ H e = some (.own x)) (k : ∀ b u, b ≠ e → h.get? b = some u → h'.get? b = some u) (heo : ∃ u, h'.get? e = some u)
    (new : ObjOk P w (upd H x o') h' x o') : HOk P w (upd H x o') h' := fun b u q => by
  have nown : ∀ c y, H c = some (.own y) → c ≠ x := fun c y r z => by subst z; rw [r] at mu; exact mu
  have ntup : ∀ c xs, H c = some (.tup xs) → c ≠ x := fun c xs r z => by subst z; rw [r] at mu; exact mu
  by_cases hb : b = x
  · subst hb; rw [upd_same] at q; cases q; exact new
  · rw [upd_ne hb] at q
    by_cases hbe : b = e
    · have q' : H b = some (.own x) := by
        rcases he with z | z
        · exact absurd (hbe.trans z) hb
        · rw [hbe]; exact z
      rw [q] at q'; cases q'
      obtain ⟨v, hv⟩ := heo
      exact ⟨v, by rw [hbe]; exact hv⟩
    · refine (ok b u q).stay (fun c v hc r => k c v ?_ r) (fun c r => by rw [upd_ne (nown c b r)]; exact r) fun c xs r => by rw [upd_ne (ntup c xs r)]; exact r
      rcases hc with rfl | hc
      · exact hbe
      · rintro rfl
        rcases he with z | z
        · exact nown c b hc z
        · rw [hc] at z; cases z; exact hb rfl
end


structure Un (fs ex : List Addr) (H H' : Hp) (h h' : Heap) : Prop where
  keep : ∀ b o, h.get? b = some o → H b = none → b ∉ fs → b ∉ ex → h'.get? b = some o
  slot : ∀ b o, h.get? b = some o → H b = none → b ∈ fs → b ∉ ex → ∃ sl, h'.get? b = some { o with slots := sl }
  free : ∀ b o, h.get? b = some o → H b = none → b ∉ ex → H' b = none
  there : ∀ b o, h.get? b = some o → b ∉ ex → ∃ o', h'.get? b = some o'
  tups : ∀ b xs, H b = some (.tup xs) → H' b = some (.tup xs)
  frzs : ∀ b o u, H b = some (.frz o u) → H' b = some (.frz o u)
  tbls : ∀ b ps, H b = some (.tbl ps) → ∃ more, H' b = some (.tbl (ps ++ more))
section
variable {fs fs' ex ex' : List Addr} {H H1 H2 : Hp} {h h1 h2 h' : Heap} {a x e : Addr} {o : HO}
theorem Un.any (u : Un fs ex H H1 h h1) {b : Addr} {ob : Obj} (q : h.get? b = some ob) (n : H b = none) (hx : b ∉ ex) : ∃ sl, h1.get? b = some { ob with slots := sl } := by
  by_cases hb : b ∈ fs
  · exact u.slot b ob q n hb hx
  · exact ⟨ob.slots, u.keep b ob q n hb hx⟩
theorem Un.trans (a : Un fs ex H H1 h h1) (b : Un fs ex H1 H2 h1 h2) : Un fs ex H H2 h h2 where
  keep := fun c ob q n hc hx => b.keep c ob (a.keep c ob q n hc hx) (a.free c ob q n hx) hc hx
  slot := fun c ob q n hc hx => by
    obtain ⟨sl, e1⟩ := a.slot c ob q n hc hx
    obtain ⟨sl', e2⟩ := b.slot c _ e1 (a.free c ob q n hx) hc hx
    exact ⟨sl', e2⟩
  free := fun c ob q n hx => by
    obtain ⟨o', e1⟩ := a.there c ob q hx
    exact b.free c o' e1 (a.free c ob q n hx) hx
  there := fun c ob q hx => by
    obtain ⟨o', e1⟩ := a.there c ob q hx
    exact b.there c o' e1 hx
  tups := fun c xs q => b.tups c xs (a.tups c xs q)
  frzs := fun c ob xs q => b.frzs c ob xs (a.frzs c ob xs q)
  tbls := fun c ps q => by
    obtain ⟨m1, e1⟩ := a.tbls c ps q
    obtain ⟨m2, e2⟩ := b.tbls c _ e1
    exact ⟨m1 ++ m2, by rw [e2, Array.append_assoc]⟩
theorem Un.kept (k : ∀ b u, h.get? b = some u → h'.get? b = some u) : Un fs ex H H h h' :=
  ⟨fun b ob q _ _ _ => k b ob q, fun b ob q _ _ _ => ⟨ob.slots, k b ob q⟩, fun _ _ _ n _ => n, fun b ob q _ => ⟨ob, k b ob q⟩, fun _ _ q => q, fun _ _ _ q => q, fun _ ps q => ⟨#[], by rw [q]; simp⟩⟩
theorem Un.refl : Un fs ex H H h h := Un.kept fun _ _ q => q
theorem Un.laid (k : ∀ b u, h.get? b = some u → h'.get? b = some u) (hp : h.objs.size ≤ a) (hn : H a = none) : Un fs ex H (upd H a o) h h' where
  keep := fun b u q _ _ _ => k b u q
  slot := fun b u q _ _ _ => ⟨u.slots, k b u q⟩
  free := fun b u q n _ => by rw [upd_ne (Nat.ne_of_lt (Nat.lt_of_lt_of_le (Heap.lt_size q) hp))]; exact n
  there := fun b u q _ => ⟨u, k b u q⟩
  tups := fun b xs q => by rw [upd_ne (ne_of_none q hn)]; exact q
  frzs := fun b u xs q => by rw [upd_ne (ne_of_none q hn)]; exact q
  tbls := fun b ps q => ⟨#[], by rw [upd_ne (ne_of_none q hn), q]; simp⟩
theorem Un.write (mu : Mut (H x)) (he : e = x ∨ H e = some (.own x)) (k : ∀ b u, b ≠ e → h.get? b = some u → h'.get? b = some u) (heo : ∃ u, h'.get? e = some u) : Un fs ex H (upd H x o) h h' := by
  have hx : ∀ b, H b = none → b ≠ x := fun b n z => by subst z; rw [n] at mu; exact mu
  have hb : ∀ b, H b = none → b ≠ e := fun b n z => by
    subst z
    rcases he with r | r
    · exact hx b n r
    · rw [n] at r; cases r
  have hm : ∀ b u, H b = some u → ¬ Mut (some u) → b ≠ x := fun b u q nm z => by subst z; rw [q] at mu; exact nm mu
  refine ⟨fun b u q n _ _ => k b u (hb b n) q, fun b u q n _ _ => ⟨u.slots, k b u (hb b n) q⟩, fun b u q n _ => by rw [upd_ne (hx b n)]; exact n, fun b u q _ => ?_,
    fun b xs q => by rw [upd_ne (hm b _ q fun z => z)]; exact q, fun b u xs q => by rw [upd_ne (hm b _ q fun z => z)]; exact q, fun b ps q => ⟨#[], by rw [upd_ne (hm b _ q fun z => z), q]; simp⟩⟩
  by_cases hbe : b = e
  · subst hbe; exact heo
  · exact ⟨u, k b u hbe q⟩
theorem Un.mono (u : Un fs ex H H1 h h1) (hs : ∀ b ∈ fs, b ∈ fs') (hx : ∀ b ∈ ex, b ∈ ex') : Un fs' ex' H H1 h h1 :=
  ⟨fun b ob q n hb he => u.keep b ob q n (fun z => hb (hs b z)) fun z => he (hx b z), fun _ _ q n _ he => u.any q n fun z => he (hx _ z), fun b ob q n he => u.free b ob q n fun z => he (hx b z), fun b ob q he => u.there b ob q fun z => he (hx b z), u.tups, u.frzs, u.tbls⟩
end


def trk (h : Heap) (H : Hp) : List Addr := (List.range h.objs.size).filter fun a => (H a).isSome
def hidT (h : Heap) (H : Hp) : Heap := PySem.W.hideAll h (trk h H)
theorem hidT_size (h : Heap) (H : Hp) : (hidT h H).objs.size = h.objs.size := PySem.W.hideAll_size _ _
theorem hidT_get {h : Heap} {H : Hp} {b : Addr} {o : Obj} (e : h.get? b = some o) (n : H b = none) : (hidT h H).get? b = some o :=
  PySem.W.hideAll_get _ e fun hm => by
    have q : (H b).isSome = true := (List.mem_filter.mp hm).2
    rw [n] at q; simp at q
theorem of_hidT {h : Heap} {H : Hp} {b : Addr} {o : Obj} (e : (hidT h H).get? b = some o) : h.get? b = some o ∧ H b = none := by
  have e' : h.get? b = some o := PySem.W.of_hideAll (trk h H) e
  refine ⟨e', ?_⟩
  cases q : H b with
  | none => rfl
  | some x =>
    have hm : b ∈ trk h H := List.mem_filter.mpr ⟨List.mem_range.mpr (Heap.lt_size e'), by simp [q]⟩
    have z : (hidT h H).get? b = none := PySem.W.hideAll_none (trk h H) hm
    rw [z] at e; cases e


def allNews (g h : Heap) (L : Addr) : List (Addr × Obj) := (List.range h.objs.size).filterMap fun a => if a = L ∨ (g.get? a).isSome = true then none else (h.get? a).map fun o => (a, o)
def rest (g h : Heap) (L d : Addr) : List (Addr × Obj) := (allNews g h L).filter fun p => decide (p.1 ≠ d)
end L2

namespace L2
open PySem PySem.Spec PyProof.Rows

/-- the module's facts, over the base: the heap at the law's entry without what is tracked there -/
structure Mod (K : PySem.W.Frag) (mg : Str → Option Value) (base : Heap) : Prop where
  kin : K.In base
  glob : base.Ns mainGlobals mg
  blt : ∃ mb, base.Ns builtinsNs mb ∧ ∀ x : Str, x ≠ "__name__" → mb x = bootBuiltins x
  nolimit : base.NoLimit

/-- the context: a def's body (or a comprehension's block) running. base: fixed through the whole law; s₀, H₀: the entry; outer: the frames whose slots others may change (a def's callers); stack: all frames that run;
   ex: iterators that were made ahead of the entry and are walked here (a comprehension's); fn: the names whose cells were made at the entry (a def: all; a comprehension's block: its own); calm: not within an except suite; pn: pins that every state bears; xe: what is wanted of an exception that leaves the code -/
structure Cx where
  prog : Program
  w : World
  K : PySem.W.Frag
  mg : Str → Option Value
  base : Heap
  A : Around
  N : List Str
  s₀ : Shared
  H₀ : Hp
  env : Env
  outer : List Env
  stack : List Env
  ex : List Addr
  fn : Str → Bool
  calm : Bool
  pn : List (Addr × Obj)
  xe : Value → Shared → Prop
/-- the callers' frames -/
def frs (l : List Env) : List Addr := l.filterMap (·.frame)
abbrev Cx.fs (X : Cx) : List Addr := frs X.outer

def Vis (sc : Scope) (x : Str) : Prop := sc.names.lookup x = some .local ∨ sc.names.lookup x = some .cell ∨ sc.names.lookup x = some .free
def Loc (sc : Scope) (x : Str) : Prop := sc.names.lookup x = some .local ∨ sc.names.lookup x = some .cell
def Look (env : Env) (h : Heap) (m : Str → Option Value) (x : Str) (u : Value) : Prop :=
  (env.kindOf x = some .local ∧ m x = some u) ∨ ((env.kindOf x = some .cell ∨ env.kindOf x = some .free) ∧ ∃ c, env.cells.lookup x = some c ∧ h.IsCell c (some u))

structure Cx.Ok (X : Cx) : Prop where
  mod : Mod X.K X.mg X.base
  kind : X.env.scope.kind = .function
  glob : X.env.globals = mainGlobals
  blt : X.env.builtins = builtinsNs
  above : X.s₀.heap.objs.size ≤ X.env.locals
  inj : ∀ x y c, X.env.cells.lookup x = some c → X.env.cells.lookup y = some c → x = y
  has : ∀ x, (X.env.kindOf x = some .cell ∨ X.env.kindOf x = some .free) → ∃ c, X.env.cells.lookup x = some c
  cab : ∀ x c, X.fn x = true → X.env.cells.lookup x = some c → X.s₀.heap.objs.size ≤ c
  hd : X.calm = true → X.A.handled = none
  frames : X.A.frames = some X.stack
  stk : X.stack = X.outer ∨ (X.stack = X.env :: X.outer ∧ X.env.frame = some X.env.locals)
  exf : ∀ b ∈ X.ex, b ≠ X.env.locals ∧ ∀ x c, X.env.cells.lookup x = some c → c ≠ b
  bs : ∀ b o, X.base.get? b = some o → X.s₀.heap.get? b = some o ∧ X.H₀ b = none
  bsz : X.base.objs.size ≤ X.s₀.heap.objs.size
  noex : ∀ b o, X.base.get? b = some o → b ∉ X.ex
  exfs : ∀ b ∈ X.ex, b ∉ X.fs
  funs : X.s₀.heap.FunFrames X.base X.outer
  frf : ∀ b ∈ X.fs, X.H₀ b = none

structure Inv (X : Cx) (pins : List (Addr × Obj)) (σ : List (Option V)) (H : Hp) (s : Shared) : Prop where
  ok : X.Ok
  os : s.os = X.s₀.os
  bare : AllBare s.gens
  base : Un X.fs X.ex X.H₀ H X.s₀.heap s.heap
  loc : ∃ m, s.heap.Ns X.env.locals m ∧ ∀ (i : Nat) (x : Str) (v : V), X.N[i]? = some x → σ[i]? = some (some v) → Vis X.env.scope x → ∃ u, RelV v u ∧ Look X.env s.heap m x u
  cell : ∀ x c, X.env.cells.lookup x = some c → ∃ v, s.heap.IsCell c v
  free : H X.env.locals = none
  freeC : ∀ x c, X.env.cells.lookup x = some c → H c = none
  pin : ∀ p ∈ X.pn ++ pins, s.heap.get? p.1 = some p.2 ∧ H p.1 = none ∧ p.1 ≠ X.env.locals ∧ p.1 ∉ X.fs ∧ ∀ v, p.2.data ≠ .cell v
  hok : HOk X.prog X.w H s.heap
  len : σ.length = X.N.length

section
variable {X : Cx} {pins : List (Addr × Obj)} {σ : List (Option V)} {H H' : Hp} {s : Shared} {h' : Heap}

theorem Cx.Ok.nofr (ok : X.Ok) {b : Addr} {o : Obj} (e : X.base.get? b = some o) : b ∉ X.fs := fun hb => by
  have := (ok.funs.mem hb).1
  rw [e] at this; cases this
theorem Inv.bs (I : Inv X pins σ H s) : ∀ b o, X.base.get? b = some o → s.heap.get? b = some o ∧ H b = none := fun b o e =>
  ⟨I.base.keep b o (I.ok.bs b o e).1 (I.ok.bs b o e).2 (I.ok.nofr e) (I.ok.noex b o e), I.base.free b o (I.ok.bs b o e).1 (I.ok.bs b o e).2 (I.ok.noex b o e)⟩
theorem Inv.bk (I : Inv X pins σ H s) : ∀ b o, X.base.get? b = some o → s.heap.get? b = some o := fun b o e => (I.bs b o e).1
theorem Inv.mod (I : Inv X pins σ H s) : Mod X.K X.mg X.base := I.ok.mod
theorem Inv.kIn (I : Inv X pins σ H s) : X.K.In s.heap := I.ok.mod.kin.keeps I.bk
theorem Inv.nolimit (I : Inv X pins σ H s) : s.heap.NoLimit := I.ok.mod.nolimit.keeps I.bk
/-- the frame over the base: for OpenK's rules (K.In X.base is I.mod.kin) -/
theorem Inv.fr (I : Inv X pins σ H s) : ∃ m, Fr X.base X.env.locals s.heap m :=
  let ⟨m, hn, _⟩ := I.loc
  ⟨m, hn, I.bk, Nat.le_trans I.ok.bsz I.ok.above⟩
theorem Inv.lt (I : Inv X pins σ H s) : X.env.locals < s.heap.objs.size := let ⟨_, hn, _⟩ := I.loc; hn.lt
theorem Inv.sz (I : Inv X pins σ H s) : X.s₀.heap.objs.size ≤ s.heap.objs.size := Nat.le_trans I.ok.above (Nat.le_of_lt I.lt)
theorem Inv.nofs (I : Inv X pins σ H s) {a : Addr} (h : s.heap.objs.size ≤ a) : a ∉ X.fs := fun hb => by
  obtain ⟨_, o, ho, _⟩ := I.ok.funs.mem hb
  exact absurd (Nat.lt_of_lt_of_le (Heap.lt_size ho) (Nat.le_trans I.sz h)) (Nat.lt_irrefl _)
theorem Inv.cne (I : Inv X pins σ H s) : ∀ x c, X.env.cells.lookup x = some c → c ≠ X.env.locals := fun x c e z => by
  obtain ⟨v, o, ho, hd⟩ := I.cell x c e
  obtain ⟨m, ⟨o', es, ep, ho', hd', _⟩, _⟩ := I.loc
  rw [z, ho'] at ho; cases ho; rw [hd'] at hd; cases hd
theorem Inv.funs (I : Inv X pins σ H s) : s.heap.FunFrames X.base X.outer := by
  have all : ∀ (l : List Env), (∀ b ∈ frs l, b ∈ X.fs) → X.s₀.heap.FunFrames X.base l → s.heap.FunFrames X.base l := by
    intro l
    induction l with
    | nil => intro _ _; trivial
    | cons env r ih =>
      intro hs hl
      obtain ⟨hk, ⟨L, o, hf, hn, ho, hd⟩, hr⟩ := hl
      have hL : L ∈ X.fs := hs L (by unfold frs; rw [List.filterMap_cons, hf]; exact List.mem_cons_self)
      obtain ⟨sl, e⟩ := I.base.slot L o ho (I.ok.frf L hL) hL fun z => I.ok.exfs L z hL
      exact ⟨hk, ⟨L, _, hf, hn, e, hd⟩, ih (fun b hb => hs b (by unfold frs; rw [List.filterMap_cons, hf]; exact List.mem_cons_of_mem _ hb)) hr⟩
  exact all X.outer (fun _ hb => hb) I.ok.funs

/-- the frames that run, for a call -/
theorem Inv.stack (I : Inv X pins σ H s) : s.heap.FunFrames X.base X.stack := by
  rcases I.ok.stk with e | ⟨e, hf⟩
  · rw [e]; exact I.funs
  · rw [e]
    obtain ⟨m, hn, _⟩ := I.loc
    refine .cons (by rw [I.ok.kind]; decide) hf hn ?_ I.funs
    exact Heap.get?_none_of_le (Nat.le_trans I.ok.bsz I.ok.above)
theorem Inv.stkSub (I : Inv X pins σ H s) : ∀ b ∈ frs X.stack, b ∈ X.env.locals :: X.fs := fun b hb => by
  rcases I.ok.stk with e | ⟨e, hf⟩
  · rw [e] at hb; exact List.mem_cons_of_mem _ hb
  · rw [e] at hb
    unfold frs at hb
    rw [List.filterMap_cons, hf] at hb
    exact hb
theorem Inv.stkFree (I : Inv X pins σ H s) : ∀ b ∈ frs X.stack, H b = none := fun b hb => by
  rcases List.mem_cons.mp (I.stkSub b hb) with e | hb
  · rw [e]; exact I.free
  · obtain ⟨_, o, ho, _⟩ := I.ok.funs.mem hb
    exact I.base.free b o ho (I.ok.frf b hb) fun z => I.ok.exfs b z hb

/-- THE STEP: the untracked objects but the frame and the records at ch are kept (the callers' frames up to slots), the frame's map is kept, the new abstract heap is held -/
theorem Inv.step {g' : Array GenState} {t' : Nat} {d' : Drawn} {ch : List Addr} (I : Inv X pins σ H s)
    (hch : ∀ b ∈ ch, (b ∈ X.ex ∨ X.s₀.heap.objs.size ≤ b) ∧ b ≠ X.env.locals ∧ (∀ x c, X.env.cells.lookup x = some c → c ≠ b) ∧ ∀ p ∈ X.pn ++ pins, p.1 ≠ b)
    (keep : ∀ b o, b ≠ X.env.locals → b ∉ X.fs → b ∉ ch → s.heap.get? b = some o → H b = none → h'.get? b = some o)
    (slot : ∀ b o, b ≠ X.env.locals → b ∈ X.fs → b ∉ ch → s.heap.get? b = some o → H b = none → ∃ sl, h'.get? b = some { o with slots := sl }) (free : ∀ b o, b ∉ ch → s.heap.get? b = some o → H b = none → H' b = none)
    (there : ∀ b o, b ∉ ch → s.heap.get? b = some o → ∃ o', h'.get? b = some o')
    (tups : ∀ b xs, H b = some (.tup xs) → H' b = some (.tup xs)) (frzs : ∀ b o u, H b = some (.frz o u) → H' b = some (.frz o u)) (tbls : ∀ b ps, H b = some (.tbl ps) → ∃ more, H' b = some (.tbl (ps ++ more)))
    (ns : ∀ m, s.heap.Ns X.env.locals m → h'.Ns X.env.locals m) (hok : HOk X.prog X.w H' h') (hg : AllBare g') :
    Inv X pins σ H' { s with heap := h', gens := g', drawn := d', toks := t' } := by
  have neL : ∀ b o, X.s₀.heap.get? b = some o → b ≠ X.env.locals := fun b o e => Nat.ne_of_lt (Nat.lt_of_lt_of_le (Heap.lt_size e) I.ok.above)
  have neC : ∀ b o, X.s₀.heap.get? b = some o → b ∉ X.ex → b ∉ ch := fun b o e hx hb => by
    rcases (hch b hb).1 with z | z
    · exact hx z
    · exact absurd (Nat.lt_of_lt_of_le (Heap.lt_size e) z) (Nat.lt_irrefl _)
  have cellK : ∀ x c, X.env.cells.lookup x = some c → ∀ v, s.heap.IsCell c v → h'.IsCell c v := fun x c e v ⟨o, ho, hd⟩ => by
    have nch : c ∉ ch := fun z => (hch c z).2.2.1 x c e rfl
    by_cases hc : c ∈ X.fs
    · obtain ⟨sl, q⟩ := slot c o (I.cne x c e) hc nch ho (I.freeC x c e)
      exact ⟨_, q, hd⟩
    · exact ⟨o, keep c o (I.cne x c e) hc nch ho (I.freeC x c e), hd⟩
  refine ⟨I.ok, I.os, hg, ⟨fun b o e n hb hx => ?_, fun b o e n hb hx => ?_, fun b o e n hx => ?_, fun b o e hx => ?_, fun b xs e => tups b xs (I.base.tups b xs e), fun b o xs e => frzs b o xs (I.base.frzs b o xs e), fun b ps e => ?_⟩, ?_, fun x c e => ?_, ?_, fun x c e => ?_, fun p hp => ?_, hok, I.len⟩
  · exact keep b o (neL b o e) hb (neC b o e hx) (I.base.keep b o e n hb hx) (I.base.free b o e n hx)
  · obtain ⟨sl, e1⟩ := I.base.slot b o e n hb hx
    obtain ⟨sl', e2⟩ := slot b _ (neL b o e) hb (neC b o e hx) e1 (I.base.free b o e n hx)
    exact ⟨sl', e2⟩
  · obtain ⟨o', e1⟩ := I.base.there b o e hx
    exact free b o' (neC b o e hx) e1 (I.base.free b o e n hx)
  · obtain ⟨o', e1⟩ := I.base.there b o e hx
    exact there b o' (neC b o e hx) e1
  · obtain ⟨m1, e1⟩ := I.base.tbls b ps e
    obtain ⟨m2, e2⟩ := tbls b _ e1
    exact ⟨m1 ++ m2, by rw [e2, Array.append_assoc]⟩
  · obtain ⟨m, hn, hl⟩ := I.loc
    refine ⟨m, ns m hn, fun i x v e1 e2 e3 => ?_⟩
    obtain ⟨u, r, l⟩ := hl i x v e1 e2 e3
    refine ⟨u, r, ?_⟩
    rcases l with l | ⟨k, c, e, z⟩
    · exact .inl l
    · exact .inr ⟨k, c, e, cellK x c e _ z⟩
  · obtain ⟨v, z⟩ := I.cell x c e
    exact ⟨v, cellK x c e v z⟩
  · obtain ⟨m, ⟨o, _, _, ho, _⟩, _⟩ := I.loc
    exact free _ o (fun z => (hch _ z).2.1 rfl) ho I.free
  · obtain ⟨v, o, ho, hd⟩ := I.cell x c e
    exact free c o (fun z => (hch c z).2.2.1 x c e rfl) ho (I.freeC x c e)
  · obtain ⟨e, n, ne, nf, d⟩ := I.pin p hp
    have nch : p.1 ∉ ch := fun z => (hch p.1 z).2.2.2 p hp rfl
    exact ⟨keep p.1 p.2 ne nf nch e n, free p.1 p.2 nch e n, ne, nf, d⟩
/-- .. where the frame's own object is kept too -/
theorem Inv.un {t' : Nat} (I : Inv X pins σ H s) (u : Un X.fs [] H H' s.heap h') (hok : HOk X.prog X.w H' h') : Inv X pins σ H' { s with heap := h', toks := t' } := by
  obtain ⟨m, ⟨o, es, ep, ho, r⟩, _⟩ := id I.loc
  obtain ⟨sl, hL⟩ := u.any ho I.free (by simp)
  exact I.step (g' := s.gens) (d' := s.drawn) (ch := []) (fun _ z => nomatch z) (fun b o _ hb _ e n => u.keep b o e n hb (by simp)) (fun b o _ hb _ e n => u.slot b o e n hb (by simp)) (fun b o _ e n => u.free b o e n (by simp)) (fun b o _ e => u.there b o e (by simp)) u.tups u.frzs u.tbls (fun m' hm => by
    obtain ⟨o', es', ep', ho', r'⟩ := hm
    rw [ho] at ho'; cases ho'
    exact ⟨_, es', ep', hL, r'⟩) hok I.bare
/-- behind a call (or a comprehension's block): the slots of this frame may have changed too, the records at ch may have turned -/
theorem Inv.call {g' : Array GenState} {t' : Nat} {d' : Drawn} {ch : List Addr} (I : Inv X pins σ H s) (u : Un (frs X.stack) ch H H' s.heap h') (hok : HOk X.prog X.w H' h') (hg : AllBare g')
    (hch : ∀ b ∈ ch, (b ∈ X.ex ∨ X.s₀.heap.objs.size ≤ b) ∧ b ≠ X.env.locals ∧ (∀ x c, X.env.cells.lookup x = some c → c ≠ b) ∧ ∀ p ∈ X.pn ++ pins, p.1 ≠ b) :
    Inv X pins σ H' { s with heap := h', gens := g', drawn := d', toks := t' } := by
  obtain ⟨m, ⟨o, es, ep, ho, r⟩, _⟩ := id I.loc
  obtain ⟨sl, hL⟩ := u.any ho I.free fun z => (hch _ z).2.1 rfl
  exact I.step (ch := ch) hch (fun b o hL hb hc e n => u.keep b o e n (fun z => (List.mem_cons.mp (I.stkSub b z)).elim hL hb) hc) (fun b o _ _ hc e n => u.any e n hc) (fun b o hc e n => u.free b o e n hc) (fun b o hc e => u.there b o e hc) u.tups u.frzs u.tbls (fun m' hm => by
    obtain ⟨o', es', ep', ho', r'⟩ := hm
    rw [ho] at ho'; cases ho'
    exact ⟨_, es', ep', hL, r'⟩) hok hg
/-- an untracked record of ours (an iterator) has turned -/
theorem Inv.turned {t' : Nat} {it : Addr} (I : Inv X pins σ H s) (k : ∀ b o, b ≠ it → s.heap.get? b = some o → h'.get? b = some o) (hn : H it = none) (hL : it ≠ X.env.locals)
    (h1 : it ∈ X.ex ∨ X.s₀.heap.objs.size ≤ it) (h2 : ∀ x c, X.env.cells.lookup x = some c → c ≠ it) (h3 : ∀ p ∈ X.pn ++ pins, p.1 ≠ it) : Inv X pins σ H { s with heap := h', toks := t' } := by
  have nit : ∀ b u, H b = some u → b ≠ it := fun b u e z => by rw [z, hn] at e; cases e
  refine I.step (g' := s.gens) (d' := s.drawn) (ch := [it]) (fun b hb => ?_) (fun b o _ _ hc e _ => k b o (fun z => hc (by simp [z])) e) (fun b o _ _ hc e _ => ⟨o.slots, k b o (fun z => hc (by simp [z])) e⟩) (fun _ _ _ _ n => n)
    (fun b o hc e => ⟨o, k b o (fun z => hc (by simp [z])) e⟩) (fun _ _ e => e) (fun _ _ _ e => e) (fun b ps e => ⟨#[], by rw [e]; simp⟩) (fun m hm => ?_) (fun b u e => ?_) I.bare
  · have e : b = it := by simpa using hb
    subst e
    exact ⟨h1, hL, h2, h3⟩
  · obtain ⟨o, es, ep, ho, r⟩ := hm
    exact ⟨o, es, ep, k _ o (Ne.symm hL) ho, r⟩
  · refine (I.hok b u e).stay (fun c v hc q => k c v ?_ q) (fun _ q => q) fun _ _ q => q
    rcases hc with z | z
    · rw [z]; exact nit b u e
    · exact nit c _ z
theorem Inv.tok (I : Inv X pins σ H s) (t : Nat) : Inv X pins σ H { s with toks := t } := I.un (h' := s.heap) (t' := t) Un.refl I.hok
/-- all objects kept -/
theorem Inv.kept {t' : Nat} (I : Inv X pins σ H s) (k : ∀ b u, s.heap.get? b = some u → h'.get? b = some u) : Inv X pins σ H { s with heap := h', toks := t' } := I.un (Un.kept k) (I.hok.kept k)
/-- a new object laid and tracked -/
theorem Inv.laid {a : Addr} {o : HO} {t' : Nat} (I : Inv X pins σ H s) (k : ∀ b u, s.heap.get? b = some u → h'.get? b = some u) (hp : s.heap.objs.size ≤ a) (new : ObjOk X.prog X.w (upd H a o) h' a o) :
    Inv X pins σ (upd H a o) { s with heap := h', toks := t' } := I.un (Un.laid k hp (I.hok.fresh hp)) (I.hok.laid k hp new)
/-- an object written -/
theorem Inv.write {x e : Addr} {o : HO} {t' : Nat} (I : Inv X pins σ H s) (mu : Mut (H x)) (he : e = x ∨ H e = some (.own x)) (k : ∀ b u, b ≠ e → s.heap.get? b = some u → h'.get? b = some u) (heo : ∃ u, h'.get? e = some u)
    (new : ObjOk X.prog X.w (upd H x o) h' x o) : Inv X pins σ (upd H x o) { s with heap := h', toks := t' } := I.un (Un.write mu he k heo) (I.hok.write mu he k heo new)
/-- forgetting slots, pins -/
theorem Inv.weak {σ' : List (Option V)} (I : Inv X pins σ H s) (hl : σ'.length = σ.length) (w : ∀ (i : Nat) v, σ'[i]? = some (some v) → σ[i]? = some (some v)) : Inv X pins σ' H s :=
  ⟨I.ok, I.os, I.bare, I.base, let ⟨m, hn, hl'⟩ := I.loc; ⟨m, hn, fun i x v e1 e2 e3 => hl' i x v e1 (w i v e2) e3⟩, I.cell, I.free, I.freeC, I.pin, I.hok, hl.trans I.len⟩
theorem Inv.pins_of {pins' : List (Addr × Obj)} (I : Inv X pins σ H s) (h : ∀ p ∈ pins', s.heap.get? p.1 = some p.2 ∧ H p.1 = none ∧ p.1 ≠ X.env.locals ∧ p.1 ∉ X.fs ∧ ∀ v, p.2.data ≠ .cell v) : Inv X pins' σ H s :=
  ⟨I.ok, I.os, I.bare, I.base, I.loc, I.cell, I.free, I.freeC, fun p hp => (List.mem_append.mp hp).elim (fun z => I.pin p (List.mem_append_left _ z)) (h p), I.hok, I.len⟩

theorem nodup_ix {N : List Str} (hN : N.Nodup) {i j : Nat} {x : Str} (a : N[i]? = some x) (b : N[j]? = some x) : i = j := by
  obtain ⟨h1, e1⟩ := List.getElem?_eq_some_iff.mp a
  obtain ⟨h2, e2⟩ := List.getElem?_eq_some_iff.mp b
  exact (List.getElem_inj hN).mp (e1.trans e2.symm)

/-- a name is stored; what changed -/
theorem store_ok2 {M : Model} {A : Around} {E : Value → Shared → Prop} {i : Nat} {x : Str} {v : V} {u : Value} {Q : Unit → Shared → Prop} (I : Inv X pins σ H s) (hN : X.N.Nodup) (hi : X.N[i]? = some x) (hx : Loc X.env.scope x) (r : RelV v u)
    (h : ∀ s', Inv X pins (σ.set i (some v)) H s' → (∃ a, Heap.SameBut a s.heap s'.heap ∧ (a = X.env.locals ∨ X.env.cells.lookup x = some a)) → Q () s') (hf : X.fn x = true ∨ X.env.scope.names.lookup x = some .local := by first | exact .inl rfl | exact .inr rfl | assumption) : wpAny M A (storeName X.env x u) Q E s := by
  obtain ⟨m, hn, hl⟩ := id I.loc
  have hcls : (X.env.scope.kind == .class || (X.env.scope.kind == .module && X.env.locals != X.env.globals)) = false := by rw [I.ok.kind]; rfl
  have hiσ : i < σ.length := by rw [I.len]; exact (List.getElem?_eq_some_iff.mp hi).1
  have cne := I.cne
  have tracked : ∀ {a : Addr} {h' : Heap}, (∃ o, s.heap.get? a = some o ∧ H a = none) → Heap.SameBut a s.heap h' → HOk X.prog X.w H h' := fun {a h'} ha hs b ob e => by
    obtain ⟨_, _, hfree⟩ := ha
    refine (I.hok b ob e).stay (fun c w' hc q => (hs.2 c ?_).trans q) (fun _ q => q) fun _ _ q => q
    rintro rfl
    rcases hc with rfl | hc
    · rw [hfree] at e; cases e
    · rw [hfree] at hc; cases hc
  rcases hx with hk | hk
  · refine wpAny_storeName_local hk hn (fun h' hn' hs => ?_) hcls
    obtain ⟨oL, _, _, hoL, _⟩ := id hn
    refine h _ ⟨I.ok, I.os, I.bare, ⟨fun b o e n hb hx => ?_, fun b o e n hb hx => ?_, I.base.free, fun b o e hx => ?_, I.base.tups, I.base.frzs, I.base.tbls⟩, ⟨_, hn', fun j y v' e1 e2 e3 => ?_⟩, fun y c e => ?_, I.free, I.freeC, fun p hp => ?_, tracked ⟨oL, hoL, I.free⟩ hs, by simpa using I.len⟩ ⟨_, hs, .inl rfl⟩
    · exact (hs.2 b (Nat.ne_of_lt (Nat.lt_of_lt_of_le (Heap.lt_size e) I.ok.above))).trans (I.base.keep b o e n hb hx)
    · obtain ⟨sl, e1⟩ := I.base.slot b o e n hb hx
      exact ⟨sl, (hs.2 b (Nat.ne_of_lt (Nat.lt_of_lt_of_le (Heap.lt_size e) I.ok.above))).trans e1⟩
    · obtain ⟨o', e1⟩ := I.base.there b o e hx
      exact ⟨o', (hs.2 b (Nat.ne_of_lt (Nat.lt_of_lt_of_le (Heap.lt_size e) I.ok.above))).trans e1⟩
    · by_cases hj : j = i
      · subst hj
        rw [hi] at e1; cases e1
        rw [List.getElem?_set_self hiσ] at e2
        cases e2
        exact ⟨u, r, .inl ⟨hk, by simp⟩⟩
      · rw [List.getElem?_set_ne (Ne.symm hj)] at e2
        obtain ⟨u', r', q⟩ := hl j y v' e1 e2 e3
        refine ⟨u', r', ?_⟩
        rcases q with ⟨k, e⟩ | ⟨k, c, e, z⟩
        · refine .inl ⟨k, ?_⟩
          have : y ≠ x := fun e => hj (nodup_ix hN e1 (e ▸ hi))
          simp [this, e]
        · exact .inr ⟨k, c, e, z.sameBut hs (cne y c e)⟩
    · obtain ⟨w', z⟩ := I.cell y c e
      exact ⟨w', z.sameBut hs (cne y c e)⟩
    · obtain ⟨e, n, ne, nf, d⟩ := I.pin p hp
      exact ⟨(hs.2 p.1 ne).trans e, n, ne, nf, d⟩
  · have hfn : X.fn x = true := by
      rcases hf with z | z
      · exact z
      · rw [z] at hk; cases hk
    obtain ⟨c, hc⟩ := I.ok.has x (.inl hk)
    obtain ⟨w', z⟩ := I.cell x c hc
    refine wpAny_storeName_cell I.ok.kind hk hc z (fun h' hc' hs => ?_)
    obtain ⟨oc, hoc, hocd⟩ := id z
    refine h { s with heap := h' } ⟨I.ok, I.os, I.bare, ⟨fun b o e n hb hx => ?_, fun b o e n hb hx => ?_, I.base.free, fun b o e hx => ?_, I.base.tups, I.base.frzs, I.base.tbls⟩, ⟨m, hn.sameBut hs (Ne.symm (cne x c hc)), fun j y v' e1 e2 e3 => ?_⟩, fun y c' e => ?_, I.free, I.freeC, fun p hp => ?_, tracked ⟨oc, hoc, I.freeC x c hc⟩ hs, by simpa using I.len⟩ ⟨c, hs, .inr hc⟩
    · exact (hs.2 b (Nat.ne_of_lt (Nat.lt_of_lt_of_le (Heap.lt_size e) (I.ok.cab x c hfn hc)))).trans (I.base.keep b o e n hb hx)
    · obtain ⟨sl, e1⟩ := I.base.slot b o e n hb hx
      exact ⟨sl, (hs.2 b (Nat.ne_of_lt (Nat.lt_of_lt_of_le (Heap.lt_size e) (I.ok.cab x c hfn hc)))).trans e1⟩
    · obtain ⟨o', e1⟩ := I.base.there b o e hx
      exact ⟨o', (hs.2 b (Nat.ne_of_lt (Nat.lt_of_lt_of_le (Heap.lt_size e) (I.ok.cab x c hfn hc)))).trans e1⟩
    · by_cases hj : j = i
      · subst hj
        rw [hi] at e1; cases e1
        rw [List.getElem?_set_self hiσ] at e2
        cases e2
        exact ⟨u, r, .inr ⟨.inl hk, c, hc, hc'⟩⟩
      · rw [List.getElem?_set_ne (Ne.symm hj)] at e2
        obtain ⟨u', r', q⟩ := hl j y v' e1 e2 e3
        refine ⟨u', r', ?_⟩
        rcases q with q | ⟨k, c', e, z'⟩
        · exact .inl q
        · refine .inr ⟨k, c', e, z'.sameBut hs ?_⟩
          rintro rfl
          exact hj (nodup_ix hN e1 (I.ok.inj _ _ _ e hc ▸ hi))
    · by_cases hcc : c' = c
      · subst hcc; exact ⟨_, hc'⟩
      · obtain ⟨w2, z2⟩ := I.cell y c' e
        exact ⟨w2, z2.sameBut hs hcc⟩
    · obtain ⟨e, n, ne, nf, d⟩ := I.pin p hp
      refine ⟨(hs.2 p.1 ?_).trans e, n, ne, nf, d⟩
      intro q
      rw [q, hoc] at e
      have q' : oc = p.2 := Option.some.inj e
      exact d w' (by rw [← q']; exact hocd)
theorem store_ok {M : Model} {A : Around} {E : Value → Shared → Prop} {i : Nat} {x : Str} {v : V} {u : Value} {Q : Unit → Shared → Prop} (I : Inv X pins σ H s) (hN : X.N.Nodup) (hi : X.N[i]? = some x) (hx : Loc X.env.scope x) (r : RelV v u)
    (h : ∀ s', Inv X pins (σ.set i (some v)) H s' → Q () s') (hf : X.fn x = true ∨ X.env.scope.names.lookup x = some .local := by first | exact .inl rfl | exact .inr rfl | assumption) : wpAny M A (storeName X.env x u) Q E s :=
  store_ok2 I hN hi hx r (fun s' I' _ => h s' I') hf
/-- behind a call or a block, the state as it is -/
theorem Inv.call' {s' : Shared} {ch : List Addr} (I : Inv X pins σ H s) (ho : s'.os = s.os) (u : Un (frs X.stack) ch H H' s.heap s'.heap) (hok : HOk X.prog X.w H' s'.heap) (hg : AllBare s'.gens)
    (hch : ∀ b ∈ ch, (b ∈ X.ex ∨ X.s₀.heap.objs.size ≤ b) ∧ b ≠ X.env.locals ∧ (∀ x c, X.env.cells.lookup x = some c → c ≠ b) ∧ ∀ p ∈ X.pn ++ pins, p.1 ≠ b) : Inv X pins σ H' s' := by
  obtain ⟨h', g', d', t', o'⟩ := s'
  have e : o' = s.os := ho
  subst e
  exact I.call (g' := g') (t' := t') (d' := d') u hok hg hch
end


/-- an exception: its class, its own dict's address (where it has one), the abstract heap behind it -/
abbrev XK := Value → Option Addr → Hp → Prop
abbrev St := List (Option V)
abbrev VK := V → Hp → Prop
/-- an expression's reading; a test's; an argument list's -/
abbrev TE := St → Hp → VK → Prop
abbrev TT := St → Hp → (Bool → Hp → Prop) → Prop
abbrev TA := St → Hp → (List V → Hp → Prop) → Prop
/-- what is wanted behind a statement -/
structure Ends where
  nx : St → Hp → Prop
  rt : VK
  bk : St → Hp → Prop := fun _ _ => False
  ct : St → Hp → Prop := fun _ _ => False
abbrev TS := Ends → St → Hp → Prop

def EP (X : Cx) (pins : List (Addr × Obj)) (σ : St) (Q : VK) (u : Value) (s' : Shared) : Prop := ∃ v H', Inv X pins σ H' s' ∧ RelV v u ∧ Q v H'
def TP (X : Cx) (pins : List (Addr × Obj)) (σ : St) (Q : Bool → Hp → Prop) (b : Bool) (s' : Shared) : Prop := ∃ H', Inv X pins σ H' s' ∧ Q b H'
def AP (X : Cx) (pins : List (Addr × Obj)) (σ : St) (Q : List V → Hp → Prop) (us : List Value) (s' : Shared) : Prop := ∃ vs H', Inv X pins σ H' s' ∧ Vals vs us ∧ Q vs H'
def SP (X : Cx) (pins : List (Addr × Obj)) (D : Ends) (f : Flow) (s' : Shared) : Prop :=
  match f with
  | .next => ∃ σ' H', Inv X pins σ' H' s' ∧ D.nx σ' H'
  | .brk => ∃ σ' H', Inv X pins σ' H' s' ∧ D.bk σ' H'
  | .cont => ∃ σ' H', Inv X pins σ' H' s' ∧ D.ct σ' H'
  | .ret u => ∃ v σ' H', Inv X pins σ' H' s' ∧ RelV v u ∧ D.rt v H'

def PE (X : Cx) (e : Expr) (t : TE) : Prop :=
  ∀ (pins : List (Addr × Obj)) (s : Shared) (σ : St) (H : Hp) (Q : VK), Inv X pins σ H s → t σ H Q → wpAny (model X.prog X.w) X.A (eval e X.env) (EP X pins σ Q) X.xe s
def PT (X : Cx) (e : Expr) (t : TT) : Prop :=
  ∀ (pins : List (Addr × Obj)) (s : Shared) (σ : St) (H : Hp) (Q : Bool → Hp → Prop), Inv X pins σ H s → t σ H Q → wpAny (model X.prog X.w) X.A (isTrue e X.env (eval e X.env)) (TP X pins σ Q) X.xe s
/-- a test whatever its 'whole' is (and, or) -/
def PW (X : Cx) (e : Expr) (t : TT) : Prop :=
  ∀ (whole : Sem Value) (pins : List (Addr × Obj)) (s : Shared) (σ : St) (H : Hp) (Q : Bool → Hp → Prop), Inv X pins σ H s → t σ H Q → wpAny (model X.prog X.w) X.A (isTrue e X.env whole) (TP X pins σ Q) X.xe s
theorem PW.pt {X : Cx} {e : Expr} {t : TT} (h : PW X e t) : PT X e t := h _
/-- an argument list (no star), from the left -/
def PA (X : Cx) (es : List Expr) (t : TA) : Prop :=
  ∀ (pos : Pos) (pins : List (Addr × Obj)) (s : Shared) (σ : St) (H : Hp) (Q : List V → Hp → Prop), Inv X pins σ H s → t σ H Q → wpAny (model X.prog X.w) X.A (spliced (backTo pos (starEach es X.env))) (AP X pins σ Q) X.xe s
def PS (X : Cx) (st : Stmt) (t : TS) : Prop :=
  ∀ (pins : List (Addr × Obj)) (s : Shared) (σ : St) (H : Hp) (D : Ends), Inv X pins σ H s → t D σ H → wpAny (model X.prog X.w) X.A (exec st X.env) (SP X pins D) X.xe s
def PSs (X : Cx) (st : List Stmt) (t : TS) : Prop :=
  ∀ (pins : List (Addr × Obj)) (s : Shared) (σ : St) (H : Hp) (D : Ends), Inv X pins σ H s → t D σ H → wpAny (model X.prog X.w) X.A (execs st X.env) (SP X pins D) X.xe s
/-- weaken the end -/
theorem thn {α : Type} {t : Sem α} {Q Q' : α → Shared → Prop} {M : Model} {A : Around} {E : Value → Shared → Prop} {s : Shared} (h : wpAny M A t Q E s) (hQ : ∀ a s, Q a s → Q' a s) : wpAny M A t Q' E s := wpAny_mono h hQ fun _ _ x => x
end L2

namespace L2
open PySem PySem.Spec PyProof.Rows
section
variable {X : Cx}

def tVar (i : Nat) : TE := fun σ H Q => ∃ v, σ[i]? = some (some v) ∧ Q v H
def tC (v : V) : TE := fun _ H Q => Q v H
theorem pe_var {i : Nat} {x : Str} {pos : Pos} (hN : X.N[i]? = some x) (hv : Vis X.env.scope x) (hd : (x == ("__debug__" : Str)) = false := by decide) (hcd : (x == ("__classdict__" : Str)) = false := by decide) : PE X (.Name x pos) (tVar i) := by
  intro pins s σ H Q I h
  obtain ⟨v, e, h⟩ := h
  obtain ⟨m, hn, hl⟩ := I.loc
  obtain ⟨u, r, l⟩ := hl i x v hN e hv
  have fin : EP X pins σ Q u s := ⟨v, H, I, r, h⟩
  rcases l with ⟨hk, hm⟩ | ⟨hk, c, hc, hcell⟩
  · exact wpAny_Name (wpAny_loadName_local I.ok.kind hk hn hm fin) hd
  · rcases hk with hk | hk
    · exact wpAny_Name (wpAny_loadName_cell I.ok.kind hk hc hcell fin) hd
    · exact wpAny_Name (wpAny_loadName_free I.ok.kind hk hc hcell fin hcd) hd
theorem pe_int {i j pos} : PE X (.Constant (.int i) j pos) (tC (.int i)) := fun _ _ _ H _ I h => wpAny_Constant_int ⟨.int i, H, I.tok _, ⟨_, rfl⟩, h⟩
theorem pe_bl {b j pos} : PE X (.Constant (.bool b) j pos) (tC (.bl b)) := fun _ _ _ H _ I h => Constant_bool ⟨.bl b, H, I, rfl, h⟩
/-- a global name of the def -/
def Gl (X : Cx) (x : Str) : Prop := X.env.kindOf x = some .globalImplicit
theorem ld_glob {E : Value → Shared → Prop} {pins : List (Addr × Obj)} {s : Shared} {σ : St} {H : Hp} {x : Str} {u : Value} {pos : Pos} {Q : Value → Shared → Prop} (I : Inv X pins σ H s) (hg : Gl X x) (hm : X.mg x = some u) (h : Q u s)
    (hd : (x == ("__debug__" : Str)) = false := by decide) : wpAny (model X.prog X.w) X.A (eval (.Name x pos) X.env) Q E s :=
  Calls.Name_function_global I.ok.kind hg (Calls.loadGlobal_global (by rw [I.ok.glob]; exact I.mod.glob.keeps I.bk) hm h) hd
theorem ld_blt {E : Value → Shared → Prop} {pins : List (Addr × Obj)} {s : Shared} {σ : St} {H : Hp} {x : Str} {u : Value} {pos : Pos} {Q : Value → Shared → Prop} (I : Inv X pins σ H s) (hg : Gl X x) (hm : X.mg x = none) (hv : bootBuiltins x = some u) (h : Q u s)
    (hn : x ≠ "__name__" := by decide) (hd : (x == ("__debug__" : Str)) = false := by decide) : wpAny (model X.prog X.w) X.A (eval (.Name x pos) X.env) Q E s := by
  obtain ⟨mb, h1, h2⟩ := I.mod.blt
  exact Calls.Name_function_global I.ok.kind hg (Calls.loadGlobal_builtin (by rw [I.ok.glob]; exact I.mod.glob.keeps I.bk) hm (by rw [I.ok.blt]; exact h1.keeps I.bk) ((h2 x hn).trans hv) h) hd
/-- a module's constant, a class, a function, as a value -/
theorem pe_glob {x : Str} {v : V} {u : Value} {pos : Pos} (hg : Gl X x) (hm : X.mg x = some u) (r : RelV v u) (hd : (x == ("__debug__" : Str)) = false := by decide) : PE X (.Name x pos) (tC v) :=
  fun _ _ _ H _ I h => ld_glob I hg hm ⟨v, H, I, r, h⟩ hd
theorem pe_bltn {x : Str} {v : V} {u : Value} {pos : Pos} (hg : Gl X x) (hm : X.mg x = none) (hv : bootBuiltins x = some u) (r : RelV v u) (hn : x ≠ "__name__" := by decide) (hd : (x == ("__debug__" : Str)) = false := by decide) : PE X (.Name x pos) (tC v) :=
  fun _ _ _ H _ I h => ld_blt I hg hm hv ⟨v, H, I, r, h⟩ hn hd


variable {a b : Expr} {ta tb : TE} {pos : Pos}
/-- a comparison as a value, as a test -/
def tB (t : TE) : TT := fun σ H Q => t σ H fun x H1 => ∃ c, x = .bl c ∧ Q c H1
/-- an expression whose value is a bool, as a test -/
theorem pt_val {e : Expr} {t : TE} (h : PE X e t) (he : ∀ whole, isTrue e X.env whole = (do let v ← whole; standAt e.pos; holding [v] (truthy v)) := by intro _; rfl) : PT X e (tB t) := by
  intro pins s σ H Q I hw
  refine isTrue_plain (thn (h pins s σ H _ I hw) fun v s1 ⟨x, H1, I1, r1, q1⟩ => ?_) (he _)
  obtain ⟨d, rfl, q⟩ := q1
  cases r1
  exact wpAny_truthy_bool ⟨H1, I1, q⟩


variable {tA tB' : TT} {rest : List Expr}
def tOr (t u : TT) : TT := fun σ H Q => t σ H fun c H1 => if c = true then Q true H1 else u σ H1 Q
def tNot (t : TT) : TT := fun σ H Q => t σ H fun c H1 => Q (!c) H1
theorem pw_or1 (ha : PT X a tA) : PW X (.BoolOp .Or [a] pos) tA := by
  intro wh pins s σ H Q I h
  refine isTrue_or (thn (ha pins s σ H Q I h) fun c s1 e => ?_)
  cases c with
  | false => exact isTrue_or_nil e
  | true => exact e
theorem pw_or (ha : PT X a tA) (hb : PW X (.BoolOp .Or (b :: rest) pos) tB') : PW X (.BoolOp .Or (a :: b :: rest) pos) (tOr tA tB') := by
  intro wh pins s σ H Q I h
  refine isTrue_or (thn (ha pins s σ H _ I h) fun c s1 ⟨H1, I1, q1⟩ => ?_)
  cases c with
  | true => exact ⟨H1, I1, q1⟩
  | false => exact hb wh pins s1 σ H1 Q I1 q1
theorem pt_not (ha : PT X a tA) : PT X (.UnaryOp .Not a pos) (tNot tA) := by
  intro pins s σ H Q I h
  exact isTrue_not (ha pins s σ H (fun c H1 => Q (!c) H1) I h)
/-- .. as values (bools) -/
def tAndV (ta tb : TE) : TE := fun σ H Q => ta σ H fun x H1 => ∃ c, x = .bl c ∧ if c = true then tb σ H1 Q else Q (.bl false) H1
def tNotV (ta : TE) : TE := fun σ H Q => ta σ H fun x H1 => ∃ c, x = .bl c ∧ Q (.bl (!c)) H1
theorem pe_one {op} {t : TE} (h : PE X a t) : PE X (.BoolOp op [a] pos) t := fun pins s σ H Q I hw => BoolOp_one (h pins s σ H Q I hw)
theorem pe_and (ha : PE X a ta) (hb : PE X (.BoolOp .And (b :: rest) pos) tb) : PE X (.BoolOp .And (a :: b :: rest) pos) (tAndV ta tb) := by
  intro pins s σ H Q I h
  refine BoolOp_and (thn (ha pins s σ H _ I h) fun v s1 ⟨x, H1, I1, r1, q1⟩ => ?_)
  obtain ⟨c, rfl, q1⟩ := q1
  cases r1
  refine wpAny_truthy_bool ?_
  cases c with
  | true => exact hb pins s1 σ H1 Q I1 q1
  | false => exact ⟨.bl false, H1, I1, rfl, q1⟩
theorem pe_not (ha : PE X a ta) : PE X (.UnaryOp .Not a pos) (tNotV ta) := by
  intro pins s σ H Q I h
  refine UnaryOp_ (thn (ha pins s σ H _ I h) fun v s1 ⟨x, H1, I1, r1, q1⟩ => ?_)
  obtain ⟨c, rfl, q1⟩ := q1
  cases r1
  exact not_of (wpAny_truthy_bool ⟨.bl (!c), H1, I1, rfl, q1⟩)
/-- a if t else b -/
def tIf (t : TT) (ta tb : TE) : TE := fun σ H Q => t σ H fun c H1 => if c = true then ta σ H1 Q else tb σ H1 Q
theorem pe_ifExp {c : Expr} (hc : PT X c tA) (ha : PE X a ta) (hb : PE X b tb) : PE X (.IfExp c a b pos) (tIf tA ta tb) := by
  intro pins s σ H Q I h
  refine wpAny_IfExp (thn (hc pins s σ H _ I h) fun d s1 ⟨H1, I1, q1⟩ => ?_)
  cases d with
  | true => exact ha pins s1 σ H1 Q I1 q1
  | false => exact hb pins s1 σ H1 Q I1 q1
end
end L2

namespace L2
open PySem PySem.Spec PyProof.Rows


def SqL (K : PySem.W.Frag) (H : Hp) (a : Addr) (xs : List V) : Prop :=
  Rd H a (.lst xs) ∨
    ∃ (o : Obj) (its : Array Value) (n : Nat), K.lookup a = some o ∧ o.cls = .type "list" ∧ o.dict = none ∧ o.data = .seq its n ∧ its.size ≤ sizeLine ∧ Vals xs its.toList
def SqT (K : PySem.W.Frag) (H : Hp) (a : Addr) (xs : List V) : Prop :=
  Rd H a (.tup xs) ∨
    ∃ (o : Obj) (its : Array Value) (n : Nat), K.lookup a = some o ∧ o.cls = .type "tuple" ∧ o.data = .seq its n ∧ its.size ≤ sizeLine ∧ Vals xs its.toList
def absV : Value → Option V
  | .none => some .non
  | .bool b => some (.bl b)
  | .int i _ => some (.int i)
  | .str x _ => some (.str x)
  | .bytes b _ => some (.byt b)
  | .float b _ => some (.flt b)
  | .ref a => some (.ref a)
  | .type n => some (.ty n)
  | _ => none
theorem RelV.abs {x : V} {u : Value} (r : RelV x u) : absV u = some x := by
  cases x with
  | non => cases r; rfl
  | bl _ => cases r; rfl
  | int _ => obtain ⟨t, rfl⟩ := r; rfl
  | str _ => obtain ⟨t, rfl⟩ := r; rfl
  | byt _ => obtain ⟨t, rfl⟩ := r; rfl
  | flt _ => obtain ⟨t, rfl⟩ := r; rfl
  | ref _ => cases r; rfl
  | ty _ => cases r; rfl
theorem RelV.inj {x y : V} {u : Value} (r : RelV x u) (q : RelV y u) : x = y := Option.some.inj (r.abs.symm.trans q.abs)
theorem Vals.inj : ∀ {xs ys : List V} {us : List Value}, Vals xs us → Vals ys us → xs = ys
  | _, _, _, .nil, .nil => rfl
  | _, _, _, .cons r t, .cons r' t' => by rw [r.inj r', Vals.inj t t']
section
variable {X : Cx} {pins : List (Addr × Obj)} {σ : St} {H : Hp} {s : Shared} {a : Addr} {xs ys : List V}
theorem SqL.of {K : PySem.W.Frag} (h : H a = some (.lst xs)) : SqL K H a xs := .inl (.inl h)
theorem SqT.of {K : PySem.W.Frag} (h : H a = some (.tup xs)) : SqT K H a xs := .inl (.inl h)
theorem Inv.list (I : Inv X pins σ H s) (h : SqL X.K H a xs) : ∃ its : List Value, Vals xs its ∧ PlainL s.heap a its.toArray ∧ xs.length ≤ sizeLine := by
  rcases h with h | ⟨o, its, n, hk, hc, hd, hs, hz, r⟩
  · obtain ⟨z, its, n, r, e⟩ := h.ok I.hok
    exact ⟨its, r, ⟨_, n, e, rfl, rfl, rfl⟩, z⟩
  · refine ⟨its.toList, r, ⟨o, n, I.kIn a o hk, hc, hd, by simpa using hs⟩, ?_⟩
    have e := r.length
    simp only [Array.length_toList] at e
    omega
theorem Inv.tuple (I : Inv X pins σ H s) (h : SqT X.K H a xs) : ∃ its : List Value, Vals xs its ∧ IsTup s.heap a its.toArray ∧ xs.length ≤ sizeLine := by
  rcases h with h | ⟨o, its, n, hk, hc, hs, hz, r⟩
  · obtain ⟨z, its, r, p⟩ := h.ok I.hok
    exact ⟨its, r, p, z⟩
  · refine ⟨its.toList, r, ⟨o, I.kIn a o hk, hc, n, by simpa using hs⟩, ?_⟩
    have e := r.length
    simp only [Array.length_toList] at e
    omega
theorem Inv.list_inj (I : Inv X pins σ H s) (h : SqL X.K H a xs) (h' : SqL X.K H a ys) : xs = ys := by
  obtain ⟨its, r, ⟨o, n, e, _, _, d⟩, _⟩ := I.list h
  obtain ⟨its', r', ⟨o', n', e', _, _, d'⟩, _⟩ := I.list h'
  rw [e] at e'; cases e'
  rw [d] at d'
  injection d' with d1 _
  have : its = its' := by simpa using congrArg Array.toList d1
  subst this
  exact r.inj r'
theorem Inv.tuple_inj (I : Inv X pins σ H s) (h : SqT X.K H a xs) (h' : SqT X.K H a ys) : xs = ys := by
  obtain ⟨its, r, ⟨o, e, _, n, d⟩, _⟩ := I.tuple h
  obtain ⟨its', r', ⟨o', e', _, n', d'⟩, _⟩ := I.tuple h'
  rw [e] at e'; cases e'
  rw [d] at d'
  injection d' with d1 _
  have : its = its' := by simpa using congrArg Array.toList d1
  subst this
  exact r.inj r'
end


abbrev Cx.wish (X : Cx) (E : Value → Shared → Prop) : Cx := { X with xe := E }
/-- no exception leaves -/
abbrev Cx.nox (X : Cx) : Cx := X.wish fun _ _ => False
theorem Cx.Ok.wish {X : Cx} (ok : X.Ok) (E : Value → Shared → Prop) : (X.wish E).Ok :=
  ⟨ok.mod, ok.kind, ok.glob, ok.blt, ok.above, ok.inj, ok.has, ok.cab, ok.hd, ok.frames, ok.stk, ok.exf, ok.bs, ok.bsz, ok.noex, ok.exfs, ok.funs, ok.frf⟩
theorem Cx.Ok.unwish {X : Cx} {E : Value → Shared → Prop} (ok : (X.wish E).Ok) : X.Ok :=
  ⟨ok.mod, ok.kind, ok.glob, ok.blt, ok.above, ok.inj, ok.has, ok.cab, ok.hd, ok.frames, ok.stk, ok.exf, ok.bs, ok.bsz, ok.noex, ok.exfs, ok.funs, ok.frf⟩
section
variable {X : Cx} {pins : List (Addr × Obj)} {σ : St} {H : Hp} {s : Shared} {E : Value → Shared → Prop}
theorem Inv.wish (I : Inv X pins σ H s) (E : Value → Shared → Prop) : Inv (X.wish E) pins σ H s := ⟨I.ok.wish E, I.os, I.bare, I.base, I.loc, I.cell, I.free, I.freeC, I.pin, I.hok, I.len⟩
theorem Inv.unwish (I : Inv (X.wish E) pins σ H s) : Inv X pins σ H s := ⟨I.ok.unwish, I.os, I.bare, I.base, I.loc, I.cell, I.free, I.freeC, I.pin, I.hok, I.len⟩
theorem SP.unwish {D : Ends} {f : Flow} {s' : Shared} (h : SP (X.wish E) pins D f s') : SP X pins D f s' := by
  cases f with
  | next => obtain ⟨σ', H', I, q⟩ := h; exact ⟨σ', H', I.unwish, q⟩
  | brk => obtain ⟨σ', H', I, q⟩ := h; exact ⟨σ', H', I.unwish, q⟩
  | cont => obtain ⟨σ', H', I, q⟩ := h; exact ⟨σ', H', I.unwish, q⟩
  | ret u => obtain ⟨v, σ', H', I, r, q⟩ := h; exact ⟨v, σ', H', I.unwish, r, q⟩
theorem PE.nox {e : Expr} {t : TE} (h : PE X.nox e t) : PE X e t := fun pins s σ H Q I hw =>
  wpAny_mono (h pins s σ H Q (I.wish _) hw) (fun _ _ ⟨v, H', I', r, q⟩ => ⟨v, H', I'.unwish, r, q⟩) fun _ _ z => False.elim z
theorem PT.nox {e : Expr} {t : TT} (h : PT X.nox e t) : PT X e t := fun pins s σ H Q I hw =>
  wpAny_mono (h pins s σ H Q (I.wish _) hw) (fun _ _ ⟨H', I', q⟩ => ⟨H', I'.unwish, q⟩) fun _ _ z => False.elim z
theorem PSs.nox {st : List Stmt} {t : TS} (h : PSs X.nox st t) : PSs X st t := fun pins s σ H D I hw =>
  wpAny_mono (h pins s σ H D (I.wish _) hw) (fun _ _ q => q.unwish) fun _ _ z => False.elim z
end


section
variable {X : Cx} {st : Stmt} {rest : List Stmt} {t u : TS} {e : Expr} {te : TE} {pos : Pos}
def tNext : TS := fun D σ H => D.nx σ H
def tSeq (t u : TS) : TS := fun D σ H => t { D with nx := u D } σ H
theorem pss_nil : PSs X [] tNext := fun _ _ σ H _ I h => wpAny_execs_nil ⟨σ, H, I, h⟩
theorem pss_cons (h1 : PS X st t) (h2 : PSs X rest u) : PSs X (st :: rest) (tSeq t u) := by
  intro pins s σ H D I h
  refine wpAny_execs_cons (thn (h1 pins s σ H { D with nx := u D } I h) fun f s1 q => ?_)
  cases f with
  | next =>
    obtain ⟨σ', H', I', q⟩ := q
    exact h2 pins s1 σ' H' D I' q
  | ret v => exact q
  | brk => exact q
  | cont => exact q
theorem pss_one (h1 : PS X st t) : PSs X [st] t := by
  intro pins s σ H D I h
  refine wpAny_execs_cons (thn (h1 pins s σ H D I h) fun f s1 q => ?_)
  cases f with
  | next => exact wpAny_execs_nil q
  | ret v => exact q
  | brk => exact q
  | cont => exact q
/-- in a def's body nothing is shown -/
theorem Inv.quiet {pins : List (Addr × Obj)} {σ : St} {H : Hp} {s : Shared} (I : Inv X pins σ H s) : interactive X.env = false := by simp [interactive, I.ok.kind]
/-- an expression whose value is dropped -/
def tDrop (te : TE) : TS := fun D σ H => te σ H fun _ H1 => D.nx σ H1
theorem ps_expr (he : PE X e te) (hs : swapsWith e none pos.line X.env = pure false := by rfl) : PS X (.Expr e pos) (tDrop te) := by
  intro pins s σ H D I h
  exact wpAny_Expr_any (thn (he pins s σ H _ I h) fun v s1 ⟨x, H1, I1, r1, q1⟩ => ⟨σ, H1, I1, q1⟩) I.quiet hs
def tRet (te : TE) : TS := fun D σ H => te σ H D.rt
theorem ps_ret (he : PE X e te) : PS X (.Return (some e) pos) (tRet te) := by
  intro pins s σ H D I h
  exact wpAny_Return_some (thn (he pins s σ H _ I h) fun v s1 ⟨x, H1, I1, r1, q1⟩ => ⟨x, σ, H1, I1, r1, q1⟩)
def tIfS (c : TT) (t u : TS) : TS := fun D σ H => c σ H fun b H1 => if b = true then t D σ H1 else u D σ H1
theorem ps_if {c : Expr} {a b : List Stmt} {tc : TT} (hc : PT X c tc) (ha : PSs X a t) (hb : PSs X b u) : PS X (.If c a b pos) (tIfS tc t u) := by
  intro pins s σ H D I h
  refine wpAny_If (thn (hc pins s σ H _ I h) fun d s1 ⟨H1, I1, q1⟩ => ?_)
  cases d with
  | true => exact ha pins s1 σ H1 D I1 q1
  | false => exact hb pins s1 σ H1 D I1 q1
/-- code that the proof never comes to -/
def tNever : TS := fun _ _ _ => False
theorem ps_never : PS X st tNever := fun _ _ _ _ _ _ h => h.elim
end


abbrev TG := V → St → Hp → (St → Hp → Prop) → Prop
abbrev TGs := List V → St → Hp → (St → Hp → Prop) → Prop
def PG (X : Cx) (target : Expr) (t : TG) : Prop :=
  ∀ (pins : List (Addr × Obj)) (s : Shared) (σ : St) (H : Hp) (v : V) (u : Value) (Q : St → Hp → Prop), Inv X pins σ H s → RelV v u → t v σ H Q →
    wpAny (model X.prog X.w) X.A (assign target X.env u) (fun _ s' => ∃ σ' H', Inv X pins σ' H' s' ∧ Q σ' H') X.xe s
/-- several targets, one after another -/
def PGs (X : Cx) (ts : List Expr) (t : TGs) : Prop :=
  ∀ (pins : List (Addr × Obj)) (s : Shared) (σ : St) (H : Hp) (vs : List V) (us : List Value) (Q : St → Hp → Prop), Inv X pins σ H s → Vals vs us → t vs σ H Q →
    wpAny (model X.prog X.w) X.A (assignInOrder ((assignEach ts X.env).map (·.2)) us) (fun _ s' => ∃ σ' H', Inv X pins σ' H' s' ∧ Q σ' H') X.xe s
/-- o[i] = v, by values -/
abbrev TSet := V → V → V → Hp → (Hp → Prop) → Prop
def PSet (X : Cx) (t : TSet) : Prop :=
  ∀ (pins : List (Addr × Obj)) (s : Shared) (σ : St) (H : Hp) (o i v : V) (ov iv u : Value) (Q : Hp → Prop), Inv X pins σ H s → RelV o ov → RelV i iv → RelV v u → t o i v H Q →
    wpAny (model X.prog X.w) X.A (setItem ov iv u) (fun _ s' => ∃ H', Inv X pins σ H' s' ∧ Q H') X.xe s
section
variable {X : Cx} {pos : Pos}
def gName (i : Nat) : TG := fun v σ H Q => Q (σ.set i (some v)) H
theorem pg_name {i : Nat} {x : Str} (hN : X.N.Nodup) (hi : X.N[i]? = some x) (hx : Loc X.env.scope x) (hf : X.fn x = true ∨ X.env.scope.names.lookup x = some .local := by first | exact .inl rfl | exact .inr rfl | assumption) : PG X (.Name x pos) (gName i) := by
  intro pins s σ H v u Q I r h
  exact wpAny_assign_Name (store_ok I hN hi hx r (fun s' I' => ⟨_, H, I', h⟩) hf)
def gNil : TGs := fun vs σ H Q => vs = [] ∧ Q σ H
def gCons (t : TG) (u : TGs) : TGs := fun vs σ H Q => ∃ v r, vs = v :: r ∧ t v σ H fun σ' H' => u r σ' H' Q
theorem pgs_nil : PGs X [] gNil := by
  intro pins s σ H vs us Q I r h
  obtain ⟨e, h⟩ := h
  subst e
  cases r
  exact assignInOrder_nil ⟨σ, H, I, h⟩
theorem pgs_cons {e : Expr} {es : List Expr} {t : TG} {u : TGs} (h1 : PG X e t) (h2 : PGs X es u)
    (hs : (assignEach (e :: es) X.env).map (·.2) = assign e X.env :: (assignEach es X.env).map (·.2) := by rfl) : PGs X (e :: es) (gCons t u) := by
  intro pins s σ H vs us Q I r h
  obtain ⟨v, vr, e1, h⟩ := h
  subst e1
  cases r with
  | cons r rr =>
    rw [hs]
    refine assignInOrder_cons (thn (h1 pins s σ H _ _ _ I r h) fun _ s1 ⟨σ1, H1, I1, q1⟩ => ?_)
    exact h2 pins s1 σ1 H1 _ _ Q I1 rr q1
/-- (a, b, ..) = a tuple of that length -/
def gTup (K : PySem.W.Frag) (n : Nat) (t : TGs) : TG := fun v σ H Q => ∃ a xs, v = .ref a ∧ SqT K H a xs ∧ xs.length = n ∧ t xs σ H Q
theorem pg_tup {es : List Expr} {k : Nat} {t : TGs} {n : Nat} (hc : X.calm = true) (h : PGs X es t)
    (hn : (assignEach es X.env).length = n := by rfl) (hst : (assignEach es X.env).findIdx? (·.1) = none := by rfl) : PG X (.Tuple es k pos) (gTup X.K n t) := by
  intro pins s σ H v u Q I r hw
  obtain ⟨a, xs, e1, hq, hl, hw⟩ := hw
  subst e1
  cases r
  obtain ⟨its, rv, ht, hz⟩ := I.tuple hq
  refine assign_Tuple_tuple (I.ok.hd hc) ht (by simp [hn, ← hl, rv.length]) hst fun h' hx => ?_
  have I1 : Inv X pins σ H { s with heap := h' } := I.kept (t' := s.toks) fun b o e => hx b o (Nat.ne_of_lt (Heap.lt_size e)) e
  exact h pins _ σ H xs _ Q I1 (by simpa using rv) hw
/-- o[i] = .. -/
def gSub (to ti : TE) (t : TSet) : TG := fun v σ H Q => to σ H fun o H1 => ti σ H1 fun i H2 => t o i v H2 fun H3 => Q σ H3
theorem pg_sub {o i : Expr} {to ti : TE} {t : TSet} (ho : PE X o to) (hi : PE X i ti) (hs : PSet X t)
    (ha : ∀ v, assign (.Subscript o i pos) X.env v = (do
      let ov ← holding [v] (eval o X.env)
      let iv ← holding [v, ov] (eval i X.env)
      standAt pos
      holding [v, ov, iv] (setItem ov iv v)
      release [v, ov, iv] []) := by intro _; rfl) : PG X (.Subscript o i pos) (gSub to ti t) := by
  intro pins s σ H v u Q I r h
  rw [ha]
  refine wpAny_bind (wpAny_holding (thn (ho pins s σ H _ I h) fun ov s1 ⟨x, H1, I1, r1, q1⟩ => ?_))
  refine wpAny_bind (wpAny_holding (thn (hi pins s1 σ H1 _ I1 q1) fun iv s2 ⟨y, H2, I2, r2, q2⟩ => ?_))
  refine wpAny_bind (wpAny_standAt (wpAny_bind (wpAny_holding (thn (hs pins s2 σ H2 x y v ov iv u _ I2 r1 r2 r q2) fun _ s3 ⟨H3, I3, q3⟩ => ?_))))
  exact wpAny_release ⟨σ, H3, I3, q3⟩
/-- target = value -/
def tAsg (te : TE) (g : TG) : TS := fun D σ H => te σ H fun x H1 => g x σ H1 D.nx
theorem ps_asg {tg e : Expr} {te : TE} {g : TG} (he : PE X e te) (hg : PG X tg g) (hs : swapsWithSole [tg] e pos.line X.env = pure false := by rfl) (hw : swappedStores [tg] e X.env = pure none := by rfl)
    (h1 : (assignEach [tg] X.env).map (·.2) = [assign tg X.env] := by rfl) : PS X (.Assign [tg] e pos) (tAsg te g) := by
  intro pins s σ H D I h
  refine wpAny_Assign_stores (thn (he pins s σ H _ I h) fun v s1 ⟨x, H1, I1, r1, q1⟩ => ?_) hs hw
  rw [h1]
  exact thn (hg pins s1 σ H1 x v _ I1 r1 q1) fun _ s2 q => q
/-- name = value -/
theorem ps_set {i : Nat} {x : Str} {e : Expr} {te : TE} {pos' : Pos} (hN : X.N.Nodup) (hi : X.N[i]? = some x) (hx : Loc X.env.scope x) (he : PE X e te) (hs : swapsWith e (some (.Name x pos')) pos.line X.env = pure false := by rfl) (hf : X.fn x = true ∨ X.env.scope.names.lookup x = some .local := by first | exact .inl rfl | exact .inr rfl | assumption) :
    PS X (.Assign [.Name x pos'] e pos) (tAsg te (gName i)) := by
  intro pins s σ H D I h
  refine wpAny_Assign_Name (thn (he pins s σ H _ I h) fun v s1 ⟨y, H1, I1, r1, q1⟩ => ?_) hs
  exact store_ok I1 hN hi hx r1 (fun s2 I2 => ⟨_, H1, I2, q1⟩) hf
/-- a, b = x, y with plain local names: stored from the right; the pair itself is not tracked (the opening rows as in PyProof/Rows/TupAssign.lean:23) -/
def tPar (i j : Nat) (ta : TA) : TS := fun D σ H => ta σ H fun vs H1 => ∃ v w, vs = [v, w] ∧ D.nx ((σ.set i (some v)).set j (some w)) H1
theorem ps_par {i j : Nat} {x y : Str} {a b : Expr} {ta : TA} {px py pt : Pos} {kt k2 pt2} (hc : X.calm = true) (hN : X.N.Nodup) (hi : X.N[i]? = some x) (hj : X.N[j]? = some y) (hij : i ≠ j)
    (hx : X.env.scope.names.lookup x = some .local) (hy : X.env.scope.names.lookup y = some .local) (ha : PA X [a, b] ta)
    (hw : swappedStores [.Tuple [.Name x px, .Name y py] kt pt] (.Tuple [a, b] k2 pt2) X.env = pure (some [x, y]))
    (hs : swapsWithSole [.Tuple [.Name x px, .Name y py] kt pt] (.Tuple [a, b] k2 pt2) pos.line X.env = pure false := by rfl) :
    PS X (.Assign [.Tuple [.Name x px, .Name y py] kt pt] (.Tuple [a, b] k2 pt2) pos) (tPar i j ta) := by
  intro pins s σ H D I h
  rw [exec_Assign_arm]
  refine wpAny_bind (wpAny_standAt ?_)
  rw [hs]
  refine wpAny_bind (wpAny_pure ?_)
  rw [if_neg (by decide)]
  refine wpAny_bind (Tuple_ (thn (ha _ pins s σ H _ I h) fun us s1 ⟨vs, H1, I1, r1, q1⟩ => ?_))
  obtain ⟨v, w, e1, q1⟩ := q1
  subst e1
  obtain ⟨u1, u2, rfl, rv, rw'⟩ : ∃ u1 u2, us = [u1, u2] ∧ RelV v u1 ∧ RelV w u2 := by
    cases r1 with
    | cons p q =>
      cases q with
      | cons p' q' =>
        cases q'
        exact ⟨_, _, rfl, p, p'⟩
  refine wpAny_newObj_type ?_ (by show 2 ≤ sizeLine; decide)
  have I2 : Inv X pins σ H1 { s1 with heap := s1.heap.push { cls := .type "tuple", data := .seq [u1, u2].toArray } } := I1.kept (t' := s1.toks) fun b o e => Heap.get?_push_of_some _ e
  rw [hw]
  refine wpAny_bind (wpAny_pure ?_)
  show wpAny (model X.prog X.w) X.A (do rule "assign.swapped-stores"; let items ← unpackItems (.ref s1.heap.objs.size) 2 none; assignInOrder [fun v => bindName X.env y v, fun v => bindName X.env x v] items.reverse; pure Flow.next) _ _ _
  refine wpAny_bind (wpAny_rule (wpAny_bind (unpackItems_tuple (items := #[u1, u2]) (I.ok.hd hc) (IsTup.new s1.heap _) fun h' hx' => ?_)))
  have I3 := I2.kept (h' := h') (t' := s1.toks) fun b o e => hx' b o (Nat.ne_of_lt (Heap.lt_size e)) e
  show wpAny _ _ (assignInOrder [fun v => bindName X.env y v, fun v => bindName X.env x v] [u2, u1] >>= fun _ => pure Flow.next) _ _ _
  refine wpAny_bind (assignInOrder_cons (wpAny_bindName (store_ok I3 hN hj (.inl hy) rw' (fun s2 I4 => ?_) (.inr hy))))
  refine assignInOrder_cons (wpAny_bindName (store_ok I4 hN hi (.inl hx) rv (fun s3 I5 => assignInOrder_nil (wpAny_pure ?_)) (.inr hx)))
  rw [List.set_comm _ _ (Ne.symm hij)] at I5
  exact ⟨_, H1, I5, q1⟩
end


section
variable {X : Cx} {pos : Pos}
end


/-- at turn i: it yields x (the heap may grow), or it stops -/
structure It where
  go : Nat → Hp → Prop
  yld : Nat → Hp → V → Hp → Prop
  stop : Nat → Hp → Prop
/-- the iterator's own objects may turn: they are not the frame's, not pinned, younger than the entry (or a comprehension's own) -/
def FpOk (X : Cx) (pins : List (Addr × Obj)) (H : Hp) (b : Addr) : Prop :=
  H b = none ∧ b ≠ X.env.locals ∧ b ∉ X.fs ∧ (b ∈ X.ex ∨ X.s₀.heap.objs.size ≤ b) ∧ (∀ x c, X.env.cells.lookup x = some c → c ≠ b) ∧ ∀ p ∈ X.pn ++ pins, p.1 ≠ b
theorem Inv.fpOk {X : Cx} {pins : List (Addr × Obj)} {σ : St} {H H' : Hp} {s : Shared} {b : Addr} (I : Inv X pins σ H s) (hb : s.heap.objs.size ≤ b) (hn : H' b = none) : FpOk X pins H' b := by
  refine ⟨hn, Nat.ne_of_gt (Nat.lt_of_lt_of_le I.lt hb), I.nofs hb, .inr (Nat.le_trans I.sz hb), fun x c e z => ?_, fun p hp z => ?_⟩
  · obtain ⟨v, q⟩ := I.cell x c e
    exact absurd (Nat.lt_of_lt_of_le q.lt (by rw [z]; exact hb)) (Nat.lt_irrefl _)
  · exact absurd (Nat.lt_of_lt_of_le (Heap.lt_size (I.pin p hp).1) (by rw [z]; exact hb)) (Nat.lt_irrefl _)
structure Turn (P : Program) (w : World) (K : PySem.W.Frag) (tg : Expr) (J : It) (fp : List Addr) (it : Addr) (tn : Nat → Heap → Prop) : Prop where
  mem : it ∈ fp
  obj : ∀ i h, tn i h → ∀ b ∈ fp, ∃ o, h.get? b = some o ∧ ∀ v, o.data ≠ .cell v
  keep : ∀ i h h', tn i h → (∀ b ∈ fp, ∀ o, h.get? b = some o → h'.get? b = some o) → tn i h'
  item : ∀ (X : Cx), X.prog = P → X.w = w → X.K = K → X.calm = true → ∀ (i : Nat) (pins : List (Addr × Obj)) (s : Shared) (σ : St) (H : Hp) (E : Value → Shared → Prop), Inv X pins σ H s → (∀ b ∈ fp, FpOk X pins H b) → tn i s.heap → J.go i H →
    wpAny (model P w) X.A (pyNext (.ref it)) (fun r s1 => ∃ u, r = some u ∧
      wpAny (model P w) X.A (letOwnedTupleGo tg (.ref it) u) (fun _ s2 => ∃ x H', Inv X pins σ H' s2 ∧ RelV x u ∧ J.yld i H x H' ∧ tn (i + 1) s2.heap ∧ ∀ b ∈ fp, H' b = none) E s1) E s
  done : ∀ (X : Cx), X.prog = P → X.w = w → X.K = K → X.calm = true → ∀ (i : Nat) (pins : List (Addr × Obj)) (s : Shared) (σ : St) (H : Hp) (E : Value → Shared → Prop), Inv X pins σ H s → (∀ b ∈ fp, FpOk X pins H b) → tn i s.heap → J.stop i H →
    wpAny (model P w) X.A (pyNext (.ref it)) (fun r s1 => r = none ∧ Inv X pins σ H s1) E s
  self : ∀ (A : Around) (i : Nat) (s : Shared) (Q : Value → Shared → Prop) (E : Value → Shared → Prop), tn i s.heap → Q (.ref it) s → wpAny (model P w) A (pyIter (.ref it)) Q E s
abbrev TI := St → Hp → (It → Hp → Prop) → Prop
/-- an iterator has come -/
def PIE (X : Cx) (pins : List (Addr × Obj)) (σ : St) (tg : Expr) (R : It → Hp → Prop) (itv : Value) (s2 : Shared) : Prop :=
  ∃ (it : Addr) (fp : List Addr) (tn : Nat → Heap → Prop) (J : It) (H' : Hp), itv = .ref it ∧ Inv X pins σ H' s2 ∧ Turn X.prog X.w X.K tg J fp it tn ∧ tn 0 s2.heap ∧ (∀ b ∈ fp, FpOk X pins H' b) ∧ R J H'
def PI (X : Cx) (tg iter : Expr) (wi : TI) : Prop :=
  ∀ (pins : List (Addr × Obj)) (s : Shared) (σ : St) (H : Hp) (R : It → Hp → Prop), Inv X pins σ H s → wi σ H R →
    wpAny (model X.prog X.w) X.A (eval iter X.env) (fun v s1 => wpAny (model X.prog X.w) X.A (pyIter v) (PIE X pins σ tg R) X.xe s1) X.xe s

/-- the step ahead of the store is nothing for an iterator that keeps no tuple -/
theorem go_of {M : Model} {A : Around} {E : Value → Shared → Prop} {s : Shared} {tg : Expr} {it : Addr} {u : Value} {o : Obj} {n : String} {vs : Array Value} {Q : Unit → Shared → Prop} (ho : s.heap.get? it = some o) (hc : o.cls = .type n) (hd : o.data = .fields vs)
    (hn : ["enumerate", "zip", "dict_itemiterator", "dict_reverseitemiterator", "odict_iterator", "itertools.zip_longest", "itertools.pairwise"].contains n = false) (hQ : Q () s) : wpAny M A (letOwnedTupleGo tg (.ref it) u) Q E s := by
  unfold letOwnedTupleGo
  cases tg <;> first
    | exact wpAny_pure hQ
    | (cases u <;> first
        | exact wpAny_pure hQ
        | (refine wpAny_bind (wpAny_load ho ?_)
           rw [hc, hd]
           show wpAny M A (if (["enumerate", "zip", "dict_itemiterator", "dict_reverseitemiterator", "odict_iterator", "itertools.zip_longest", "itertools.pairwise"].contains n && vs[0]? == some (rawInt _)) = true then _ else _) Q E s
           rw [if_neg (by intro h; rw [hn, Bool.false_and] at h; cases h)]
           exact wpAny_pure hQ))

/-- the list at a, as it stands at each turn (a loop may append to it) -/
def Itl (K : PySem.W.Frag) (a : Addr) : It :=
  ⟨fun i H => ∃ xs x, SqL K H a xs ∧ xs[i]? = some x, fun i H x H' => H' = H ∧ ∀ xs, SqL K H a xs → xs[i]? = some x, fun i H => ∃ xs, SqL K H a xs ∧ xs.length ≤ i⟩
def Itt (K : PySem.W.Frag) (a : Addr) : It :=
  ⟨fun i H => ∃ xs x, SqT K H a xs ∧ xs[i]? = some x, fun i H x H' => H' = H ∧ ∀ xs, SqT K H a xs → xs[i]? = some x, fun i H => ∃ xs, SqT K H a xs ∧ xs.length ≤ i⟩
/-- lo, lo + 1, .. (n of them) -/
def Itr (lo : Int) (n : Nat) : It := ⟨fun i _ => i < n, fun i H x H' => H' = H ∧ x = .int (lo + i), fun i _ => n ≤ i⟩
theorem turn_list {P : Program} {w : World} {K : PySem.W.Frag} {tg : Expr} (a it : Addr) : Turn P w K tg (Itl K a) [it] it (fun i h => h.IsListIter it a i) where
  mem := by simp
  obj := fun i h st b hb => by
    have e : b = it := by simpa using hb
    subst e
    obtain ⟨o, e, c, d⟩ := st
    exact ⟨o, e, fun v z => by rw [d] at z; cases z⟩
  keep := fun i h h' st k => st.at fun o e => k it (by simp) o e
  item := by
    intro X hP hw hK hc i pins s σ H E I hf st hg
    subst hP hw hK
    obtain ⟨xs, x, hq, hx⟩ := hg
    obtain ⟨its, rv, p, hz⟩ := I.list hq
    obtain ⟨u, hu, ru⟩ := rv.get hx
    obtain ⟨f0, f1, f2, f3, f4, f5⟩ := hf it (by simp)
    refine wpAny_pyNext_list_item st p.isList (x := u) (by simpa using hu) fun h' st' sb => ?_
    have I1 : Inv X pins σ H { s with heap := h' } := I.turned (t' := s.toks) (fun b o hb e => (sb.2 b hb).trans e) f0 f1 f3 f4 f5
    obtain ⟨o, e, c, d⟩ := id st'
    exact ⟨u, rfl, go_of (s := { s with heap := h' }) e c d (by decide) ⟨x, H, I1, ru, ⟨rfl, fun ys hy => by rw [I.list_inj hy hq]; exact hx⟩, st', fun b hb => (hf b hb).1⟩⟩
  done := by
    intro X hP hw hK hc i pins s σ H E I hf st hg
    subst hP hw hK
    obtain ⟨xs, hq, hx⟩ := hg
    obtain ⟨its, rv, p, hz⟩ := I.list hq
    obtain ⟨f0, f1, f2, f3, f4, f5⟩ := hf it (by simp)
    have hl := rv.length
    exact wpAny_pyNext_list_end (I.ok.hd hc) st p.isList (by simp; omega) fun h' eb => ⟨rfl, I.turned (t' := s.toks) (fun b o hb e => eb b o hb e) f0 f1 f3 f4 f5⟩
  self := fun _ _ _ _ _ st h => wpAny_pyIter_listiter st h
theorem turn_tuple {P : Program} {w : World} {K : PySem.W.Frag} {tg : Expr} (a it : Addr) : Turn P w K tg (Itt K a) [it] it (fun i h => h.IsTupleIter it a i) where
  mem := by simp
  obj := fun i h st b hb => by
    have e : b = it := by simpa using hb
    subst e
    obtain ⟨o, e, c, d⟩ := st
    exact ⟨o, e, fun v z => by rw [d] at z; cases z⟩
  keep := fun i h h' st k => st.at fun o e => k it (by simp) o e
  item := by
    intro X hP hw hK hc i pins s σ H E I hf st hg
    subst hP hw hK
    obtain ⟨xs, x, hq, hx⟩ := hg
    obtain ⟨its, rv, p, hz⟩ := I.tuple hq
    obtain ⟨u, hu, ru⟩ := rv.get hx
    obtain ⟨f0, f1, f2, f3, f4, f5⟩ := hf it (by simp)
    refine wpAny_pyNext_tuple_item st (show s.heap.IsTuple a its.toArray from p) (x := u) (by simpa using hu) fun h' st' sb => ?_
    have I1 : Inv X pins σ H { s with heap := h' } := I.turned (t' := s.toks) (fun b o hb e => (sb.2 b hb).trans e) f0 f1 f3 f4 f5
    obtain ⟨o, e, c, d⟩ := id st'
    exact ⟨u, rfl, go_of (s := { s with heap := h' }) e c d (by decide) ⟨x, H, I1, ru, ⟨rfl, fun ys hy => by rw [I.tuple_inj hy hq]; exact hx⟩, st', fun b hb => (hf b hb).1⟩⟩
  done := by
    intro X hP hw hK hc i pins s σ H E I hf st hg
    subst hP hw hK
    obtain ⟨xs, hq, hx⟩ := hg
    obtain ⟨its, rv, p, hz⟩ := I.tuple hq
    obtain ⟨f0, f1, f2, f3, f4, f5⟩ := hf it (by simp)
    have hl := rv.length
    exact wpAny_pyNext_tuple_end (I.ok.hd hc) st (show s.heap.IsTuple a its.toArray from p) (by simp; omega) fun h' eb => ⟨rfl, I.turned (t' := s.toks) (fun b o hb e => eb b o hb e) f0 f1 f3 f4 f5⟩
  self := fun _ _ _ _ _ st h => wpAny_pyIter_tupleiter st h
theorem turn_range {P : Program} {w : World} {K : PySem.W.Frag} {tg : Expr} (it : Addr) (lo : Int) (n : Nat) : Turn P w K tg (Itr lo n) [it] it (fun i h => IsRangeIter h it (lo + (i : Nat) * 1) ((n : Int) - (i : Nat)) 1) where
  mem := by simp
  obj := fun i h st b hb => by
    have e : b = it := by simpa using hb
    subst e
    exact ⟨_, st, fun v z => by
      have z' : Data.fields _ = Data.cell v := z
      cases z'⟩
  keep := fun i h h' st k => k it (by simp) _ st
  item := by
    intro X hP hw hK hc i pins s σ H E I hf st hg
    subst hP hw hK
    obtain ⟨f0, f1, f2, f3, f4, f5⟩ := hf it (by simp)
    have W := Walks.range (prog := X.prog) (w := X.w) (I.ok.hd hc) it lo 1 n
    refine W.item i s _ _ hg st fun v h' tk hv st' kk => ?_
    obtain ⟨t, rfl⟩ := hv
    have I1 : Inv X pins σ H { s with heap := h', toks := tk } := I.turned (fun b o hb e => kk b o (by simpa using hb) e) f0 f1 f3 f4 f5
    refine ⟨_, rfl, go_of (s := { s with heap := h', toks := tk }) (n := "range_iterator") st' rfl rfl (by decide) ⟨.int (lo + i), H, I1, ⟨t, ?_⟩, ⟨rfl, rfl⟩, st', fun b hb => (hf b hb).1⟩⟩
    rw [Int.mul_one]
  done := by
    intro X hP hw hK hc i pins s σ H E I hf st hg
    subst hP hw hK
    obtain ⟨f0, f1, f2, f3, f4, f5⟩ := hf it (by simp)
    exact wpAny_pyNext_range_end (I.ok.hd hc) st (by have : n ≤ i := hg; omega) fun h' eb => ⟨rfl, I.turned (t' := s.toks) (fun b o hb e => eb b o hb e) f0 f1 f3 f4 f5⟩
  self := fun _ _ _ _ _ st h => wpAny_pyIter_rangeiter st h
end L2

namespace L2
open PySem PySem.Spec PyProof.Rows
section
variable {X : Cx} {tg : Expr}
def iList (K : PySem.W.Frag) (tl : TE) : TI := fun σ H R => tl σ H fun x H1 => ∃ a, x = .ref a ∧ (∃ xs, SqL K H1 a xs) ∧ R (Itl K a) H1
def iTup (K : PySem.W.Frag) (tl : TE) : TI := fun σ H R => tl σ H fun x H1 => ∃ a, x = .ref a ∧ (∃ xs, SqT K H1 a xs) ∧ R (Itt K a) H1
theorem pi_list {l : Expr} {tl : TE} (hl : PE X l tl) : PI X tg l (iList X.K tl) := by
  intro pins s σ H R I h
  refine thn (hl pins s σ H _ I h) fun v s1 ⟨x, H1, I1, r1, q1⟩ => ?_
  obtain ⟨a, e, ⟨xs, hq⟩, q⟩ := q1
  subst e
  cases r1
  obtain ⟨its, rv, p, hz⟩ := I1.list hq
  refine wpAny_pyIter_list p.isList ?_
  refine ⟨s1.heap.objs.size, [s1.heap.objs.size], _, _, H1, rfl, I1.kept (t' := s1.toks) fun b o e => Heap.get?_push_of_some _ e, turn_list a _, ⟨_, Heap.get?_push_size _ rfl, rfl, rfl⟩, fun b hb => ?_, q⟩
  have e : b = s1.heap.objs.size := by simpa using hb
  subst e
  exact I1.fpOk (Nat.le_refl _) (I1.hok.fresh (Nat.le_refl _))
theorem pi_tup {l : Expr} {tl : TE} (hl : PE X l tl) : PI X tg l (iTup X.K tl) := by
  intro pins s σ H R I h
  refine thn (hl pins s σ H _ I h) fun v s1 ⟨x, H1, I1, r1, q1⟩ => ?_
  obtain ⟨a, e, ⟨xs, hq⟩, q⟩ := q1
  subst e
  cases r1
  obtain ⟨its, rv, p, hz⟩ := I1.tuple hq
  refine wpAny_pyIter_tuple (show s1.heap.IsTuple a its.toArray from p) ?_
  refine ⟨s1.heap.objs.size, [s1.heap.objs.size], _, _, H1, rfl, I1.kept (t' := s1.toks) fun b o e => Heap.get?_push_of_some _ e, turn_tuple a _, ⟨_, Heap.get?_push_size _ rfl, rfl, rfl⟩, fun b hb => ?_, q⟩
  have e : b = s1.heap.objs.size := by simpa using hb
  subst e
  exact I1.fpOk (Nat.le_refl _) (I1.hok.fresh (Nat.le_refl _))
/-- a range object just made, walked -/
theorem range_it {pins : List (Addr × Obj)} {σ : St} {H : Hp} {s : Shared} {R : It → Hp → Prop} {E : Value → Shared → Prop} {lo hi : Int} {t u v : Tok} {tk : Nat} (I : Inv X pins σ H s) (h1 : -(2 ^ 62) ≤ lo) (h2 : lo < 2 ^ 62) (h3 : -(2 ^ 62) ≤ hi) (h4 : hi < 2 ^ 62)
    (q : R (Itr lo (hi - lo).toNat) H) : wpAny (model X.prog X.w) X.A (pyIter (.ref s.heap.objs.size)) (PIE X pins σ tg R) E { s with heap := s.heap.push { cls := .type "range", data := .fields #[.int lo t, .int hi u, .int 1 v] }, toks := tk } := by
  refine wpAny_pyIter_range (IsRange.new ..) (small_one h1 h2 h3 h4) ?_
  have I1 : Inv X pins σ H { s with heap := s.heap.push { cls := .type "range", data := .fields #[.int lo t, .int hi u, .int 1 v] }, toks := tk } := I.kept fun b o e => Heap.get?_push_of_some _ e
  refine ⟨(s.heap.push { cls := .type "range", data := .fields #[.int lo t, .int hi u, .int 1 v] }).objs.size, [(s.heap.push { cls := .type "range", data := .fields #[.int lo t, .int hi u, .int 1 v] }).objs.size], _, _, H, rfl,
    I1.kept (t' := tk) fun b o e => Heap.get?_push_of_some _ e, turn_range _ lo (hi - lo).toNat, ?_, fun b hb => ?_, q⟩
  · have e1 : lo + ((0 : Nat) : Int) * 1 = lo := by simp
    have e2 : (((hi - lo).toNat : Nat) : Int) - ((0 : Nat) : Int) = Builtin.Range.rangeSize lo hi 1 := by rw [rangeSize_one]; split <;> omega
    show IsRangeIter _ _ (lo + ((0 : Nat) : Int) * 1) ((((hi - lo).toNat : Nat) : Int) - ((0 : Nat) : Int)) 1
    rw [e1, e2]
    exact Heap.get?_push_size _ rfl
  · have e : b = (s.heap.push { cls := .type "range", data := .fields #[.int lo t, .int hi u, .int 1 v] }).objs.size := by simpa using hb
    subst e
    exact I1.fpOk (Nat.le_refl _) (I1.hok.fresh (Nat.le_refl _))
def iRng1 (ta : TA) : TI := fun σ H R => ta σ H fun vs H1 => ∃ j : Int, vs = [.int j] ∧ -(2 ^ 62) ≤ j ∧ j < 2 ^ 62 ∧ R (Itr 0 j.toNat) H1
theorem pi_range1 {a : Expr} {ta : TA} {p pos : Pos} (hg : Gl X "range") (hm : X.mg "range" = none) (ha : PA X [a] ta) (hs : starEach [a] X.env = [(false, eval a X.env)] := by rfl) : PI X tg (.Call (.Name "range" p) [a] [] pos) (iRng1 ta) := by
  intro pins s σ H R I h
  refine Call_ (ld_blt I hg hm boot_range (PyProof.Rows.callWith_type1 (thn (ha pos pins s σ H _ I h) fun us s1 ⟨vs, H1, I1, r1, q1⟩ => ?_) hs rfl))
  obtain ⟨j, e, q1, q2, q⟩ := q1
  subst e
  cases r1 with
  | cons r rr =>
    cases rr
    obtain ⟨t, rfl⟩ := r
    exact call_range_1 (range_it I1 (by omega) (by omega) q1 q2 (by simpa using q))
/-- W: the invariant by the turn and a measure; N: what the body is to reach -/
def tFor (wi : TI) (g : TG) (tb : TS) : TS := fun D σ H => wi σ H fun J H1 => ∃ W : Nat → Nat → St → Hp → Prop, (∃ m, W 0 m σ H1) ∧ ∀ i m σ H, W i m σ H →
  (J.stop i H ∧ D.nx σ H) ∨ (J.go i H ∧ ∃ N : St → Hp → Prop, (∀ σ' H', N σ' H' → ∃ m', m' < m ∧ W (i + 1) m' σ' H') ∧ ∀ x H', J.yld i H x H' → g x σ H' fun σ2 H2 => tb { D with nx := N, ct := N, bk := D.nx } σ2 H2)
/-- the records at fp as they stand -/
def pinsAt (fp : List Addr) (h : Heap) : List (Addr × Obj) := fp.filterMap fun b => (h.get? b).map fun o => (b, o)
theorem mem_pinsAt {fp : List Addr} {h : Heap} {b : Addr} {o : Obj} (hb : b ∈ fp) (e : h.get? b = some o) : (b, o) ∈ pinsAt fp h := List.mem_filterMap.mpr ⟨b, hb, by rw [e]; rfl⟩
theorem of_pinsAt {fp : List Addr} {h : Heap} {p : Addr × Obj} (hp : p ∈ pinsAt fp h) : p.1 ∈ fp ∧ h.get? p.1 = some p.2 := by
  obtain ⟨b, hb, e⟩ := List.mem_filterMap.mp hp
  cases q : h.get? b with
  | none => rw [q] at e; cases e
  | some o =>
    rw [q] at e
    have e' : (b, o) = p := Option.some.inj e
    subst e'
    exact ⟨hb, q⟩
theorem Inv.pinned {pins : List (Addr × Obj)} {σ : St} {H : Hp} {s : Shared} {fp : List Addr} (I : Inv X pins σ H s) (hf : ∀ b ∈ fp, FpOk X pins H b) (ho : ∀ b ∈ fp, ∃ o, s.heap.get? b = some o ∧ ∀ v, o.data ≠ .cell v) : Inv X (pins ++ pinsAt fp s.heap) σ H s :=
  I.pins_of fun p hp => (List.mem_append.mp hp).elim (fun z => I.pin p (List.mem_append_right _ z)) fun z => by
    obtain ⟨hb, e⟩ := of_pinsAt z
    obtain ⟨f0, f1, f2, _⟩ := hf p.1 hb
    obtain ⟨o, e', d⟩ := ho p.1 hb
    rw [e] at e'; cases e'
    exact ⟨e, f0, f1, f2, d⟩
theorem Inv.unpinned {pins pl : List (Addr × Obj)} {σ : St} {H : Hp} {s : Shared} (I : Inv X (pins ++ pl) σ H s) : Inv X pins σ H s := I.pins_of fun p hp => I.pin p (List.mem_append_right _ (List.mem_append_left _ hp))
theorem ps_for {iter : Expr} {body : List Stmt} {wi : TI} {g : TG} {tb : TS} {pos : Pos} (hp : PassesOwn (model X.prog X.w) X.A X.env X.xe) (hc : X.calm = true) (hi : PI X tg iter wi) (hg : PG X tg g) (hb : PSs X body tb)
    (hs : ∀ x, foldedSetIterable iter X.env x = pure x := by intro _; rfl) : PS X (.For tg iter body [] pos) (tFor wi g tb) := by
  intro pins s σ H D I h
  refine wpAny_For (thn (hi pins s σ H _ I h) fun v s1 h1 => thn h1 fun itv s2 h2 => ?_) hs
  obtain ⟨it, fp, tn, J, H2, e, I2, T, st2, f2, W, ⟨m0, w0⟩, turn⟩ := h2
  subst e
  -- what stays true of the iterator's objects through the loop
  have stat : ∀ {H' : Hp}, (∀ b ∈ fp, H' b = none) → ∀ b ∈ fp, FpOk X pins H' b := fun hn b hb => ⟨hn b hb, (f2 b hb).2⟩
  refine codeAny_forLoop_any (fun n s' => ∃ i σ' H', Inv X pins σ' H' s' ∧ tn i s'.heap ∧ (∀ b ∈ fp, H' b = none) ∧ W i n σ' H') ?_ m0 ⟨0, σ, H2, I2, st2, fun b hb => (f2 b hb).1, w0⟩
  rintro n s3 ⟨i, σ3, H3, I3, st3, fr3, w3⟩
  rcases turn i n σ3 H3 w3 with ⟨stop, qn⟩ | ⟨go, N, hN, step⟩
  · refine wpAny_passesOwn hp (thn (T.done X rfl rfl rfl hc i pins s3 σ3 H3 X.xe I3 (stat fr3) st3 stop) fun r s4 ⟨hr, I4⟩ => ?_)
    subst hr
    exact wpAny_execs_nil ⟨σ3, H3, I4, qn⟩
  · refine wpAny_passesOwn hp (thn (T.item X rfl rfl rfl hc i pins s3 σ3 H3 X.xe I3 (stat fr3) st3 go) fun r s4 ⟨u, hr, h4⟩ => ?_)
    subst hr
    refine wpAny_passesOwn hp (thn h4 fun _ s5 ⟨x, H5, I5, r5, y5, st5, fr5⟩ => ?_)
    have I5' := I5.pinned (stat fr5) (T.obj _ _ st5)
    refine wpAny_passesOwn hp (thn (hg _ s5 σ3 H5 x u _ I5' r5 (step x H5 y5)) fun _ s6 ⟨σ6, H6, I6, q6⟩ => ?_)
    refine wpAny_passesOwn hp (thn (hb _ s6 σ6 H6 _ I6 q6) fun f s7 q7 => ?_)
    have again : ∀ {σ7 : St} {H7 : Hp}, Inv X (pins ++ pinsAt fp s5.heap) σ7 H7 s7 → N σ7 H7 → ∃ m, m < n ∧ ∃ i σ' H', Inv X pins σ' H' s7 ∧ tn i s7.heap ∧ (∀ b ∈ fp, H' b = none) ∧ W i m σ' H' := fun {σ7 H7} I7 n7 => by
      obtain ⟨m', hm, w7⟩ := hN σ7 H7 n7
      refine ⟨m', hm, i + 1, σ7, H7, I7.unpinned, T.keep _ _ _ st5 fun b hb o e => (I7.pin (b, o) (List.mem_append_right _ (List.mem_append_right _ (mem_pinsAt hb e)))).1, fun b hb => ?_, w7⟩
      obtain ⟨o, e, d⟩ := T.obj _ _ st5 b hb
      exact (I7.pin (b, o) (List.mem_append_right _ (List.mem_append_right _ (mem_pinsAt hb e)))).2.1
    cases f with
    | next => obtain ⟨σ7, H7, I7, n7⟩ := q7; exact again I7 n7
    | cont => obtain ⟨σ7, H7, I7, n7⟩ := q7; exact again I7 n7
    | brk => obtain ⟨σ7, H7, I7, q7⟩ := q7; exact ⟨σ7, H7, I7.unpinned, q7⟩
    | ret v => obtain ⟨x7, σ7, H7, I7, r7, q7⟩ := q7; exact ⟨x7, σ7, H7, I7.unpinned, r7, q7⟩
end


/-- over a list that the body leaves as it is -/
theorem for_list {K : PySem.W.Frag} {a : Addr} {xs : List V} {g : TG} {tb : TS} {D : Ends} {σ : St} {H : Hp} (Pv : Nat → St → Hp → Prop) (h0 : Pv 0 σ H) (hl : ∀ i σ H, i ≤ xs.length → Pv i σ H → SqL K H a xs)
    (hs : ∀ i x σ H, xs[i]? = some x → Pv i σ H → g x σ H fun σ2 H2 => tb { D with nx := Pv (i + 1), ct := Pv (i + 1), bk := D.nx } σ2 H2) (hd : ∀ σ H, Pv xs.length σ H → D.nx σ H) :
    ∃ W : Nat → Nat → St → Hp → Prop, (∃ m, W 0 m σ H) ∧ ∀ i m σ H, W i m σ H →
      ((Itl K a).stop i H ∧ D.nx σ H) ∨ ((Itl K a).go i H ∧ ∃ N : St → Hp → Prop, (∀ σ' H', N σ' H' → ∃ m', m' < m ∧ W (i + 1) m' σ' H') ∧ ∀ x H', (Itl K a).yld i H x H' → g x σ H' fun σ2 H2 => tb { D with nx := N, ct := N, bk := D.nx } σ2 H2) := by
  refine ⟨fun i m σ H => m = xs.length - i ∧ i ≤ xs.length ∧ Pv i σ H, ⟨xs.length, by simp, Nat.zero_le _, h0⟩, ?_⟩
  rintro i m σ H ⟨rfl, hi, p⟩
  have q := hl i σ H hi p
  by_cases hlt : i < xs.length
  · refine .inr ⟨⟨xs, xs[i], q, by simp [hlt]⟩, Pv (i + 1), fun σ' H' p' => ⟨xs.length - (i + 1), by omega, rfl, hlt, p'⟩, fun x H' y => ?_⟩
    obtain ⟨e, y⟩ := y
    subst e
    exact hs i x σ _ (y xs q) p
  · have e : i = xs.length := by omega
    subst e
    exact .inl ⟨⟨xs, q, Nat.le_refl _⟩, hd σ H p⟩
theorem for_tup {K : PySem.W.Frag} {a : Addr} {xs : List V} {g : TG} {tb : TS} {D : Ends} {σ : St} {H : Hp} (Pv : Nat → St → Hp → Prop) (h0 : Pv 0 σ H) (hl : ∀ i σ H, i ≤ xs.length → Pv i σ H → SqT K H a xs)
    (hs : ∀ i x σ H, xs[i]? = some x → Pv i σ H → g x σ H fun σ2 H2 => tb { D with nx := Pv (i + 1), ct := Pv (i + 1), bk := D.nx } σ2 H2) (hd : ∀ σ H, Pv xs.length σ H → D.nx σ H) :
    ∃ W : Nat → Nat → St → Hp → Prop, (∃ m, W 0 m σ H) ∧ ∀ i m σ H, W i m σ H →
      ((Itt K a).stop i H ∧ D.nx σ H) ∨ ((Itt K a).go i H ∧ ∃ N : St → Hp → Prop, (∀ σ' H', N σ' H' → ∃ m', m' < m ∧ W (i + 1) m' σ' H') ∧ ∀ x H', (Itt K a).yld i H x H' → g x σ H' fun σ2 H2 => tb { D with nx := N, ct := N, bk := D.nx } σ2 H2) := by
  refine ⟨fun i m σ H => m = xs.length - i ∧ i ≤ xs.length ∧ Pv i σ H, ⟨xs.length, by simp, Nat.zero_le _, h0⟩, ?_⟩
  rintro i m σ H ⟨rfl, hi, p⟩
  have q := hl i σ H hi p
  by_cases hlt : i < xs.length
  · refine .inr ⟨⟨xs, xs[i], q, by simp [hlt]⟩, Pv (i + 1), fun σ' H' p' => ⟨xs.length - (i + 1), by omega, rfl, hlt, p'⟩, fun x H' y => ?_⟩
    obtain ⟨e, y⟩ := y
    subst e
    exact hs i x σ _ (y xs q) p
  · have e : i = xs.length := by omega
    subst e
    exact .inl ⟨⟨xs, q, Nat.le_refl _⟩, hd σ H p⟩
theorem for_range {lo : Int} {n : Nat} {g : TG} {tb : TS} {D : Ends} {σ : St} {H : Hp} (Pv : Nat → St → Hp → Prop) (h0 : Pv 0 σ H)
    (hs : ∀ i σ H, i < n → Pv i σ H → g (.int (lo + i)) σ H fun σ2 H2 => tb { D with nx := Pv (i + 1), ct := Pv (i + 1), bk := D.nx } σ2 H2) (hd : ∀ σ H, Pv n σ H → D.nx σ H) :
    ∃ W : Nat → Nat → St → Hp → Prop, (∃ m, W 0 m σ H) ∧ ∀ i m σ H, W i m σ H →
      ((Itr lo n).stop i H ∧ D.nx σ H) ∨ ((Itr lo n).go i H ∧ ∃ N : St → Hp → Prop, (∀ σ' H', N σ' H' → ∃ m', m' < m ∧ W (i + 1) m' σ' H') ∧ ∀ x H', (Itr lo n).yld i H x H' → g x σ H' fun σ2 H2 => tb { D with nx := N, ct := N, bk := D.nx } σ2 H2) := by
  refine ⟨fun i m σ H => m = n - i ∧ i ≤ n ∧ Pv i σ H, ⟨n, by simp, Nat.zero_le _, h0⟩, ?_⟩
  rintro i m σ H ⟨rfl, hi, p⟩
  by_cases hlt : i < n
  · refine .inr ⟨hlt, Pv (i + 1), fun σ' H' p' => ⟨n - (i + 1), by omega, rfl, hlt, p'⟩, fun x H' y => ?_⟩
    obtain ⟨e, y⟩ := y
    subst e y
    exact hs i σ _ hlt p
  · have e : i = n := by omega
    subst e
    exact .inl ⟨Nat.le_refl _, hd σ H p⟩
end L2

namespace L2
open PySem PySem.Spec PyProof.Rows

abbrev R2 := V → V → Hp → VK → Prop
/-- a two-place operation on values: f is binaryOp op, inplaceOp op or compareOp op -/
def OpR (X : Cx) (f : Value → Value → Sem Value) (r : R2) : Prop :=
  ∀ (pins : List (Addr × Obj)) (s : Shared) (σ : St) (H : Hp) (x y : V) (v u : Value) (Q : VK), Inv X pins σ H s → RelV x v → RelV y u → r x y H Q →
    wpAny (model X.prog X.w) X.A (f v u) (EP X pins σ Q) X.xe s
/-- a one-place operation -/
def UnR (X : Cx) (f : Value → Sem Value) (r : V → Hp → VK → Prop) : Prop :=
  ∀ (pins : List (Addr × Obj)) (s : Shared) (σ : St) (H : Hp) (x : V) (v : Value) (Q : VK), Inv X pins σ H s → RelV x v → r x H Q →
    wpAny (model X.prog X.w) X.A (f v) (EP X pins σ Q) X.xe s
/-- a call of a value that is known (a builtin, a type) with values -/
def CallR (X : Cx) (f : Value) (r : List V → Hp → VK → Prop) : Prop :=
  ∀ (pins : List (Addr × Obj)) (s : Shared) (σ : St) (H : Hp) (xs : List V) (us : List Value) (Q : VK), Inv X pins σ H s → Vals xs us → r xs H Q →
    wpAny (model X.prog X.w) X.A (call f us) (EP X pins σ Q) X.xe s
def tOp (r : R2) (ta tb : TE) : TE := fun σ H Q => ta σ H fun x H1 => tb σ H1 fun y H2 => r x y H2 Q
def tUn (r : V → Hp → VK → Prop) (ta : TE) : TE := fun σ H Q => ta σ H fun x H1 => r x H1 Q
/-- ints in, under C, and a value out -/
def rI (C : Int → Int → Prop) (g : Int → Int → V) : R2 := fun x y H Q => ∃ i j, x = .int i ∧ y = .int j ∧ C i j ∧ Q (g i j) H
def rI0 (g : Int → Int → V) : R2 := fun x y H Q => ∃ i j, x = .int i ∧ y = .int j ∧ Q (g i j) H
def rU (g : Int → V) : V → Hp → VK → Prop := fun x H Q => ∃ i, x = .int i ∧ Q (g i) H

section
variable {X : Cx} {a b c : Expr} {ta tb tc : TE} {pos : Pos}

theorem binT (ha : PE X a ta) (hb : PE X b tb) {pins : List (Addr × Obj)} {s : Shared} {σ : St} {H : Hp} {R : V → V → Hp → Prop} (I : Inv X pins σ H s)
    (h : ta σ H fun x H1 => tb σ H1 fun y H2 => R x y H2) {Q : Value → Shared → Prop} {f : Value → Value → Sem Value}
    (hf : ∀ v u s2 x y H2, Inv X pins σ H2 s2 → RelV x v → RelV y u → R x y H2 → wpAny (model X.prog X.w) X.A (f v u) Q X.xe s2) :
    wpAny (model X.prog X.w) X.A (eval a X.env) (fun v s₁ => wpAny (model X.prog X.w) X.A (eval b X.env) (fun u s₂ => wpAny (model X.prog X.w) X.A (f v u) Q X.xe s₂) X.xe s₁) X.xe s := by
  refine thn (ha pins s σ H _ I h) fun v s1 ⟨x, H1, I1, r1, q1⟩ => ?_
  refine thn (hb pins s1 σ H1 _ I1 q1) fun u s2 ⟨y, H2, I2, r2, q2⟩ => ?_
  exact hf v u s2 x y H2 I2 r1 r2 q2

theorem pe_op {op : Operator} {r : R2} (ho : OpR X (binaryOp op) r) (ha : PE X a ta) (hb : PE X b tb) : PE X (.BinOp a op b pos) (tOp r ta tb) := by
  intro pins s σ H Q I h
  exact wpAny_BinOp (binT ha hb I h fun v u s2 x y H2 I2 rx ry q => ho pins s2 σ H2 x y v u Q I2 rx ry q)
theorem pe_un {op : UnaryOp} {r : V → Hp → VK → Prop} (ho : UnR X (unaryOp op) r) (ha : PE X a ta) : PE X (.UnaryOp op a pos) (tUn r ta) := by
  intro pins s σ H Q I h
  exact UnaryOp_ (thn (ha pins s σ H _ I h) fun v s1 ⟨x, H1, I1, r1, q1⟩ => ho pins s1 σ H1 x v Q I1 r1 q1)
theorem opI {f : Value → Value → Sem Value} {C : Int → Int → Prop} {g : Int → Int → Int}
    (rule : ∀ (i j : Int) (t u : Tok) (s : Shared) (Q : Value → Shared → Prop) (E : Value → Shared → Prop), C i j → Q (.int (g i j) s.toks) { s with toks := s.toks + 1 } → wpAny (model X.prog X.w) X.A (f (.int i t) (.int j u)) Q E s) :
    OpR X f (rI C fun i j => .int (g i j)) := by
  intro pins s σ H x y v u Q I rx ry h
  obtain ⟨i, j, rfl, rfl, hc, q⟩ := h
  obtain ⟨t, rfl⟩ := rx
  obtain ⟨t', rfl⟩ := ry
  exact rule i j t t' s _ _ hc ⟨.int (g i j), H, I.tok _, ⟨_, rfl⟩, q⟩
theorem opI0 {f : Value → Value → Sem Value} {g : Int → Int → Int}
    (rule : ∀ (i j : Int) (t u : Tok) (s : Shared) (Q : Value → Shared → Prop) (E : Value → Shared → Prop), Q (.int (g i j) s.toks) { s with toks := s.toks + 1 } → wpAny (model X.prog X.w) X.A (f (.int i t) (.int j u)) Q E s) :
    OpR X f (rI0 fun i j => .int (g i j)) := by
  intro pins s σ H x y v u Q I rx ry h
  obtain ⟨i, j, rfl, rfl, q⟩ := h
  obtain ⟨t, rfl⟩ := rx
  obtain ⟨t', rfl⟩ := ry
  exact rule i j t t' s _ _ ⟨.int (g i j), H, I.tok _, ⟨_, rfl⟩, q⟩
theorem opB0 {f : Value → Value → Sem Value} {g : Int → Int → Bool}
    (rule : ∀ (i j : Int) (t u : Tok) (s : Shared) (Q : Value → Shared → Prop) (E : Value → Shared → Prop), Q (.bool (g i j)) s → wpAny (model X.prog X.w) X.A (f (.int i t) (.int j u)) Q E s) :
    OpR X f (rI0 fun i j => .bl (g i j)) := by
  intro pins s σ H x y v u Q I rx ry h
  obtain ⟨i, j, rfl, rfl, q⟩ := h
  obtain ⟨t, rfl⟩ := rx
  obtain ⟨t', rfl⟩ := ry
  exact rule i j t t' s _ _ ⟨.bl (g i j), H, I, rfl, q⟩

def CDiv (i j : Int) : Prop := 0 < j ∧ j < 1073741824
def CMul (i j : Int) : Prop := (-(2 ^ 64) < i ∧ i < 2 ^ 64) ∨ (-(2 ^ 64) < j ∧ j < 2 ^ 64)
theorem CMul.ok {i j : Int} (h : CMul i j) : IntMulOk i j := by
  rcases h with ⟨h1, h2⟩ | ⟨h1, h2⟩
  · exact .of_left (intBits_le_64 h1 h2)
  · exact .of_right (intBits_le_64 h1 h2)
theorem op_add : OpR X (binaryOp .Add) (rI0 fun i j => .int (i + j)) := opI0 fun _ _ _ _ _ _ _ q => add_int q
theorem op_sub : OpR X (binaryOp .Sub) (rI0 fun i j => .int (i - j)) := opI0 fun _ _ _ _ _ _ _ q => sub_int q
theorem op_mul : OpR X (binaryOp .Mult) (rI CMul fun i j => .int (i * j)) := opI fun _ _ _ _ _ _ _ hc q => mul_int q hc.ok
/-- // by a positive divisor -/
theorem op_fdiv : OpR X (binaryOp .FloorDiv) (rI CDiv fun i j => .int (i / j)) := opI fun i j _ _ _ _ _ hc q => by
  have h1 : (0 : Int) < j := hc.1
  have h2 : j < 1073741824 := hc.2
  exact floordiv_int (by omega) (by rw [Int.fdiv_eq_ediv_of_nonneg i (by omega)]; exact q) (.inl (PyProof.noPylong_small (by omega)))
/-- % by a positive divisor of any size -/
theorem op_mod : OpR X (binaryOp .Mod) (rI (fun _ j => 0 < j) fun i j => .int (i % j)) := opI fun i j _ _ _ _ _ hc q => by
  have h1 : (0 : Int) < j := hc
  exact mod_int' (by omega) (by rw [Int.fmod_eq_emod_of_nonneg i (by omega)]; exact q)
theorem unI {f : Value → Sem Value} {g : Int → Int}
    (rule : ∀ (i : Int) (t : Tok) (s : Shared) (Q : Value → Shared → Prop) (E : Value → Shared → Prop), Q (.int (g i) s.toks) { s with toks := s.toks + 1 } → wpAny (model X.prog X.w) X.A (f (.int i t)) Q E s) :
    UnR X f (rU fun i => .int (g i)) := by
  intro pins s σ H x v Q I rx h
  obtain ⟨i, rfl, q⟩ := h
  obtain ⟨t, rfl⟩ := rx
  exact rule i t s _ _ ⟨.int (g i), H, I.tok _, ⟨_, rfl⟩, q⟩
theorem un_neg : UnR X (unaryOp .USub) (rU fun i => .int (-i)) := unI fun _ _ _ _ _ q => neg_int q
end


/-- the scalars that == tells apart as data does -/
def scal : V → V → Bool
  | .non, .non => true | .non, .int _ => true | .int _, .non => true | .non, .bl _ => true | .bl _, .non => true | .non, .str _ => true | .str _, .non => true
  | .int _, .int _ => true | .bl _, .bl _ => true | .str _, .str _ => true | .byt _, .byt _ => true
  | .int _, .str _ => true | .str _, .int _ => true | .bl _, .str _ => true | .str _, .bl _ => true
  | _, _ => false
def rEq : R2 := fun x y H Q => scal x y = true ∧ Q (.bl (decide (x = y))) H
def rNe : R2 := fun x y H Q => scal x y = true ∧ Q (.bl (!decide (x = y))) H

theorem dec_int {i j : Int} : decide (V.int i = V.int j) = (i == j) := by
  rw [Bool.eq_iff_iff]
  simp
theorem dec_bl {i j : Bool} : decide (V.bl i = V.bl j) = (i == j) := by
  rw [Bool.eq_iff_iff]
  simp
theorem dec_str {i j : Str} : decide (V.str i = V.str j) = (i == j) := by
  rw [Bool.eq_iff_iff]
  simp
theorem dec_byt {i j : Array UInt8} : decide (V.byt i = V.byt j) = (i.toList == j.toList) := by
  rw [Bool.eq_iff_iff]
  cases i
  cases j
  simp

section
variable {X : Cx} {a b c : Expr} {ta tb tc : TE} {pos : Pos}
theorem fin_bl {pins : List (Addr × Obj)} {σ : St} {H : Hp} {s : Shared} {Q : VK} {k k' : Bool} (I : Inv X pins σ H s) (q : Q (.bl k) H) (e : k = k') : EP X pins σ Q (.bool k') s := by
  subst e
  exact ⟨.bl k, H, I, rfl, q⟩
theorem op_eq : OpR X (compareOp .Eq) rEq := by
  intro pins s σ H x y v u Q I rx ry h
  obtain ⟨hs, q⟩ := h
  cases x with
  | non =>
    cases rx
    cases y with
    | non => cases ry; exact PySem.EqNone.eq_none_none (fin_bl I q (by simp))
    | bl j => cases ry; exact PySem.EqNone.eq_none_bool (fin_bl I q (by simp))
    | int j => obtain ⟨t', rfl⟩ := ry; exact PySem.EqNone.eq_none_int (fin_bl I q (by simp))
    | str j => obtain ⟨t', rfl⟩ := ry; exact PySem.EqNone.eq_none_str (fin_bl I q (by simp))
    | _ => exact absurd (show false = true from hs) Bool.false_ne_true
  | bl i =>
    cases rx
    cases y with
    | non => cases ry; exact PySem.EqNone.eq_bool_none (fin_bl I q (by simp))
    | bl j => cases ry; exact eq_bool (fin_bl I q dec_bl)
    | str j => obtain ⟨t', rfl⟩ := ry; exact PySem.EqMixed.eq_bool_str (fin_bl I q (by simp))
    | _ => exact absurd (show false = true from hs) Bool.false_ne_true
  | int i =>
    obtain ⟨t, rfl⟩ := rx
    cases y with
    | non => cases ry; exact PySem.EqNone.eq_int_none (fin_bl I q (by simp))
    | int j => obtain ⟨t', rfl⟩ := ry; exact eq_int (fin_bl I q dec_int)
    | str j => obtain ⟨t', rfl⟩ := ry; exact PySem.EqMixed.eq_int_str (fin_bl I q (by simp))
    | _ => exact absurd (show false = true from hs) Bool.false_ne_true
  | str i =>
    obtain ⟨t, rfl⟩ := rx
    cases y with
    | non => cases ry; exact PySem.EqNone.eq_str_none (fin_bl I q (by simp))
    | bl j => cases ry; exact PySem.EqMixed.eq_str_bool (fin_bl I q (by simp))
    | int j => obtain ⟨t', rfl⟩ := ry; exact PySem.EqMixed.eq_str_int (fin_bl I q (by simp))
    | str j => obtain ⟨t', rfl⟩ := ry; exact eq_str (fin_bl I q dec_str)
    | _ => exact absurd (show false = true from hs) Bool.false_ne_true
  | byt i =>
    obtain ⟨t, rfl⟩ := rx
    cases y with
    | byt j => obtain ⟨t', rfl⟩ := ry; exact PySem.W.eq_bytes (fin_bl I q dec_byt)
    | _ => exact absurd (show false = true from hs) Bool.false_ne_true
  | _ => cases y <;> exact absurd (show false = true from hs) Bool.false_ne_true
theorem op_ne : OpR X (compareOp .NotEq) rNe := by
  intro pins s σ H x y v u Q I rx ry h
  obtain ⟨hs, q⟩ := h
  cases x with
  | non =>
    cases rx
    cases y with
    | non => cases ry; exact PySem.EqNone.ne_none_none (fin_bl I q (by simp))
    | bl j => cases ry; exact PySem.EqNone.ne_none_bool (fin_bl I q (by simp))
    | int j => obtain ⟨t', rfl⟩ := ry; exact PySem.EqNone.ne_none_int (fin_bl I q (by simp))
    | str j => obtain ⟨t', rfl⟩ := ry; exact PySem.EqNone.ne_none_str (fin_bl I q (by simp))
    | _ => exact absurd (show false = true from hs) Bool.false_ne_true
  | bl i =>
    cases rx
    cases y with
    | non => cases ry; exact PySem.EqNone.ne_bool_none (fin_bl I q (by simp))
    | bl j => cases ry; exact ne_bool (fin_bl I q (congrArg not dec_bl))
    | str j => obtain ⟨t', rfl⟩ := ry; exact PySem.EqMixed.ne_bool_str (fin_bl I q (by simp))
    | _ => exact absurd (show false = true from hs) Bool.false_ne_true
  | int i =>
    obtain ⟨t, rfl⟩ := rx
    cases y with
    | non => cases ry; exact PySem.EqNone.ne_int_none (fin_bl I q (by simp))
    | int j => obtain ⟨t', rfl⟩ := ry; exact ne_int (fin_bl I q (congrArg not dec_int))
    | str j => obtain ⟨t', rfl⟩ := ry; exact PySem.EqMixed.ne_int_str (fin_bl I q (by simp))
    | _ => exact absurd (show false = true from hs) Bool.false_ne_true
  | str i =>
    obtain ⟨t, rfl⟩ := rx
    cases y with
    | non => cases ry; exact PySem.EqNone.ne_str_none (fin_bl I q (by simp))
    | bl j => cases ry; exact PySem.EqMixed.ne_str_bool (fin_bl I q (by simp))
    | int j => obtain ⟨t', rfl⟩ := ry; exact PySem.EqMixed.ne_str_int (fin_bl I q (by simp))
    | str j => obtain ⟨t', rfl⟩ := ry; exact ne_str (fin_bl I q (congrArg not dec_str))
    | _ => exact absurd (show false = true from hs) Bool.false_ne_true
  | byt i =>
    obtain ⟨t, rfl⟩ := rx
    cases y with
    | byt j => obtain ⟨t', rfl⟩ := ry; exact PySem.W.ne_bytes (fin_bl I q (congrArg not dec_byt))
    | _ => exact absurd (show false = true from hs) Bool.false_ne_true
  | _ => cases y <;> exact absurd (show false = true from hs) Bool.false_ne_true

theorem op_lt : OpR X (compareOp .Lt) (rI0 fun i j => .bl (decide (i < j))) := opB0 fun _ _ _ _ _ _ _ q => lt_int q
theorem op_le : OpR X (compareOp .LtE) (rI0 fun i j => .bl (decide (i ≤ j))) := opB0 fun _ _ _ _ _ _ _ q => le_int q
theorem op_gt : OpR X (compareOp .Gt) (rI0 fun i j => .bl (decide (j < i))) := opB0 fun _ _ _ _ _ _ _ q => gt_int q
/-- two rules for one operation: by cases -/
theorem OpR.or {f : Value → Value → Sem Value} {r r' : R2} (h : OpR X f r) (h' : OpR X f r') : OpR X f (fun x y H Q => r x y H Q ∨ r' x y H Q) := by
  intro pins s σ H x y v u Q I rx ry q
  rcases q with q | q
  · exact h pins s σ H x y v u Q I rx ry q
  · exact h' pins s σ H x y v u Q I rx ry q

theorem nomark (b : Expr) {op : CmpOp} (h : op ≠ .In := by decide) (h2 : op ≠ .NotIn := by decide) : behindInMarks op b = false := by
  have e1 : (op == CmpOp.In) = false := by cases op <;> first | rfl | exact absurd rfl h
  have e2 : (op == CmpOp.NotIn) = false := by cases op <;> first | rfl | exact absurd rfl h2
  cases b <;> simp [behindInMarks, e1, e2]
/-- a comparison as a value; hm: nomark b, or (for in, not in) by with_unfolding_all rfl -/
theorem pe_cmpR {op : CmpOp} {r : R2} (ho : OpR X (compareOp op) r) (ha : PE X a ta) (hb : PE X b tb) (hm : behindInMarks op b = false) : PE X (.Compare a [op] [b] pos) (tOp r ta tb) := by
  intro pins s σ H Q I h
  exact wpAny_Compare1 (binT ha hb I h fun v u s2 x y H2 I2 rx ry q => ho pins s2 σ H2 x y v u Q I2 rx ry q) hm
/-- a reading of a value as a test -/
def tTest (t : TE) : TT := fun σ H Q => t σ H fun x H' => ∃ k, x = .bl k ∧ Q k H'
theorem pt_cmpR {op : CmpOp} {r : R2} (ho : OpR X (compareOp op) r) (ha : PE X a ta) (hb : PE X b tb) (hm : behindInMarks op b = false) : PT X (.Compare a [op] [b] pos) (tTest (tOp r ta tb)) := by
  intro pins s σ H Q I h
  refine wpAny_isTrue_Compare1 (thn (ha pins s σ H _ I h) fun v s1 ⟨x, H1, I1, r1, q1⟩ => thn (hb pins s1 σ H1 _ I1 q1) fun u s2 ⟨y, H2, I2, r2, q2⟩ =>
    thn (ho pins s2 σ H2 x y v u _ I2 r1 r2 q2) fun c s3 ⟨z, H3, I3, r3, k, e, q3⟩ => ?_) hm
  subst e
  cases r3
  exact wpAny_truthy_bool ⟨H3, I3, q3⟩
/-- a op1 b op2 c -/
def tChain (r r' : R2) (ta tb tc : TE) : TE := fun σ H Q => ta σ H fun x H1 => tb σ H1 fun y H2 => r x y H2 fun z H3 => ∃ k, z = .bl k ∧
  (if k = true then tc σ H3 fun w' H4 => r' y w' H4 Q else Q (.bl false) H3)
theorem pe_chain {op op' : CmpOp} {r r' : R2} (ho : OpR X (compareOp op) r) (ho' : OpR X (compareOp op') r') (ha : PE X a ta) (hb : PE X b tb) (hc : PE X c tc)
    (hm : lastMarks [op, op'] [b, c] = false := by with_unfolding_all rfl) : PE X (.Compare a [op, op'] [b, c] pos) (tChain r r' ta tb tc) := by
  intro pins s σ H Q I h
  refine Compare_chain (thn (ha pins s σ H _ I h) fun v s1 ⟨x, H1, I1, r1, q1⟩ => chain_link (thn (hb pins s1 σ H1 _ I1 q1) fun u s2 ⟨y, H2, I2, r2, q2⟩ =>
    thn (ho pins s2 σ H2 x y v u _ I2 r1 r2 q2) fun d s3 ⟨z, H3, I3, r3, k, e, q3⟩ => ?_)) hm
  subst e
  cases r3
  refine wpAny_truthy_bool ?_
  cases k with
  | false => exact ite_ff ⟨.bl false, H3, I3, rfl, q3⟩
  | true => exact ite_tt (chain_last (thn (hc pins s3 σ H3 _ I3 q3) fun w' s4 ⟨z', H4, I4, r4, q4⟩ => ho' pins s4 σ H4 y z' u w' Q I4 r2 r4 q4))
theorem pt_chain {op op' : CmpOp} {r r' : R2} (ho : OpR X (compareOp op) r) (ho' : OpR X (compareOp op') r') (ha : PE X a ta) (hb : PE X b tb) (hc : PE X c tc)
    (hm : lastMarks [op, op'] [b, c] = false := by with_unfolding_all rfl) : PT X (.Compare a [op, op'] [b, c] pos) (tTest (tChain r r' ta tb tc)) := by
  intro pins s σ H Q I h
  refine isTrue_chain (thn (ha pins s σ H _ I h) fun v s1 ⟨x, H1, I1, r1, q1⟩ => test_link (thn (hb pins s1 σ H1 _ I1 q1) fun u s2 ⟨y, H2, I2, r2, q2⟩ =>
    thn (ho pins s2 σ H2 x y v u _ I2 r1 r2 q2) fun d s3 ⟨z, H3, I3, r3, k, e, q3⟩ => ?_)) hm
  subst e
  cases r3
  refine wpAny_truthy_bool ?_
  cases k with
  | false =>
    obtain ⟨k', e', q'⟩ := q3
    cases e'
    exact ite_ff ⟨H3, I3, q'⟩
  | true =>
    refine ite_tt (test_last (thn (hc pins s3 σ H3 _ I3 q3) fun w' s4 ⟨z', H4, I4, r4, q4⟩ => thn (ho' pins s4 σ H4 y z' u w' _ I4 r2 r4 q4) fun d' s5 ⟨z2, H5, I5, r5, k2, e2, q5⟩ => ?_))
    subst e2
    cases r5
    exact wpAny_truthy_bool ⟨H5, I5, q5⟩


theorem line63 : (sizeLine : Nat) < 2 ^ 63 := by rw [sizeLine_eq]; decide
theorem vals1 {x : V} {us : List Value} (r : Vals [x] us) : ∃ u, us = [u] ∧ RelV x u := by
  cases r with
  | cons r1 r2 => cases r2; exact ⟨_, rfl, r1⟩
theorem vals2 {x y : V} {us : List Value} (r : Vals [x, y] us) : ∃ u w', us = [u, w'] ∧ RelV x u ∧ RelV y w' := by
  cases r with
  | cons r1 r2 =>
    cases r2 with
    | cons r3 r4 => cases r4; exact ⟨_, _, rfl, r1, r3⟩
theorem call_abs : CallR X (.builtin "abs") (fun xs H Q => ∃ i, xs = [.int i] ∧ Q (.int (if i < 0 then -i else i)) H) := by
  intro pins s σ H xs us Q I r h
  obtain ⟨i, rfl, q⟩ := h
  obtain ⟨u, rfl, t, rfl⟩ := vals1 r
  exact call_abs_int fun u tk => ⟨.int (if i < 0 then -i else i), H, I.tok _, ⟨_, rfl⟩, q⟩
theorem call_max2 (hc : X.calm = true) : CallR X (.builtin "max") (fun xs H Q => ∃ i j, xs = [.int i, .int j] ∧ Q (.int (if j > i then j else i)) H) := by
  intro pins s σ H xs us Q I r h
  obtain ⟨i, j, rfl, q⟩ := h
  obtain ⟨u, w', rfl, ⟨t, rfl⟩, ⟨t', rfl⟩⟩ := vals2 r
  refine max_two_ints (I.ok.hd hc) fun h' tk k => ⟨_, H, I.kept k, ?_, q⟩
  by_cases hj : j > i
  · rw [if_pos hj, if_pos hj]; exact ⟨_, rfl⟩
  · rw [if_neg hj, if_neg hj]; exact ⟨_, rfl⟩
theorem call_min2 (hc : X.calm = true) : CallR X (.builtin "min") (fun xs H Q => ∃ i j, xs = [.int i, .int j] ∧ Q (.int (if j < i then j else i)) H) := by
  intro pins s σ H xs us Q I r h
  obtain ⟨i, j, rfl, q⟩ := h
  obtain ⟨u, w', rfl, ⟨t, rfl⟩, ⟨t', rfl⟩⟩ := vals2 r
  refine min_two_ints (I.ok.hd hc) fun h' tk k => ⟨_, H, I.kept k, ?_, q⟩
  by_cases hj : j < i
  · rw [if_pos hj, if_pos hj]; exact ⟨_, rfl⟩
  · rw [if_neg hj, if_neg hj]; exact ⟨_, rfl⟩
end
end L2

namespace L2
open PySem PySem.Spec PyProof.Rows


structure ObjM (h : Heap) (x dx C : Addr) (mA : Str → Option Value) : Prop where
  obj : h.get? x = some (PySem.W.instObj C dx)
  ns : h.Ns1 dx mA
  ne : dx ≠ x

theorem lookIn_ns {h : Heap} {dx : Addr} {mA : Str → Option Value} (n : h.Ns1 dx mA) : ∃ od, h.get? dx = some od ∧ ∀ name, PySem.W.lookIn name od = some (mA name) := by
  obtain ⟨o, es, ep, ho, hd, hk, _, hm⟩ := n
  refine ⟨o, ho, fun name => ?_⟩
  have e := hm name
  unfold nsFind findBy at e
  rw [← Array.find?_toList] at e
  unfold PySem.W.lookIn
  rw [hd]
  dsimp only
  split
  · rename_i y q
    rw [q] at e
    exact congrArg some e
  · rename_i q
    rw [q] at e
    have a : es.toList.any (·.refKey) = false := by
      rw [List.any_eq_false]
      intro y hy
      obtain ⟨z, t, hkey⟩ := hk y (Array.mem_toList_iff.mp hy)
      simp [DictEntry.refKey, hkey]
    have a' : ¬ es.toList.any (·.refKey) = true := by rw [a]; exact Bool.false_ne_true
    rw [if_neg a']
    exact congrArg some e

theorem ObjM.look {h : Heap} {x dx C : Addr} {mA : Str → Option Value} (I : ObjM h x dx C mA) : ∃ od, PySem.W.InstAt h x (PySem.W.instObj C dx) C (some od) ∧ ∀ name, PySem.W.lookIn name od = some (mA name) :=
  let ⟨od, ho, hl⟩ := lookIn_ns I.ns
  ⟨od, ⟨I.obj, rfl, rfl, ho⟩, hl⟩

section
variable {prog : Program} {w : World} {A : Around} {E : Value → Shared → Prop} {s : Shared} {K : PySem.W.Frag} {x dx C f : Addr} {mA : Str → Option Value} {name : Str} {v : Value}

theorem get_map {expr : Bool} {Q : Value → Shared → Prop} (X : K.In s.heap) (I : ObjM s.heap x dx C mA) (hg : PySem.W.plainGet K C name = true) (hh : PySem.W.hasDictIn K C = true)
    (ha : PySem.W.findIn K (.ref C) name = some none) (hv : mA name = some v) (hv' : PySem.W.handedIn v = true) (h : Q v { s with toks := s.toks + 1 }) :
    wpAny (model prog w) A (getAttr (.ref x) name expr) Q E s := by
  obtain ⟨od, J, hl⟩ := I.look
  exact PySem.W.get_value X J (PySem.W.plainGet_of hg).1 (PySem.W.findObj_own hh ha rfl (by rw [hl, hv])) hv' h

theorem get_meth {pl : Sem Bool} {Q : Value × List Value → Shared → Prop} (X : K.In s.heap) (I : ObjM s.heap x dx C mA) (hg : PySem.W.plainGet K C name = true)
    (hf : PySem.W.findIn K (.ref C) name = some (some (.ref f))) (ht : PySem.W.isFn K (.ref f) = true) (hv : mA name = none) (h : Q (.ref f, [.ref x]) s) :
    wpAny (model prog w) A (getMethod (.ref x) name pl) Q E s := by
  obtain ⟨od, J, hl⟩ := I.look
  exact PySem.W.method_fn X J (PySem.W.plainGet_of hg).1 (PySem.W.plainGet_of hg).2 hf (beq_iff_eq.mp ht) (by show (PySem.W.lookIn name od).map (·.isSome) = some false; rw [hl, hv]; rfl) h

theorem set_map {ns : List Str} {Q : Unit → Shared → Prop} (X : K.In s.heap) (I : ObjM s.heap x dx C mA)
    (hs : PySem.W.findIn K (.ref C) "__setattr__" = some (some (.builtin "object.__setattr__"))) (hp : PySem.W.plainOver K C = true) (ht : PySem.W.takerIn K C name = some none) (hh : PySem.W.hasDictIn K C = true)
    (hw : PySem.Within mA ns) (hsz : ns.length ≤ sizeLine)
    (h : ∀ h', ObjM h' x dx C (fun y => if y = name then some v else mA y) → Heap.SameBut dx s.heap h' → Q () { s with heap := h', toks := s.toks + 2 }) :
    wpAny (model prog w) A (setAttr (.ref x) name v) Q E s := by
  obtain ⟨od, J, hl⟩ := I.look
  refine PySem.W.set_plain X J hs (PySem.W.osa_open (s := { s with toks := s.toks + 1 }) (r := none) X J hp ht fun b => ?_)
  obtain ⟨cd, hc, hd'⟩ := PySem.W.any_some hh
  have hx : s.heap.get? x = some ⟨.ref C, some dx, .plain, #[]⟩ := I.obj
  refine wpAny_bind (wpAny_pure (wpAny_bind (wpAny_bind (wpAny_loadPart hx (wpAny_bind (PySem.W.Looks.here (s := { s with toks := s.toks + 1 }) (PySem.W.looks_clsIn X hc) ?_))))))
  rw [hd']
  refine wpAny_pure (a := some dx) (wpAny_bind (wpAny_pure (wpAny_bind ?_)))
  refine wpAny_nsSet1 (s := { s with toks := s.toks + 1 }) I.ns fun h' hn2 hs2 => ?_
  obtain ⟨oD, esD, epD, hoD, hdD, hcD⟩ := hn2.count (PySem.Within.cons name v hw)
  refine wpAny_bind (wpAny_lookBehind hoD (by rw [hdD]; exact pastItsLine_dict (Nat.le_trans hcD (by rw [List.length_cons]; omega))) ?_)
  exact wpAny_pure (h _ ⟨(hs2.2 _ (Ne.symm I.ne)).trans I.obj, hn2, I.ne⟩ hs2)

/-- C(..): the dict at the heap's end, the instance behind it; then its __init__ -/
theorem make_map {R : Result → Shared → Prop} {vs : List Value} {kw : List (Str × Value)} (X : K.In s.heap) (hm : PySem.W.makesIn K C = true)
    (hi : PySem.W.findIn K (.ref C) "__init__" = some (some (.ref f))) (hf : PySem.W.typeIn K (.ref f) = some (.type "function"))
    (h : codeAny (model prog w) (A.under (.builtin "type.__call__" ⟨.ref C :: vs, kw⟩)) (.call (.ref f) ⟨.ref (s.heap.objs.size + 1) :: vs, kw⟩) (PySem.W.InitBack (s.heap.objs.size + 1) R)
      { s with heap := (s.heap.push PySem.W.emptyDict).push (PySem.W.instObj C s.heap.objs.size) }) :
    codeAny (model prog w) A (.call (.ref C) ⟨vs, kw⟩) R s := by
  obtain ⟨hh, g, d, t, os⟩ := s
  exact PySem.W.make_core (PySem.W.makes_of X hm) (PySem.W.looks_findIn X hi) (fun self => PySem.W.bind_fn X self hf) (.inl rfl) h
end


def putF (f : Str) (v : V) : List (Str × V) → List (Str × V)
  | [] => [(f, v)]
  | (g, x) :: r => if g = f then (g, v) :: r else (g, x) :: putF f v r
theorem lookup_putF (f g : Str) (v : V) : ∀ fs : List (Str × V), (putF f v fs).lookup g = if g = f then some v else fs.lookup g
  | [] => by
    show List.lookup g [(f, v)] = _
    by_cases h : g = f
    · have hb : (g == f) = true := beq_iff_eq.mpr h
      simp only [List.lookup, hb, if_pos h]
    · have hb : (g == f) = false := beq_eq_false_iff_ne.mpr h
      simp only [List.lookup, hb, if_neg h]
  | (k, x) :: r => by
    have ih := lookup_putF f g v r
    rw [show putF f v ((k, x) :: r) = (if k = f then (k, v) :: r else (k, x) :: putF f v r) from rfl]
    by_cases hk : k = f
    · rw [if_pos hk]
      by_cases h : g = k
      · have hb : (g == k) = true := beq_iff_eq.mpr h
        simp only [List.lookup, hb, if_pos (h.trans hk)]
      · have hb : (g == k) = false := beq_eq_false_iff_ne.mpr h
        simp only [List.lookup, hb, if_neg (fun e : g = f => h (e.trans hk.symm))]
    · rw [if_neg hk]
      by_cases h : g = k
      · have hb : (g == k) = true := beq_iff_eq.mpr h
        simp only [List.lookup, hb, if_neg (fun e : g = f => hk (h.symm.trans e))]
      · have hb : (g == k) = false := beq_eq_false_iff_ne.mpr h
        simp only [List.lookup, hb]
        exact ih
theorem keys_putF (f : Str) (v : V) : ∀ fs : List (Str × V), f ∈ (putF f v fs).map (·.1) ∧ ∀ g, g ∈ fs.map (·.1) → g ∈ (putF f v fs).map (·.1)
  | [] => ⟨by simp [putF], fun g h => by simp at h⟩
  | (k, x) :: r => by
    obtain ⟨i1, i2⟩ := keys_putF f v r
    rw [show putF f v ((k, x) :: r) = (if k = f then (k, v) :: r else (k, x) :: putF f v r) from rfl]
    by_cases hk : k = f
    · rw [if_pos hk]
      subst hk
      exact ⟨by simp, fun g h => by simpa using h⟩
    · rw [if_neg hk]
      refine ⟨?_, fun g h => ?_⟩
      · rw [List.map_cons]
        exact List.mem_cons_of_mem _ i1
      · rw [List.map_cons] at h ⊢
        rcases List.mem_cons.mp h with e | e
        · exact List.mem_cons.mpr (.inl e)
        · exact List.mem_cons_of_mem _ (i2 g e)
theorem length_putF (f : Str) (v : V) : ∀ fs : List (Str × V), (putF f v fs).length ≤ fs.length + 1
  | [] => by simp [putF]
  | (k, x) :: r => by
    have ih := length_putF f v r
    rw [show putF f v ((k, x) :: r) = (if k = f then (k, v) :: r else (k, x) :: putF f v r) from rfl]
    by_cases hk : k = f
    · rw [if_pos hk, List.length_cons, List.length_cons]; omega
    · rw [if_neg hk, List.length_cons, List.length_cons]; omega

theorem RelO.some_of {v : V} {o : Option Value} (r : RelO (some v) o) : ∃ u, o = some u ∧ RelV v u := by
  cases o with
  | none => exact (show False from r).elim
  | some u => exact ⟨u, rfl, r⟩
theorem RelO.none_of {o : Option Value} (r : RelO none o) : o = none := by
  cases o with
  | none => rfl
  | some u => exact (show False from r).elim
theorem handed_of {v : V} {u : Value} (r : RelV v u) : PySem.W.handedIn u = true := by
  cases v with
  | non => cases (show u = Value.none from r); rfl
  | bl b => cases (show u = Value.bool b from r); rfl
  | int i => obtain ⟨t, e⟩ := (show ∃ t, u = Value.int i t from r); cases e; rfl
  | str x => obtain ⟨t, e⟩ := (show ∃ t, u = Value.str x t from r); cases e; rfl
  | byt b => obtain ⟨t, e⟩ := (show ∃ t, u = Value.bytes b t from r); cases e; rfl
  | flt b => obtain ⟨t, e⟩ := (show ∃ t, u = Value.float b t from r); cases e; rfl
  | ref a => cases (show u = Value.ref a from r); rfl
  | ty n => cases (show u = Value.type n from r); rfl

section
variable {P : Program} {w : World} {H H' : Hp} {h h' : Heap} {a C dx : Addr} {fs fs' : List (Str × V)}
theorem ins_get (hok : HOk P w H h) (e : H a = some (.ins C dx fs)) : ∃ mA, ObjM h a dx C mA ∧ (∀ f, RelO (fs.lookup f) (mA f)) ∧ PySem.Within mA (fs.map (·.1)) ∧ fs.length ≤ 1000 ∧ H dx = some (.own a) := by
  obtain ⟨d, z, ne, ob, mA, n, r, q⟩ := (show ObjOk P w H h a (.ins C dx fs) from hok a _ e)
  exact ⟨mA, ⟨ob, n, ne⟩, r, q, z, d⟩
end


structure Cls (K : PySem.W.Frag) (C : Addr) : Prop where
  pg : PySem.W.plainGet K C Str.empty = true
  hd : PySem.W.hasDictIn K C = true
  po : PySem.W.plainOver K C = true
  sa : PySem.W.findIn K (.ref C) "__setattr__" = some (some (.builtin "object.__setattr__"))
theorem Cls.get {K : PySem.W.Frag} {C : Addr} (c : Cls K C) (f : Str) : PySem.W.plainGet K C f = true := c.pg
/-- no class of it has the name -/
def NoAttr (K : PySem.W.Frag) (C : Addr) (f : Str) : Prop := PySem.W.findIn K (.ref C) f = some none
theorem NoAttr.taker {K : PySem.W.Frag} {C : Addr} {f : Str} (n : NoAttr K C f) : PySem.W.takerIn K C f = some none := by
  unfold PySem.W.takerIn
  rw [show PySem.W.findIn K (.ref C) f = some none from n]
  rfl
/-- a method: a plain def of the class or of one above it -/
structure Meth (K : PySem.W.Frag) (C : Addr) (m : Str) (f : Addr) : Prop where
  at_ : PySem.W.findIn K (.ref C) m = some (some (.ref f))
  fn : PySem.W.isFn K (.ref f) = true
  kp : PySem.W.keepIn K (.ref f) = true

section
variable {X : Cx} {pins : List (Addr × Obj)} {σ : St} {H : Hp} {s : Shared} {a C dx : Addr} {fs : List (Str × V)} {f : Str} {v : V} {A : Around} {E : Value → Shared → Prop}

theorem getattr_ok {b : Bool} {Q : Value → Shared → Prop} (I : Inv X pins σ H s) (e : H a = some (.ins C dx fs)) (c : Cls X.K C) (n : NoAttr X.K C f) (l : fs.lookup f = some v)
    (h : ∀ u s', Inv X pins σ H s' → RelV v u → Q u s') : wpAny (model X.prog X.w) A (getAttr (.ref a) f b) Q E s := by
  obtain ⟨mA, O, r, _, _, _⟩ := ins_get I.hok e
  obtain ⟨u, hu, ru⟩ := RelO.some_of (v := v) (o := mA f) (by rw [← l]; exact r f)
  exact get_map I.kIn O (c.get f) c.hd n hu (handed_of ru) (h u _ (I.tok _) ru)

theorem getmeth_ok {m : Str} {g : Addr} {pl : Sem Bool} {Q : Value × List Value → Shared → Prop} (I : Inv X pins σ H s) (e : H a = some (.ins C dx fs)) (c : Cls X.K C) (k : Meth X.K C m g) (l : fs.lookup m = none)
    (h : Q (.ref g, [.ref a]) s) : wpAny (model X.prog X.w) A (getMethod (.ref a) m pl) Q E s := by
  obtain ⟨mA, O, r, _, _, _⟩ := ins_get I.hok e
  have hn : mA m = none := RelO.none_of (by rw [← l]; exact r m)
  exact get_meth I.kIn O (c.get m) k.at_ k.fn hn h

theorem setattr_ok {y : V} {u : Value} {Q : Unit → Shared → Prop} (I : Inv X pins σ H s) (e : H a = some (.ins C dx fs)) (c : Cls X.K C) (n : NoAttr X.K C f) (hl : fs.length < 1000) (ry : RelV y u)
    (h : ∀ s', Inv X pins σ (upd H a (.ins C dx (putF f y fs))) s' → Q () s') : wpAny (model X.prog X.w) A (setAttr (.ref a) f u) Q E s := by
  obtain ⟨mA, O, r, wi, _, ho⟩ := ins_get I.hok e
  have hz : (fs.map (·.1)).length ≤ sizeLine := by rw [List.length_map, sizeLine_eq]; omega
  refine set_map I.kIn O c.sa c.po n.taker c.hd wi hz fun h' O' sb => h _ ?_
  have hd : ∃ o, h'.get? dx = some o := let ⟨o, _, _, e', _⟩ := O'.ns; ⟨o, e'⟩
  refine I.write (x := a) (e := dx) (by rw [e]; exact True.intro) (.inr ho) (fun b q hb z => (sb.2 b hb).trans z) hd ?_
  refine ⟨by rw [upd_ne O.ne]; exact ho, ?_, O.ne, O'.obj, _, O'.ns, fun g => ?_, fun g hg => ?_⟩
  · have := length_putF f y fs; omega
  · show RelO ((putF f y fs).lookup g) (if g = f then some u else mA g)
    rw [lookup_putF]
    by_cases q : g = f
    · rw [if_pos q, if_pos q]; exact ry
    · rw [if_neg q, if_neg q]; exact r g
  · by_cases q : g = f
    · rw [q]; exact (keys_putF f y fs).1
    · refine (keys_putF f y fs).2 g (wi g fun z => hg ?_)
      show (if g = f then some u else mA g) = none
      rw [if_neg q]; exact z

/-- a new instance, tracked, without attributes -/
theorem Inv.made (I : Inv X pins σ H s) : Inv X pins σ (upd (upd H s.heap.objs.size (.own (s.heap.objs.size + 1))) (s.heap.objs.size + 1) (.ins C s.heap.objs.size []))
    { s with heap := (s.heap.push PySem.W.emptyDict).push (PySem.W.instObj C s.heap.objs.size) } := by
  have e1 : (s.heap.push PySem.W.emptyDict).get? s.heap.objs.size = some PySem.W.emptyDict := Heap.get?_push_size s.heap rfl
  have e2 : ((s.heap.push PySem.W.emptyDict).push (PySem.W.instObj C s.heap.objs.size)).get? (s.heap.objs.size + 1) = some (PySem.W.instObj C s.heap.objs.size) := by
    have := Heap.get?_push_size (s.heap.push PySem.W.emptyDict) (o := PySem.W.instObj C s.heap.objs.size) rfl
    rwa [Heap.size_push] at this
  have e3 : (s.heap.push PySem.W.emptyDict).Ns s.heap.objs.size (fun _ => none) := ⟨PySem.W.emptyDict, #[], _, e1, rfl, (fun e he => absurd he (by simp)), fun _ => rfl⟩
  have I1 := I.laid (a := s.heap.objs.size) (o := .own (s.heap.objs.size + 1)) (h' := s.heap.push PySem.W.emptyDict) (t' := s.toks) (fun b u q => Heap.get?_push_of_some _ q) (Nat.le_refl _) ⟨_, e1⟩
  refine I1.laid (a := s.heap.objs.size + 1) (o := .ins C s.heap.objs.size []) (t' := s.toks) (fun b u q => Heap.get?_push_of_some _ q) (Nat.le_of_eq (Heap.size_push _ _)) ?_
  have ne : s.heap.objs.size ≠ s.heap.objs.size + 1 := Nat.ne_of_lt (Nat.lt_succ_self _)
  refine ⟨by rw [upd_ne ne, upd_same], Nat.zero_le _, ne, e2, fun _ => none, (Heap.Ns1.of_empty e3).at fun o q => Heap.get?_push_of_some _ q, fun _ => True.intro, fun y hy => absurd rfl hy⟩

/-- e.f where nothing but the object is asked: through attributeBase (super) and the last hold -/
theorem attr_of {prog : Program} {w : World} {env : Env} {e : Expr} {f : Str} {pos : Pos} {s : Shared} {Q : Value → Shared → Prop} (hb : attributeBase e f env (eval e env) = eval e env)
    (h : wpAny (model prog w) A (eval e env) (fun o s₁ => wpAny (model prog w) A (getAttr o f true) Q E s₁) E s) : wpAny (model prog w) A (eval (.Attribute e f pos) env) Q E s :=
  Attribute_any_ h (by rw [arm_eval_Attribute, hb])
end


/-- e.f, an attribute of the instance -/
def tFld (K : PySem.W.Frag) (ta : TE) (f : Str) : TE := fun σ H Q => ta σ H fun x H1 => ∃ a C dx fs v, x = .ref a ∧ H1 a = some (.ins C dx fs) ∧ Cls K C ∧ NoAttr K C f ∧ fs.lookup f = some v ∧ Q v H1
/-- e.f = value -/
def sFld (K : PySem.W.Frag) (ta tv : TE) (f : Str) : TS := fun D σ H => tv σ H fun y H1 => ta σ H1 fun x H2 => ∃ a C dx fs, x = .ref a ∧ H2 a = some (.ins C dx fs) ∧ Cls K C ∧ NoAttr K C f ∧ fs.length < 1000 ∧
  D.nx σ (upd H2 a (.ins C dx (putF f y fs)))
section
variable {X : Cx} {o e value : Expr} {f : Str} {pos pos' tpos : Pos} {ta tv : TE}
theorem pe_fld (he : PE X e ta) (hb : attributeBase e f X.env (eval e X.env) = eval e X.env) : PE X (.Attribute e f pos) (tFld X.K ta f) := by
  intro pins s σ H Q I h
  refine attr_of hb (thn (he pins s σ H _ I h) fun u s1 ⟨x, H1, I1, rx, a, C, dx, fs, v, ex, ea, c, n, l, q⟩ => ?_)
  subst ex
  obtain rfl : u = Value.ref a := rx
  exact getattr_ok I1 ea c n l fun u' s2 I2 ru => ⟨v, H1, I2, ru, q⟩
theorem ps_fld (ha : PE X o ta) (hv : PE X value tv) (hs : swapsWith value (some (.Attribute o f pos')) pos.line X.env = pure false) : PS X (.Assign [.Attribute o f pos'] value pos) (sFld X.K ta tv f) := by
  intro pins s σ H D I h
  refine plainObj_wpAny_Assign_Attribute (thn (hv pins s σ H _ I h) fun u s1 ⟨y, H1, I1, ry, q⟩ => thn (ha pins s1 σ H1 _ I1 q) fun ov s2 ⟨x, H2, I2, rx, a, C, dx, fs, ex, ea, c, n, l, q2⟩ => ?_) hs
  subst ex
  obtain rfl : ov = Value.ref a := rx
  exact setattr_ok I2 ea c n l ry fun s3 I3 => ⟨σ, _, I3, q2⟩
end


section
variable {X : Cx} {pins : List (Addr × Obj)} {σ : St} {H : Hp} {s : Shared} {A : Around} {E : Value → Shared → Prop} {Q : Value → Shared → Prop} {c : Value} {b : Bool}
/-- the type of a value, as the fragment's deciders take it; for an instance its class -/
inductive TyOf (K : PySem.W.Frag) (H : Hp) : V → Value → Prop where
  | non : TyOf K H .non (.type "NoneType")
  | bl (x : Bool) : TyOf K H (.bl x) (.type "bool")
  | int (i : Int) : TyOf K H (.int i) (.type "int")
  | str (x : Str) : TyOf K H (.str x) (.type "str")
  | flt (x : UInt64) : TyOf K H (.flt x) (.type "float")
  | lst {a : Addr} {xs : List V} (e : H a = some (.lst xs)) : TyOf K H (.ref a) (.type "list")
  | frz {a : Addr} {o : Obj} {xs : List V} (e : H a = some (.frz o (.lst xs))) : TyOf K H (.ref a) (.type "list")
  | tup {a : Addr} {xs : List V} (e : H a = some (.tup xs)) : TyOf K H (.ref a) (.type "tuple")
  | dK {a : Addr} {kvs : List (Key × V)} (e : H a = some (.dK kvs)) : TyOf K H (.ref a) (.type "dict")
  | dT {a : Addr} {kvs : List (List Key × V)} (e : H a = some (.dT kvs)) : TyOf K H (.ref a) (.type "dict")
  | ins {a C dx : Addr} {fs : List (Str × V)} (e : H a = some (.ins C dx fs)) (cl : Cls K C) (ha : PySem.W.findIn K (.ref C) "__class__" = some (some (.builtin "object.__class__")))
      (hn : PySem.W.specialIn K (.builtin "object.__class__") "__get__" = some (some (.builtin "getset_descriptor.__get__"))) (htk : PySem.W.takesIn K (.builtin "object.__class__") = some true)
      (hm : PySem.W.mroIn K C (.type "object") = some true) : TyOf K H (.ref a) (.ref C)
/-- isinstance(x, c) for one class c, a built-in or an own one: kitOne's answer -/
theorem isinst_ok {x : V} {u t : Value} (I : Inv X pins σ H s) (rx : RelV x u) (ty : TyOf X.K H x t) (e : PySem.W.kitOne X.K t c = some b) (h : ∀ tk, Q (.bool b) { s with toks := tk }) :
    wpAny (model X.prog X.w) A (call (.builtin "isinstance") [u, c]) Q E s := by
  cases ty with
  | non => cases (show u = Value.none from rx); exact PySem.W.kia_one PySem.W.kitx_none I.kIn True.intro e (fun z => nomatch z) h
  | bl y => cases (show u = Value.bool y from rx); exact PySem.W.kia_one PySem.W.kitx_bool I.kIn True.intro e (fun z => nomatch z) h
  | int i => obtain ⟨t, q⟩ := (show ∃ t, u = Value.int i t from rx); cases q; exact PySem.W.kia_one PySem.W.kitx_int I.kIn True.intro e (fun z => nomatch z) h
  | str y => obtain ⟨t, q⟩ := (show ∃ t, u = Value.str y t from rx); cases q; exact PySem.W.kia_one PySem.W.kitx_str I.kIn True.intro e (fun z => nomatch z) h
  | flt y => obtain ⟨t, q⟩ := (show ∃ t, u = Value.float y t from rx); cases q; exact PySem.W.kia_one PySem.W.kitx_float I.kIn True.intro e (fun z => nomatch z) h
  | @lst a xs ea =>
    cases (show u = Value.ref a from rx)
    obtain ⟨_, _, n, _, h1⟩ := (show ObjOk X.prog X.w H s.heap a (.lst xs) from I.hok a _ ea)
    exact PySem.W.kia_one PySem.W.kitx_list I.kIn ⟨_, h1, rfl⟩ e (fun z => nomatch z) h
  | @frz a ob xs ea =>
    cases (show u = Value.ref a from rx)
    obtain ⟨_, _, _, n, _, h1⟩ := (show ObjOk X.prog X.w H s.heap a (.frz ob (.lst xs)) from I.hok a _ ea)
    exact PySem.W.kia_one PySem.W.kitx_list I.kIn ⟨_, h1, rfl⟩ e (fun z => nomatch z) h
  | @tup a xs ea =>
    cases (show u = Value.ref a from rx)
    obtain ⟨_, _, _, p⟩ := (show ObjOk X.prog X.w H s.heap a (.tup xs) from I.hok a _ ea)
    obtain ⟨o, h1, h2, _⟩ := p
    exact PySem.W.kia_one PySem.W.kitx_tuple I.kIn ⟨o, h1, h2⟩ e (fun z => nomatch z) h
  | @dK a kvs ea =>
    cases (show u = Value.ref a from rx)
    obtain ⟨_, _, vs, _, p⟩ := (show ObjOk X.prog X.w H s.heap a (.dK kvs) from I.hok a _ ea)
    obtain ⟨o, es, ep, h1, h2, _⟩ := p
    exact PySem.W.kia_one PySem.W.kitx_dict I.kIn ⟨o, h1, h2.1⟩ e (fun z => nomatch z) h
  | @dT a kvs ea =>
    cases (show u = Value.ref a from rx)
    obtain ⟨_, _, xs, _, o, es, ep, h1, h2, _⟩ := (show ObjOk X.prog X.w H s.heap a (.dT kvs) from I.hok a _ ea)
    exact PySem.W.kia_one PySem.W.kitx_dict I.kIn ⟨o, h1, h2.1⟩ e (fun z => nomatch z) h
  | @ins a C dx fs ea cl ha hn htk hm =>
    cases (show u = Value.ref a from rx)
    obtain ⟨mA, O, _⟩ := ins_get I.hok ea
    obtain ⟨od, J, _⟩ := O.look
    exact PySem.W.kia_one (PySem.W.kitx_own (cl.get _) cl.hd ha hn htk hm) I.kIn J e (fun z => nomatch z) h
end
end L2

namespace L2
open PySem PySem.Spec PyProof.Rows


structure Room (k : Nat) (A : Around) : Prop where
  hd : A.handled = none
  dp : A.depth + 3 * k + 5 < recursionLimit
  un : A.units + 16 * k + 200 < cLine
theorem Room.mono {j k : Nat} {A : Around} (r : Room k A) (h : j ≤ k) : Room j A := ⟨r.hd, by have := r.dp; omega, by have := r.un; omega⟩
theorem Room.deeper {k : Nat} {A : Around} (r : Room (k + 1) A) (env : Env) : Room k (A.deeper env) :=
  ⟨r.hd, by have := r.dp; show A.depth + 1 + 3 * k + 5 < _; omega, by have := r.un; show A.units + 3 + 16 * k + 200 < _; omega⟩
theorem Room.in1 {k : Nat} {A : Around} (r : Room (k + 1) A) : Room k A.in1 :=
  ⟨r.hd, by have := r.dp; show A.depth + 3 * k + 5 < _; omega, by have := r.un; show A.units + 1 + 16 * k + 200 < _; omega⟩
theorem make_depth {A : Around} {C : Addr} {us : List Value} {kw : List (Str × Value)} : (A.under (.builtin "type.__call__" ⟨.ref C :: us, kw⟩)).depth = A.depth + 1 := by
  first | rfl | simp [Around.under, Code.weight, Code.isCreation, Code.isGuard, Code.isCaller, Code.frames, Code.isFrame, guardIds]
theorem make_units {A : Around} {C : Addr} {us : List Value} {kw : List (Str × Value)} : (A.under (.builtin "type.__call__" ⟨.ref C :: us, kw⟩)).units = A.units + 1 := by
  first | rfl | simp [Around.under, Code.cUnits, Code.frames, Code.isFrame]
theorem Room.make {k : Nat} {A : Around} (r : Room (k + 1) A) (C : Addr) (us : List Value) (kw : List (Str × Value)) : Room k (A.under (.builtin "type.__call__" ⟨.ref C :: us, kw⟩)) :=
  ⟨r.hd, by have := r.dp; rw [make_depth]; omega, by have := r.un; rw [make_units]; omega⟩
theorem Room.depth {k : Nat} {A : Around} (r : Room k A) : A.depth < recursionLimit := by have := r.dp; omega
theorem Room.units {k : Nat} {A : Around} (r : Room k A) : A.units + 64 < cLine := by have := r.un; omega
theorem Room.units0 {k : Nat} {A : Around} (r : Room k A) : A.units < cLine := by have := r.un; omega


def tNil : TA := fun _ H Q => Q [] H
def tCons (ta : TE) (tr : TA) : TA := fun σ H Q => ta σ H fun x H1 => tr σ H1 fun xs H2 => Q (x :: xs) H2
section
variable {X : Cx} {e : Expr} {es : List Expr} {te : TE} {t : TA} {pos : Pos}
theorem pa_nil : PA X [] tNil := fun _ _ _ _ H Q I h => Calls.spliced_nil ⟨[], H, I, .nil, h⟩
theorem pa_cons (ha : PE X e te) (hr : PA X es t) (hs : starEach (e :: es) X.env = (false, eval e X.env) :: starEach es X.env := by rfl) : PA X (e :: es) (tCons te t) := by
  intro pos pins s σ H Q I h
  rw [hs]
  show wpAny _ _ (spliced ((false, eval e X.env) :: backTo pos (starEach es X.env))) _ _ s
  refine Calls.spliced_cons (thn (ha pins s σ H _ I h) fun u s1 ⟨x, H1, I1, r1, q1⟩ => ?_)
  exact thn (hr pos pins s1 σ H1 _ I1 q1) fun us s2 ⟨xs, H2, I2, r2, q2⟩ => ⟨x :: xs, H2, I2, .cons r1 r2, q2⟩

/-- a tuple, a list of written items -/
def tTup (t : TA) : TE := fun σ H Q => t σ H fun xs H1 => xs.length ≤ sizeLine ∧ ∀ p, H1 p = none → Q (.ref p) (upd H1 p (.tup xs))
def tLst (t : TA) : TE := fun σ H Q => t σ H fun xs H1 => xs.length ≤ sizeLine ∧ ∀ p, H1 p = none → Q (.ref p) (upd H1 p (.lst xs))
theorem pe_tup {x1} (h : PA X es t) : PE X (.Tuple es x1 pos) (tTup t) := by
  intro pins s σ H Q I hq
  refine wpAny_Tuple_spliced (thn (h pos pins s σ H _ I hq) fun us s1 ⟨xs, H1, I1, r, z, q⟩ => ⟨by rw [← r.length]; exact z, ?_⟩)
  have hf : H1 s1.heap.objs.size = none := I1.hok.fresh (Nat.le_refl _)
  refine ⟨.ref s1.heap.objs.size, upd H1 s1.heap.objs.size (.tup xs), I1.laid (t' := s1.toks) (fun b u e => Heap.get?_push_of_some _ e) (Nat.le_refl _) ?_, rfl, q _ hf⟩
  exact ⟨z, us, r, ⟨_, Heap.get?_push_size _ rfl, rfl, _, rfl⟩⟩
theorem pe_lst (h : PA X es t) : PE X (.List es pos) (tLst t) := by
  intro pins s σ H Q I hq
  refine wpAny_List_spliced (thn (h pos pins s σ H _ I hq) fun us s1 ⟨xs, H1, I1, r, z, q⟩ => ⟨by rw [← r.length]; exact z, ?_⟩)
  have hf : H1 s1.heap.objs.size = none := I1.hok.fresh (Nat.le_refl _)
  refine ⟨.ref s1.heap.objs.size, upd H1 s1.heap.objs.size (.lst xs), I1.laid (t' := s1.toks) (fun b u e => Heap.get?_push_of_some _ e) (Nat.le_refl _) ?_, rfl, q _ hf⟩
  exact ⟨z, us, 0, r, Heap.get?_push_size _ rfl⟩
end


/-- a def's promise: the bound arguments in the parameters' order, the heap, the wanted end, the wanted exception -/
abbrev Sp := List V → Hp → VK → XK → Prop
/-- how an exception lies behind a call (file 08 gives it): the callers' frames, abstract heap and state ahead of the call, the wish, the exception, the state -/
abbrev CXT := List Env → Hp → Shared → XK → Value → Shared → Prop

/-- the state at a call -/
structure Env0 (P : Program) (w : World) (K : PySem.W.Frag) (mg : Str → Option Value) (base : Heap) (A : Around) (outer : List Env) (s : Shared) (H : Hp) : Prop where
  frames : A.frames = some outer
  mod : Mod K mg base
  bs : ∀ b o, base.get? b = some o → s.heap.get? b = some o ∧ H b = none
  bsz : base.objs.size ≤ s.heap.objs.size
  funs : s.heap.FunFrames base outer
  frf : ∀ b ∈ frs outer, H b = none
  hok : HOk P w H s.heap
  bare : AllBare s.gens
/-- a call's end -/
def CE (outer : List Env) (P : Program) (w : World) (H : Hp) (s : Shared) (Q : VK) (u : Value) (s' : Shared) : Prop :=
  ∃ v H', s'.os = s.os ∧ AllBare s'.gens ∧ Un (frs outer) [] H H' s.heap s'.heap ∧ HOk P w H' s'.heap ∧ RelV v u ∧ Q v H'
def CR (CX : CXT) (outer : List Env) (P : Program) (w : World) (H : Hp) (s : Shared) (Q : VK) (E : XK) (r : Result) (s' : Shared) : Prop :=
  match r with
  | .ok (.ret u) => CE outer P w H s Q u s'
  | .ok _ => False
  | .error e => CX outer H s E e s'
structure FnOk (P : Program) (w : World) (K : PySem.W.Frag) (mg : Str → Option Value) (base : Heap) (CX : CXT) (k : Nat) (f : Addr) (fd : FuncData) (ps : List Str) (sp : Sp) : Prop where
  len : ∀ vs H Q E, sp vs H Q E → vs.length = ps.length
  run : ∀ (A : Around) (outer : List Env) (s : Shared) (H : Hp) (args : Args) (us : List Value) (vs : List V) (Q : VK) (E : XK), Room k A → Env0 P w K mg base A outer s H → BindsTo s fd args (ps.zip us) → Vals vs us → sp vs H Q E →
    codeAny (model P w) A (.call (.ref f) args) (CR CX outer P w H s Q E) s
theorem FnOk.mono {P : Program} {w : World} {K : PySem.W.Frag} {mg : Str → Option Value} {base : Heap} {CX : CXT} {j k : Nat} {f : Addr} {fd : FuncData} {ps : List Str} {sp : Sp} (F : FnOk P w K mg base CX j f fd ps sp) (h : j ≤ k) :
    FnOk P w K mg base CX k f fd ps sp := ⟨F.len, fun A outer s H args us vs Q E hr => F.run A outer s H args us vs Q E (hr.mono h)⟩
theorem Env0.make {P : Program} {w : World} {K : PySem.W.Frag} {mg : Str → Option Value} {base : Heap} {A : Around} {outer : List Env} {s : Shared} {H : Hp} (e : Env0 P w K mg base A outer s H) (C : Addr) (us : List Value) (kw : List (Str × Value)) :
    Env0 P w K mg base (A.under (.builtin "type.__call__" ⟨.ref C :: us, kw⟩)) outer s H := ⟨by first | exact e.frames | (simpa [Around.under, Code.envs, Code.isFrame, pushEnvs] using e.frames), e.mod, e.bs, e.bsz, e.funs, e.frf, e.hok, e.bare⟩
theorem Env0.in1 {P : Program} {w : World} {K : PySem.W.Frag} {mg : Str → Option Value} {base : Heap} {A : Around} {outer : List Env} {s : Shared} {H : Hp} (e : Env0 P w K mg base A outer s H) :
    Env0 P w K mg base A.in1 outer s H := ⟨e.frames, e.mod, e.bs, e.bsz, e.funs, e.frf, e.hok, e.bare⟩

section
variable {X : Cx} {pins : List (Addr × Obj)} {σ : St} {H : Hp} {s s' : Shared}
/-- from a body: what a callee wants -/
theorem Inv.env0 (I : Inv X pins σ H s) : Env0 X.prog X.w X.K X.mg X.base X.A X.stack s H :=
  ⟨I.ok.frames, I.ok.mod, I.bs, Nat.le_trans I.ok.bsz I.sz, I.stack, I.stkFree, I.hok, I.bare⟩
/-- behind a call -/
theorem Inv.after {Q : VK} {u : Value} (I : Inv X pins σ H s) (h : CE X.stack X.prog X.w H s Q u s') : EP X pins σ Q u s' := by
  obtain ⟨v, H', os, bare, un, hok, r, q⟩ := h
  obtain ⟨hh, g, d, t, os'⟩ := s'
  obtain rfl : os' = s.os := os
  exact ⟨v, H', I.call (h' := hh) (g' := g) (d' := d) (t' := t) (ch := []) un hok bare (fun b z => absurd z (by simp)), r, q⟩
end


/-- f(..): the written arguments, then the defaults dvs; E: what is wanted of an exception -/
def tCall (sp : Sp) (dvs : List V) (E : XK) (t : TA) : TE := fun σ H Q => t σ H fun vs H1 => sp (vs ++ dvs) H1 Q E
/-- o.m(..) of an instance of the class at C -/
def tMeth (C : Addr) (m : Str) (sp : Sp) (dvs : List V) (E : XK) (ta : TE) (t : TA) : TE := fun σ H Q => ta σ H fun x H1 => ∃ a dx fs, x = .ref a ∧ H1 a = some (.ins C dx fs) ∧ fs.lookup m = none ∧
  t σ H1 fun vs H2 => sp (x :: (vs ++ dvs)) H2 Q E
/-- C(..): a new instance and its dict, then __init__ -/
def tMake (C : Addr) (sp : Sp) (dvs : List V) (E : XK) (t : TA) : TE := fun σ H Q => t σ H fun vs H1 => ∀ x dx, H1 x = none → H1 dx = none → dx ≠ x →
  sp (.ref x :: (vs ++ dvs)) (upd (upd H1 dx (.own x)) x (.ins C dx [])) (fun v H2 => v = .non ∧ Q (.ref x) H2) E

/-- how the parameters are bound: us the positional arguments, kw the keywords' values by name, ds the defaults that fill up -/
def Binds (K : PySem.W.Frag) (fd : FuncData) (ps : List Str) (ds : List Value) : Prop :=
  ∀ (s : Shared) (us : List Value), K.In s.heap → (us ++ ds).length = ps.length → BindsTo s fd ⟨us, []⟩ (ps.zip (us ++ ds))
/-- every parameter is given -/
theorem Binds.all {K : PySem.W.Frag} {fd : FuncData} {ps : List Str} (h : ∀ us : List Value, us.length = ps.length → bindArgs fd ⟨us, []⟩ = pure (ps.zip us)) : Binds K fd ps [] := fun s us _ hl => by
  rw [List.append_nil] at hl ⊢
  exact .of_eq (h us hl)

/-- an exception of a callee reaches what this body wants of exceptions -/
def Passes (CX : CXT) (X : Cx) (E : XK) : Prop := ∀ (pins : List (Addr × Obj)) (σ : St) (H : Hp) (s : Shared) (e : Value) (s' : Shared), Inv X pins σ H s → CX X.stack H s E e s' → X.xe e s'

section
variable {X : Cx} {CX : CXT} {k : Nat} {f C : Addr} {fd : FuncData} {ps : List Str} {sp : Sp} {dvs : List V} {ds : List Value} {E : XK} {x m : Str} {p pos apos : Pos} {e o : Expr} {es : List Expr} {ta : TE} {t : TA}

/-- the callee runs -/
theorem run_fn {pins : List (Addr × Obj)} {σ : St} {H : Hp} {s : Shared} {Q : VK} {us : List Value} {vs : List V} (F : FnOk X.prog X.w X.K X.mg X.base CX k f fd ps sp) (hr : Room k X.A) (hb : Binds X.K fd ps ds) (hd : Vals dvs ds) (hx : Passes CX X E)
    (I : Inv X pins σ H s) (r : Vals vs us) (h : sp (vs ++ dvs) H Q E) : wpAny (model X.prog X.w) X.A (call (.ref f) us) (EP X pins σ Q) X.xe s := by
  have r2 : Vals (vs ++ dvs) (us ++ ds) := r.append hd
  have hl : (us ++ ds).length = ps.length := by rw [← r2.length]; exact F.len _ _ _ _ h
  refine wpAny_call (codeAny_mono (F.run X.A X.stack s H ⟨us, []⟩ (us ++ ds) (vs ++ dvs) Q E hr I.env0 (hb s us I.kIn hl) r2 h) fun r s' hq => ?_)
  cases r with
  | error e => exact hx pins σ H s e s' I hq
  | ok fl =>
    cases fl with
    | ret u => exact I.after hq
    | next => exact False.elim hq
    | brk => exact False.elim hq
    | cont => exact False.elim hq

theorem pe_call (F : FnOk X.prog X.w X.K X.mg X.base CX k f fd ps sp) (hr : Room k X.A) (hg : Gl X x) (hm : X.mg x = some (.ref f)) (hk : PySem.W.keepIn X.K (.ref f) = true) (hb : Binds X.K fd ps ds) (hd : Vals dvs ds) (hx : Passes CX X E)
    (ha : PA X (e :: es) t) (hdb : (x == ("__debug__" : Str)) = false := by decide) (he : starEach (e :: es) X.env = (false, eval e X.env) :: starEach es X.env := by rfl) (hpl : (backTo pos (starEach es X.env)).any (·.1) = false := by rfl) :
    PE X (.Call (.Name x p) (e :: es) [] pos) (tCall sp dvs E t) := by
  intro pins s σ H Q I h
  refine wpAny_Call_Name_kw (ld_glob I hg hm ?_ hdb)
  refine PySem.W.callWith_K (h₀ := X.base) I.ok.mod.kin hk (thn (ha pos pins s σ H _ I h) fun us s1 ⟨vs, H1, I1, r, q⟩ => ⟨I1.kIn, ?_⟩) he hpl
  exact run_fn F hr hb hd hx I1 r q
/-- o.m(e, ..) -/
theorem pe_meth {pl : Sem Bool} (he : PE X o ta) (c : Cls X.K C) (hm : Meth X.K C m f) (F : FnOk X.prog X.w X.K X.mg X.base CX k f fd ps sp) (hr : Room k X.A) (hb : Binds X.K fd ps ds) (hd : Vals dvs ds) (hx : Passes CX X E) (ha : PA X (e :: es) t)
    (hst : starEach (e :: es) X.env = (false, eval e X.env) :: starEach es X.env := by rfl) (hpl : (backTo pos (starEach es X.env)).any (·.1) = false := by rfl)
    (ht : eval (.Call (.Attribute o m apos) (e :: es) [] pos) X.env = (do
      let ov ← eval o X.env
      standAt apos.atName
      let (f, first) ← holding [ov] (getMethod ov m pl)
      callWith pos f first (backTo pos (starEach (e :: es) X.env)) (backToKw pos (keywordEach [] X.env))) := by rfl) :
    PE X (.Call (.Attribute o m apos) (e :: es) [] pos) (tMeth C m sp dvs E ta t) := by
  intro pins s σ H Q I h
  refine PySem.W.methodCall_KW (pl := pl) (thn (he pins s σ H _ I h) fun u s1 ⟨x, H1, I1, rx, a, dx, fs, ex, ea, l, q⟩ => ?_) ht
  subst ex
  obtain rfl : u = Value.ref a := rx
  refine getmeth_ok I1 ea c hm l ?_
  refine PySem.W.callWith_K (first := [.ref a]) (h₀ := X.base) I.ok.mod.kin hm.kp (thn (ha pos pins s1 σ H1 _ I1 q) fun us s2 ⟨vs, H2, I2, r, q2⟩ => ⟨I2.kIn, ?_⟩) hst hpl
  exact run_fn (us := .ref a :: us) (vs := .ref a :: vs) F hr hb hd hx I2 (.cons rfl r) q2
/-- o.m() -/
theorem pe_meth0 {pl : Sem Bool} (he : PE X o ta) (c : Cls X.K C) (hm : Meth X.K C m f) (F : FnOk X.prog X.w X.K X.mg X.base CX k f fd ps sp) (hr : Room k X.A) (hb : Binds X.K fd ps ds) (hd : Vals dvs ds) (hx : Passes CX X E)
    (ht : eval (.Call (.Attribute o m apos) [] [] pos) X.env = (do
      let ov ← eval o X.env
      standAt apos.atName
      let (f, first) ← holding [ov] (getMethod ov m pl)
      callWith pos f first (backTo pos (starEach [] X.env)) (backToKw pos (keywordEach [] X.env))) := by rfl) :
    PE X (.Call (.Attribute o m apos) [] [] pos) (tMeth C m sp dvs E ta tNil) := by
  intro pins s σ H Q I h
  refine PySem.W.methodCall_KW (pl := pl) (thn (he pins s σ H _ I h) fun u s1 ⟨x, H1, I1, rx, a, dx, fs, ex, ea, l, q⟩ => ?_) ht
  subst ex
  obtain rfl : u = Value.ref a := rx
  refine getmeth_ok I1 ea c hm l ?_
  exact PySem.W.callWith_K0 (first := [.ref a]) I1.kIn hm.kp (run_fn (us := [.ref a]) (vs := [.ref a]) F hr hb hd hx I1 (.cons rfl .nil) q)

/-- what a class must have to be made -/
structure Mk (K : PySem.W.Frag) (C f : Addr) : Prop where
  makes : PySem.W.makesIn K C = true
  init : PySem.W.findIn K (.ref C) "__init__" = some (some (.ref f))
  fn : PySem.W.isFn K (.ref f) = true
  kp : PySem.W.keepIn K (.ref C) = true

theorem run_make {pins : List (Addr × Obj)} {σ : St} {H : Hp} {s : Shared} {Q : VK} {us : List Value} {vs : List V} (M : Mk X.K C f) (F : FnOk X.prog X.w X.K X.mg X.base CX k f fd ps sp) (hr : Room (k + 1) X.A) (hb : Binds X.K fd ps ds) (hd : Vals dvs ds)
    (hx : Passes CX X E) (I : Inv X pins σ H s) (r : Vals vs us)
    (h : ∀ x dx, H x = none → H dx = none → dx ≠ x → sp (.ref x :: (vs ++ dvs)) (upd (upd H dx (.own x)) x (.ins C dx [])) (fun v H2 => v = .non ∧ Q (.ref x) H2) E) :
    wpAny (model X.prog X.w) X.A (call (.ref C) us) (EP X pins σ Q) X.xe s := by
  have hq := h (s.heap.objs.size + 1) s.heap.objs.size (I.hok.fresh (Nat.le_succ _)) (I.hok.fresh (Nat.le_refl _)) (Nat.ne_of_lt (Nat.lt_succ_self _))
  have I2 := Inv.made (C := C) I
  have r2 : Vals (V.ref (s.heap.objs.size + 1) :: (vs ++ dvs)) (Value.ref (s.heap.objs.size + 1) :: (us ++ ds)) := .cons rfl (r.append hd)
  have hl : (Value.ref (s.heap.objs.size + 1) :: us ++ ds).length = ps.length := by
    have e := r2.length
    rw [F.len _ _ _ _ hq] at e
    exact e.symm
  refine wpAny_call (make_map (f := f) I.kIn M.makes M.init (beq_iff_eq.mp M.fn) (codeAny_mono (F.run _ X.stack _ _ ⟨Value.ref (s.heap.objs.size + 1) :: us, []⟩ (Value.ref (s.heap.objs.size + 1) :: (us ++ ds)) _ _ E (hr.make C us [])
    (I2.env0.make C us []) (hb _ (Value.ref (s.heap.objs.size + 1) :: us) I2.kIn hl) r2 hq) fun r s' hq' => ?_))
  cases r with
  | error e => exact hx pins σ _ _ e s' I2 hq'
  | ok fl =>
    cases fl with
    | ret u =>
      obtain ⟨v, H', I3, rv, ev, q3⟩ := I2.after hq'
      subst ev
      exact ⟨rv, ⟨V.ref (s.heap.objs.size + 1), H', I3, rfl, q3⟩⟩
    | next => exact False.elim hq'
    | brk => exact False.elim hq'
    | cont => exact False.elim hq'
theorem pe_make (M : Mk X.K C f) (F : FnOk X.prog X.w X.K X.mg X.base CX k f fd ps sp) (hr : Room (k + 1) X.A) (hg : Gl X x) (hm : X.mg x = some (.ref C)) (hb : Binds X.K fd ps ds) (hd : Vals dvs ds) (hx : Passes CX X E)
    (ha : PA X (e :: es) t) (hdb : (x == ("__debug__" : Str)) = false := by decide) (he : starEach (e :: es) X.env = (false, eval e X.env) :: starEach es X.env := by rfl) (hpl : (backTo pos (starEach es X.env)).any (·.1) = false := by rfl) :
    PE X (.Call (.Name x p) (e :: es) [] pos) (tMake C sp dvs E t) := by
  intro pins s σ H Q I h
  refine wpAny_Call_Name_kw (ld_glob I hg hm ?_ hdb)
  refine PySem.W.callWith_K (h₀ := X.base) I.ok.mod.kin M.kp (thn (ha pos pins s σ H _ I h) fun us s1 ⟨vs, H1, I1, r, q⟩ => ⟨I1.kIn, ?_⟩) he hpl
  exact run_make M F hr hb hd hx I1 r q
end


section
variable {X : Cx} {CX : CXT} {k : Nat} {f C : Addr} {fd : FuncData} {ps ks : List Str} {sp : Sp} {E : XK} {x m : Str} {p pos apos kpos : Pos} {e o : Expr} {es : List Expr} {kws : List Keyword} {te ta : TE} {t tk : TA} {nm : Option Str}
variable {g : List Value → List Value → List Value} {gV : List V → List V → List V}
end


/-- names: the parameters first -/
structure FnScope (N P : List Str) (sc : Scope) : Prop where
  kind : sc.kind = .function
  co : sc.isCoroutine = false
  gen : sc.isGenerator = false
  nd : N.Nodup
  pre : N.take P.length = P
  par : ∀ x ∈ P, sc.names.lookup x = some .local ∨ sc.names.lookup x = some .cell
  nofree : ∀ y ∈ sc.names, y.2 ≠ .free

theorem bindL_out {kindOf : Str → Option NameKind} {x : Str} : ∀ {binds : List (Str × Value)} {m : Str → Option Value}, (∀ v, (x, v) ∉ binds) → bindL kindOf binds m x = m x
  | [], _, _ => rfl
  | (n, v) :: r, m, h => by
    unfold bindL
    rw [bindL_out fun w hw => h w (List.mem_cons_of_mem _ hw)]
    split
    · have : x ≠ n := by rintro rfl; exact h v List.mem_cons_self
      simp [this]
    · rfl
theorem bindC_out {kindOf : Str → Option NameKind} {x : Str} : ∀ {binds : List (Str × Value)} {m : Str → Option Value}, (∀ v, (x, v) ∉ binds) → bindC kindOf binds m x = m x
  | [], _, _ => rfl
  | (n, v) :: r, m, h => by
    unfold bindC
    rw [bindC_out fun w hw => h w (List.mem_cons_of_mem _ hw)]
    split
    · rfl
    · have : x ≠ n := by rintro rfl; exact h v List.mem_cons_self
      simp [this]
theorem bindL_get {kindOf : Str → Option NameKind} {x : Str} {v : Value} : ∀ {P : List Str} {vs : List Value} {i : Nat} {m : Str → Option Value}, P.Nodup → P[i]? = some x → vs[i]? = some v → kindOf x = some .local →
    bindL kindOf (P.zip vs) m x = some v
  | [], _, _, _, _, h, _, _ => by simp at h
  | _ :: _, [], _, _, _, _, h, _ => by simp at h
  | p :: P, w :: vs, 0, m, nd, h1, h2, hk => by
    simp at h1 h2; subst h1; subst h2
    show bindL kindOf ((p, w) :: P.zip vs) m p = _
    unfold bindL
    rw [bindL_out fun v hv => (List.nodup_cons.mp nd).1 (List.of_mem_zip hv).1, if_pos hk]
    simp
  | p :: P, w :: vs, i + 1, m, nd, h1, h2, hk => by
    show bindL kindOf ((p, w) :: P.zip vs) m x = _
    unfold bindL
    exact bindL_get (i := i) (List.nodup_cons.mp nd).2 (by simpa using h1) (by simpa using h2) hk
theorem bindC_get {kindOf : Str → Option NameKind} {x : Str} {v : Value} : ∀ {P : List Str} {vs : List Value} {i : Nat} {m : Str → Option Value}, P.Nodup → P[i]? = some x → vs[i]? = some v → kindOf x ≠ some .local →
    bindC kindOf (P.zip vs) m x = some v
  | [], _, _, _, _, h, _, _ => by simp at h
  | _ :: _, [], _, _, _, _, h, _ => by simp at h
  | p :: P, w :: vs, 0, m, nd, h1, h2, hk => by
    simp at h1 h2; subst h1; subst h2
    show bindC kindOf ((p, w) :: P.zip vs) m p = _
    unfold bindC
    rw [bindC_out fun v hv => (List.nodup_cons.mp nd).1 (List.of_mem_zip hv).1, if_neg hk]
    simp
  | p :: P, w :: vs, i + 1, m, nd, h1, h2, hk => by
    show bindC kindOf ((p, w) :: P.zip vs) m x = _
    unfold bindC
    exact bindC_get (i := i) (List.nodup_cons.mp nd).2 (by simpa using h1) (by simpa using h2) hk

/-- the names' values at the entry -/
def start (N : List Str) (vs : List V) : St := vs.map some ++ List.replicate (N.length - vs.length) none

/-- the context of a def's body, at its entry; an exception leaves the frame, then lies as CX says -/
def cxOf (CX : CXT) (P : Program) (w : World) (K : PySem.W.Frag) (mg : Str → Option Value) (base : Heap) (N : List Str) (qual : Str) (scope : Scope) (f : Addr) (cd : Value) (A : Around) (outer : List Env) (s : Shared) (H : Hp) (E : XK) : Cx where
  prog := P
  w := w
  K := K
  mg := mg
  base := base
  A := A.deeper (envOfC qual scope s.heap.objs.size f cd)
  N := N
  s₀ := s
  H₀ := H
  env := envOfC qual scope s.heap.objs.size f cd
  outer := outer
  stack := envOfC qual scope s.heap.objs.size f cd :: outer
  ex := []
  calm := true
  fn := fun _ => true
  pn := []
  xe := fun e s' => wpAny (model P w) (A.deeper (envOfC qual scope s.heap.objs.size f cd)) (leaving (envOfC qual scope s.heap.objs.size f cd) e) (fun _ s'' => CX outer H s E e s'') (fun e' s'' => CX outer H s E e' s'') s'

theorem cell_has {sc : Scope} {n : Nat} {x : Str} (h : sc.names.lookup x = some .cell) : ∃ c, (cellsFrom n sc.names []).lookup x = some c := by
  have q := PySem.W.cellsFrom_some sc.names n [] (.inl h)
  exact Option.isSome_iff_exists.mp q

theorem inv_start {CX : CXT} {P : Program} {w : World} {K : PySem.W.Frag} {mg : Str → Option Value} {base : Heap} {N ps : List Str} {qual : Str} {scope : Scope} {f : Addr} {cd : Value} {A : Around} {outer : List Env} {s s1 : Shared} {H : Hp} {E : XK} {us : List Value} {vs : List V}
    (S : FnScope N ps scope) (hd : A.handled = none) (e0 : Env0 P w K mg base A outer s H) (hl : vs.length = ps.length) (r : Vals vs us)
    (x : InCallC s s.heap.objs.size (bindL (envOfC qual scope s.heap.objs.size f cd).kindOf (ps.zip us) fun _ => none) (cellsFrom (s.heap.objs.size + 1) scope.names []) (bindC (envOfC qual scope s.heap.objs.size f cd).kindOf (ps.zip us) fun _ => none) s1) :
    Inv (cxOf CX P w K mg base N qual scope f cd A outer s H E) [] (start N vs) H s1 := by
  have hpl : ps.length ≤ N.length := by have := congrArg List.length S.pre; rw [List.length_take] at this; omega
  obtain ⟨h1, tk, rfl, hk⟩ := x.done
  have noA : ∀ b : Addr, b ∉ (cxOf CX P w K mg base N qual scope f cd A outer s H E).ex := fun b z => absurd (show b ∈ ([] : List Addr) from z) (by simp)
  refine ⟨⟨e0.mod, S.kind, rfl, rfl, Nat.le_refl _, fun y z c h1 h2 => ?_, fun y hy => ?_, fun y c _ h => ?_, fun _ => hd, Around.frames_deeper e0.frames, .inr ⟨rfl, rfl⟩, fun b z => absurd z (noA b), e0.bs, e0.bsz, fun b _ _ => noA b, fun b z => absurd z (noA b), e0.funs, e0.frf⟩,
    rfl, e0.bare, Un.kept hk, ⟨_, x.toInCall.ns, fun i y v h1 h2 h3 => ?_⟩, fun y c h => ⟨_, x.cell y c h⟩, e0.hok.fresh (Nat.le_refl _), fun y c h => ?_, fun p hp => absurd (show p ∈ ([] : List (Addr × Obj)) from hp) (by simp), e0.hok.kept hk, ?_⟩
  · exact name_of_addr x.apart (PySem.mem_of_lookup h1) (PySem.mem_of_lookup h2)
  · have hy : scope.names.lookup y = some .cell ∨ scope.names.lookup y = some .free := hy
    rcases hy with hy | hy
    · exact cell_has hy
    · exact absurd rfl (S.nofree _ (PySem.mem_of_lookup hy))
  · exact Nat.le_of_lt (x.above y c (PySem.mem_of_lookup h))
  · have hi : i < vs.length := by
      unfold start at h2
      by_cases hi : i < vs.length
      · exact hi
      · rw [List.getElem?_append_right (by simpa using hi)] at h2
        rw [List.getElem?_replicate] at h2
        split at h2 <;> cases h2
    have ha : vs[i]? = some v := by
      unfold start at h2
      rw [List.getElem?_append_left (by simpa using hi), List.getElem?_map] at h2
      cases e : vs[i]? with
      | none => rw [e] at h2; cases h2
      | some a => rw [e] at h2; cases h2; rfl
    obtain ⟨u, hu, rv⟩ := r.get ha
    have hp : ps[i]? = some y := by
      rw [← S.pre, List.getElem?_take_of_lt (by omega)]; exact h1
    have ndP : ps.Nodup := by rw [← S.pre]; exact S.nd.sublist (List.take_sublist _ _)
    refine ⟨u, rv, ?_⟩
    rcases S.par y (List.mem_of_getElem? hp) with k | k
    · exact .inl ⟨k, bindL_get ndP hp hu k⟩
    · obtain ⟨c, e⟩ := cell_has (n := s.heap.objs.size + 1) k
      refine .inr ⟨.inl k, c, e, ?_⟩
      have q := x.cell y c e
      rw [bindC_get ndP hp hu (by show scope.names.lookup y ≠ _; rw [k]; decide)] at q
      exact q
  · exact e0.hok.fresh (Nat.le_of_lt (x.above y c (PySem.mem_of_lookup h)))
  · unfold start
    show _ = N.length
    rw [List.length_append, List.length_map, List.length_replicate]
    omega

/-- THE RULE: a def (or a method) of the text, by its body. The body's reading t is chosen for each entry; it is run at the parameters' values -/
theorem fn_of {CX : CXT} {P : Program} {w : World} {K : PySem.W.Frag} {mg : Str → Option Value} {base : Heap} {k : Nat} {f : Addr} {name qual : Str} {params : Arguments} {body : List Stmt} {scope : Scope} {dV kV doc pm cdv ct oc : Value} {an od : Option Addr}
    {osl : Array (Option Value)} {N ps : List Str} {sp : Sp} (lk : K.lookup f = some ⟨oc, od, .func (PySem.W.fnOf name qual params body scope dV kV doc pm an cdv ct), osl⟩) (hcd : PySem.W.codeIn K cdv qual = true) (S : FnScope N ps scope)
    (len : ∀ vs H Q E, sp vs H Q E → vs.length = ps.length)
    (hbody : ∀ (A : Around) (outer : List Env) (s : Shared) (H : Hp) (vs : List V) (Q : VK) (E : XK), Room k (A.deeper (envOfC qual scope s.heap.objs.size f cdv)) → sp vs H Q E →
      ∃ t, PSs (cxOf CX P w K mg base N qual scope f cdv A outer s H E) body t ∧ t { nx := fun _ H' => Q .non H', rt := Q } (start N vs) H) :
    FnOk P w K mg base CX (k + 1) f (PySem.W.fnOf name qual params body scope dV kV doc pm an cdv ct) ps sp := by
  refine ⟨len, fun A outer s H args us vs Q E hr e0 hb r hsp => ?_⟩
  have hl := len _ _ _ _ hsp
  have KX : K.In s.heap := e0.mod.kin.keeps fun b o e => (e0.bs b o e).1
  have lim : s.heap.NoLimit := e0.mod.nolimit.keeps fun b o e => (e0.bs b o e).1
  have hkind : ∀ y ∈ ps.zip us, scope.names.lookup y.1 = some .local ∨ (scope.names.lookup y.1 = some .cell ∧ ((cellsFrom (s.heap.objs.size + 1) scope.names []).lookup y.1).isSome = true) := fun ⟨n, v⟩ hy => by
    rcases S.par n (List.of_mem_zip hy).1 with q | q
    · exact .inl q
    · exact .inr ⟨q, PySem.W.cellsFrom_some _ _ _ (.inl q)⟩
  refine codeAny_call_function hr.depth (KX _ _ lk) rfl S.co S.gen rfl (PySem.W.codeRec_of KX hcd) (hb _ _ _ _ ?_)
  refine wpAny_newFunctionEnv_cells S.kind hkind fun env he s1 x => ?_
  subst he
  refine ⟨lim.keeps x.toInCall.keep, codeAny_func ?_⟩
  obtain ⟨t, ht, hq⟩ := hbody A outer s H vs Q E (hr.deeper _) hsp
  have I : Inv (cxOf CX P w K mg base N qual scope f cdv A outer s H E) [] (start N vs) H s1 := inv_start S hr.hd e0 hl r x
  refine wpAny_mono (ht [] s1 (start N vs) H _ I hq) (fun fl s' hs => ?_) fun e s' hs => hs
  have fin : ∀ {σ' : St} {H' : Hp} {v : V} {u : Value}, Inv (cxOf CX P w K mg base N qual scope f cdv A outer s H E) [] σ' H' s' → RelV v u → Q v H' → CE outer P w H s Q u s' :=
    fun {σ' H' v u} J rv q => ⟨v, H', J.os, J.bare, J.base, J.hok, rv, q⟩
  cases fl with
  | ret u =>
    obtain ⟨v, σ', H', J, rv, q⟩ := hs
    exact fin J rv q
  | next =>
    obtain ⟨σ', H', J, q⟩ := hs
    exact fin (v := V.non) (u := Value.none) J rfl q
  | brk =>
    obtain ⟨_, _, _, q⟩ := hs
    exact False.elim q
  | cont =>
    obtain ⟨_, _, _, q⟩ := hs
    exact False.elim q
end L2

namespace L2
open PySem PySem.Spec PyProof.Rows
section
variable {X : Cx} {x : Str} {p pos : Pos} {e : Expr} {es : List Expr} {t : TA} {id T : String} {r : List V → Hp → VK → Prop}

def tCB (r : List V → Hp → VK → Prop) (t : TA) : TE := fun σ H Q => t σ H fun vs H1 => r vs H1 Q
/-- f(e, ..), f a built-in function -/
theorem pe_callB (hc : CallR X (.builtin id) r) (hg : Gl X x) (hm : X.mg x = none) (hv : bootBuiltins x = some (.builtin id)) (ha : PA X (e :: es) t) (hn : x ≠ "__name__" := by decide) (hdb : (x == ("__debug__" : Str)) = false := by decide)
    (he : starEach (e :: es) X.env = (false, eval e X.env) :: starEach es X.env := by rfl) (hpl : (backTo pos (starEach es X.env)).any (·.1) = false := by rfl) : PE X (.Call (.Name x p) (e :: es) [] pos) (tCB r t) := by
  intro pins s σ H Q I h
  refine wpAny_Call_Name_kw (ld_blt I hg hm hv ?_ hn hdb)
  exact PyProof.Rows.callWith_builtin1 (thn (ha pos pins s σ H _ I h) fun us s1 ⟨vs, H1, I1, r1, q1⟩ => hc pins s1 σ H1 vs us Q I1 r1 q1) he hpl
/-- T(e, ..), T a built-in type -/
theorem pe_callTy (hc : CallR X (.type T) r) (hg : Gl X x) (hm : X.mg x = none) (hv : bootBuiltins x = some (.type T)) (ha : PA X (e :: es) t) (hn : x ≠ "__name__" := by decide) (hdb : (x == ("__debug__" : Str)) = false := by decide)
    (he : starEach (e :: es) X.env = (false, eval e X.env) :: starEach es X.env := by rfl) (hpl : (backTo pos (starEach es X.env)).any (·.1) = false := by rfl) : PE X (.Call (.Name x p) (e :: es) [] pos) (tCB r t) := by
  intro pins s σ H Q I h
  refine wpAny_Call_Name_kw (ld_blt I hg hm hv ?_ hn hdb)
  exact PyProof.Rows.callWith_type1 (thn (ha pos pins s σ H _ I h) fun us s1 ⟨vs, H1, I1, r1, q1⟩ => hc pins s1 σ H1 vs us Q I1 r1 q1) he hpl
end
end L2

namespace HT
open PySem PyProof.Rows

section
open PySem.SeqAt
open PySem.AutoSeq1 (wpAny_loadPart')
open PySem.MeetsSeq PySem.MeetsSeq2 PySem.MeetsSeq3

end

section
variable {prog : Program} {w : World} {A : Around} {E : Value → Shared → Prop} {s : Shared}

/-- a slice's bound as a place among n (d where it is left out) -/
def sIx (n d : Nat) : Option Int → Nat
  | none => d
  | some v => if v < 0 then (v + (n : Int)).toNat else min v.toNat n
theorem sIx_none (n d : Nat) : sIx n d none = d := rfl
theorem sIx_nat (n d k : Nat) : sIx n d (some (k : Int)) = min k n := by
  show (if (k : Int) < 0 then ((k : Int) + (n : Int)).toNat else min (k : Int).toNat n) = min k n
  rw [if_neg (by omega), Int.toNat_natCast]
end
end HT

namespace L2
open PySem PySem.Spec PyProof.Rows


abbrev TO := St → Hp → (Option Int → Hp → Prop) → Prop
/-- a slice's part (left out, or an int) -/
def PO (X : Cx) (e : Option Expr) (t : TO) : Prop :=
  ∀ (pins : List (Addr × Obj)) (s : Shared) (σ : St) (H : Hp) (Q : Option Int → Hp → Prop), Inv X pins σ H s → t σ H Q →
    wpAny (model X.prog X.w) X.A (evalPart e X.env) (fun u s' => ∃ o H', Inv X pins σ H' s' ∧ IsPart u o ∧ Q o H') X.xe s
def tNoPart : TO := fun _ H Q => Q none H
def tPart (t : TE) : TO := fun σ H Q => t σ H fun x H1 => ∃ i, x = .int i ∧ Q (some i) H1

section
variable {X : Cx} {e : Expr} {te : TE} {lo hi : Option Expr} {tl th : TO} {pos p2 : Pos}

theorem po_none : PO X none tNoPart := by
  intro pins s σ H Q I h
  rw [evalPart_none]
  exact wpAny_pure ⟨none, H, I, .none, h⟩
theorem po_some (h : PE X e te) : PO X (some e) (tPart te) := by
  intro pins s σ H Q I hw
  rw [evalPart_some]
  refine thn (h pins s σ H _ I hw) fun u s1 ⟨x, H1, I1, r1, q1⟩ => ?_
  obtain ⟨i, rfl, q⟩ := q1
  obtain ⟨t, rfl⟩ := r1
  exact ⟨some i, H1, I1, .int i t, q⟩

/-- what a slice of a value is, by values: the slice object stands at sl -/
def SlR (X : Cx) (r : V → Option Int → Option Int → Hp → VK → Prop) : Prop :=
  ∀ (pins : List (Addr × Obj)) (s : Shared) (σ : St) (H : Hp) (x : V) (v vl vu : Value) (lo hi : Option Int) (sl : Addr) (Q : VK), Inv X pins σ H s → RelV x v → s.heap.IsSliceOf sl vl vu .none → IsPart vl lo → IsPart vu hi → r x lo hi H Q →
    ∃ T id, typeLookup (.type T) "__getitem__" = pure (some (.builtin id)) ∧ s.TypeIs v T ∧ wpAny (model X.prog X.w) X.A (getItem v (.ref sl)) (EP X pins σ Q) X.xe s
theorem SlR.or {r r' : V → Option Int → Option Int → Hp → VK → Prop} (h : SlR X r) (h' : SlR X r') : SlR X (fun x lo hi H Q => r x lo hi H Q ∨ r' x lo hi H Q) := by
  intro pins s σ H x v vl vu lo hi sl Q I rx hs pl pu q
  rcases q with q | q
  · exact h pins s σ H x v vl vu lo hi sl Q I rx hs pl pu q
  · exact h' pins s σ H x v vl vu lo hi sl Q I rx hs pl pu q
def tSl (r : V → Option Int → Option Int → Hp → VK → Prop) (te : TE) (tl th : TO) : TE := fun σ H Q => te σ H fun x H1 => tl σ H1 fun l H2 => th σ H2 fun u H3 => r x l u H3 Q
/-- a[lo:hi], any a -/
theorem pe_slice {r : V → Option Int → Option Int → Hp → VK → Prop} (hr : SlR X r) (he : PE X e te) (hl : PO X lo tl) (hu : PO X hi th) : PE X (.Subscript e (.Slice lo hi none p2) pos) (tSl r te tl th) := by
  intro pins s σ H Q I h
  refine Subscript_ (thn (he pins s σ H _ I h) fun v s1 ⟨x, H1, I1, r1, q1⟩ => ?_)
  refine wpAny_Slice (thn (hl pins s1 σ H1 _ I1 q1) fun vl s2 ⟨l, H2, I2, pl, q2⟩ => thn (hu pins s2 σ H2 _ I2 q2) fun vu s3 ⟨u, H3, I3, pu, q3⟩ => ?_)
  rw [evalPart_none]
  refine wpAny_pure ?_
  have I4 : Inv X pins σ H3 { s3 with heap := s3.heap.push { cls := .type "slice", data := .fields #[vl, vu, .none] } } := I3.kept (t' := s3.toks) fun b ob q => Heap.get?_push_of_some _ q
  obtain ⟨T, id, hT, ht, hg⟩ := hr pins { s3 with heap := s3.heap.push { cls := .type "slice", data := .fields #[vl, vu, .none] } } σ H3 x v vl vu l u s3.heap.objs.size Q I4 r1 (Heap.IsSliceOf.new ..) pl pu q3
  show wpAny (model X.prog X.w) X.A (subscriptTail e (.Slice lo hi none p2) v (.ref s3.heap.objs.size)) (EP X pins σ Q) X.xe { s3 with heap := s3.heap.push { cls := .type "slice", data := .fields #[vl, vu, .none] } }
  exact tail_any (ops := [.ref s3.heap.objs.size, v]) ht hT hg (by with_unfolding_all rfl)

/-- the items of xs[lo:hi] -/
def cutV (xs : List V) (lo hi : Option Int) : List V := (xs.drop (HT.sIx xs.length 0 lo)).take (HT.sIx xs.length xs.length hi - HT.sIx xs.length 0 lo)
theorem cutV_length (xs : List V) (lo hi : Option Int) : (cutV xs lo hi).length ≤ xs.length := by
  unfold cutV
  rw [List.length_take, List.length_drop]
  omega
end
end L2

namespace L2
open PySem PySem.Spec PyProof.Rows


/-- the place that an index of any sign means -/
def ixN (n : Nat) (i : Int) : Option Nat := if 0 ≤ i then (if i < n then some i.toNat else none) else if -(n : Int) ≤ i then some (i + n).toNat else none
def atI {α : Type} (xs : List α) (i : Int) : Option α := (ixN xs.length i).bind fun j => xs[j]?
theorem ixN_seq {n : Nat} {i : Int} {j : Nat} (h : ixN n i = some j) : seqIndex? i n = some j ∧ j < n ∧ -(n : Int) ≤ i ∧ i < n := by
  unfold ixN at h
  by_cases h0 : 0 ≤ i
  · rw [if_pos h0] at h
    by_cases h1 : i < n
    · rw [if_pos h1] at h
      have e : i.toNat = j := Option.some.inj h
      exact ⟨by rw [seqIndex_of h0 h1, e], by omega, by omega, h1⟩
    · rw [if_neg h1] at h; cases h
  · rw [if_neg h0] at h
    by_cases h1 : -(n : Int) ≤ i
    · rw [if_pos h1] at h
      have e : (i + n).toNat = j := Option.some.inj h
      exact ⟨by rw [seqIndex_neg (by omega) h1, e], by omega, h1, by omega⟩
    · rw [if_neg h1] at h; cases h
theorem atI_get {α : Type} {xs : List α} {i : Int} {v : α} (h : atI xs i = some v) : ∃ j, seqIndex? i xs.length = some j ∧ xs[j]? = some v ∧ j < xs.length ∧ -(xs.length : Int) ≤ i ∧ i < xs.length := by
  unfold atI at h
  cases e : ixN xs.length i with
  | none => rw [e] at h; cases h
  | some j =>
    rw [e] at h
    obtain ⟨h1, h2, h3, h4⟩ := ixN_seq e
    exact ⟨j, h1, h, h2, h3, h4⟩
theorem atI_nat {α : Type} {xs : List α} {j : Nat} {v : α} (h : xs[j]? = some v) : atI xs (j : Int) = some v := by
  have hj : j < xs.length := (List.getElem?_eq_some_iff.mp h).1
  have e : ixN xs.length (j : Int) = some j := by
    unfold ixN
    rw [if_pos (by omega), if_pos (by omega)]; simp
  unfold atI; rw [e]; exact h
/-- what stands as an index of a plain subscript -/
def PlainIx (b : Expr) : Prop := ∀ o i, subscripted b false o i = operate [o, i] (getItem o i)
/-- a subscript by values -/
def IxR (X : Cx) (r : R2) : Prop :=
  ∀ (value slice : Expr) (pins : List (Addr × Obj)) (s : Shared) (σ : St) (H : Hp) (x y : V) (v u : Value) (Q : VK), Inv X pins σ H s → RelV x v → RelV y u → r x y H Q →
    subscripted slice false v u = operate [v, u] (getItem v u) → wpAny (model X.prog X.w) X.A (subscriptTail value slice v u) (EP X pins σ Q) X.xe s
/-- a call of a builtin's method by values: the receiver, the arguments -/
def MtR (X : Cx) (id : String) (r : V → List V → Hp → VK → Prop) : Prop :=
  ∀ (pins : List (Addr × Obj)) (s : Shared) (σ : St) (H : Hp) (x : V) (xs : List V) (v : Value) (us : List Value) (Q : VK), Inv X pins σ H s → RelV x v → Vals xs us → r x xs H Q →
    wpAny (model X.prog X.w) X.A (call (.builtin id) (v :: us)) (EP X pins σ Q) X.xe s
section
variable {X : Cx} {a b : Expr} {ta tb : TE} {pos : Pos}
theorem IxR.or {r r' : R2} (h : IxR X r) (h' : IxR X r') : IxR X (fun x y H Q => r x y H Q ∨ r' x y H Q) := by
  intro value slice pins s σ H x y v u Q I rx ry q hs
  rcases q with q | q
  · exact h value slice pins s σ H x y v u Q I rx ry q hs
  · exact h' value slice pins s σ H x y v u Q I rx ry q hs
theorem MtR.or {id : String} {r r' : V → List V → Hp → VK → Prop} (h : MtR X id r) (h' : MtR X id r') : MtR X id (fun x xs H Q => r x xs H Q ∨ r' x xs H Q) := by
  intro pins s σ H x xs v us Q I rx rs q
  rcases q with q | q
  · exact h pins s σ H x xs v us Q I rx rs q
  · exact h' pins s σ H x xs v us Q I rx rs q
/-- a[b] -/
theorem pe_ix {r : R2} (hr : IxR X r) (ha : PE X a ta) (hb : PE X b tb) (hs : PlainIx b) : PE X (.Subscript a b pos) (tOp r ta tb) := by
  intro pins s σ H Q I h
  exact Subscript_ (binT ha hb I h fun v u s2 x y H2 I2 rx ry q => hr a b pins s2 σ H2 x y v u Q I2 rx ry q (hs _ _))

def rIxL (K : PySem.W.Frag) : R2 := fun x y H Q => ∃ p xs i v, x = .ref p ∧ y = .int i ∧ SqL K H p xs ∧ atI xs i = some v ∧ Q v H
def rIxT (K : PySem.W.Frag) : R2 := fun x y H Q => ∃ p xs i v, x = .ref p ∧ y = .int i ∧ SqT K H p xs ∧ atI xs i = some v ∧ Q v H
theorem ix_list : IxR X (rIxL X.K) := by
  intro value slice pins s σ H x y v u Q I rx ry h hs
  obtain ⟨p, xs, i, z, rfl, rfl, hq, he, q⟩ := h
  cases rx
  obtain ⟨t, rfl⟩ := ry
  obtain ⟨its, r, pl, hz⟩ := I.list hq
  obtain ⟨j, h1, h2, h3, h4, h5⟩ := atI_get he
  obtain ⟨w, ew, rw'⟩ := r.get h2
  have hl := r.length
  have hn := line63
  have fin : EP X pins σ Q w s := ⟨z, H, I, rw', q⟩
  by_cases h0 : 0 ≤ i
  · have hj : i.toNat = j := by
      rw [seqIndex_of h0 h5] at h1
      exact Option.some.inj h1
    exact item_listR pl.isList h0 (by omega) (by rw [hj]; simpa using ew) fin hs
  · have hj : (i + (its.toArray.size : Int)).toNat = j := by
      rw [seqIndex_neg (by omega) h4] at h1
      rw [List.size_toArray, ← hl]
      exact Option.some.inj h1
    exact subscriptTail_builtinR (x := w) pl.isList.typeIs slot_list_getitem.lookup
      (wpAny_getItem_list_neg (Q := fun r s' => r = w ∧ EP X pins σ Q r s') pl.isList (by omega) (by rw [List.size_toArray] <;> omega) (by omega) (by rw [hj]; simpa using ew) ⟨rfl, fin⟩) hs
theorem ix_tup : IxR X (rIxT X.K) := by
  intro value slice pins s σ H x y v u Q I rx ry h hs
  obtain ⟨p, xs, i, z, rfl, rfl, hq, he, q⟩ := h
  cases rx
  obtain ⟨t, rfl⟩ := ry
  obtain ⟨its, r, pl, hz⟩ := I.tuple hq
  obtain ⟨j, h1, h2, h3, h4, h5⟩ := atI_get he
  obtain ⟨w, ew, rw'⟩ := r.get h2
  have hl := r.length
  have hn := line63
  have fin : EP X pins σ Q w s := ⟨z, H, I, rw', q⟩
  exact subscriptTail_builtinR (x := w) pl.typeIs slot_tuple_getitem.lookup
    (getItem_tuple (j := j) (Q := fun r s' => r = w ∧ EP X pins σ Q r s') pl (by omega) (by omega) (by rw [List.size_toArray, ← hl]; exact h1) (by simpa using ew) ⟨rfl, fin⟩) hs
/-- the list's object behind a store -/
theorem mapSeq_set (its : List Value) (n j : Nat) (u : Value) : Obj.mapSeq (·.setIfInBounds j u) { cls := .type "list", data := .seq its.toArray n } = { cls := .type "list", data := .seq (its.set j u).toArray n } := by
  simp [Obj.mapSeq]
theorem Inv.lst {pins : List (Addr × Obj)} {σ : St} {H : Hp} {s : Shared} {p : Addr} {xs : List V} (I : Inv X pins σ H s) (h : H p = some (.lst xs)) :
    ∃ (its : List Value) (n : Nat), Vals xs its ∧ s.heap.get? p = some { cls := .type "list", data := .seq its.toArray n } ∧ xs.length ≤ sizeLine := by
  obtain ⟨z, its, n, r, e⟩ := I.hok p _ h
  exact ⟨its, n, r, e, z⟩
/-- the list at p is written by an update of its object -/
theorem Inv.lstUpd {pins : List (Addr × Obj)} {σ : St} {H : Hp} {s : Shared} {p : Addr} {xs ys : List V} {its its' : List Value} {n n' : Nat} {f : Obj → Obj} (I : Inv X pins σ H s) (h : H p = some (.lst xs))
    (ho : s.heap.get? p = some { cls := .type "list", data := .seq its.toArray n }) (hf : f { cls := .type "list", data := .seq its.toArray n } = { cls := .type "list", data := .seq its'.toArray n' }) (r : Vals ys its') (hz : ys.length ≤ sizeLine) (t : Nat) :
    Inv X pins σ (upd H p (.lst ys)) { s with heap := s.heap.update p f, toks := t } := by
  have e : (s.heap.update p f).get? p = some { cls := .type "list", data := .seq its'.toArray n' } := by
    rw [Heap.get?_update_self f ho (by rw [hf] <;> rfl), hf]
  refine I.write (x := p) (e := p) (by rw [h]; trivial) (.inl rfl) (fun b u hb q => (Heap.get?_update_other _ _ (Ne.symm hb)).trans q) ⟨_, e⟩ ?_
  exact ⟨hz, its', n', r, e⟩
def rSetL : V → V → V → Hp → (Hp → Prop) → Prop := fun o i v H Q => ∃ p xs k j, o = .ref p ∧ i = .int k ∧ H p = some (.lst xs) ∧ ixN xs.length k = some j ∧ Q (upd H p (.lst (xs.set j v)))
theorem set_list : PSet X rSetL := by
  intro pins s σ H o i v ov iv u Q I ro ri rv h
  obtain ⟨p, xs, k, j, rfl, rfl, hp, hj, q⟩ := h
  cases ro
  obtain ⟨t, rfl⟩ := ri
  obtain ⟨its, n, r, ho, hz⟩ := I.lst hp
  obtain ⟨h1, h2, h3, h4⟩ := ixN_seq hj
  have hl := r.length
  have hn := line63
  have I' : Inv X pins σ (upd H p (.lst (xs.set j v))) { s with heap := s.heap.update p (Obj.mapSeq (·.setIfInBounds j u)) } :=
    I.lstUpd hp ho (mapSeq_set its n j u) (r.set rv j) (by rw [List.length_set]; exact hz) s.toks
  by_cases h0 : 0 ≤ k
  · have hk : k.toNat = j := by
      rw [seqIndex_of h0 h4] at h1
      exact Option.some.inj h1
    exact PySem.W.ki_setAt ho h0 (by omega) (by rw [List.size_toArray, ← hl]; exact h4) (by rw [hk]; exact ⟨_, I', q⟩)
  · have hk : (k + (its.toArray.size : Int)).toNat = j := by
      rw [seqIndex_neg (by omega) h3] at h1
      rw [List.size_toArray, ← hl]
      exact Option.some.inj h1
    exact PySem.W.ki_setBack ho (by omega) (by rw [List.size_toArray, ← hl]; exact h3) (by omega) (by rw [hk]; exact ⟨_, I', q⟩)


theorem slice_bounds (lo hi : Option Int) (n : Nat) : (sliceBounds lo hi none n).1 = ((HT.sIx n 0 lo : Nat) : Int) ∧ (sliceBounds lo hi none n).2.1 = ((HT.sIx n n hi : Nat) : Int) ∧ (sliceBounds lo hi none n).2.2 = 1 := by
  refine ⟨?_, ?_, rfl⟩
  · cases lo with
    | none => simp [sliceBounds, HT.sIx]
    | some i =>
      simp only [sliceBounds, HT.sIx, Option.getD_none, show (1 : Int) > 0 by decide, if_true]
      by_cases h : i < 0
      · simp only [h, if_true] <;> omega
      · simp only [h, if_false] <;> omega
  · cases hi with
    | none => simp [sliceBounds, HT.sIx]
    | some i =>
      simp only [sliceBounds, HT.sIx, Option.getD_none, show (1 : Int) > 0 by decide, if_true]
      by_cases h : i < 0
      · simp only [h, if_true] <;> omega
      · simp only [h, if_false] <;> omega
theorem slicePick_cut (its : List Value) (lo hi : Option Int) : slicePick its.toArray lo hi none = ((its.drop (HT.sIx its.length 0 lo)).take (HT.sIx its.length its.length hi - HT.sIx its.length 0 lo)).toArray := by
  obtain ⟨h1, h2, h3⟩ := slice_bounds lo hi its.toArray.size
  unfold slicePick
  rw [h1, h2, h3]
  simp only [sliceRange_one, pick_run, List.size_toArray] <;> rfl
/-- xs[lo:hi] of a list: a new list -/
def rSlL (K : PySem.W.Frag) : V → Option Int → Option Int → Hp → VK → Prop := fun x lo hi H Q => ∃ a xs, x = .ref a ∧ SqL K H a xs ∧ ∀ p, H p = none → Q (.ref p) (upd H p (.lst (cutV xs lo hi)))
theorem sl_list : SlR X (rSlL X.K) := by
  intro pins s σ H x v vl vu lo hi sl Q I rx hs pl pu h
  obtain ⟨a, xs, rfl, hx, q⟩ := h
  cases rx
  obtain ⟨its, r, ht, hz⟩ := I.list hx
  have hlen := r.length
  refine ⟨"list", _, slot_list_getitem.lookup, ht.isList.typeIs, ?_⟩
  refine wpAny_getItem_list_slice ht.isList hs pl pu .none (by simp) ?_ (by rw [List.size_toArray] <;> omega)
  rw [slicePick_cut, ← hlen]
  refine ⟨.ref s.heap.objs.size, _, I.laid (t' := s.toks) (o := .lst (cutV xs lo hi)) (fun b ob q => Heap.get?_push_of_some _ q) (Nat.le_refl _) ?_, rfl, q _ (I.hok.fresh (Nat.le_refl _))⟩
  exact ⟨Nat.le_trans (cutV_length xs lo hi) hz, _, 0, (r.drop (HT.sIx xs.length 0 lo)).take (HT.sIx xs.length xs.length hi - HT.sIx xs.length 0 lo), Heap.get?_push_size _ rfl⟩


def flatV : V → Bool
  | .non => true
  | .bl _ => true
  | .int _ => true
  | .str _ => true
  | _ => false
/-- == of flat values -/
def eqV : V → V → Bool
  | .non, .non => true
  | .bl a, .bl b => a == b
  | .bl a, .int b => (if a then 1 else 0) == b
  | .int a, .bl b => a == (if b then 1 else 0)
  | .int a, .int b => a == b
  | .str a, .str b => a == b
  | _, _ => false
theorem eqAt_V {A : Around} {s : Shared} {y x : V} {u v : Value} (ry : RelV y u) (rx : RelV x v) (fy : flatV y = true) (fx : flatV x = true) : SeqAt.EqAt A s u v (eqV y x) := by
  cases y with
  | non =>
    cases ry
    cases x with
    | non => cases rx; exact SeqAt.EqAt.same _
    | bl b => cases rx; exact SeqAt.EqAt.none_bool b
    | int b => obtain ⟨t, rfl⟩ := rx; exact SeqAt.EqAt.none_int b t
    | str b => obtain ⟨t, rfl⟩ := rx; exact SeqAt.EqAt.none_str b t
    | _ => exact absurd (show false = true from fx) Bool.false_ne_true
  | bl a =>
    cases ry
    cases x with
    | non => cases rx; exact SeqAt.EqAt.bool_none a
    | bl b => cases rx; exact SeqAt.EqAt.bool_bool a b
    | int b => obtain ⟨t, rfl⟩ := rx; exact SeqAt.EqAt.bool_int a b t
    | str b => obtain ⟨t, rfl⟩ := rx; exact SeqAt.EqAt.bool_str a b t
    | _ => exact absurd (show false = true from fx) Bool.false_ne_true
  | int a =>
    obtain ⟨t', rfl⟩ := ry
    cases x with
    | non => cases rx; exact SeqAt.EqAt.int_none a t'
    | bl b => cases rx; exact SeqAt.EqAt.int_bool a t' b
    | int b => obtain ⟨t, rfl⟩ := rx; exact SeqAt.EqAt.int_int a t' b t
    | str b => obtain ⟨t, rfl⟩ := rx; exact SeqAt.EqAt.int_str a t' b t
    | _ => exact absurd (show false = true from fx) Bool.false_ne_true
  | str a =>
    obtain ⟨t', rfl⟩ := ry
    cases x with
    | non => cases rx; exact SeqAt.EqAt.str_none a t'
    | bl b => cases rx; exact SeqAt.EqAt.str_bool a t' b
    | int b => obtain ⟨t, rfl⟩ := rx; exact SeqAt.EqAt.str_int a t' b t
    | str b => obtain ⟨t, rfl⟩ := rx; exact SeqAt.EqAt.str_str a t' b t
    | _ => exact absurd (show false = true from fx) Bool.false_ne_true
  | _ => exact absurd (show false = true from fy) Bool.false_ne_true
/-- the items' answers, read off the values (a value's own answer does not lean on its token) -/
def eqU (x : V) (u : Value) : Bool := match u with
  | .none => eqV .non x
  | .bool b => eqV (.bl b) x
  | .int i _ => eqV (.int i) x
  | .str z _ => eqV (.str z) x
  | _ => false
theorem eqU_of {x y : V} {u : Value} (r : RelV y u) (f : flatV y = true) : eqU x u = eqV y x := by
  cases y with
  | non => cases r; rfl
  | bl b => cases r; rfl
  | int i => obtain ⟨t, rfl⟩ := r; rfl
  | str z => obtain ⟨t, rfl⟩ := r; rfl
  | _ => exact absurd (show false = true from f) Bool.false_ne_true
theorem any_eqU {x : V} : ∀ {xs : List V} {us : List Value}, Vals xs us → xs.all flatV = true → us.any (eqU x) = xs.any fun y => eqV y x
  | _, _, .nil, _ => rfl
  | y :: xs, u :: us, .cons r t, f => by
    rw [List.all_cons, Bool.and_eq_true] at f
    rw [List.any_cons, List.any_cons, eqU_of r f.1, any_eqU t f.2]
theorem mem_eqAt {A : Around} {s : Shared} {x : V} {v : Value} (rx : RelV x v) (fx : flatV x = true) : ∀ {xs : List V} {us : List Value}, Vals xs us → xs.all flatV = true → ∀ u ∈ us, SeqAt.EqAt A s u v (eqU x u)
  | _, _, .nil, _ => fun u hu => by cases hu
  | y :: xs, u :: us, .cons r t, f => fun u' hu => by
    rw [List.all_cons, Bool.and_eq_true] at f
    rcases List.mem_cons.mp hu with rfl | hu
    · rw [eqU_of r f.1]; exact eqAt_V r rx f.1 fx
    · exact mem_eqAt rx fx t f.2 u' hu
def inV (x : V) (xs : List V) : Bool := xs.any fun y => eqV y x
/-- x in a list or tuple of flat items -/
def rIn (K : PySem.W.Frag) (neg : Bool) : R2 := fun x y H Q => ∃ p xs, y = .ref p ∧ (SqL K H p xs ∨ SqT K H p xs) ∧ flatV x = true ∧ xs.all flatV = true ∧ Q (.bl (if neg then !inV x xs else inV x xs)) H
theorem op_in_seq : OpR X (compareOp .In) (rIn X.K false) := by
  intro pins s σ H x y v u Q I rx ry h
  obtain ⟨p, xs, rfl, hq, fx, fs, q⟩ := h
  cases ry
  rcases hq with hq | hq
  · obtain ⟨its, r, pl, hz⟩ := I.list hq
    refine SeqAt.in_listAt (eqU x) pl.isList (fun w hw => mem_eqAt rx fx r fs w (by simpa using hw)) ⟨.bl _, H, I, rfl, ?_⟩
    rw [show its.toArray.any (eqU x) = its.any (eqU x) by simp, any_eqU r fs]
    exact q
  · obtain ⟨its, r, pl, hz⟩ := I.tuple hq
    refine SeqAt.in_tupleAt (eqU x) pl (fun w hw => mem_eqAt rx fx r fs w (by simpa using hw)) ⟨.bl _, H, I, rfl, ?_⟩
    rw [show its.toArray.any (eqU x) = its.any (eqU x) by simp, any_eqU r fs]
    exact q
theorem op_notIn_seq : OpR X (compareOp .NotIn) (rIn X.K true) := by
  intro pins s σ H x y v u Q I rx ry h
  obtain ⟨p, xs, rfl, hq, fx, fs, q⟩ := h
  cases ry
  rcases hq with hq | hq
  · obtain ⟨its, r, pl, hz⟩ := I.list hq
    refine SeqAt.notIn_listAt (eqU x) pl.isList (fun w hw => mem_eqAt rx fx r fs w (by simpa using hw)) ⟨.bl _, H, I, rfl, ?_⟩
    rw [show its.toArray.any (eqU x) = its.any (eqU x) by simp, any_eqU r fs]
    exact q
  · obtain ⟨its, r, pl, hz⟩ := I.tuple hq
    refine SeqAt.notIn_tupleAt (eqU x) pl (fun w hw => mem_eqAt rx fx r fs w (by simpa using hw)) ⟨.bl _, H, I, rfl, ?_⟩
    rw [show its.toArray.any (eqU x) = its.any (eqU x) by simp, any_eqU r fs]
    exact q
theorem call_len_seq : CallR X (.builtin "len") (fun xs H Q => ∃ p ys, xs = [.ref p] ∧ (SqL X.K H p ys ∨ SqT X.K H p ys) ∧ Q (.int ys.length) H) := by
  intro pins s σ H xs us Q I r h
  obtain ⟨p, ys, rfl, hq, q⟩ := h
  obtain ⟨u, rfl, rx⟩ := vals1 r
  cases rx
  have hn := line63
  rcases hq with hq | hq
  · obtain ⟨its, r', pl, hz⟩ := I.list hq
    have hlen := r'.length
    exact Calls.call_len_list pl.isList (by simp only [List.size_toArray] <;> omega) ⟨.int ys.length, H, I.tok _, ⟨s.toks + 1, by rw [List.size_toArray, hlen]⟩, q⟩
  · obtain ⟨its, r', pl, hz⟩ := I.tuple hq
    have hlen := r'.length
    exact len_tuple pl (by simp only [List.size_toArray] <;> omega) ⟨.int ys.length, H, I.tok _, ⟨s.toks + 1, by rw [List.size_toArray, hlen]⟩, q⟩
theorem CallR.or {f : Value} {r r' : List V → Hp → VK → Prop} (h : CallR X f r) (h' : CallR X f r') : CallR X f (fun xs H Q => r xs H Q ∨ r' xs H Q) := by
  intro pins s σ H xs us Q I rs q
  rcases q with q | q
  · exact h pins s σ H xs us Q I rs q
  · exact h' pins s σ H xs us Q I rs q
theorem call_list_of : CallR X (.type "list") (fun xs H Q => ∃ p ys, xs = [.ref p] ∧ (SqL X.K H p ys ∨ SqT X.K H p ys) ∧ ∀ l, H l = none → Q (.ref l) (upd H l (.lst ys))) := by
  intro pins s σ H xs us Q I r h
  obtain ⟨p, ys, rfl, hq, q⟩ := h
  obtain ⟨u, rfl, rx⟩ := vals1 r
  cases rx
  have fin : ∀ (its : List Value), Vals ys its → ys.length ≤ sizeLine → ∀ (h' : Heap) (c' : Nat), (∀ b o', s.heap.get? b = some o' → h'.get? b = some o') →
      h'.get? s.heap.objs.size = some { cls := .type "list", dict := none, data := .seq its.toArray c', slots := #[] } → EP X pins σ Q (.ref s.heap.objs.size) { s with heap := h' } := fun its r' hz h' c' kp e =>
    ⟨.ref s.heap.objs.size, _, I.laid (t' := s.toks) kp (Nat.le_refl _) (show ObjOk X.prog X.w _ h' _ (.lst ys) from ⟨hz, its, c', r', e⟩), rfl, q _ (I.hok.fresh (Nat.le_refl _))⟩
  rcases hq with hq | hq
  · obtain ⟨its, r', pl, hz⟩ := I.list hq
    have hlen := r'.length
    obtain ⟨o, ho, hc, n, hd⟩ := pl.isList
    exact call_list_seq p (.inl rfl) ho hc hd (fun h' c' kp e => fin its r' hz h' c' kp e) (by simp only [List.size_toArray] <;> omega)
  · obtain ⟨its, r', pl, hz⟩ := I.tuple hq
    have hlen := r'.length
    obtain ⟨o, ho, hc, n, hd⟩ := pl
    exact call_list_seq p (.inr rfl) ho hc hd (fun h' c' kp e => fin its r' hz h' c' kp e) (by simp only [List.size_toArray] <;> omega)
/-- the value is of that builtin type -/
def tyV (K : PySem.W.Frag) (T : String) (x : V) (H : Hp) : Prop := match x with
  | .str _ => T = "str"
  | .int _ => T = "int"
  | .ref p => (T = "list" ∧ ∃ xs, SqL K H p xs) ∨ (T = "tuple" ∧ ∃ o, K.lookup p = some o ∧ o.cls = .type "tuple" ∧ o.dict = none) ∨
      (T = "dict" ∧ ((∃ kvs, H p = some (.dK kvs)) ∨ ∃ kvs, H p = some (.dT kvs))) ∨ (T = "set" ∧ ∃ S n, H p = some (.set S n))
  | _ => False
theorem tyV_is {pins : List (Addr × Obj)} {σ : St} {H : Hp} {s : Shared} {T : String} {x : V} {v : Value} (I : Inv X pins σ H s) (r : RelV x v) (ty : tyV X.K T x H) :
    s.TypeIs v T ∧ ∀ a, v = .ref a → ∃ ob, s.heap.get? a = some ob ∧ ob.dict = none := by
  cases x with
  | str z =>
    obtain ⟨t, rfl⟩ := r
    cases (show T = "str" from ty)
    exact ⟨typeIs_str s z t, fun _ e => nomatch e⟩
  | int i =>
    obtain ⟨t, rfl⟩ := r
    cases (show T = "int" from ty)
    exact ⟨typeIs_int s i t, fun _ e => nomatch e⟩
  | ref p =>
    cases r
    rcases ty with ⟨rfl, xs, hq⟩ | ⟨rfl, o, hk, hc, hd⟩ | ⟨rfl, hk⟩ | ⟨rfl, S, n, hk⟩
    · obtain ⟨its, _, pl, _⟩ := I.list hq
      refine ⟨pl.isList.typeIs, fun a e => ?_⟩
      cases e
      obtain ⟨o, n, e, c, hd, _⟩ := pl
      exact ⟨o, e, hd⟩
    · refine ⟨⟨o, I.kIn p o hk, hc⟩, fun a e => ?_⟩
      cases e
      exact ⟨o, I.kIn _ o hk, hd⟩
    · have z : ∃ o, s.heap.get? p = some o ∧ o.ExactDict := by
        rcases hk with ⟨kvs, hk⟩ | ⟨kvs, hk⟩
        · obtain ⟨_, _, _, _, o, _, _, e, ex, _⟩ := I.hok p _ hk
          exact ⟨o, e, ex⟩
        · obtain ⟨_, _, _, _, o, _, _, e, ex, _⟩ := I.hok p _ hk
          exact ⟨o, e, ex⟩
      obtain ⟨o, e, ex⟩ := z
      refine ⟨⟨o, e, ex.1⟩, fun a e2 => ?_⟩
      cases e2
      exact ⟨o, e, ex.2.1⟩
    · obtain ⟨o, _, _, _, e, ex, _⟩ := I.hok p _ hk
      refine ⟨⟨o, e, ex.1⟩, fun a e2 => ?_⟩
      cases e2
      exact ⟨o, e, ex.2.1⟩
  | _ => exact False.elim ty
def tBM0 (K : PySem.W.Frag) (T : String) (r : V → List V → Hp → VK → Prop) (to : TE) : TE := fun σ H Q => to σ H fun x H1 => tyV K T x H1 ∧ r x [] H1 Q
def tBM (K : PySem.W.Frag) (T : String) (r : V → List V → Hp → VK → Prop) (to : TE) (t : TA) : TE := fun σ H Q => to σ H fun x H1 => tyV K T x H1 ∧ t σ H1 fun xs H2 => r x xs H2 Q
variable {o e : Expr} {es : List Expr} {to : TE} {t : TA} {name : Str} {apos cpos : Pos} {T id : String} {r : V → List V → Hp → VK → Prop}
theorem pe_bm0 (pa : PlainAttrs T) (slot : Slot T name id) (hty : typeOf (.builtin id) = pure (.type "method_descriptor")) (hm : MtR X id r) (ho : PE X o to)
    (hbase : attributeBase o name X.env (eval o X.env) = eval o X.env := by rfl) (hline : (apos.endLine == cpos.line) = true := by rfl) : PE X (.Call (.Attribute o name apos) [] [] cpos) (tBM0 X.K T r to) := by
  intro pins s σ H Q I h
  refine wpAny_Call_method0_late hbase hline (thn (ho pins s σ H _ I h) fun v s1 ⟨x, H1, I1, r1, ty, q1⟩ => ?_)
  obtain ⟨h1, h2⟩ := tyV_is I1 r1 ty
  exact ⟨T, id, pa, slot, hty, h1, h2, Calls.callWith_builtin rfl (PySem.evalArgs_none (hm pins s1 σ H1 x [] v [] Q I1 r1 .nil q1))⟩
theorem pe_bm (pa : PlainAttrs T) (slot : Slot T name id) (hty : typeOf (.builtin id) = pure (.type "method_descriptor")) (hm : MtR X id r) (ho : PE X o to) (ha : PA X (e :: es) t)
    (hbase : attributeBase o name X.env (eval o X.env) = eval o X.env := by rfl)
    (hfew : ((backTo cpos (starEach (e :: es) X.env)).all (fun x => !x.1) && (backToKw cpos (keywordEach [] X.env)).all (fun x => x.1.isSome)
      && decide ((e :: es).length + ([] : List Keyword).length + (if ([] : List Keyword).isEmpty then 0 else 1) < 30)) = true := by rfl)
    (hline : (apos.endLine == cpos.line) = true := by rfl) (hs : starEach (e :: es) X.env = (false, eval e X.env) :: starEach es X.env := by rfl) (hplain : (backTo cpos (starEach es X.env)).any (·.1) = false := by rfl) :
    PE X (.Call (.Attribute o name apos) (e :: es) [] cpos) (tBM X.K T r to t) := by
  intro pins s σ H Q I h
  refine wpAny_Call_method_late hbase hfew hline rfl (thn (ho pins s σ H _ I h) fun v s1 ⟨x, H1, I1, r1, ty, q1⟩ => ?_)
  obtain ⟨h1, h2⟩ := tyV_is I1 r1 ty
  refine ⟨T, id, pa, slot, hty, h1, h2, ?_⟩
  have hA := ha cpos pins s1 σ H1 _ I1 q1
  rw [hs] at hA ⊢
  refine Calls.callWith_builtin (by show (false || (backTo cpos (starEach es X.env)).any (·.1)) = false; rw [hplain] <;> rfl) (Calls.evalArgs_plain ?_)
  exact thn hA fun us s2 ⟨vs, H2, I2, r2, q2⟩ => hm pins s2 σ H2 x vs v us Q I2 r1 r2 q2

end
end L2

namespace L2
open PySem PySem.Spec PyProof.Rows

def MtM (X : Cx) (id : String) (r : V → List V → Hp → VK → Prop) : Prop :=
  ∀ (pins : List (Addr × Obj)) (s : Shared) (σ : St) (H : Hp) (x : V) (xs : List V) (v : Value) (us : List Value) (Q : VK), Inv X pins σ H s → RelV x v → Vals xs us → r x xs H Q →
    wpAny (model X.prog X.w) X.A (call (.builtin id) (v :: us)) (EP X pins σ Q) X.xe s


theorem Vals.one : ∀ {x : V} {us : List Value}, Vals [x] us → ∃ u, us = [u] ∧ RelV x u
  | _, _, .cons r .nil => ⟨_, rfl, r⟩
theorem Vals.two : ∀ {x y : V} {us : List Value}, Vals [x, y] us → ∃ u v, us = [u, v] ∧ RelV x u ∧ RelV y v
  | _, _, _, .cons r (.cons q .nil) => ⟨_, _, rfl, r, q⟩
theorem Vals.zero : ∀ {us : List Value}, Vals [] us → us = []
  | _, .nil => rfl
theorem Vals.dropLast {xs : List V} {us : List Value} (h : Vals xs us) : Vals xs.dropLast us.dropLast := by
  induction h with
  | nil => exact .nil
  | cons r t ih =>
    cases t with
    | nil => exact .nil
    | cons q t' => exact .cons r ih
theorem Vals.eraseIdx : ∀ {xs : List V} {us : List Value} (i : Nat), Vals xs us → Vals (xs.eraseIdx i) (us.eraseIdx i)
  | _, _, _, .nil => .nil
  | _, _, 0, .cons _ t => t
  | _, _, i + 1, .cons r t => .cons r (Vals.eraseIdx i t)
theorem Vals.reverse {xs : List V} {us : List Value} (h : Vals xs us) : Vals xs.reverse us.reverse := by
  induction h with
  | nil => exact .nil
  | cons r t ih => rw [List.reverse_cons, List.reverse_cons]; exact Vals.append ih (.cons r .nil)
theorem Vals.rep {xs : List V} {us : List Value} (h : Vals xs us) : ∀ k : Nat, Vals (List.replicate k xs).flatten (List.replicate k us).flatten
  | 0 => .nil
  | k + 1 => by
    rw [List.replicate_succ, List.replicate_succ, List.flatten_cons, List.flatten_cons]
    exact Vals.append h (Vals.rep h k)
theorem erase_last {α : Type} (l : List α) : l.eraseIdx (l.length - 1) = l.dropLast := by
  induction l with
  | nil => rfl
  | cons a r ih =>
    cases r with
    | nil => rfl
    | cons b r =>
      have e : (a :: b :: r).length - 1 = ((b :: r).length - 1) + 1 := by
        have h1 : (a :: b :: r).length = r.length + 2 := rfl
        have h2 : (b :: r).length = r.length + 1 := rfl
        omega
      rw [e, List.eraseIdx_cons_succ, ih]
      all_goals rfl
theorem foldl_rep (its : List Value) : ∀ (k : Nat) (acc : List Value),
    List.foldl (fun x1 x2 => x1 ++ x2) acc.toArray (List.replicate k its.toArray) = (acc ++ (List.replicate k its).flatten).toArray
  | 0, acc => by simp
  | k + 1, acc => by
    have e : acc.toArray ++ its.toArray = (acc ++ its).toArray := by simp
    have e2 : (acc ++ its) ++ (List.replicate k its).flatten = acc ++ (List.replicate (k + 1) its).flatten := by
      rw [List.replicate_succ, List.flatten_cons, List.append_assoc]
    rw [← e2, ← foldl_rep its k (acc ++ its), ← e, List.replicate_succ, List.foldl_cons]

section
variable {X : Cx} {pins : List (Addr × Obj)} {σ : St} {H : Hp} {s : Shared} {l b : Addr} {xs ys zs : List V}


theorem Inv.lset {its its' : List Value} {n : Nat} {f : Array Value → Array Value} {t' : Nat} (I : Inv X pins σ H s) (hH : H l = some (.lst xs))
    (e : s.heap.get? l = some { cls := .type "list", data := .seq its.toArray n }) (hf : f its.toArray = its'.toArray) (hv : Vals ys its') (hz : ys.length ≤ sizeLine) :
    Inv X pins σ (upd H l (.lst ys)) { s with heap := s.heap.update l (Obj.mapSeq f), toks := t' } := by
  have q := PySem.IsL.update e f
  rw [hf] at q
  refine I.write (x := l) (e := l) (by rw [hH]; exact trivial) (.inl rfl) (fun b' u hb hu => (Heap.get?_update_other s.heap (Obj.mapSeq f) (Ne.symm hb)).trans hu) ⟨_, q⟩ ?_
  exact ⟨hz, its', _, hv, q⟩
theorem Inv.lnew {its : List Value} {t' : Nat} (I : Inv X pins σ H s) (hv : Vals ys its) (hz : ys.length ≤ sizeLine) :
    Inv X pins σ (upd H s.heap.objs.size (.lst ys)) { s with heap := s.heap.push { cls := .type "list", data := .seq its.toArray }, toks := t' } :=
  I.laid (fun _ _ q => Heap.get?_push_of_some _ q) (Nat.le_refl _) ⟨hz, its, 0, hv, Heap.get?_push_size _ rfl⟩
theorem Inv.fresh (I : Inv X pins σ H s) : H s.heap.objs.size = none := I.hok.fresh (Nat.le_refl _)
theorem Inv.lstM (I : Inv X pins σ H s) (hH : H l = some (.lst xs)) : xs.length ≤ sizeLine ∧ ∃ (its : List Value) (n : Nat), Vals xs its ∧ xs.length = its.length ∧ s.heap.get? l = some { cls := .type "list", data := .seq its.toArray n } := by
  obtain ⟨z, its, n, r, e⟩ := I.hok l _ hH
  exact ⟨z, its, n, r, r.length, e⟩

theorem notLongL {n : Nat} (h : n ≤ sizeLine) : Builtin.List.listTooLong n = false := by
  unfold Builtin.List.listTooLong
  exact decide_eq_false (by omega)
end

section
variable {X : Cx}


def rAppend : V → List V → Hp → VK → Prop := fun x vs H Q => ∃ l xs y, x = .ref l ∧ vs = [y] ∧ H l = some (.lst xs) ∧ xs.length < sizeLine ∧ Q .non (upd H l (.lst (xs ++ [y])))
theorem mt_append : MtM X "list.append" rAppend := by
  intro pins s σ H x vs v us Q I rx rv h
  obtain ⟨l, xs, y, rfl, rfl, hH, hz, q⟩ := h
  cases rx
  obtain ⟨u, rfl, ru⟩ := rv.one
  obtain ⟨z, its, n, r, hl, e⟩ := I.lstM hH
  refine call_meets F.slot_list_append ⟨_, e, rfl⟩ F.entry_list_append (F.args_list_append_2 _ _) (PySem.list_append l its.toArray n u (by rw [List.size_toArray]; omega)) ⟨e, ?_⟩
  refine ⟨.non, _, I.lset (its' := its ++ [u]) hH e (by simp) (r.append (.cons ru .nil)) ?_, rfl, q⟩
  rw [List.length_append, List.length_singleton]
  omega

def rExtend : V → List V → Hp → VK → Prop := fun x vs H Q => ∃ l b xs zs, x = .ref l ∧ vs = [.ref b] ∧ H l = some (.lst xs) ∧ H b = some (.lst zs) ∧ xs.length + zs.length ≤ sizeLine ∧ Q .non (upd H l (.lst (xs ++ zs)))
theorem mt_extend : MtM X "list.extend" rExtend := by
  intro pins s σ H x vs v us Q I rx rv h
  obtain ⟨l, b, xs, zs, rfl, rfl, hH, hB, hz, q⟩ := h
  cases rx
  obtain ⟨u, rfl, ru⟩ := rv.one
  cases ru
  obtain ⟨z, its, n, r, hl, e⟩ := I.lstM hH
  obtain ⟨z2, its2, n2, r2, hl2, e2⟩ := I.lstM hB
  have hsz : its.toArray.size + its2.toArray.size ≤ sizeLine := by rw [List.size_toArray, List.size_toArray]; omega
  have hlong : ¬ (!its.toArray.isEmpty && Builtin.List.listTooLong (its.toArray.size + its2.toArray.size)) = true := by
    rw [notLongL hsz, Bool.and_false]
    exact Bool.false_ne_true
  refine call_meets F.slot_list_extend ⟨_, e, rfl⟩ F.entry_list_extend (F.args_list_extend_2 _ _)
    (AutoSeq1.list_extend_list_list_0 l its.toArray n b its2.toArray n2 hlong (by rw [List.size_toArray]; omega) (by omega)) ⟨e, e2, ?_⟩
  refine ⟨.non, _, I.lset (its' := its ++ its2) hH e (by simp) (r.append r2) ?_, rfl, q⟩
  rw [List.length_append]
  omega

def rPop : V → List V → Hp → VK → Prop := fun x vs H Q => ∃ l xs y, x = .ref l ∧ vs = [] ∧ H l = some (.lst xs) ∧ xs[xs.length - 1]? = some y ∧ Q y (upd H l (.lst xs.dropLast))
theorem mt_pop : MtM X "list.pop" rPop := by
  intro pins s σ H x vs v us Q I rx rv h
  obtain ⟨l, xs, y, rfl, rfl, hH, hy, q⟩ := h
  cases rx
  have hus := rv.zero
  subst hus
  obtain ⟨z, its, n, r, hl, e⟩ := I.lstM hH
  obtain ⟨u, hu, ru⟩ := r.get hy
  have hy' : its.toArray[its.toArray.size - 1]? = some u := by
    show its.toArray[its.length - 1]? = some u
    rw [← Array.getElem?_toList, ← hl]
    exact hu
  refine call_meets F.slot_list_pop ⟨_, e, rfl⟩ F.entry_list_pop (F.args_list_pop_1 _) (MeetsSeq.list_pop_last l its.toArray n u hy' (by rw [List.size_toArray]; omega)) ⟨e, ?_⟩
  refine ⟨y, _, I.lset (its' := its.dropLast) hH e ?_ r.dropLast ?_, ru, q⟩
  · show its.toArray.eraseIdxIfInBounds (its.toArray.size - 1) = its.dropLast.toArray
    rw [List.size_toArray, List.eraseIdxIfInBounds_toArray, erase_last]
  · rw [List.length_dropLast]
    omega

def rReverse : V → List V → Hp → VK → Prop := fun x vs H Q => ∃ l xs, x = .ref l ∧ vs = [] ∧ H l = some (.lst xs) ∧ Q .non (upd H l (.lst xs.reverse))
theorem mt_reverse : MtM X "list.reverse" rReverse := by
  intro pins s σ H x vs v us Q I rx rv h
  obtain ⟨l, xs, rfl, rfl, hH, q⟩ := h
  cases rx
  have hus := rv.zero
  subst hus
  obtain ⟨z, its, n, r, hl, e⟩ := I.lstM hH
  refine call_meets F.slot_list_reverse ⟨_, e, rfl⟩ F.entry_list_reverse (F.args_list_reverse_1 _) (AutoSeq1.list_reverse_list_0 l its.toArray n (by rw [List.size_toArray]; omega)) ⟨e, ?_⟩
  refine ⟨.non, _, I.lset (its' := its.reverse) hH e (by simp) r.reverse ?_, rfl, q⟩
  rw [List.length_reverse]
  omega

def rClear : V → List V → Hp → VK → Prop := fun x vs H Q => ∃ l xs, x = .ref l ∧ vs = [] ∧ H l = some (.lst xs) ∧ Q .non (upd H l (.lst []))
theorem mt_clear : MtM X "list.clear" rClear := by
  intro pins s σ H x vs v us Q I rx rv h
  obtain ⟨l, xs, rfl, rfl, hH, q⟩ := h
  cases rx
  have hus := rv.zero
  subst hus
  obtain ⟨z, its, n, r, hl, e⟩ := I.lstM hH
  refine call_meets F.slot_list_clear ⟨_, e, rfl⟩ F.entry_list_clear (F.args_list_clear_1 _) (AutoSeq1.list_clear_list_0 l its.toArray n (by rw [List.size_toArray]; omega)) ⟨e, ?_⟩
  exact ⟨.non, _, I.lset (its' := []) (ys := []) hH e rfl .nil (Nat.zero_le _), rfl, q⟩


def rCat : R2 := fun x y H Q => ∃ l b xs zs, x = .ref l ∧ y = .ref b ∧ H l = some (.lst xs) ∧ H b = some (.lst zs) ∧ xs.length + zs.length ≤ sizeLine ∧ ∀ p, H p = none → Q (.ref p) (upd H p (.lst (xs ++ zs)))
theorem op_cat : OpR X (binaryOp .Add) rCat := by
  intro pins s σ H x y v u Q I rx ry h
  obtain ⟨l, b, xs, zs, rfl, rfl, hH, hB, hz, q⟩ := h
  cases rx
  cases ry
  obtain ⟨z, its, n, r, hl, e⟩ := I.lstM hH
  obtain ⟨z2, its2, n2, r2, hl2, e2⟩ := I.lstM hB
  refine PySem.P.add_list e e2 ?_ (by rw [List.size_toArray, List.size_toArray]; omega)
  have ea : its.toArray ++ its2.toArray = (its ++ its2).toArray := by simp
  rw [ea]
  exact ⟨.ref _, _, I.lnew (t' := s.toks) (r.append r2) (by rw [List.length_append]; omega), rfl, q _ I.fresh⟩
/-- a list times an int (a negative one is nothing) -/
def rRep : R2 := fun x y H Q => ∃ l k xs, x = .ref l ∧ y = .int k ∧ H l = some (.lst xs) ∧ -(2 ^ 63) ≤ k ∧ k < 2 ^ 63 ∧ xs.length * k.toNat ≤ sizeLine ∧
  ∀ p, H p = none → Q (.ref p) (upd H p (.lst (List.replicate k.toNat xs).flatten))
theorem len_rep {α : Type} (xs : List α) (k : Nat) : (List.replicate k xs).flatten.length = k * xs.length := by
  induction k with
  | zero => simp
  | succ k ih => rw [List.replicate_succ, List.flatten_cons, List.length_append, ih, Nat.succ_mul, Nat.add_comm]
theorem op_rep : OpR X (binaryOp .Mult) rRep := by
  intro pins s σ H x y v u Q I rx ry h
  obtain ⟨l, k, xs, rfl, rfl, hH, h1, h2, hz, q⟩ := h
  cases rx
  obtain ⟨t, rfl⟩ := ry
  obtain ⟨z, its, n, r, hl, e⟩ := I.lstM hH
  have hlen : its.toArray.size * k.toNat ≤ sizeLine := by rw [List.size_toArray, ← hl]; exact hz
  have hcap : ¬ its.toArray.size * k.toNat > (2 ^ 63 - 1) / 8 := by
    have : (sizeLine : Nat) ≤ (2 ^ 63 - 1) / 8 := by decide
    omega
  have hfit : ¬ (!Builtin.List.listFitsIndex k) = true := by
    rw [fitsIndex_both h1 h2]
    exact Bool.false_ne_true
  have hlong : ¬ Builtin.List.listTooLong (its.toArray.size * k.toNat) = true := by
    rw [notLongL hlen]
    exact Bool.false_ne_true
  have hnew : List.foldl (fun x1 x2 => x1 ++ x2) #[] (List.replicate (if its.toArray.isEmpty = true then 0 else k.toNat) its.toArray) = (List.replicate k.toNat its).flatten.toArray := by
    have f0 : ∀ m : Nat, List.foldl (fun x1 x2 => x1 ++ x2) #[] (List.replicate m its.toArray) = (List.replicate m its).flatten.toArray := fun m => by
      have := foldl_rep its m []
      rw [List.nil_append] at this
      exact this
    rw [f0]
    cases its with
    | nil => simp
    | cons a r' => rw [if_neg (by simp)]
  refine wpAny_binaryOp_repeat_ref (T := "list") (U := "int") (by decide) ⟨_, e, rfl⟩ (fun s' => typeIs_int s' k t) noFill_list_mul F.fills_int_mul F.slot_int_rmul repeat_list F.slot_int_index.lookup
    (call_meets F.slot_int_rmul (typeIs_int s k t) F.entry_int_rmul (F.args_int_rmul_2 _ _) (int___rmul___int_list k t l its.toArray n)
      ⟨e, rfl, ⟨_, e, rfl⟩, call_meets F.slot_list_mul ⟨_, e, rfl⟩ F.entry_list_mul (F.args_list_mul_2 _ _) (AutoListH.list___mul___list_int_3 l its.toArray n k t hfit hcap hlong) ⟨e, ?_⟩⟩)
  rw [hnew]
  exact ⟨.ref _, _, I.lnew (t' := s.toks) (r.rep k.toNat) (by rw [len_rep, Nat.mul_comm]; exact hz), rfl, q _ I.fresh⟩


end


section
variable {prog : Program} {w : World} {A : Around} {E : Value → Shared → Prop} {s : Shared}
set_option maxRecDepth 100000 in
end

section
variable {X : Cx}
end
end L2

namespace Att
open PySem PySem.W PySem.Calls PyProof.Rows


theorem ints_of_wellAll {P : Params} {h : Heap} : ∀ (ns : List Int) (vs : List Value), WellAll P h vs (ns.map WData.int) → IntsAre vs ns := by
  intro ns
  induction ns with
  | nil =>
    intro vs w
    rw [List.map_nil] at w
    cases w
    exact .nil
  | cons n ns ih =>
    intro vs w
    rw [List.map_cons] at w
    cases w with
    | cons a b =>
      cases a
      exact .cons _ _ (ih _ b)

theorem script_of {l : OpenLaw} {n : Nat} (hn : l.most = some n) {P : Params} {h : Heap} {args : List WData} {vals : List Value}
    (hpre : l.row.toRowW.claim.pre args = true) (hwl : WellAll P h vals args) :
    ∃ a vs ns, vals = [Value.ref a] ∧ args = [WData.list (ns.map WData.int)] ∧ h.get? a = some { cls := .type "list", data := .seq vs.toArray } ∧ IntsAre vs ns ∧ ns.length ≤ n := by
  have hsh : WShape.hasAll [] args [.list .int] = true := (pre_splitW hpre).1
  have hc : l.pre.holds [] { args := args } = true := (pre_splitW hpre).2
  obtain ⟨d, r, rfl, h1, h2⟩ := hasAllW_cons hsh
  obtain rfl := hasAllW_nil h2
  obtain ⟨xs, rfl, h3⟩ := hasW_list h1
  obtain ⟨ns, rfl⟩ := items_int h3
  have hlen : ns.length ≤ n := by
    unfold OpenLaw.pre at hc
    have h4 : (WTm.not (.lt (.lit (.int (n : Int))) (.len (.arg 0)))).holds [] { args := [.list (ns.map .int)] } = true := by
      have h4 := (holds_andW hc).1
      rw [hn] at h4
      exact h4
    have h5 := condW_of h4 (w_not (w_lt w_lit (w_len_list (w_arg rfl))))
    rw [List.length_map] at h5
    refine Nat.le_of_not_lt fun q => ?_
    have q' : (n : Int) < ((ns.length : Nat) : Int) := by omega
    first
      | (rw [decide_eq_true q'] at h5; exact absurd h5 (by decide))
      | (simp at h5; omega)
  cases hwl with
  | cons w1 w2 =>
    cases w2
    cases w1 with
    | list ho hall => exact ⟨_, _, ns, rfl, rfl, ho, ints_of_wellAll ns _ hall, hlen⟩

theorem post_true (l : OpenLaw) (args : List WData) : l.row.toRowW.claim.post args (.bool true) args = true :=
  postW_of (r := l.row.toRowW) (X := (true == true))
    (show WShape.has [] (.bool true) .bool = true by first | rfl | decide | simp [WShape.has, WShape.arms, WShape.armsAll])
    (show (WTm.eq .res (.lit (.bool true))).value [] { args := args, res := some (.bool true), after := args } = some (.bool (true == true)) from w_eq_bool (w_res rfl) w_lit) rfl


/-- the same from a codeAny of the CALL (for a layer whose function contracts speak of calls) -/
theorem attach_call {l : OpenLaw} {n : Nat} {q : Program} {loose : List Str} {XP : (Str → Option Value) → Heap → Prop} {YP : World → Heap → Prop} {d : DefRec}
    (hn : l.most = some n) (hdf : d.params.defaults = [])
    (call : ∀ (w : World) (s₀ s₁ : Shared) (mg mb : Str → Option Value) (fa : Addr) (o : Obj) (pm cd doc : Value) (a : Addr) (vs : List Value) (ns : List Int),
      Ground q loose [] XP w s₀ mg mb s₁.heap → YP w s₁.heap →
      s₁.heap.get? fa = some o → o.data = .func (docDef d.name d.params d.body d.scope pm cd doc) → s₁.heap.CodeRec cd d.name → mg d.name = some (.ref fa) →
      s₁.heap.get? a = some { cls := .type "list", data := .seq vs.toArray } → IntsAre vs ns → ns.length ≤ n → s₁.gens = #[] →
      codeAny (model l.prog w) callerA (.call (.ref fa) ⟨[.ref a], []⟩) (fun r s' => r = .ok (.ret (.bool true)) ∧ OldK s₁.heap s'.heap ∧ s'.os = s₁.os ∧ AllBare s'.gens) s₁) :
    WalkO q loose XP YP l.row.toRowW d [] (fun f vs => PySem.call f vs) := by
  intro w s₀ s₁ mg mb G Y fa o pm cd doc dV kV ho hd hcd hD hmg hg args vals as hpre hlay hrd hwl hlo
  obtain rfl : dV = .none := Dflts.none hD hdf
  obtain rfl : kV = .none := Dflts.noKw hD
  obtain ⟨a, vs, ns, rfl, rfl, hobj, hints, hlen⟩ := script_of hn hpre hwl
  refine enter_call (codeAny_mono (call w s₀ s₁ mg mb fa o pm cd doc a vs ns G Y ho (fd_plain hd) hcd hmg hobj hints hlen hg) fun r s' hq => ?_)
  obtain ⟨rfl, h2, h3, h4⟩ := hq
  exact ⟨.inl ⟨.bool true, .bool true, [], rfl, fun _ => rfl, .bool true, post_true l _, fun _ => ⟨List.Pairwise.nil, fun _ hm => (nomatch hm)⟩⟩, h2, h3, h4⟩

section
variable {prog : Program} {w : World} {A : Around} {E : Value → Shared → Prop} {s : Shared} {K : Frag}

end
end Att

namespace L2
open PySem PySem.Spec PyProof.Rows

theorem vals_ints : ∀ {vs : List Value} {ns : List Int}, IntsAre vs ns → Vals (ns.map V.int) vs
  | _, _, .nil => .nil
  | _, _, .cons n t h => .cons ⟨t, rfl⟩ (vals_ints h)

/-- nothing is tracked but the script, known to the object (or it is an object of the module) -/
def Only (H : Hp) : Prop := ∀ b, H b = none ∨ ∃ o xs, H b = some (.frz o (.lst xs))

/-- THE HEAD: the law's promise, at the heap behind the top. F, the promise of the law's def, may use that base is part of the heap (so K.In base, base.Ns mainGlobals mg stand in Mod) -/
theorem law_call {P : Program} {w : World} {K : PySem.W.Frag} {mg mb : Str → Option Value} {CX : CXT} {k : Nat} {fa a : Addr} {fd : FuncData} {x : Str} {sp : Sp} {s₁ : Shared} {vs : List Value} {ns : List Int}
    (KX : K.In s₁.heap) (hns : s₁.heap.Ns mainGlobals mg) (hb : s₁.heap.Ns builtinsNs mb) (hbb : ∀ x : Str, x ≠ "__name__" → mb x = bootBuiltins x) (hlim : s₁.heap.NoLimit) (hg : s₁.gens = #[])
    (ha : s₁.heap.get? a = some { cls := .type "list", data := .seq vs.toArray }) (hi : IntsAre vs ns) (hl : ns.length ≤ sizeLine) (hr : Room k callerA)
    (F : ∀ base : Heap, K.In base → base.Ns mainGlobals mg → FnOk P w K mg base CX k fa fd [x] sp) (hbind : ∀ (s : Shared) (u : Value), BindsTo s fd ⟨[u], []⟩ [(x, u)])
    (hsp : ∀ H : Hp, Only H → SqL K H a (ns.map V.int) → sp [.ref a] H (fun v _ => v = .bl true) fun _ _ _ => False)
    (hCX : ∀ H e s', CX [] H s₁ (fun _ _ _ => False) e s' → False) :
    codeAny (model P w) callerA (.call (.ref fa) ⟨[.ref a], []⟩) (fun r s' => r = .ok (.ret (.bool true)) ∧ OldK s₁.heap s'.heap ∧ s'.os = s₁.os ∧ AllBare s'.gens) s₁ := by
  have rv := vals_ints hi
  have lenV := hi.length
  -- from an abstract heap in which nothing but the script may be tracked
  have core : ∀ H : Hp, Only H → SqL K H a (ns.map V.int) → HOk P w H s₁.heap → (∀ b, H b ≠ none → b = a) → (H a ≠ none → K.lookup a = none) →
      codeAny (model P w) callerA (.call (.ref fa) ⟨[.ref a], []⟩) (fun r s' => r = .ok (.ret (.bool true)) ∧ OldK s₁.heap s'.heap ∧ s'.os = s₁.os ∧ AllBare s'.gens) s₁ := by
    intro H hO hS hok hA hK
    have base_of : ∀ {b : Addr} {o : Obj}, s₁.heap.get? b = some o → H b = none → (hidT s₁.heap H).get? b = some o := fun e n => hidT_get e n
    have noA : ∀ {b : Addr} {o : Obj} {es : Array DictEntry} {ep : Nat}, s₁.heap.get? b = some o → o.data = .dict es ep → H b = none := fun {b o es ep} e d => by
      cases q : H b with
      | none => rfl
      | some u =>
        have e' : b = a := hA b (by rw [q]; simp)
        subst e'
        rw [ha] at e; cases e
        have d' : Data.seq vs.toArray _ = Data.dict es ep := d
        cases d'
    have nsK : ∀ {b : Addr} {m : Str → Option Value}, s₁.heap.Ns b m → (hidT s₁.heap H).Ns b m := fun {b m} ⟨o, es, ep, e, d, r⟩ => ⟨o, es, ep, base_of e (noA e d), d, r⟩
    have hKb : K.In (hidT s₁.heap H) := fun b o e => base_of (KX b o e) (by
      cases q : H b with
      | none => rfl
      | some u =>
        have e' : b = a := hA b (by rw [q]; simp)
        subst e'
        rw [hK (by rw [q]; simp)] at e; cases e)
    have hM : Mod K mg (hidT s₁.heap H) := ⟨hKb, nsK hns, ⟨mb, nsK hb, hbb⟩, let ⟨mc, h1, h2⟩ := hlim; ⟨mc, nsK h1, h2⟩⟩
    have e0 : Env0 P w K mg (hidT s₁.heap H) callerA [] s₁ H := ⟨rfl, hM, fun b o e => of_hidT e, Nat.le_of_eq (hidT_size _ _), trivial, fun b hb => absurd (show b ∈ ([] : List Addr) from hb) (by simp), hok, .of_eq hg⟩
    refine codeAny_mono ((F _ hKb (nsK hns)).run callerA [] s₁ H ⟨[.ref a], []⟩ [.ref a] [.ref a] _ _ hr e0 (hbind s₁ (.ref a)) (.cons rfl .nil) (hsp H hO hS)) fun r s' h => ?_
    cases r with
    | error e => exact (hCX H e s' h).elim
    | ok fl =>
      cases fl with
      | next => exact False.elim h
      | brk => exact False.elim h
      | cont => exact False.elim h
      | ret u =>
        obtain ⟨v, H', os, bare, un, hok', r', q⟩ := h
        have q' : v = .bl true := q
        subst q'
        obtain rfl : u = Value.bool true := r'
        refine ⟨rfl, OldK.of_keep fun b o e => ?_, os, bare⟩
        cases q : H b with
        | none => exact un.keep b o e q (by intro z; exact absurd (show b ∈ ([] : List Addr) from z) (by simp)) (by simp)
        | some u =>
          rcases hO b with z | ⟨ob, xs, z⟩
          · rw [q] at z; cases z
          · have z2 := un.frzs b ob _ z
            obtain ⟨e1, _⟩ := hok b _ z
            obtain ⟨e2, _⟩ := hok' b _ z2
            rw [e] at e1; cases e1
            exact e2
  cases hk : K.lookup a with
  | some o =>
    -- the script is one of the module's own objects
    have e := KX a o hk
    rw [ha] at e
    cases e
    refine core (fun _ => none) (fun _ => .inl rfl) (.inr ⟨_, vs.toArray, _, hk, rfl, rfl, rfl, by rw [List.size_toArray, lenV]; exact hl, by simpa using rv⟩) (fun b u z => by have z' : (none : Option HO) = some u := z; cases z') (fun b z => absurd rfl z) fun z => absurd rfl z
  | none =>
    refine core (fun b => if b = a then some (.frz { cls := .type "list", data := .seq vs.toArray } (.lst (ns.map V.int))) else none) (fun b => ?_) (.inl (.inr ⟨{ cls := .type "list", data := .seq vs.toArray }, if_pos rfl⟩)) (fun b u z => ?_) (fun b z => ?_) fun _ => hk
    · by_cases hb : b = a
      · exact .inr ⟨_, _, if_pos hb⟩
      · exact .inl (if_neg hb)
    · by_cases hb : b = a
      · have z' := (if_pos hb).symm.trans z
        cases z'
        subst hb
        exact ⟨ha, by rw [List.length_map]; exact hl, vs, _, rv, ha⟩
      · have z' := (if_neg hb).symm.trans z
        cases z'
    · by_cases hb : b = a
      · exact hb
      · exact absurd (if_neg hb) z
end L2

namespace L2
open PySem PySem.Spec PyProof.Rows

/-- the goal that k_head leaves (case hc), from the law's promise. F gives the function object fd (K's own) once, then the promise over every base -/
theorem walk_of {l : PySem.W.OpenLaw} {n k : Nat} {q : Program} {loose : List Str} {XP : (Str → Option Value) → Heap → Prop} {YP : World → Heap → Prop} {d : DefRec} {K : Params → PySem.W.Frag} {CX : World → CXT} {sp : World → Sp} {x : Str}
    (hn : l.most = some n) (hn2 : n ≤ sizeLine) (hdf : d.params.defaults = []) (hr : Room k callerA)
    (hY : ∀ (w : World) (h : Heap), YP w h → (K w.params).In h)
    (F : ∀ (w : World) (mg : Str → Option Value) (fa : Addr) (h : Heap), (K w.params).In h → h.Ns mainGlobals mg → mg d.name = some (.ref fa) →
      ∃ fd : FuncData, (∀ (s : Shared) (u : Value), BindsTo s fd ⟨[u], []⟩ [(x, u)]) ∧
        ∀ base : Heap, (K w.params).In base → base.Ns mainGlobals mg → FnOk l.prog w (K w.params) mg base (CX w) k fa fd [x] (sp w))
    (hsp : ∀ (w : World) (H : Hp) (a : Addr) (ns : List Int), ns.length ≤ n → Only H → SqL (K w.params) H a (ns.map V.int) → sp w [.ref a] H (fun v _ => v = .bl true) fun _ _ _ => False)
    (hCX : ∀ (w : World) (H : Hp) (s : Shared) (e : Value) (s' : Shared), CX w [] H s (fun _ _ _ => False) e s' → False) :
    PySem.W.WalkO q loose XP YP l.row.toRowW d [] (fun f vs => PySem.call f vs) := by
  refine Att.attach_call hn hdf fun w s₀ s₁ mg mb fa o pm cd doc a vs ns G Y ho hd hcd hmg hobj hints hlen hg => ?_
  have KX := hY w _ Y
  obtain ⟨fd, hb, hF⟩ := F w mg fa _ KX G.T.g hmg
  exact law_call KX G.T.g G.T.b G.T.builtins G.T.nolimit hg hobj hints (Nat.le_trans hlen hn2) hr hF hb (fun H hO hS => hsp w H a ns hlen hO hS) fun H e s' => hCX w H s₁ e s'
end L2




namespace L2
open PySem PySem.Spec PyProof.Rows


/-- the j-th statement of a class's body -/
def inClass (s : Stmt) (j : Nat) : Stmt := match s with
  | .ClassDef _ _ _ body _ _ _ _ _ _ _ => body.getD j (.Pass ⟨0, 0, 0, 0⟩)
  | _ => .Pass ⟨0, 0, 0, 0⟩
def defArgs (s : Stmt) : Arguments := match s with
  | .FunctionDef _ a _ _ _ _ _ _ _ _ => a
  | _ => { posonlyargs := [], args := [], vararg := none, kwonlyargs := [], kw_defaults := [], kwarg := none, defaults := [] }
def defBody (s : Stmt) : List Stmt := match s with
  | .FunctionDef _ _ b _ _ _ _ _ _ _ => b
  | _ => []
def defScope (s : Stmt) : Scope := match s with
  | .FunctionDef _ _ _ _ _ _ sc _ _ _ => sc
  | _ => { kind := .function, names := [], isGenerator := false, isCoroutine := false }


abbrev CX0 : CXT := fun _ _ _ _ _ _ => False
abbrev E0 : XK := fun _ _ _ => False
theorem pass0 {X : Cx} : Passes CX0 X E0 := fun _ _ _ _ _ _ _ h => h.elim


structure Fun (K : PySem.W.Frag) (x qual : Str) (st : Stmt) (f : Addr) (fd : FuncData) : Prop where
  ex : ∃ (oc : Value) (od : Option Addr) (kV doc pm : Value) (an : Option Addr) (cdv ct : Value) (osl : Array (Option Value)),
    fd = PySem.W.fnOf x qual (defArgs st) (defBody st) (defScope st) .none kV doc pm an cdv ct ∧ K.lookup f = some ⟨oc, od, .func fd, osl⟩ ∧ PySem.W.codeIn K cdv qual = true
  kp : PySem.W.keepIn K (.ref f) = true
section
variable {P : Program} {w : World} {K : PySem.W.Frag} {mg : Str → Option Value} {base : Heap}
/-- THE RULE for a def: its body as a term of rules, and the reading of that term -/
theorem Fun.ok {x qual : Str} {st : Stmt} {f : Addr} {fd : FuncData} {N ps : List Str} {k : Nat} {sp : Sp} (F : Fun K x qual st f fd) (S : FnScope N ps (defScope st)) (len : ∀ vs H Q E, sp vs H Q E → vs.length = ps.length)
    (hbody : ∀ (cdv : Value) (A : Around) (outer : List Env) (s : Shared) (H : Hp) (vs : List V) (Q : VK) (E : XK), Room k (A.deeper (envOfC qual (defScope st) s.heap.objs.size f cdv)) → sp vs H Q E →
      ∃ t, PSs (cxOf CX0 P w K mg base N qual (defScope st) f cdv A outer s H E).nox (defBody st) t ∧ t { nx := fun _ H' => Q .non H', rt := Q } (start N vs) H) : FnOk P w K mg base CX0 (k + 1) f fd ps sp := by
  obtain ⟨oc, od, kV, doc, pm, an, cdv, ct, osl, rfl, lk, hcd⟩ := F.ex
  refine fn_of lk hcd S len fun A outer s H vs Q E hr hsp => ?_
  obtain ⟨t, h, q⟩ := hbody cdv A outer s H vs Q E hr hsp
  exact ⟨t, h.nox, q⟩
/-- how its arguments bind (no defaults): h is «fun _ _ _ _ _ _ us hl => match us, hl with | [_, _], _ => rfl», one _ a parameter -/
theorem Fun.binds {x qual : Str} {st : Stmt} {f : Addr} {fd : FuncData} {ps : List Str} (F : Fun K x qual st f fd)
    (h : ∀ (kV doc pm : Value) (an : Option Addr) (cdv ct : Value) (us : List Value), us.length = ps.length → bindArgs (PySem.W.fnOf x qual (defArgs st) (defBody st) (defScope st) .none kV doc pm an cdv ct) ⟨us, []⟩ = pure (ps.zip us)) : Binds K fd ps [] := by
  obtain ⟨oc, od, kV, doc, pm, an, cdv, ct, osl, rfl, lk, hcd⟩ := F.ex
  exact .all (h kV doc pm an cdv ct)
theorem fun_mk {x qual : Str} {st : Stmt} {f : Addr} {oc : Value} {od an : Option Addr} {osl : Array (Option Value)} {kV doc pm cdv ct : Value} (l : K.lookup f = some ⟨oc, od, .func (PySem.W.fnOf x qual (defArgs st) (defBody st) (defScope st) .none kV doc pm an cdv ct), osl⟩)
    (c : PySem.W.codeIn K cdv qual = true) (k : PySem.W.keepIn K (.ref f) = true) : Fun K x qual st f (PySem.W.fnOf x qual (defArgs st) (defBody st) (defScope st) .none kV doc pm an cdv ct) := ⟨⟨oc, od, kV, doc, pm, an, cdv, ct, osl, rfl, l, c⟩, k⟩
end
section
variable {X : Cx}
theorem pv (i : Nat) {x : Str} {pos : Pos} (hN : X.N[i]? = some x := by rfl) (hv : Vis X.env.scope x := by first | exact Or.inl rfl | exact Or.inr (Or.inl rfl) | exact Or.inr (Or.inr rfl)) (hd : (x == ("__debug__" : Str)) = false := by decide)
    (hcd : (x == ("__classdict__" : Str)) = false := by decide) : PE X (.Name x pos) (tVar i) := pe_var hN hv hd hcd
end


theorem iteF {A B : Prop} (h : B) : if false = true then A else B := by
  rw [if_neg Bool.false_ne_true]
  exact h
theorem iteT {A B : Prop} (h : A) : if true = true then A else B := by
  rw [if_pos rfl]
  exact h
theorem ite2 {c A B : Prop} [Decidable c] (h1 : c → A) (h2 : ¬ c → B) : if c then A else B := by
  by_cases h : c
  · rw [if_pos h]
    exact h1 h
  · rw [if_neg h]
    exact h2 h
/-- all that was tracked is as it was -/
def Same (H H' : Hp) : Prop := ∀ b o, H b = some o → H' b = some o
theorem Same.refl (H : Hp) : Same H H := fun _ _ h => h
theorem Same.trans {H H1 H2 : Hp} (a : Same H H1) (b : Same H1 H2) : Same H H2 := fun c o h => b c o (a c o h)
theorem Same.free {H H' : Hp} (e : Same H H') {l : Addr} (h : H' l = Option.none) : H l = Option.none := by
  cases q : H l with
  | none => rfl
  | some o =>
    rw [e l o q] at h
    cases h
theorem Same.seq {K : PySem.W.Frag} {H H' : Hp} {a : Addr} {xs : List V} (e : Same H H') (h : SqL K H a xs) : SqL K H' a xs := by
  rcases h with (h | ⟨o, h⟩) | h
  · exact .inl (.inl (e _ _ h))
  · exact .inl (.inr ⟨o, e _ _ h⟩)
  · exact .inr h

end L2

set_option Elab.async false
set_option linter.all false
set_option maxRecDepth 100000
noncomputable section
set_option linter.all false
namespace Tim
section
variable {α : Type} {rk : α → Int}
def Srt (rk : α → Int) (l : List α) : Prop := l.Pairwise fun x y => rk x ≤ rk y
theorem srt_app {l m : List α} : Srt rk (l ++ m) ↔ Srt rk l ∧ Srt rk m ∧ ∀ x ∈ l, ∀ y ∈ m, rk x ≤ rk y := List.pairwise_append
/-- what is merged from below: told already, and what is left of both -/
structure Lo (rk : α → Int) (T O X Y : List α) : Prop where
  pm : (O ++ (X ++ Y)).Perm T
  sx : Srt rk (O ++ X)
  sy : Srt rk (O ++ Y)
theorem Lo.left {T O P X Y : List α} (h : Lo rk T O (P ++ X) Y) (hp : ∀ x ∈ P, ∀ y ∈ Y, rk x ≤ rk y) : Lo rk T (O ++ P) X Y := by
  obtain ⟨pm, sx, sy⟩ := h
  refine ⟨?_, by rw [List.append_assoc]; exact sx, ?_⟩
  · have : O ++ P ++ (X ++ Y) = O ++ (P ++ X ++ Y) := by simp [List.append_assoc]
    rw [this]; exact pm
  · rw [← List.append_assoc] at sx
    have a := srt_app.mp sx
    have b := srt_app.mp sy
    refine srt_app.mpr ⟨a.1, b.2.1, fun x hx y hy => ?_⟩
    rcases List.mem_append.mp hx with e | e
    · exact b.2.2 x e y hy
    · exact hp x e y hy
theorem Lo.right {T O P X Y : List α} (h : Lo rk T O X (P ++ Y)) (hp : ∀ x ∈ P, ∀ y ∈ X, rk x ≤ rk y) : Lo rk T (O ++ P) X Y := by
  have g : Lo rk T O (P ++ Y) X := ⟨(List.Perm.append_left O List.perm_append_comm).trans h.pm, h.sy, h.sx⟩
  have := g.left hp
  exact ⟨(List.Perm.append_left _ List.perm_append_comm).trans this.pm, this.sy, this.sx⟩
theorem Lo.done {T O X Y : List α} (h : Lo rk T O X Y) (e : X = [] ∨ Y = []) : (O ++ X ++ Y).Perm T ∧ Srt rk (O ++ X ++ Y) := by
  refine ⟨by rw [List.append_assoc]; exact h.pm, ?_⟩
  rcases e with rfl | rfl
  · rw [List.append_nil]; exact h.sy
  · rw [List.append_nil]; exact h.sx
theorem Lo.last {T O X Y : List α} (h : Lo rk T O X Y) (e : ∀ y ∈ Y, ∀ x ∈ X, rk y ≤ rk x) : (O ++ Y ++ X).Perm T ∧ Srt rk (O ++ Y ++ X) := by
  refine ⟨?_, ?_⟩
  · rw [List.append_assoc]; exact (List.Perm.append_left _ List.perm_append_comm).trans h.pm
  · have a := srt_app.mp h.sx
    refine srt_app.mpr ⟨h.sy, a.2.1, fun x hx y hy => ?_⟩
    rcases List.mem_append.mp hx with q | q
    · exact a.2.2 x q y hy
    · exact e x q y hy
/-- what is merged from above -/
structure Hi (rk : α → Int) (T X Y O : List α) : Prop where
  pm : (X ++ Y ++ O).Perm T
  sx : Srt rk (X ++ O)
  sy : Srt rk (Y ++ O)
theorem Hi.right {T X Y P O : List α} (h : Hi rk T X (Y ++ P) O) (hp : ∀ x ∈ X, ∀ y ∈ P, rk x ≤ rk y) : Hi rk T X Y (P ++ O) := by
  obtain ⟨pm, sx, sy⟩ := h
  refine ⟨?_, ?_, by rw [← List.append_assoc]; exact sy⟩
  · have : X ++ Y ++ (P ++ O) = X ++ (Y ++ P) ++ O := by simp [List.append_assoc]
    rw [this]; exact pm
  · rw [List.append_assoc] at sy
    have a := srt_app.mp sy
    have b := srt_app.mp sx
    refine srt_app.mpr ⟨b.1, a.2.1, fun x hx y hy => ?_⟩
    rcases List.mem_append.mp hy with e | e
    · exact hp x hx y e
    · exact b.2.2 x hx y e
theorem Hi.left {T X Y P O : List α} (h : Hi rk T (X ++ P) Y O) (hp : ∀ x ∈ Y, ∀ y ∈ P, rk x ≤ rk y) : Hi rk T X Y (P ++ O) := by
  have g : Hi rk T Y (X ++ P) O := ⟨(List.Perm.append_right O List.perm_append_comm).trans h.pm, h.sy, h.sx⟩
  have := g.right hp
  exact ⟨(List.Perm.append_right _ List.perm_append_comm).trans this.pm, this.sy, this.sx⟩
theorem Hi.done {T X Y O : List α} (h : Hi rk T X Y O) (e : X = [] ∨ Y = []) : (X ++ Y ++ O).Perm T ∧ Srt rk (X ++ Y ++ O) := by
  refine ⟨h.pm, ?_⟩
  rcases e with rfl | rfl
  · rw [List.nil_append]; exact h.sy
  · rw [List.append_nil]; exact h.sx
theorem Hi.last {T X Y O : List α} (h : Hi rk T X Y O) (e : ∀ y ∈ Y, ∀ x ∈ X, rk y ≤ rk x) : (Y ++ X ++ O).Perm T ∧ Srt rk (Y ++ X ++ O) := by
  refine ⟨(List.Perm.append_right O List.perm_append_comm).trans h.pm, ?_⟩
  have b := srt_app.mp h.sy
  rw [List.append_assoc]
  refine srt_app.mpr ⟨b.1, h.sx, fun x hx y hy => ?_⟩
  rcases List.mem_append.mp hy with q | q
  · exact e x hx y q
  · exact b.2.2 x hx y q
/-- the rank at a place -/
def R (rk : α → Int) (xs : Array α) (i : Nat) : Int := match xs[i]? with
  | some p => rk p
  | none => 0
theorem R_get {xs : Array α} {i : Nat} (h : i < xs.size) : R rk xs i = rk xs[i] := by unfold R; rw [Array.getElem?_eq_getElem h]
theorem R_congr {xs ys : Array α} {i j : Nat} (h : xs[i]? = ys[j]?) : R rk xs i = R rk ys j := by unfold R; rw [h]
/-- from lo to below hi the ranks don't fall -/
def Sg (rk : α → Int) (xs : Array α) (lo hi : Nat) : Prop := ∀ i j, lo ≤ i → i ≤ j → j < hi → R rk xs i ≤ R rk xs j
theorem sg_srt {xs : Array α} {lo hi : Nat} (hh : hi ≤ xs.size) (h : Sg rk xs lo hi) : Srt rk (xs.extract lo hi).toList := by
  unfold Srt
  rw [List.pairwise_iff_getElem]
  intro i j hi' hj hij
  have s1 : (xs.extract lo hi).size = hi - lo := by rw [Array.size_extract]; omega
  simp only [Array.length_toList, s1] at hi' hj
  have := h (lo + i) (lo + j) (by omega) (by omega) (by omega)
  rw [R_get (by omega), R_get (by omega)] at this
  simpa using this
theorem srt_sg {xs : Array α} (h : Srt rk xs.toList) : Sg rk xs 0 xs.size := by
  intro i j _ hij hj
  rw [R_get (by omega), R_get hj]
  by_cases e : i = j
  · subst e; exact Int.le_refl _
  · exact List.pairwise_iff_getElem.mp h i j (by simpa using (show i < xs.size by omega)) (by simpa using hj) (by omega)
/-- writing a list over a place -/
theorem write_get (sa : Nat) : ∀ (m : List α) (j : Nat) (xs : Array α), sa + j + m.length ≤ xs.size → ∀ k, ((m.zipIdx j).foldl (fun a (p : α × Nat) => a.setIfInBounds (sa + p.2) p.1) xs)[k]? = if sa + j ≤ k ∧ k < sa + j + m.length then m[k - (sa + j)]? else xs[k]?
  | [], j, xs, _, k => by
    rw [List.zipIdx_nil, List.foldl_nil, if_neg (by simp)]
  | p :: m, j, xs, h, k => by
    simp only [List.length_cons] at h
    rw [List.zipIdx_cons, List.foldl_cons, write_get sa m (j + 1) _ (by rw [Array.size_setIfInBounds]; omega)]
    simp only [List.length_cons]
    by_cases e : k = sa + j
    · subst e
      rw [if_neg (by omega), if_pos (by omega), Nat.sub_self]
      simp [show sa + j < xs.size by omega]
    · by_cases g : sa + (j + 1) ≤ k ∧ k < sa + (j + 1) + m.length
      · rw [if_pos g, if_pos (by omega)]
        have : k - (sa + j) = (k - (sa + (j + 1))) + 1 := by omega
        rw [this, List.getElem?_cons_succ]
      · rw [if_neg g, if_neg (by omega), Array.getElem?_setIfInBounds_ne (by omega)]
theorem write_list {sa : Nat} {m : List α} {xs : Array α} (h : sa + m.length ≤ xs.size) : (m.zipIdx.foldl (fun a (p : α × Nat) => a.setIfInBounds (sa + p.2) p.1) xs).toList = xs.toList.take sa ++ m ++ xs.toList.drop (sa + m.length) := by
  apply List.ext_getElem?
  intro k
  rw [Array.getElem?_toList, write_get sa m 0 xs h, List.getElem?_append, List.getElem?_append]
  simp only [Nat.add_zero, List.length_append, List.length_take, Array.length_toList]
  have hm : min sa xs.size = sa := by omega
  rw [hm]
  by_cases g1 : k < sa
  · rw [if_neg (by omega), if_pos (by omega), if_pos g1, List.getElem?_take, if_pos g1, Array.getElem?_toList]
  · by_cases g2 : k < sa + m.length
    · rw [if_pos (by omega), if_pos g2, if_neg g1]
    · rw [if_neg (by omega), if_neg g2, List.getElem?_drop, Array.getElem?_toList]
      congr 1; omega
end
end Tim

end
noncomputable section
set_option linter.all false
set_option maxRecDepth 100000
namespace Tim
open PySem PyProof.Rows
def gallop' : Bool → Keyed → Array Keyed → Nat → Nat → Nat → StateT SortSt Sem (Option Nat) := sortPriv% PySem.Builtin.gallop
def mergeLo' : Array Keyed → Array Keyed → StateT SortSt Sem (Array Keyed) := sortPriv% PySem.Builtin.mergeLo
def mergeHi' : Array Keyed → Array Keyed → StateT SortSt Sem (Array Keyed) := sortPriv% PySem.Builtin.mergeHi
section
variable {prog : Program} {w : World} {A : Around} {E : Value → Shared → Prop} {s : Shared} {κ : SortKind} {rk : Keyed → Int} {Good : Keyed → Prop}
/-- two good ones are told apart by their ranks -/
def LtOk (prog : Program) (w : World) (A : Around) (E : Value → Shared → Prop) (s : Shared) (κ : SortKind) (rk : Keyed → Int) (Good : Keyed → Prop) : Prop :=
  ∀ (x y : Keyed) (st : SortSt) (Q : Option Bool → SortSt → Prop), Good x → Good y → kindOf st = κ → Q (some (decide (rk x < rk y))) st → wpS (model prog w) A E s (lt' x y) Q st
theorem elem_ {arr : Array Keyed} {i : Nat} {Q : Keyed → SortSt → Prop} {st : SortSt} (hi : i < arr.size) (h : Q arr[i] st) : wpS (model prog w) A E s (elem' arr i) Q st := by
  rw [elem'_eq, Array.getElem?_eq_getElem hi]
  exact wpS_pure h
theorem ltAt_ {st : SortSt} {i j : Nat} {Q : Option Bool → SortSt → Prop} (L : LtOk prog w A E s κ rk Good) (hk : kindOf st = κ) (hg : ∀ x ∈ (arrOf st).toList, Good x) (hi : i < (arrOf st).size) (hj : j < (arrOf st).size)
    (h : Q (some (decide (R rk (arrOf st) i < R rk (arrOf st) j))) st) : wpS (model prog w) A E s (ltAt' i j) Q st := by
  rw [ltAt'_eq]
  refine wpS_bind (wpS_get (wpS_bind (elem_ hi (wpS_bind (elem_ hj ?_)))))
  rw [R_get hi, R_get hj] at h
  exact L _ _ st Q (hg _ (by simp)) (hg _ (by simp)) hk h
def pB (rk : Keyed → Int) (left : Bool) (key : Keyed) (arr : Array Keyed) (base i : Nat) : Bool := if left then decide (R rk arr (base + i) < rk key) else !decide (rk key < R rk arr (base + i))
theorem pB_mono {left : Bool} {key : Keyed} {arr : Array Keyed} {base n i j : Nat} (hs : Sg rk arr base (base + n)) (hij : i ≤ j) (hj : j < n) (h : pB rk left key arr base j = true) : pB rk left key arr base i = true := by
  have := hs (base + i) (base + j) (by omega) (by omega) (by omega)
  unfold pB at h ⊢
  cases left <;> simp at h ⊢ <;> omega
theorem beyond_ {left : Bool} {key : Keyed} {arr : Array Keyed} {base i : Nat} {st : SortSt} {Q : Option Bool → SortSt → Prop} (L : LtOk prog w A E s κ rk Good) (hk : kindOf st = κ)
    (gk : Good key) (hg : ∀ x ∈ arr.toList, Good x) (hb : base + i < arr.size) (h : Q (some (pB rk left key arr base i)) st) :
    wpS (model prog w) A E s (do let x ← elem' arr (base + i); if left = true then lt' x key else do let o ← lt' key x; pure (Option.map (fun b => !b) o)) Q st := by
  unfold pB at h
  rw [R_get hb] at h
  refine wpS_bind (elem_ hb ?_)
  cases left
  · rw [if_neg (by simp)]
    refine wpS_bind (L _ _ st _ gk (hg _ (by simp)) hk (wpS_pure ?_))
    simpa using h
  · rw [if_pos rfl]
    exact L _ _ st _ (hg _ (by simp)) gk hk (by simpa using h)
theorem gallopB {left : Bool} {key : Keyed} {arr : Array Keyed} {base n hint : Nat} {st : SortSt} {Q : Option Nat → SortSt → Prop} (L : LtOk prog w A E s κ rk Good) (hk : kindOf st = κ)
    (gk : Good key) (hg : ∀ x ∈ arr.toList, Good x) (hb : base + n ≤ arr.size) (hs : Sg rk arr base (base + n)) (hh : hint < n)
    (h : ∀ k, k ≤ n → (∀ i, i < k → pB rk left key arr base i = true) → (∀ i, k ≤ i → i < n → pB rk left key arr base i = false) → Q (some k) st) :
    wpS (model prog w) A E s (gallop' left key arr base n hint) Q st := by
  refine wpS_bind (beyond_ L hk gk hg (by omega) ?_)
  cases er : pB rk left key arr base hint
  · dsimp only
    rw [if_neg (by simp)]
    refine wpS_bind (wpS_mono (wpS_forRange (I := fun x c st' => st = st' ∧ ∃ la o, c = (none, la, o) ∧ la < o ∧ x < o ∧ la ≤ hint ∧ pB rk left key arr base (hint - la) = false)
      (Q := fun c st' => st = st' ∧ ∃ la o, c = (none, la, o) ∧ la < o ∧ la ≤ hint ∧ pB rk left key arr base (hint - la) = false ∧ (o ≤ hint → pB rk left key arr base (hint - o) = true)) ?step ?fin ?init) ?post)
    case init => exact ⟨rfl, 0, 1, rfl, by omega, by omega, by omega, er⟩
    case fin =>
      rintro c st' ⟨rfl, la, o, rfl, a1, a2, a3, a4⟩
      exact ⟨rfl, la, o, rfl, a1, a3, a4, fun q => by omega⟩
    case step =>
      rintro x c st' _ hx ⟨rfl, la, o, rfl, a1, a2, a3, a4⟩
      dsimp only
      by_cases g : o ≥ hint + 1
      · rw [if_pos g]
        exact wpS_pure ⟨rfl, la, o, rfl, a1, a3, a4, fun q => by omega⟩
      · rw [if_neg g]
        refine wpS_bind (beyond_ L hk gk hg (by omega) ?_)
        cases e : pB rk left key arr base (hint - o)
        · dsimp only
          rw [if_neg (by simp)]
          exact wpS_pure ⟨rfl, _, _, rfl, by omega, by omega, by omega, e⟩
        · dsimp only
          rw [if_pos rfl]
          exact wpS_pure ⟨rfl, la, o, rfl, a1, a3, a4, fun _ => e⟩
    case post =>
      rintro c st' ⟨rfl, la, o, rfl, a1, a3, a4, a5⟩
      dsimp only
      refine wpS_bind (wpS_mono (wpS_forRange (I := fun x c st' => st = st' ∧ ∃ lo hi, c = (none, lo, hi) ∧ lo ≤ hi ∧ hi ≤ n ∧ hi - lo ≤ n - x ∧ (∀ i, i < lo → pB rk left key arr base i = true) ∧ (∀ i, hi ≤ i → i < n → pB rk left key arr base i = false))
        (Q := fun c st' => st = st' ∧ ∃ lo hi, c = (none, lo, hi) ∧ hi ≤ n ∧ (∀ i, i < hi → pB rk left key arr base i = true) ∧ (∀ i, hi ≤ i → i < n → pB rk left key arr base i = false)) ?step ?fin ?init) ?post)
      case init => exact ⟨rfl, (hint + 1 - min o (hint + 1)), (hint - la), rfl, (by omega), (by omega), by omega, (fun i i1 => by
        by_cases q : o ≤ hint
        · exact pB_mono hs (by omega) (by omega) (a5 q)
        · omega), (fun i i1 i2 => by
        cases e' : pB rk left key arr base i
        · rfl
        · rw [pB_mono hs i1 i2 e'] at a4; cases a4)⟩
      case fin =>
        rintro c st' ⟨rfl, lo, hi, rfl, a1, a2, a3, a4, a5⟩
        have e : lo = hi := by omega
        subst e
        exact ⟨rfl, lo, lo, rfl, a2, a4, a5⟩
      case step =>
        rintro x c st' _ hx ⟨rfl, lo, hi, rfl, a1, a2, a3, a4, a5⟩
        dsimp only
        by_cases g : lo ≥ hi
        · rw [if_pos g]
          have e : lo = hi := by omega
          subst e
          exact wpS_pure ⟨rfl, lo, lo, rfl, a2, a4, a5⟩
        · rw [if_neg g]
          refine wpS_bind (beyond_ L hk gk hg (by omega) ?_)
          cases e : pB rk left key arr base (lo + (hi - lo) / 2)
          · dsimp only
            rw [if_neg (by simp)]
            refine wpS_pure ⟨rfl, lo, _, rfl, by omega, by omega, by omega, a4, fun i i1 i2 => ?_⟩
            cases e' : pB rk left key arr base i
            · rfl
            · rw [pB_mono hs i1 i2 e'] at e; cases e
          · dsimp only
            rw [if_pos rfl]
            exact wpS_pure ⟨rfl, _, hi, rfl, by omega, a2, by omega, fun i i1 => pB_mono hs (by omega) (by omega) e, a5⟩
      case post =>
        rintro c st' ⟨rfl, lo, hi, rfl, a2, a4, a5⟩
        exact wpS_pure (h hi a2 a4 a5)
  · dsimp only
    rw [if_pos rfl]
    refine wpS_bind (wpS_mono (wpS_forRange (I := fun x c st' => st = st' ∧ ∃ la o, c = (none, la, o) ∧ la < o ∧ x < o ∧ hint + la < n ∧ pB rk left key arr base (hint + la) = true)
      (Q := fun c st' => st = st' ∧ ∃ la o, c = (none, la, o) ∧ la < o ∧ hint + la < n ∧ pB rk left key arr base (hint + la) = true ∧ (hint + o < n → pB rk left key arr base (hint + o) = false)) ?step2 ?fin2 ?init2) ?post2)
    case init2 => exact ⟨rfl, 0, 1, rfl, by omega, by omega, by omega, er⟩
    case fin2 =>
      rintro c st' ⟨rfl, la, o, rfl, a1, a2, a3, a4⟩
      exact ⟨rfl, la, o, rfl, a1, a3, a4, fun q => by omega⟩
    case step2 =>
      rintro x c st' _ hx ⟨rfl, la, o, rfl, a1, a2, a3, a4⟩
      dsimp only
      by_cases g : o ≥ n - hint
      · rw [if_pos g]
        exact wpS_pure ⟨rfl, la, o, rfl, a1, a3, a4, fun q => by omega⟩
      · rw [if_neg g]
        refine wpS_bind (beyond_ L hk gk hg (by omega) ?_)
        cases e : pB rk left key arr base (hint + o)
        · dsimp only
          rw [if_pos (by simp)]
          exact wpS_pure ⟨rfl, la, o, rfl, a1, a3, a4, fun _ => e⟩
        · dsimp only
          rw [if_neg (by simp)]
          exact wpS_pure ⟨rfl, _, _, rfl, by omega, by omega, by omega, e⟩
    case post2 =>
      rintro c st' ⟨rfl, la, o, rfl, a1, a3, a4, a5⟩
      dsimp only
      refine wpS_bind (wpS_mono (wpS_forRange (I := fun x c st' => st = st' ∧ ∃ lo hi, c = (none, lo, hi) ∧ lo ≤ hi ∧ hi ≤ n ∧ hi - lo ≤ n - x ∧ (∀ i, i < lo → pB rk left key arr base i = true) ∧ (∀ i, hi ≤ i → i < n → pB rk left key arr base i = false))
        (Q := fun c st' => st = st' ∧ ∃ lo hi, c = (none, lo, hi) ∧ hi ≤ n ∧ (∀ i, i < hi → pB rk left key arr base i = true) ∧ (∀ i, hi ≤ i → i < n → pB rk left key arr base i = false)) ?step ?fin ?init) ?post)
      case init => exact ⟨rfl, (hint + la + 1), (hint + min o (n - hint)), rfl, (by omega), (by omega), by omega, (fun i i1 => pB_mono hs (by omega) (by omega) a4), (fun i i1 i2 => by
        by_cases q : hint + o < n
        · cases e' : pB rk left key arr base i
          · rfl
          · rw [pB_mono hs (by omega) i2 e'] at a5; cases a5 q
        · omega)⟩
      case fin =>
        rintro c st' ⟨rfl, lo, hi, rfl, a1, a2, a3, a4, a5⟩
        have e : lo = hi := by omega
        subst e
        exact ⟨rfl, lo, lo, rfl, a2, a4, a5⟩
      case step =>
        rintro x c st' _ hx ⟨rfl, lo, hi, rfl, a1, a2, a3, a4, a5⟩
        dsimp only
        by_cases g : lo ≥ hi
        · rw [if_pos g]
          have e : lo = hi := by omega
          subst e
          exact wpS_pure ⟨rfl, lo, lo, rfl, a2, a4, a5⟩
        · rw [if_neg g]
          refine wpS_bind (beyond_ L hk gk hg (by omega) ?_)
          cases e : pB rk left key arr base (lo + (hi - lo) / 2)
          · dsimp only
            rw [if_neg (by simp)]
            refine wpS_pure ⟨rfl, lo, _, rfl, by omega, by omega, by omega, a4, fun i i1 i2 => ?_⟩
            cases e' : pB rk left key arr base i
            · rfl
            · rw [pB_mono hs i1 i2 e'] at e; cases e
          · dsimp only
            rw [if_pos rfl]
            exact wpS_pure ⟨rfl, _, hi, rfl, by omega, a2, by omega, fun i i1 => pB_mono hs (by omega) (by omega) e, a5⟩
      case post =>
        rintro c st' ⟨rfl, lo, hi, rfl, a2, a4, a5⟩
        exact wpS_pure (h hi a2 a4 a5)
end
end Tim

end
noncomputable section
set_option linter.all false
set_option maxRecDepth 100000
namespace Tim
open PySem PyProof.Rows
section
variable {prog : Program} {w : World} {A : Around} {E : Value → Shared → Prop} {s : Shared} {κ : SortKind} {rk : Keyed → Int} {Good : Keyed → Prop} {a₀ : Array Keyed} {lo : Nat} {pd : Array (Nat × Nat × Nat)}
structure TB (κ : SortKind) (a₀ : Array Keyed) (lo : Nat) (pd : Array (Nat × Nat × Nat)) (st : SortSt) : Prop where
  pm : (arrOf st).Perm a₀
  kd : kindOf st = κ
  fl : failedOf st = none
  pn : pendingOf st = pd
  kp : ∀ k, k < lo → (arrOf st)[k]? = a₀[k]?
theorem TB.sz {st : SortSt} (B : TB κ a₀ lo pd st) : (arrOf st).size = a₀.size := B.pm.size_eq
theorem TB.gd {st : SortSt} (B : TB κ a₀ lo pd st) (hg : ∀ x ∈ a₀.toList, Good x) : ∀ x ∈ (arrOf st).toList, Good x := fun x hx => hg x ((Array.perm_iff_toList_perm.mp B.pm).mem_iff.mp hx)
theorem TB.put {st : SortSt} (B : TB κ a₀ lo pd st) {xs : Array Keyed} (hp : xs.Perm (arrOf st)) (hk : ∀ k, k < lo → xs[k]? = (arrOf st)[k]?) : TB κ a₀ lo pd (setArr st xs) :=
  ⟨hp.trans B.pm, B.kd, B.fl, B.pn, fun k q => (hk k q).trans (B.kp k q)⟩
theorem TB.lt {st : SortSt} {i j : Nat} {Q : Option Bool → SortSt → Prop} (B : TB κ a₀ lo pd st) (L : LtOk prog w A E s κ rk Good) (hg : ∀ x ∈ a₀.toList, Good x) (hi : i < a₀.size) (hj : j < a₀.size)
    (h : Q (some (decide (R rk (arrOf st) i < R rk (arrOf st) j))) st) : wpS (model prog w) A E s (ltAt' i j) Q st :=
  ltAt_ L B.kd (B.gd hg) (by rw [B.sz]; exact hi) (by rw [B.sz]; exact hj) h
theorem R_mir {xs : Array Keyed} {i j : Nat} (hj : j ≤ xs.size) (k : Nat) : R rk (mirror xs i j ((j - i) / 2)) k = if i ≤ k ∧ k < j then R rk xs (i + j - 1 - k) else R rk xs k := by
  have e := getElem?_mirror_all (i := i) hj k
  by_cases g : i ≤ k ∧ k < j
  · rw [if_pos g] at e ⊢; exact R_congr e
  · rw [if_neg g] at e ⊢; exact R_congr e
theorem R_same {xs : Array Keyed} {i j : Nat} (hj : j ≤ xs.size) (he : ∀ k, i ≤ k → k < j → R rk xs k = R rk xs (j - 1)) (k : Nat) : R rk (mirror xs i j ((j - i) / 2)) k = R rk xs k := by
  rw [R_mir hj]
  by_cases g : i ≤ k ∧ k < j
  · rw [if_pos g, he _ (by omega) (by omega), he k g.1 g.2]
  · rw [if_neg g]
theorem TB.rev {st : SortSt} (B : TB κ a₀ lo pd st) {i j : Nat} (hi : lo ≤ i) (hj : j ≤ a₀.size) : TB κ a₀ lo pd (setArr st (mirror (arrOf st) i j ((j - i) / 2))) :=
  B.put (mirror_perm _ _ _ _) fun k q => by rw [getElem?_mirror_all (by rw [B.sz]; exact hj), if_neg (by omega)]
theorem rev_ {st : SortSt} {i j : Nat} {Q : Unit → SortSt → Prop} (h : Q () (setArr st (mirror (arrOf st) i j ((j - i) / 2)))) : wpS (model prog w) A E s (reverseSlice' i j) Q st := by
  rw [reverseSlice'_eq]; exact wpS_modify h
/-- a run goes on upwards -/
theorem asc_ {f : Nat → Option (Option Nat) × Nat → StateT SortSt Sem (ForInStep (Option (Option Nat) × Nat))} {a nrem : Nat} {st : SortSt} {Q : Option (Option Nat) × Nat → SortSt → Prop}
    (hf : ∀ x n (Q' : ForInStep (Option (Option Nat) × Nat) → SortSt → Prop) (b : Bool), (∀ Z : Option Bool → SortSt → Prop, Z (some b) st → wpS (model prog w) A E s (ltAt' (lo + n) (lo + n - 1)) Z st) → Q' (if b = true then .done (none, n) else .yield (none, n + 1)) st → wpS (model prog w) A E s (f x (none, n)) Q' st)
    (L : LtOk prog w A E s κ rk Good) (hg : ∀ x ∈ a₀.toList, Good x) (B : TB κ a₀ lo pd st) (hn : lo + nrem ≤ a₀.size) (ha : 1 ≤ a) (han : a ≤ nrem) (hs : Sg rk (arrOf st) lo (lo + a))
    (h : ∀ n, a ≤ n → n ≤ nrem → Sg rk (arrOf st) lo (lo + n) → (n = nrem ∨ R rk (arrOf st) (lo + n) < R rk (arrOf st) (lo + n - 1)) → Q (none, n) st) :
    wpS (model prog w) A E s (forIn [a:nrem] (none, a) f) Q st := by
  refine wpS_forRange (I := fun x c st' => st = st' ∧ c = (none, x) ∧ Sg rk (arrOf st) lo (lo + x)) ?step ?fin ⟨rfl, rfl, hs⟩
  case fin =>
    rintro c st' ⟨rfl, rfl, g⟩
    have e : max a nrem = nrem := by omega
    rw [e] at g ⊢
    exact h nrem han (Nat.le_refl _) g (.inl rfl)
  case step =>
    rintro x c st' h1 h2 ⟨rfl, rfl, g⟩
    refine hf x x _ _ (fun Z z => B.lt L hg (by omega) (by omega) z) ?_
    by_cases q : R rk (arrOf st) (lo + x) < R rk (arrOf st) (lo + x - 1)
    · rw [if_pos (decide_eq_true q)]
      exact h x h1 (by omega) g (.inr q)
    · rw [if_neg (by simpa using q)]
      refine ⟨rfl, rfl, fun i j hi hij hj => ?_⟩
      by_cases e : j < lo + x
      · exact g i j hi hij e
      · have e : j = lo + x := by omega
        subst e
        by_cases z : i = lo + x
        · rw [z]; exact Int.le_refl _
        · have := g i (lo + x - 1) hi (by omega) (by omega)
          omega
/-- from lo to below hi the ranks don't rise -/
def Dn (rk : Keyed → Int) (xs : Array Keyed) (lo hi : Nat) : Prop := ∀ i j, lo ≤ i → i ≤ j → j < hi → R rk xs j ≤ R rk xs i
theorem Sg.one {xs : Array Keyed} : Sg rk xs lo (lo + 1) := fun i j hi hij hj => by
  have e : i = j := by omega
  rw [e]
  exact Int.le_refl _
abbrev LtIs (prog : Program) (w : World) (A : Around) (E : Value → Shared → Prop) (s : Shared) (i j : Nat) (b : Bool) (st : SortSt) : Prop := ∀ Z : Option Bool → SortSt → Prop, Z (some b) st → wpS (model prog w) A E s (ltAt' i j) Z st
/-- the run is turned round, and goes on upwards -/
theorem tail_ {f : Nat → Option (Option Nat) × Nat → StateT SortSt Sem (ForInStep (Option (Option Nat) × Nat))} {k : Option (Option Nat) × Nat → StateT SortSt Sem (Option Nat)} {m nrem : Nat} {st : SortSt} {Q : Option Nat → SortSt → Prop}
    (hf : ∀ st x n (Q' : ForInStep (Option (Option Nat) × Nat) → SortSt → Prop) (b : Bool), LtIs prog w A E s (lo + n) (lo + n - 1) b st → Q' (if b = true then .done (none, n) else .yield (none, n + 1)) st → wpS (model prog w) A E s (f x (none, n)) Q' st)
    (hk : ∀ n st, Q (some n) st → wpS (model prog w) A E s (k (none, n)) Q st)
    (L : LtOk prog w A E s κ rk Good) (hg : ∀ x ∈ a₀.toList, Good x) (B : TB κ a₀ lo pd st) (hn : lo + nrem ≤ a₀.size) (ha : 1 ≤ m) (han : m ≤ nrem) (hs : Dn rk (arrOf st) lo (lo + m))
    (h : ∀ m st', TB κ a₀ lo pd st' → 1 ≤ m → m ≤ nrem → Sg rk (arrOf st') lo (lo + m) → Q (some m) st') :
    wpS (model prog w) A E s (reverseSlice' lo (lo + m) >>= fun _ => forIn [m:nrem] (none, m) f >>= k) Q st := by
  have B' := B.rev (Nat.le_refl lo) (show lo + m ≤ a₀.size by omega)
  refine wpS_bind (rev_ (wpS_bind (asc_ (hf _) L hg B' hn ha han ?_ fun n n1 n2 sg _ => hk n _ (h n _ B' (by omega) n2 sg))))
  intro i j hi hij hj
  show R rk (mirror (arrOf st) lo (lo + m) ((lo + m - lo) / 2)) i ≤ R rk (mirror (arrOf st) lo (lo + m) ((lo + m - lo) / 2)) j
  rw [R_mir (by rw [B.sz]; omega), R_mir (by rw [B.sz]; omega), if_pos (by omega), if_pos (by omega)]
  exact hs _ _ (by omega) (by omega) (by omega)
theorem desc_ {f : Nat → Option (Option Nat) × Nat × Nat → StateT SortSt Sem (ForInStep (Option (Option Nat) × Nat × Nat))} {n nrem : Nat} {st : SortSt} {Q : Option (Option Nat) × Nat × Nat → SortSt → Prop}
    (hf : ∀ st x n q (Q' : ForInStep (Option (Option Nat) × Nat × Nat) → SortSt → Prop) (b c : Bool), LtIs prog w A E s (lo + n) (lo + n - 1) b st → LtIs prog w A E s (lo + n - 1) (lo + n) c st →
      (b = true → q > 0 → Q' (.yield (none, n + 1, 0)) (setArr st (mirror (arrOf st) (lo + n - (q + 1)) (lo + n) ((lo + n - (lo + n - (q + 1))) / 2)))) → (b = true → ¬ q > 0 → Q' (.yield (none, n + 1, 0)) st) →
      (b = false → c = true → Q' (.done (none, n, q)) st) → (b = false → c = false → Q' (.yield (none, n + 1, q + 1)) st) → wpS (model prog w) A E s (f x (none, n, q)) Q' st)
    (L : LtOk prog w A E s κ rk Good) (hg : ∀ x ∈ a₀.toList, Good x) (B : TB κ a₀ lo pd st) (hn : lo + nrem ≤ a₀.size) (ha : 1 ≤ n) (han : n ≤ nrem) (hs : Dn rk (arrOf st) lo (lo + n))
    (h : ∀ m q st', TB κ a₀ lo pd st' → 1 ≤ m → m ≤ nrem → Dn rk (arrOf st') lo (lo + m) → q + 1 ≤ m → (∀ i, lo + m - (q + 1) ≤ i → i < lo + m → R rk (arrOf st') i = R rk (arrOf st') (lo + m - 1)) → Q (none, m, q) st') :
    wpS (model prog w) A E s (forIn [n:nrem] (none, n, 0) f) Q st := by
  refine wpS_forRange (I := fun x c st' => ∃ q, c = (none, x, q) ∧ TB κ a₀ lo pd st' ∧ Dn rk (arrOf st') lo (lo + x) ∧ q + 1 ≤ x ∧ (∀ i, lo + x - (q + 1) ≤ i → i < lo + x → R rk (arrOf st') i = R rk (arrOf st') (lo + x - 1))) ?step ?fin
    ⟨0, rfl, B, hs, ha, fun i i1 i2 => by congr 1; omega⟩
  case fin =>
    rintro c st' ⟨q, rfl, B', d, hq, he⟩
    have e : max n nrem = nrem := by omega
    rw [e] at d hq he ⊢
    exact h _ q st' B' (by omega) (Nat.le_refl _) d hq he
  case step =>
    rintro x c st' h1 h2 ⟨q, rfl, B', d, hq, he⟩
    have one : ∀ xs : Array Keyed, (∀ k, R rk xs k = R rk (arrOf st') k) → R rk (arrOf st') (lo + x) ≤ R rk (arrOf st') (lo + x - 1) → Dn rk xs lo (lo + (x + 1)) := by
      intro xs hk hx i j hi hij hj
      rw [hk, hk]
      by_cases z : j < lo + x
      · exact d i j hi hij z
      · have z : j = lo + x := by omega
        subst z
        by_cases z : i = lo + x
        · rw [z]; exact Int.le_refl _
        · have := d i (lo + x - 1) hi (by omega) (by omega)
          omega
    refine hf st' x x q _ _ _ (fun Z z => B'.lt L hg (by omega) (by omega) z) (fun Z z => B'.lt L hg (by omega) (by omega) z) (fun b hq0 => ?_) (fun b _ => ?_) (fun b c => ?_) fun b c => ?_
    · have b := of_decide_eq_true b
      refine ⟨0, rfl, B'.rev (by omega) (by omega), one _ (fun k => R_same (by rw [B'.sz]; omega) he k) (by omega), by omega, fun i i1 i2 => by congr 1; omega⟩
    · have b := of_decide_eq_true b
      exact ⟨0, rfl, B', one _ (fun _ => rfl) (by omega), by omega, fun i i1 i2 => by congr 1; omega⟩
    · exact h x q st' B' (by omega) (by omega) d hq he
    · have b := of_decide_eq_false b
      have c := of_decide_eq_false c
      refine ⟨q + 1, rfl, B', one _ (fun _ => rfl) (by omega), by omega, fun i i1 i2 => ?_⟩
      have e : lo + (x + 1) - 1 = lo + x := by omega
      rw [e]
      by_cases z : i = lo + x
      · rw [z]
      · have := he i (by omega) (by omega)
        omega
theorem count_ {nrem : Nat} {st : SortSt} {Q : Option Nat → SortSt → Prop} (L : LtOk prog w A E s κ rk Good) (hg : ∀ x ∈ a₀.toList, Good x) (B : TB κ a₀ lo pd st) (hn : lo + nrem ≤ a₀.size) (h1 : 1 ≤ nrem)
    (h : ∀ m st', TB κ a₀ lo pd st' → 1 ≤ m → m ≤ nrem → Sg rk (arrOf st') lo (lo + m) → Q (some m) st') : wpS (model prog w) A E s (countRun' lo nrem) Q st := by
  rw [countRun'_eq]
  refine wpS_bind (asc_ (fun x n Q' b hl q => ?_) L hg B hn (Nat.le_refl 1) h1 Sg.one fun n n1 n2 sg alt => ?_)
  · refine wpS_bind (hl _ ?_)
    cases b <;> exact wpS_pure q
  · dsimp only
    by_cases e : n = nrem
    · rw [if_pos (by simpa using e)]
      exact wpS_pure (h n st B n1 n2 sg)
    · rw [if_neg (by simpa using e)]
      have hlt := alt.resolve_left e
      by_cases g : n > 1
      · rw [if_pos g]
        refine wpS_bind (B.lt L hg (by omega) (by omega) ?_)
        dsimp only
        by_cases r : R rk (arrOf st) lo < R rk (arrOf st) (lo + n - 1)
        · rw [if_pos (decide_eq_true r)]
          exact wpS_pure (h n st B n1 n2 sg)
        · rw [if_neg (by simpa using r)]
          have all : ∀ k, lo ≤ k → k < lo + n → R rk (arrOf st) k = R rk (arrOf st) (lo + n - 1) := fun k k1 k2 => by
            have x1 := sg lo k (Nat.le_refl _) k1 k2
            have x2 := sg k (lo + n - 1) k1 (by omega) (by omega)
            omega
          refine wpS_bind (rev_ ?_)
          have B2 := B.rev (Nat.le_refl lo) (show lo + n ≤ a₀.size by omega)
          have d2 : Dn rk (arrOf (setArr st (mirror (arrOf st) lo (lo + n) ((lo + n - lo) / 2)))) lo (lo + (n + 1)) := by
            intro i j hi hij hj
            show R rk (mirror (arrOf st) _ _ _) j ≤ R rk (mirror (arrOf st) _ _ _) i
            rw [R_same (by rw [B.sz]; omega) all, R_same (by rw [B.sz]; omega) all]
            by_cases z : j < lo + n
            · rw [all i hi (by omega), all j (by omega) z]; exact Int.le_refl _
            · have z : j = lo + n := by omega
              subst z
              by_cases z : i = lo + n
              · rw [z]; exact Int.le_refl _
              · rw [all i hi (by omega)]; omega
          refine wpS_bind (wpS_lift (wpAny_rule ⟨rfl, ?_⟩))
          refine wpS_bind (desc_ (by
              intro st x n q Q' b c hb hc i1 i2 i3 i4
              refine wpS_bind (hb _ ?_)
              dsimp only
              cases b
              · rw [if_neg (by simp)]
                refine wpS_bind (hc _ ?_)
                dsimp only
                cases c
                · exact wpS_pure (i4 rfl rfl)
                · exact wpS_pure (i3 rfl rfl)
              · rw [if_pos rfl]
                by_cases z : q > 0
                · rw [if_pos z]
                  exact wpS_bind (rev_ (wpS_pure (i1 rfl z)))
                · rw [if_neg z]
                  exact wpS_pure (i2 rfl z)) L hg B2 hn (by omega) (by omega) d2 fun m q st' B' m1 m2 d' hq he => ?_)
          dsimp only
          by_cases z : q > 0
          · rw [if_pos z]
            refine wpS_bind (rev_ (tail_ (by
                intro st x n Q' b hl q
                refine wpS_bind (hl _ ?_)
                cases b <;> exact wpS_pure q) (fun n st q => wpS_pure q) L hg (B'.rev (by omega) (by omega)) hn m1 m2 (fun i j hi hij hj => ?_) h))
            show R rk (mirror (arrOf st') _ _ _) j ≤ R rk (mirror (arrOf st') _ _ _) i
            rw [R_same (by rw [B'.sz]; omega) he, R_same (by rw [B'.sz]; omega) he]
            exact d' i j hi hij hj
          · rw [if_neg z]
            exact tail_ (by
                intro st x n Q' b hl q
                refine wpS_bind (hl _ ?_)
                cases b <;> exact wpS_pure q) (fun n st q => wpS_pure q) L hg B' hn m1 m2 d' h
      · rw [if_neg g]
        have e1 : n = 1 := by omega
        subst e1
        have d2 : Dn rk (arrOf st) lo (lo + (1 + 1)) := by
          intro i j hi hij hj
          by_cases z : i = j
          · rw [z]; exact Int.le_refl _
          · have z1 : i = lo := by omega
            have z2 : j = lo + 1 := by omega
            have z3 : lo + 1 - 1 = lo := by omega
            subst z1 z2
            rw [z3] at hlt
            omega
        refine wpS_bind (wpS_lift (wpAny_rule ⟨rfl, ?_⟩))
        refine wpS_bind (desc_ (by
            intro st x n q Q' b c hb hc i1 i2 i3 i4
            refine wpS_bind (hb _ ?_)
            dsimp only
            cases b
            · rw [if_neg (by simp)]
              refine wpS_bind (hc _ ?_)
              dsimp only
              cases c
              · exact wpS_pure (i4 rfl rfl)
              · exact wpS_pure (i3 rfl rfl)
            · rw [if_pos rfl]
              by_cases z : q > 0
              · rw [if_pos z]
                exact wpS_bind (rev_ (wpS_pure (i1 rfl z)))
              · rw [if_neg z]
                exact wpS_pure (i2 rfl z)) L hg B hn (by omega) (by omega) d2 fun m q st' B' m1 m2 d' hq he => ?_)
        dsimp only
        by_cases z : q > 0
        · rw [if_pos z]
          refine wpS_bind (rev_ (tail_ (by
              intro st x n Q' b hl q
              refine wpS_bind (hl _ ?_)
              cases b <;> exact wpS_pure q) (fun n st q => wpS_pure q) L hg (B'.rev (by omega) (by omega)) hn m1 m2 (fun i j hi hij hj => ?_) h))
          show R rk (mirror (arrOf st') _ _ _) j ≤ R rk (mirror (arrOf st') _ _ _) i
          rw [R_same (by rw [B'.sz]; omega) he, R_same (by rw [B'.sz]; omega) he]
          exact d' i j hi hij hj
        · rw [if_neg z]
          exact tail_ (by
              intro st x n Q' b hl q
              refine wpS_bind (hl _ ?_)
              cases b <;> exact wpS_pure q) (fun n st q => wpS_pure q) L hg B' hn m1 m2 d' h
theorem bin_ {n ok : Nat} {st : SortSt} {Q : Bool → SortSt → Prop} (L : LtOk prog w A E s κ rk Good) (hg : ∀ x ∈ a₀.toList, Good x) (B : TB κ a₀ lo pd st) (hn : lo + n ≤ a₀.size) (hok : 1 ≤ ok) (hon : ok ≤ n) (hs : Sg rk (arrOf st) lo (lo + ok))
    (h : ∀ st', TB κ a₀ lo pd st' → Sg rk (arrOf st') lo (lo + n) → Q true st') : wpS (model prog w) A E s (binarySort' lo n ok) Q st := by
  rw [binarySort'_eq]
  refine wpS_bind (wpS_mono (wpS_forRange (I := fun k c st' => c = (none, ()) ∧ TB κ a₀ lo pd st' ∧ Sg rk (arrOf st') lo (lo + k)) (Q := fun c st' => c = (none, ()) ∧ TB κ a₀ lo pd st' ∧ Sg rk (arrOf st') lo (lo + n)) ?step ?fin ?init) ?post)
  case post =>
    rintro c st' ⟨rfl, B', sg⟩
    exact wpS_pure (h st' B' sg)
  case init =>
    have e : max ok 1 = ok := by omega
    rw [e]
    exact ⟨rfl, B, hs⟩
  case fin =>
    rintro c st' ⟨hc, B', sg⟩
    have e : max (max ok 1) n = n := by omega
    rw [e] at sg
    exact ⟨hc, B', sg⟩
  case step =>
    rintro k c st' hak hkn ⟨rfl, B', sg⟩
    refine wpS_bind (wpS_mono (wpS_forRange (I := fun x c st'' => st' = st'' ∧ ∃ l r, c = (none, l, r) ∧ l ≤ r ∧ r ≤ k ∧ r - l ≤ k - x ∧
        (∀ i, i < l → R rk (arrOf st') (lo + i) ≤ R rk (arrOf st') (lo + k)) ∧ (∀ i, r ≤ i → i < k → R rk (arrOf st') (lo + k) ≤ R rk (arrOf st') (lo + i)))
      (Q := fun c st'' => st' = st'' ∧ ∃ l r, c = (none, l, r) ∧ l ≤ k ∧
        (∀ i, i < l → R rk (arrOf st') (lo + i) ≤ R rk (arrOf st') (lo + k)) ∧ (∀ i, l ≤ i → i < k → R rk (arrOf st') (lo + k) ≤ R rk (arrOf st') (lo + i))) ?istep ?ifin ?iinit) ?ipost)
    case iinit => exact ⟨rfl, 0, k, rfl, by omega, by omega, by omega, fun i hi => by omega, fun i h1 h2 => by omega⟩
    case ifin =>
      rintro c st'' ⟨rfl, l, r, rfl, a1, a2, a3, a4, a5⟩
      have e : l = r := by omega
      subst e
      exact ⟨rfl, l, l, rfl, a2, a4, a5⟩
    case istep =>
      rintro x c st'' _ hxk ⟨rfl, l, r, rfl, a1, a2, a3, a4, a5⟩
      dsimp only
      by_cases g : l ≥ r
      · rw [if_pos g]
        have e : l = r := by omega
        subst e
        exact wpS_pure ⟨rfl, l, l, rfl, a2, a4, a5⟩
      · rw [if_neg g]
        refine wpS_bind (B'.lt L hg (by omega) (by omega) ?_)
        dsimp only
        by_cases less : R rk (arrOf st') (lo + k) < R rk (arrOf st') (lo + (l + r) / 2)
        · rw [if_pos (decide_eq_true less)]
          refine wpS_pure ⟨rfl, l, (l + r) / 2, rfl, by omega, by omega, by omega, a4, fun i h1 h2 => ?_⟩
          have := sg (lo + (l + r) / 2) (lo + i) (by omega) (by omega) (by omega)
          omega
        · rw [if_neg (by simpa using less)]
          refine wpS_pure ⟨rfl, (l + r) / 2 + 1, r, rfl, by omega, by omega, by omega, fun i h1 => ?_, a5⟩
          have := sg (lo + i) (lo + (l + r) / 2) (by omega) (by omega) (by omega)
          omega
    case ipost =>
      rintro c st'' ⟨rfl, l, r, rfl, a2, a4, a5⟩
      show wpS _ _ _ _ (do moveDown' (lo + k) (lo + l); pure (ForInStep.yield (none, ()))) _ _
      rw [moveDown'_eq]
      have hks : lo + k < (arrOf st').size := by rw [B'.sz]; omega
      have gb := fun k' => getElem?_bubble hks (lo + k - (lo + l)) (by omega) k'
      have rb : ∀ k', R rk (bubble (arrOf st') (lo + k) (lo + k - (lo + l))) k' = if k' = lo + l then R rk (arrOf st') (lo + k) else if lo + l < k' ∧ k' ≤ lo + k then R rk (arrOf st') (k' - 1) else R rk (arrOf st') k' := fun k' => by
        have e := gb k'
        have z : lo + k - (lo + k - (lo + l)) = lo + l := by omega
        rw [z] at e
        by_cases g1 : k' = lo + l
        · rw [if_pos g1] at e ⊢; exact R_congr e
        · rw [if_neg g1] at e ⊢
          by_cases g2 : lo + l < k' ∧ k' ≤ lo + k
          · rw [if_pos g2] at e ⊢; exact R_congr e
          · rw [if_neg g2] at e ⊢; exact R_congr e
      refine wpS_bind (wpS_modify (wpS_pure ⟨rfl, B'.put (bubble_perm _ _ _) (fun k' q => ?_), fun i j hi hij hj => ?_⟩))
      · rw [gb, if_neg (by omega), if_neg (by omega)]
      · show R rk (bubble (arrOf st') (lo + k) (lo + k - (lo + l))) i ≤ R rk (bubble (arrOf st') (lo + k) (lo + k - (lo + l))) j
        rw [rb, rb]
        have A4 : ∀ i, lo ≤ i → i < lo + l → R rk (arrOf st') i ≤ R rk (arrOf st') (lo + k) := fun i x y => by
          have := a4 (i - lo) (by omega)
          have e : lo + (i - lo) = i := by omega
          rwa [e] at this
        have A5 : ∀ i, lo + l ≤ i → i < lo + k → R rk (arrOf st') (lo + k) ≤ R rk (arrOf st') i := fun i x y => by
          have := a5 (i - lo) (by omega) (by omega)
          have e : lo + (i - lo) = i := by omega
          rwa [e] at this
        repeat' split
        all_goals first
          | (exfalso; omega)
          | exact Int.le_refl _
          | exact A4 _ (by omega) (by omega)
          | exact A5 _ (by omega) (by omega)
          | exact sg _ _ (by omega) (by omega) (by omega)
end
end Tim

end
noncomputable section
set_option linter.all false
set_option maxRecDepth 100000
namespace Tim
open PySem PyProof.Rows
section
variable {prog : Program} {w : World} {A : Around} {E : Value → Shared → Prop} {s : Shared} {κ : SortKind} {rk : Keyed → Int} {Good : Keyed → Prop} {a b out : Array Keyed} {ia ib k : Nat}
/-- in a merge the array, what waits and what failed stay -/
structure Mq (st st' : SortSt) : Prop where
  ar : arrOf st' = arrOf st
  kd : kindOf st' = kindOf st
  fl : failedOf st' = failedOf st
  pn : pendingOf st' = pendingOf st
theorem ext_list {xs : Array Keyed} {i j : Nat} : (xs.extract i j).toList = (xs.toList.drop i).take (j - i) := by
  rw [Array.toList_extract, List.extract_eq_take_drop]
theorem ext_all {xs : Array Keyed} {i : Nat} : (xs.extract i xs.size).toList = xs.toList.drop i := by
  rw [ext_list, List.take_of_length_le (by simp)]
theorem head_le {xs : Array Keyed} {i : Nat} (hs : Srt rk xs.toList) (hi : i < xs.size) : ∀ x ∈ xs.toList.drop i, rk xs[i] ≤ rk x := by
  intro x hx
  rw [List.drop_eq_getElem_cons (by simpa using hi)] at hx
  rcases List.mem_cons.mp hx with e | e
  · rw [e]; simp
  · have h2 : Srt rk (xs.toList.drop i) := List.Pairwise.sublist (List.drop_sublist _ _) hs
    rw [List.drop_eq_getElem_cons (by simpa using hi)] at h2
    have := (List.pairwise_cons.mp h2).1 x e
    simpa using this
theorem ite_ {α : Type} {c : Prop} [Decidable c] {x y : StateT SortSt Sem α} {Q : α → SortSt → Prop} {st : SortSt} (h1 : c → wpS (model prog w) A E s x Q st) (h2 : ¬ c → wpS (model prog w) A E s y Q st) : wpS (model prog w) A E s (if c then x else y) Q st := by
  by_cases h : c
  · rw [if_pos h]; exact h1 h
  · rw [if_neg h]; exact h2 h
structure Ml (rk : Keyed → Int) (a b out : Array Keyed) (ia ib : Nat) : Prop where
  lo : Lo rk (a.toList ++ b.toList) out.toList (a.toList.drop ia) (b.toList.drop ib)
  la : ia ≤ a.size
  lb : ib ≤ b.size
theorem Ml.sz (h : Ml rk a b out ia ib) : out.size + (a.size - ia) + (b.size - ib) = a.size + b.size := by
  have := h.lo.pm.length_eq
  simp only [List.length_append, List.length_drop, Array.length_toList] at this
  omega
theorem Ml.pushB (h : Ml rk a b out ia ib) (hi : ib < b.size) (hp : ∀ x ∈ a.toList.drop ia, rk b[ib] ≤ rk x) : Ml rk a b (out.push b[ib]) ia (ib + 1) := by
  refine ⟨?_, h.la, hi⟩
  have l := h.lo
  rw [List.drop_eq_getElem_cons (l := b.toList) (by simpa using hi)] at l
  rw [Array.toList_push]
  exact Lo.right (P := [b[ib]]) (by simpa using l) fun x hx => by rw [List.mem_singleton.mp hx]; exact hp
theorem Ml.pushA (h : Ml rk a b out ia ib) (hi : ia < a.size) (hp : ∀ x ∈ b.toList.drop ib, rk a[ia] ≤ rk x) : Ml rk a b (out.push a[ia]) (ia + 1) ib := by
  refine ⟨?_, hi, h.lb⟩
  have l := h.lo
  rw [List.drop_eq_getElem_cons (l := a.toList) (by simpa using hi)] at l
  rw [Array.toList_push]
  exact Lo.left (P := [a[ia]]) (by simpa using l) fun x hx => by rw [List.mem_singleton.mp hx]; exact hp
theorem mem_take_drop {xs : Array Keyed} {i k : Nat} {x : Keyed} (hx : x ∈ (xs.toList.drop i).take k) (hk : i + k ≤ xs.size) : ∃ j, j < k ∧ R rk xs (i + j) = rk x := by
  obtain ⟨j, hj, e⟩ := List.mem_iff_getElem.mp hx
  rw [List.length_take, List.length_drop, Array.length_toList] at hj
  refine ⟨j, by omega, ?_⟩
  rw [R_get (by omega), ← e]
  simp
theorem Ml.blkA (h : Ml rk a b out ia ib) (hk : ia + k ≤ a.size) (hi : ib < b.size) (sb : Srt rk b.toList) (hp : ∀ i, i < k → R rk a (ia + i) ≤ rk b[ib]) : Ml rk a b (out ++ a.extract ia (ia + k)) (ia + k) ib := by
  refine ⟨?_, hk, h.lb⟩
  have l := h.lo
  rw [← List.take_append_drop k (a.toList.drop ia), List.drop_drop] at l
  rw [Array.toList_append, ext_list, Nat.add_sub_cancel_left]
  refine Lo.left l fun x hx y hy => ?_
  obtain ⟨j, j1, e⟩ := mem_take_drop (rk := rk) hx hk
  rw [← e]
  exact Int.le_trans (hp j j1) (head_le sb hi y hy)
theorem Ml.blkB (h : Ml rk a b out ia ib) (hk : ib + k ≤ b.size) (hi : ia < a.size) (sa : Srt rk a.toList) (hp : ∀ i, i < k → R rk b (ib + i) ≤ rk a[ia]) : Ml rk a b (out ++ b.extract ib (ib + k)) ia (ib + k) := by
  refine ⟨?_, h.la, hk⟩
  have l := h.lo
  rw [← List.take_append_drop k (b.toList.drop ib), List.drop_drop] at l
  rw [Array.toList_append, ext_list, Nat.add_sub_cancel_left]
  refine Lo.right l fun x hx y hy => ?_
  obtain ⟨j, j1, e⟩ := mem_take_drop (rk := rk) hx hk
  rw [← e]
  exact Int.le_trans (hp j j1) (head_le sa hi y hy)
def Res (rk : Keyed → Int) (a b r : Array Keyed) : Prop := r.toList.Perm (a.toList ++ b.toList) ∧ Srt rk r.toList
theorem Ml.done (h : Ml rk a b out ia ib) (e : ia = a.size ∨ ib = b.size) : Res rk a b (out ++ a.extract ia a.size ++ b.extract ib b.size) := by
  unfold Res
  rw [Array.toList_append, Array.toList_append, ext_all, ext_all]
  refine h.lo.done ?_
  rcases e with e | e
  · exact .inl (List.drop_of_length_le (by simp [e]))
  · exact .inr (List.drop_of_length_le (by simp [e]))
theorem Ml.last (h : Ml rk a b out ia ib) (e : ia + 1 = a.size) (hl : ∀ y ∈ b.toList, rk y ≤ R rk a (a.size - 1)) : Res rk a b (out ++ b.extract ib b.size ++ a.extract ia a.size) := by
  unfold Res
  rw [Array.toList_append, Array.toList_append, ext_all, ext_all]
  refine h.lo.last fun y hy x hx => ?_
  have e2 : a.toList.drop ia = [a[ia]] := by
    rw [List.drop_eq_getElem_cons (by simp; omega), List.drop_of_length_le (by simp; omega)]
    simp
  rw [e2] at hx
  have := hl y (List.mem_of_mem_drop hy)
  rw [R_get (by omega)] at this
  rw [List.mem_singleton.mp hx]
  have z : a.size - 1 = ia := by omega
  simpa [z] using this
def setMin' : Nat → StateT SortSt Sem Unit := sortPriv% PySem.Builtin.setMinGallop
theorem setMin_ {st : SortSt} {g : Nat} {Q : Unit → SortSt → Prop} (h : Q () (SortSt.mk' (kindOf st) (arrOf st) (pendingOf st) g (failedOf st))) : wpS (model prog w) A E s (setMin' g) Q st := by
  exact wpS_modify h
theorem Mq.min {st st' : SortSt} {g : Nat} (h : Mq st st') : Mq st (SortSt.mk' (kindOf st') (arrOf st') (pendingOf st') g (failedOf st')) := ⟨h.ar, h.kd, h.fl, h.pn⟩
theorem srt_seg {xs : Array Keyed} {i n : Nat} (h : Srt rk xs.toList) (hn : i + n ≤ xs.size) : Sg rk xs i (i + n) := fun x y h1 h2 h3 => srt_sg h x y (Nat.zero_le _) h2 (by omega)
/-- the place of a key in a sorted rest: not less than those ahead -/
theorem galR {key : Keyed} {arr : Array Keyed} {base hint n : Nat} {st : SortSt} {Q : Option Nat → SortSt → Prop} (L : LtOk prog w A E s κ rk Good) (hk : kindOf st = κ) (gk : Good key) (hg : ∀ x ∈ arr.toList, Good x) (hs : Srt rk arr.toList) (hn : base + n ≤ arr.size) (hh : hint < n)
    (h : ∀ k, k ≤ n → (∀ i, i < k → R rk arr (base + i) ≤ rk key) → (∀ i, k ≤ i → i < n → rk key ≤ R rk arr (base + i)) → Q (some k) st) : wpS (model prog w) A E s (gallop' false key arr base n hint) Q st := by
  refine gallopB L hk gk hg hn (srt_seg hs hn) hh fun k k1 k2 k3 => h k k1 (fun i i1 => ?_) fun i i1 i2 => ?_
  · have := k2 i i1
    simp [pB] at this
    exact this
  · have := k3 i i1 i2
    simp [pB] at this
    omega
theorem galL {key : Keyed} {arr : Array Keyed} {base hint n : Nat} {st : SortSt} {Q : Option Nat → SortSt → Prop} (L : LtOk prog w A E s κ rk Good) (hk : kindOf st = κ) (gk : Good key) (hg : ∀ x ∈ arr.toList, Good x) (hs : Srt rk arr.toList) (hn : base + n ≤ arr.size) (hh : hint < n)
    (h : ∀ k, k ≤ n → (∀ i, i < k → R rk arr (base + i) ≤ rk key) → (∀ i, k ≤ i → i < n → rk key ≤ R rk arr (base + i)) → Q (some k) st) : wpS (model prog w) A E s (gallop' true key arr base n hint) Q st := by
  refine gallopB L hk gk hg hn (srt_seg hs hn) hh fun k k1 k2 k3 => h k k1 (fun i i1 => ?_) fun i i1 i2 => ?_
  · have := k2 i i1
    simp [pB] at this
    omega
  · have := k3 i i1 i2
    simp [pB] at this
    omega
theorem good_at {xs : Array Keyed} (g : ∀ x ∈ xs.toList, Good x) {i : Nat} (h : i < xs.size) : Good xs[i] := g _ (by simp)
theorem tail_le {xs : Array Keyed} {i k : Nat} {v : Int} (hs : Srt rk xs.toList) (hi : i + k < xs.size) (h : v ≤ R rk xs (i + k)) : ∀ x ∈ xs.toList.drop (i + k), v ≤ rk x := fun x hx => by
  rw [R_get hi] at h
  exact Int.le_trans h (head_le hs hi x hx)
theorem mergeLo_ {st : SortSt} {Q : Array Keyed → SortSt → Prop} (L : LtOk prog w A E s κ rk Good) (hk : kindOf st = κ) (ga : ∀ x ∈ a.toList, Good x) (gb : ∀ x ∈ b.toList, Good x)
    (ha : 0 < a.size) (hb : 0 < b.size) (sa : Srt rk a.toList) (sb : Srt rk b.toList) (h0 : ∀ x ∈ a.toList, rk b[0] ≤ rk x) (hl : ∀ y ∈ b.toList, rk y ≤ R rk a (a.size - 1))
    (h : ∀ r st', Mq st st' → Res rk a b r → Q r st') : wpS (model prog w) A E s (mergeLo' a b) Q st := by
  have Q0 : Mq st st := ⟨rfl, rfl, rfl, rfl⟩
  have M0 : Ml rk a b #[] 0 0 := ⟨⟨by simp, by simpa using sa, by simpa using sb⟩, by omega, by omega⟩
  have M1 := M0.pushB hb (by simpa using h0)
  refine wpS_bind (wpS_lift (wpAny_rule ⟨rfl, ?_⟩))
  refine wpS_bind (elem_ hb ?_)
  refine ite_ (fun q => ?_) fun q => ?_
  · skip
    exact wpS_pure (h _ st Q0 (M1.done (.inr (by simpa using q))))
  · skip
    have q1 : 1 < b.size := by simp at q; omega
    refine ite_ (fun q => ?_) fun q => ?_
    · skip
      exact wpS_pure (h _ st Q0 (M1.last (by simpa using q) hl))
    · skip
      have q2 : 1 < a.size := by simp at q; omega
      refine wpS_bind (wpS_get ?_)
      refine wpS_bind (wpS_mono (wpS_forRange (I := fun x c st' => Mq st st' ∧ ∃ out ia ib mg, c = (none, out, ia, ib, mg) ∧ Ml rk a b out ia ib ∧ ia + 1 < a.size ∧ ib < b.size ∧ x + 1 ≤ out.size)
        (Q := fun c st' => Mq st st' ∧ ∃ r z, c = (some r, z) ∧ Res rk a b r) ?step ?fin ?init) ?post)
      case init => exact ⟨Q0, _, _, _, _, rfl, M1, by omega, q1, by simp⟩
      case fin =>
        rintro c st' ⟨_, out, ia, ib, mg, rfl, M, b1, b2, b3⟩
        have := M.sz
        omega
      case post =>
        rintro c st' ⟨Mq', r, z, rfl, hr⟩
        exact wpS_pure (h r st' Mq' hr)
      case step =>
        rintro x c st' _ hx ⟨Mq', out0, ia, ib, mg, rfl, M, b1, b2, b3⟩
        dsimp only
        refine wpS_bind (wpS_mono (wpS_forRange (I := fun x c st' => Mq st st' ∧ ∃ out ia ib ac bc, c = (none, out, ia, ib, ac, bc) ∧ Ml rk a b out ia ib ∧ ia + 1 < a.size ∧ ib < b.size ∧ out0.size + x ≤ out.size)
          (Q := fun c st' => Mq st st' ∧ ((∃ r z, c = (some r, z) ∧ Res rk a b r) ∨ ∃ out ia ib ac bc, c = (none, out, ia, ib, ac, bc) ∧ Ml rk a b out ia ib ∧ ia + 1 < a.size ∧ ib < b.size ∧ out0.size + 1 ≤ out.size)) ?step1 ?fin1 ?init1) ?post1)
        case init1 => exact ⟨Mq', _, _, _, _, _, rfl, M, b1, b2, by omega⟩
        case fin1 =>
          rintro c st' ⟨Mq', out, ia, ib, ac, bc, rfl, M, b1, b2, b3⟩
          exact ⟨Mq', .inr ⟨_, _, _, _, _, rfl, M, b1, b2, by omega⟩⟩
        case step1 =>
          clear M b1 b2 Mq'
          rintro y c st' _ hy ⟨Mq', out, ia, ib, ac, bc, rfl, M, b1, b2, b3⟩
          dsimp only
          refine wpS_bind (elem_ b2 (wpS_bind (elem_ (by omega) (wpS_bind (L _ _ _ _ (good_at gb b2) (good_at ga (by omega)) (Mq'.kd.trans hk) ?_)))))
          dsimp only
          refine ite_ (fun q => ?_) fun q => ?_
          · skip
            have q := of_decide_eq_true q
            refine wpS_bind (elem_ b2 ?_)
            have M2 := M.pushB b2 fun x hx => Int.le_trans (Int.le_of_lt q) (head_le sa (by omega) x hx)
            refine ite_ (fun q' => ?_) fun q' => ?_
            · skip
              exact wpS_pure ⟨Mq', .inl ⟨_, _, rfl, M2.done (.inr (by simpa using q'))⟩⟩
            · skip
              refine ite_ (fun _ => ?_) fun _ => ?_
              · exact wpS_pure ⟨Mq', .inr ⟨_, _, _, _, _, rfl, M2, b1, by simp at q'; omega, by rw [Array.size_push]; omega⟩⟩
              · exact wpS_pure ⟨Mq', _, _, _, _, _, rfl, M2, b1, by simp at q'; omega, by rw [Array.size_push]; omega⟩
          · skip
            have q : ¬ rk b[ib] < rk a[ia] := by simpa using q
            refine wpS_bind (elem_ (by omega) ?_)
            have M2 := M.pushA (by omega) fun x hx => Int.le_trans (Int.not_lt.mp q) (head_le sb b2 x hx)
            refine ite_ (fun q' => ?_) fun q' => ?_
            · skip
              exact wpS_pure ⟨Mq', .inl ⟨_, _, rfl, M2.last (by simpa using q') hl⟩⟩
            · skip
              refine ite_ (fun _ => ?_) fun _ => ?_
              · exact wpS_pure ⟨Mq', .inr ⟨_, _, _, _, _, rfl, M2, by simp at q'; omega, b2, by rw [Array.size_push]; omega⟩⟩
              · exact wpS_pure ⟨Mq', _, _, _, _, _, rfl, M2, by simp at q'; omega, b2, by rw [Array.size_push]; omega⟩
        case post1 =>
          clear M b1 b2 Mq'
          rintro c st' ⟨Mq', ⟨r, z, rfl, hr⟩ | ⟨out1, ia, ib, ac, bc, rfl, M, b1, b2, b4⟩⟩
          · exact wpS_pure ⟨Mq', _, _, rfl, hr⟩
          · dsimp only
            refine wpS_bind (wpS_lift (wpAny_rule ⟨rfl, ?_⟩))
            refine wpS_bind (wpS_mono (wpS_forRange (I := fun x c st' => Mq st st' ∧ ∃ out ia ib mg ac bc, c = (none, out, ia, ib, mg, ac, bc) ∧ Ml rk a b out ia ib ∧ ia + 1 < a.size ∧ ib < b.size ∧ out1.size ≤ out.size)
              (Q := fun c st' => Mq st st' ∧ ((∃ r z, c = (some r, z) ∧ Res rk a b r) ∨ ∃ out ia ib mg ac bc, c = (none, out, ia, ib, mg, ac, bc) ∧ Ml rk a b out ia ib ∧ ia + 1 < a.size ∧ ib < b.size ∧ out1.size ≤ out.size)) ?step2 ?fin2 ?init2) ?post2)
            case init2 => exact ⟨Mq', _, _, _, _, _, _, rfl, M, b1, b2, Nat.le_refl _⟩
            case fin2 =>
              rintro c st' ⟨Mq', out, ia, ib, mg, ac, bc, rfl, M, b1, b2, b3⟩
              exact ⟨Mq', .inr ⟨_, _, _, _, _, _, rfl, M, b1, b2, b3⟩⟩
            case post2 =>
              clear M b1 b2 Mq'
              rintro c st' ⟨Mq', ⟨r, z, rfl, hr⟩ | ⟨out, ia, ib, mg, ac, bc, rfl, M, b1, b2, b5⟩⟩
              · exact wpS_pure ⟨Mq', _, _, rfl, hr⟩
              · exact wpS_bind (setMin_ (wpS_pure ⟨Mq'.min, _, _, _, _, rfl, M, b1, b2, by show _ ≤ out.size; omega⟩))
            case step2 =>
              clear M b1 b2 Mq'
              rintro y c st' _ hy ⟨Mq', out, ia, ib, mg, ac, bc, rfl, M, b1, b2, b5⟩
              dsimp only
              have z0 := M.sz
              refine ite_ (fun _ => ?_) fun _ => ?_
              · refine wpS_bind (setMin_ ?_)
                have Mx := Mq'.min (g := (mg - 1))
                refine wpS_bind (elem_ b2 ?_)
                refine wpS_bind (galR L (Mx.kd.trans hk) (good_at gb b2) ga sa (by omega) (by omega) fun k k1 p1 p2 => ?_)
                dsimp only
                refine ite_ (fun kp => ?_) fun kp => ?_
                · skip
                  have M1 := M.blkA (k := k) (by omega) b2 sb p1
                  have z1 := M1.sz
                  refine ite_ (fun q => ?_) fun q => ?_
                  · skip
                    exact wpS_pure ⟨Mx, .inl ⟨_, _, rfl, M1.last (by simpa using q) hl⟩⟩
                  · skip
                    refine ite_ (fun q' => ?_) fun q' => ?_
                    · skip
                      exact wpS_pure ⟨Mx, .inl ⟨_, _, rfl, M1.done (.inl (by simpa using q'))⟩⟩
                    · skip
                      have q3 : ia + k + 1 < a.size := by simp at q q'; omega
                      refine wpS_bind (elem_ (by omega) ?_)
                      have M2 := (M1).pushB (by omega) (tail_le sa (by omega) (p2 k (Nat.le_refl _) (by omega)))
                      have z2 := M2.sz
                      rw [Array.size_push] at z2
                      refine ite_ (fun q => ?_) fun q => ?_
                      · skip
                        exact wpS_pure ⟨Mx, .inl ⟨_, _, rfl, M2.done (.inr (by simpa using q))⟩⟩
                      · skip
                        have q2 : ib + 1 < b.size := by simp at q; omega
                        refine wpS_bind (elem_ (by omega) ?_)
                        refine wpS_bind (galL L (Mx.kd.trans hk) (good_at ga (by omega)) gb sb (by omega) (by omega) fun k2 k1 p1 p2 => ?_)
                        dsimp only
                        refine ite_ (fun kp => ?_) fun kp => ?_
                        · skip
                          have M4 := M2.blkB (k := k2) (by omega) (by omega) sa p1
                          have z4 := M4.sz
                          refine ite_ (fun q => ?_) fun q => ?_
                          · skip
                            exact wpS_pure ⟨Mx, .inl ⟨_, _, rfl, M4.done (.inr (by simpa using q))⟩⟩
                          · skip
                            have q3 : ib + 1 + k2 < b.size := by simp at q; omega
                            refine wpS_bind (elem_ (by omega) ?_)
                            have M3 := (M4).pushA (by omega) (tail_le sb q3 (p2 k2 (Nat.le_refl _) (by omega)))
                            have z3 := M3.sz
                            rw [Array.size_push] at z3
                            refine ite_ (fun q => ?_) fun q => ?_
                            · skip
                              exact wpS_pure ⟨Mx, .inl ⟨_, _, rfl, M3.last (by simpa using q) hl⟩⟩
                            · skip
                              refine ite_ (fun _ => ?_) fun _ => ?_
                              · exact wpS_pure ⟨Mx, .inr ⟨_, _, _, _, _, _, rfl, M3, by simp at q; omega, by omega, by rw [Array.size_push]; omega⟩⟩
                              · exact wpS_pure ⟨Mx, _, _, _, _, _, _, rfl, M3, by simp at q; omega, by omega, by rw [Array.size_push]; omega⟩
                        · skip
                          have e0 : k2 = 0 := by omega
                          subst e0
                          refine wpS_bind (elem_ (by omega) ?_)
                          have M3 := (M2).pushA (by omega) (tail_le sb (k := 0) q2 (p2 0 (Nat.le_refl _) (by omega)))
                          have z3 := M3.sz
                          rw [Array.size_push] at z3
                          refine ite_ (fun q => ?_) fun q => ?_
                          · skip
                            exact wpS_pure ⟨Mx, .inl ⟨_, _, rfl, M3.last (by simpa using q) hl⟩⟩
                          · skip
                            refine ite_ (fun _ => ?_) fun _ => ?_
                            · exact wpS_pure ⟨Mx, .inr ⟨_, _, _, _, _, _, rfl, M3, by simp at q; omega, by omega, by rw [Array.size_push]; omega⟩⟩
                            · exact wpS_pure ⟨Mx, _, _, _, _, _, _, rfl, M3, by simp at q; omega, by omega, by rw [Array.size_push]; omega⟩
                · skip
                  have e0 : k = 0 := by omega
                  subst e0
                  refine wpS_bind (elem_ (by omega) ?_)
                  have M2 := (M).pushB (by omega) (tail_le sa (k := 0) (by omega) (p2 0 (Nat.le_refl _) (by omega)))
                  have z2 := M2.sz
                  rw [Array.size_push] at z2
                  refine ite_ (fun q => ?_) fun q => ?_
                  · skip
                    exact wpS_pure ⟨Mx, .inl ⟨_, _, rfl, M2.done (.inr (by simpa using q))⟩⟩
                  · skip
                    have q2 : ib + 1 < b.size := by simp at q; omega
                    refine wpS_bind (elem_ (by omega) ?_)
                    refine wpS_bind (galL L (Mx.kd.trans hk) (good_at ga (by omega)) gb sb (by omega) (by omega) fun k2 k1 p1 p2 => ?_)
                    dsimp only
                    refine ite_ (fun kp => ?_) fun kp => ?_
                    · skip
                      have M4 := M2.blkB (k := k2) (by omega) (by omega) sa p1
                      have z4 := M4.sz
                      refine ite_ (fun q => ?_) fun q => ?_
                      · skip
                        exact wpS_pure ⟨Mx, .inl ⟨_, _, rfl, M4.done (.inr (by simpa using q))⟩⟩
                      · skip
                        have q3 : ib + 1 + k2 < b.size := by simp at q; omega
                        refine wpS_bind (elem_ (by omega) ?_)
                        have M3 := (M4).pushA (by omega) (tail_le sb q3 (p2 k2 (Nat.le_refl _) (by omega)))
                        have z3 := M3.sz
                        rw [Array.size_push] at z3
                        refine ite_ (fun q => ?_) fun q => ?_
                        · skip
                          exact wpS_pure ⟨Mx, .inl ⟨_, _, rfl, M3.last (by simpa using q) hl⟩⟩
                        · skip
                          refine ite_ (fun _ => ?_) fun _ => ?_
                          · exact wpS_pure ⟨Mx, .inr ⟨_, _, _, _, _, _, rfl, M3, by simp at q; omega, by omega, by rw [Array.size_push]; omega⟩⟩
                          · exact wpS_pure ⟨Mx, _, _, _, _, _, _, rfl, M3, by simp at q; omega, by omega, by rw [Array.size_push]; omega⟩
                    · skip
                      have e0 : k2 = 0 := by omega
                      subst e0
                      refine wpS_bind (elem_ (by omega) ?_)
                      have M3 := (M2).pushA (by omega) (tail_le sb (k := 0) q2 (p2 0 (Nat.le_refl _) (by omega)))
                      have z3 := M3.sz
                      rw [Array.size_push] at z3
                      refine ite_ (fun q => ?_) fun q => ?_
                      · skip
                        exact wpS_pure ⟨Mx, .inl ⟨_, _, rfl, M3.last (by simpa using q) hl⟩⟩
                      · skip
                        refine ite_ (fun _ => ?_) fun _ => ?_
                        · exact wpS_pure ⟨Mx, .inr ⟨_, _, _, _, _, _, rfl, M3, by simp at q; omega, by omega, by rw [Array.size_push]; omega⟩⟩
                        · exact wpS_pure ⟨Mx, _, _, _, _, _, _, rfl, M3, by simp at q; omega, by omega, by rw [Array.size_push]; omega⟩
              · refine wpS_bind (setMin_ ?_)
                have Mx := Mq'.min (g := mg)
                refine wpS_bind (elem_ b2 ?_)
                refine wpS_bind (galR L (Mx.kd.trans hk) (good_at gb b2) ga sa (by omega) (by omega) fun k k1 p1 p2 => ?_)
                dsimp only
                refine ite_ (fun kp => ?_) fun kp => ?_
                · skip
                  have M1 := M.blkA (k := k) (by omega) b2 sb p1
                  have z1 := M1.sz
                  refine ite_ (fun q => ?_) fun q => ?_
                  · skip
                    exact wpS_pure ⟨Mx, .inl ⟨_, _, rfl, M1.last (by simpa using q) hl⟩⟩
                  · skip
                    refine ite_ (fun q' => ?_) fun q' => ?_
                    · skip
                      exact wpS_pure ⟨Mx, .inl ⟨_, _, rfl, M1.done (.inl (by simpa using q'))⟩⟩
                    · skip
                      have q3 : ia + k + 1 < a.size := by simp at q q'; omega
                      refine wpS_bind (elem_ (by omega) ?_)
                      have M2 := (M1).pushB (by omega) (tail_le sa (by omega) (p2 k (Nat.le_refl _) (by omega)))
                      have z2 := M2.sz
                      rw [Array.size_push] at z2
                      refine ite_ (fun q => ?_) fun q => ?_
                      · skip
                        exact wpS_pure ⟨Mx, .inl ⟨_, _, rfl, M2.done (.inr (by simpa using q))⟩⟩
                      · skip
                        have q2 : ib + 1 < b.size := by simp at q; omega
                        refine wpS_bind (elem_ (by omega) ?_)
                        refine wpS_bind (galL L (Mx.kd.trans hk) (good_at ga (by omega)) gb sb (by omega) (by omega) fun k2 k1 p1 p2 => ?_)
                        dsimp only
                        refine ite_ (fun kp => ?_) fun kp => ?_
                        · skip
                          have M4 := M2.blkB (k := k2) (by omega) (by omega) sa p1
                          have z4 := M4.sz
                          refine ite_ (fun q => ?_) fun q => ?_
                          · skip
                            exact wpS_pure ⟨Mx, .inl ⟨_, _, rfl, M4.done (.inr (by simpa using q))⟩⟩
                          · skip
                            have q3 : ib + 1 + k2 < b.size := by simp at q; omega
                            refine wpS_bind (elem_ (by omega) ?_)
                            have M3 := (M4).pushA (by omega) (tail_le sb q3 (p2 k2 (Nat.le_refl _) (by omega)))
                            have z3 := M3.sz
                            rw [Array.size_push] at z3
                            refine ite_ (fun q => ?_) fun q => ?_
                            · skip
                              exact wpS_pure ⟨Mx, .inl ⟨_, _, rfl, M3.last (by simpa using q) hl⟩⟩
                            · skip
                              refine ite_ (fun _ => ?_) fun _ => ?_
                              · exact wpS_pure ⟨Mx, .inr ⟨_, _, _, _, _, _, rfl, M3, by simp at q; omega, by omega, by rw [Array.size_push]; omega⟩⟩
                              · exact wpS_pure ⟨Mx, _, _, _, _, _, _, rfl, M3, by simp at q; omega, by omega, by rw [Array.size_push]; omega⟩
                        · skip
                          have e0 : k2 = 0 := by omega
                          subst e0
                          refine wpS_bind (elem_ (by omega) ?_)
                          have M3 := (M2).pushA (by omega) (tail_le sb (k := 0) q2 (p2 0 (Nat.le_refl _) (by omega)))
                          have z3 := M3.sz
                          rw [Array.size_push] at z3
                          refine ite_ (fun q => ?_) fun q => ?_
                          · skip
                            exact wpS_pure ⟨Mx, .inl ⟨_, _, rfl, M3.last (by simpa using q) hl⟩⟩
                          · skip
                            refine ite_ (fun _ => ?_) fun _ => ?_
                            · exact wpS_pure ⟨Mx, .inr ⟨_, _, _, _, _, _, rfl, M3, by simp at q; omega, by omega, by rw [Array.size_push]; omega⟩⟩
                            · exact wpS_pure ⟨Mx, _, _, _, _, _, _, rfl, M3, by simp at q; omega, by omega, by rw [Array.size_push]; omega⟩
                · skip
                  have e0 : k = 0 := by omega
                  subst e0
                  refine wpS_bind (elem_ (by omega) ?_)
                  have M2 := (M).pushB (by omega) (tail_le sa (k := 0) (by omega) (p2 0 (Nat.le_refl _) (by omega)))
                  have z2 := M2.sz
                  rw [Array.size_push] at z2
                  refine ite_ (fun q => ?_) fun q => ?_
                  · skip
                    exact wpS_pure ⟨Mx, .inl ⟨_, _, rfl, M2.done (.inr (by simpa using q))⟩⟩
                  · skip
                    have q2 : ib + 1 < b.size := by simp at q; omega
                    refine wpS_bind (elem_ (by omega) ?_)
                    refine wpS_bind (galL L (Mx.kd.trans hk) (good_at ga (by omega)) gb sb (by omega) (by omega) fun k2 k1 p1 p2 => ?_)
                    dsimp only
                    refine ite_ (fun kp => ?_) fun kp => ?_
                    · skip
                      have M4 := M2.blkB (k := k2) (by omega) (by omega) sa p1
                      have z4 := M4.sz
                      refine ite_ (fun q => ?_) fun q => ?_
                      · skip
                        exact wpS_pure ⟨Mx, .inl ⟨_, _, rfl, M4.done (.inr (by simpa using q))⟩⟩
                      · skip
                        have q3 : ib + 1 + k2 < b.size := by simp at q; omega
                        refine wpS_bind (elem_ (by omega) ?_)
                        have M3 := (M4).pushA (by omega) (tail_le sb q3 (p2 k2 (Nat.le_refl _) (by omega)))
                        have z3 := M3.sz
                        rw [Array.size_push] at z3
                        refine ite_ (fun q => ?_) fun q => ?_
                        · skip
                          exact wpS_pure ⟨Mx, .inl ⟨_, _, rfl, M3.last (by simpa using q) hl⟩⟩
                        · skip
                          refine ite_ (fun _ => ?_) fun _ => ?_
                          · exact wpS_pure ⟨Mx, .inr ⟨_, _, _, _, _, _, rfl, M3, by simp at q; omega, by omega, by rw [Array.size_push]; omega⟩⟩
                          · exact wpS_pure ⟨Mx, _, _, _, _, _, _, rfl, M3, by simp at q; omega, by omega, by rw [Array.size_push]; omega⟩
                    · skip
                      have e0 : k2 = 0 := by omega
                      subst e0
                      refine wpS_bind (elem_ (by omega) ?_)
                      have M3 := (M2).pushA (by omega) (tail_le sb (k := 0) q2 (p2 0 (Nat.le_refl _) (by omega)))
                      have z3 := M3.sz
                      rw [Array.size_push] at z3
                      refine ite_ (fun q => ?_) fun q => ?_
                      · skip
                        exact wpS_pure ⟨Mx, .inl ⟨_, _, rfl, M3.last (by simpa using q) hl⟩⟩
                      · skip
                        refine ite_ (fun _ => ?_) fun _ => ?_
                        · exact wpS_pure ⟨Mx, .inr ⟨_, _, _, _, _, _, rfl, M3, by simp at q; omega, by omega, by rw [Array.size_push]; omega⟩⟩
                        · exact wpS_pure ⟨Mx, _, _, _, _, _, _, rfl, M3, by simp at q; omega, by omega, by rw [Array.size_push]; omega⟩
end
end Tim

end
noncomputable section
set_option linter.all false
set_option maxRecDepth 100000
namespace Tim
open PySem PyProof.Rows
section
variable {prog : Program} {w : World} {A : Around} {E : Value → Shared → Prop} {s : Shared} {κ : SortKind} {rk : Keyed → Int} {Good : Keyed → Prop} {a b out : Array Keyed} {na nb k : Nat}
theorem take_snoc {xs : Array Keyed} {n : Nat} (h : n < xs.size) : xs.toList.take (n + 1) = xs.toList.take n ++ [xs[n]] := by
  rw [List.take_succ, List.getElem?_eq_getElem (by simpa using h)]
  simp
theorem last_ge {xs : Array Keyed} {n : Nat} (hs : Srt rk xs.toList) (hi : n < xs.size) : ∀ x ∈ xs.toList.take (n + 1), rk x ≤ rk xs[n] := by
  intro x hx
  have h2 : Srt rk (xs.toList.take (n + 1)) := List.Pairwise.sublist (List.take_sublist _ _) hs
  rw [take_snoc hi] at hx h2
  rcases List.mem_append.mp hx with e | e
  · exact (srt_app.mp h2).2.2 x e _ (by simp)
  · rw [List.mem_singleton.mp e]; exact Int.le_refl _
structure Mh (rk : Keyed → Int) (a b out : Array Keyed) (na nb : Nat) : Prop where
  hi : Hi rk (a.toList ++ b.toList) (a.toList.take na) (b.toList.take nb) out.toList.reverse
  la : na ≤ a.size
  lb : nb ≤ b.size
theorem Mh.sz (h : Mh rk a b out na nb) : out.size + na + nb = a.size + b.size := by
  have := h.hi.pm.length_eq
  have l1 := h.la
  have l2 := h.lb
  simp only [List.length_append, List.length_take, Array.length_toList, List.length_reverse] at this
  omega
theorem Mh.pushA (h : Mh rk a b out (na + 1) nb) (hi : na < a.size) (hp : ∀ y ∈ b.toList.take nb, rk y ≤ rk a[na]) : Mh rk a b (out.push a[na]) na nb := by
  refine ⟨?_, by omega, h.lb⟩
  have l := h.hi
  rw [take_snoc hi] at l
  rw [Array.toList_push, List.reverse_append]
  exact Hi.left (P := [a[na]]) l fun x hx y hy => by rw [List.mem_singleton.mp hy]; exact hp x hx
theorem Mh.pushB (h : Mh rk a b out na (nb + 1)) (hi : nb < b.size) (hp : ∀ y ∈ a.toList.take na, rk y ≤ rk b[nb]) : Mh rk a b (out.push b[nb]) na nb := by
  refine ⟨?_, h.la, by omega⟩
  have l := h.hi
  rw [take_snoc hi] at l
  rw [Array.toList_push, List.reverse_append]
  exact Hi.right (P := [b[nb]]) l fun x hx y hy => by rw [List.mem_singleton.mp hy]; exact hp x hx
theorem cut_take {xs : Array Keyed} {k n : Nat} (h : k ≤ n) : xs.toList.take n = xs.toList.take k ++ (xs.toList.drop k).take (n - k) := by
  have e : n = k + (n - k) := by omega
  rw [e, List.take_add, Nat.add_sub_cancel_left]
theorem Mh.blkA (h : Mh rk a b out na nb) (hk : k ≤ na) (hp : ∀ i, k ≤ i → i < na → ∀ y ∈ b.toList.take nb, rk y ≤ R rk a i) : Mh rk a b (out ++ (a.extract k na).reverse) k nb := by
  have l1 := h.la
  refine ⟨?_, by omega, h.lb⟩
  have l := h.hi
  rw [cut_take hk] at l
  rw [Array.toList_append, Array.toList_reverse, List.reverse_append, List.reverse_reverse, ext_list]
  refine Hi.left l fun x hx y hy => ?_
  obtain ⟨j, j1, e⟩ := mem_take_drop (rk := rk) hy (by omega)
  rw [← e]
  exact hp _ (by omega) (by omega) x hx
theorem Mh.blkB (h : Mh rk a b out na nb) (hk : k ≤ nb) (hp : ∀ i, k ≤ i → i < nb → ∀ y ∈ a.toList.take na, rk y ≤ R rk b i) : Mh rk a b (out ++ (b.extract k nb).reverse) na k := by
  have l1 := h.lb
  refine ⟨?_, h.la, by omega⟩
  have l := h.hi
  rw [cut_take hk] at l
  rw [Array.toList_append, Array.toList_reverse, List.reverse_append, List.reverse_reverse, ext_list]
  refine Hi.right l fun x hx y hy => ?_
  obtain ⟨j, j1, e⟩ := mem_take_drop (rk := rk) hy (by omega)
  rw [← e]
  exact hp _ (by omega) (by omega) x hx
theorem Mh.done (h : Mh rk a b out na nb) (e : na = 0 ∨ nb = 0) : Res rk a b (a.extract 0 na ++ b.extract 0 nb ++ out.reverse) := by
  unfold Res
  rw [Array.toList_append, Array.toList_append, Array.toList_reverse, ext_list, ext_list]
  refine h.hi.done ?_
  rcases e with e | e
  · subst e; exact .inl rfl
  · subst e; exact .inr rfl
theorem Mh.first (h : Mh rk a b out na nb) (e : nb = 1) (hl : ∀ x ∈ a.toList, R rk b 0 ≤ rk x) : Res rk a b (b.extract 0 nb ++ a.extract 0 na ++ out.reverse) := by
  unfold Res
  rw [Array.toList_append, Array.toList_append, Array.toList_reverse, ext_list, ext_list]
  refine h.hi.last fun y hy x hx => ?_
  subst e
  have hb := h.lb
  rw [show (1 : Nat) = 0 + 1 from rfl, take_snoc (show 0 < b.size by omega)] at hy
  have := hl x (List.mem_of_mem_take hx)
  rw [R_get (by omega)] at this
  simp at hy
  rw [hy]
  exact this
theorem pre_le {xs : Array Keyed} {n : Nat} {v : Int} (hn : n ≤ xs.size) (h : ∀ i, i < n → R rk xs i ≤ v) : ∀ x ∈ xs.toList.take n, rk x ≤ v := fun x hx => by
  obtain ⟨j, hj, e⟩ := List.mem_iff_getElem.mp hx
  rw [List.length_take, Array.length_toList] at hj
  have := h j (by omega)
  rw [R_get (by omega)] at this
  rw [← e]
  simpa using this
theorem last_ge' {xs : Array Keyed} {n : Nat} (hs : Srt rk xs.toList) (h0 : 0 < n) (hi : n - 1 < xs.size) : ∀ x ∈ xs.toList.take n, rk x ≤ rk xs[n - 1] := by
  have e : n - 1 + 1 = n := by omega
  have := last_ge hs hi
  rwa [e] at this
theorem Mh.pushA' (h : Mh rk a b out na nb) (h0 : 0 < na) (hi : na - 1 < a.size) (hp : ∀ y ∈ b.toList.take nb, rk y ≤ rk a[na - 1]) : Mh rk a b (out.push a[na - 1]) (na - 1) nb := by
  have e : na - 1 + 1 = na := by omega
  exact Mh.pushA (by rwa [e]) hi hp
theorem Mh.pushB' (h : Mh rk a b out na nb) (h0 : 0 < nb) (hi : nb - 1 < b.size) (hp : ∀ y ∈ a.toList.take na, rk y ≤ rk b[nb - 1]) : Mh rk a b (out.push b[nb - 1]) na (nb - 1) := by
  have e : nb - 1 + 1 = nb := by omega
  exact Mh.pushB (by rwa [e]) hi hp
theorem mergeHi_ {st : SortSt} {Q : Array Keyed → SortSt → Prop} (L : LtOk prog w A E s κ rk Good) (hk : kindOf st = κ) (ga : ∀ x ∈ a.toList, Good x) (gb : ∀ x ∈ b.toList, Good x)
    (ha : 0 < a.size) (hb : 0 < b.size) (sa : Srt rk a.toList) (sb : Srt rk b.toList) (hl : ∀ x ∈ a.toList, R rk b 0 ≤ rk x) (h0 : ∀ y ∈ b.toList, rk y ≤ R rk a (a.size - 1))
    (h : ∀ r st', Mq st st' → Res rk a b r → Q r st') : wpS (model prog w) A E s (mergeHi' a b) Q st := by
  have Q0 : Mq st st := ⟨rfl, rfl, rfl, rfl⟩
  have M0 : Mh rk a b #[] a.size b.size := ⟨by rw [List.take_of_length_le (by simp), List.take_of_length_le (by simp)]; exact ⟨by simp, by simpa using sa, by simpa using sb⟩, by omega, by omega⟩
  have M1 := M0.pushA' ha (by omega) (by
    intro y hy
    have := h0 y (List.mem_of_mem_take hy)
    rwa [R_get (by omega)] at this)
  refine wpS_bind (wpS_lift (wpAny_rule ⟨rfl, ?_⟩))
  refine wpS_bind (elem_ (by omega) ?_)
  refine ite_ (fun q => ?_) fun q => ?_
  · exact wpS_pure (h _ st Q0 (M1.done (.inl (by simpa using q))))
  · have q1 : 0 < a.size - 1 := by simp at q; omega
    refine ite_ (fun q => ?_) fun q => ?_
    · exact wpS_pure (h _ st Q0 (M1.first (by simpa using q) hl))
    · have q2 : 1 < b.size := by simp at q; omega
      refine wpS_bind (wpS_get ?_)
      refine wpS_bind (wpS_mono (wpS_forRange (I := fun x c st' => Mq st st' ∧ ∃ na nb out mg, c = (none, na, nb, out, mg) ∧ Mh rk a b out na nb ∧ 0 < na ∧ 1 < nb ∧ x + 1 ≤ out.size)
        (Q := fun c st' => Mq st st' ∧ ∃ r z, c = (some r, z) ∧ Res rk a b r) ?step ?fin ?init) ?post)
      case init => exact ⟨Q0, _, _, _, _, rfl, M1, by omega, q2, by simp⟩
      case fin =>
        rintro c st' ⟨_, na, nb, out, mg, rfl, M, b1, b2, b3⟩
        have := M.sz
        omega
      case post =>
        rintro c st' ⟨Mq', r, z, rfl, hr⟩
        exact wpS_pure (h r st' Mq' hr)
      case step =>
        rintro x c st' _ hx ⟨Mq', na, nb, out0, mg, rfl, M, b1, b2, b3⟩
        dsimp only
        refine wpS_bind (wpS_mono (wpS_forRange (I := fun x c st' => Mq st st' ∧ ∃ na nb out ac bc, c = (none, na, nb, out, ac, bc) ∧ Mh rk a b out na nb ∧ 0 < na ∧ 1 < nb ∧ out0.size + x ≤ out.size)
          (Q := fun c st' => Mq st st' ∧ ((∃ r z, c = (some r, z) ∧ Res rk a b r) ∨ ∃ na nb out ac bc, c = (none, na, nb, out, ac, bc) ∧ Mh rk a b out na nb ∧ 0 < na ∧ 1 < nb ∧ out0.size + 1 ≤ out.size)) ?step1 ?fin1 ?init1) ?post1)
        case init1 => exact ⟨Mq', _, _, _, _, _, rfl, M, b1, b2, by omega⟩
        case fin1 =>
          rintro c st' ⟨Mq', na, nb, out, ac, bc, rfl, M, b1, b2, b3⟩
          exact ⟨Mq', .inr ⟨_, _, _, _, _, rfl, M, b1, b2, by omega⟩⟩
        case step1 =>
          clear M b1 b2 Mq'
          rintro y c st' _ hy ⟨Mq', na, nb, out, ac, bc, rfl, M, b1, b2, b3⟩
          have l1 := M.la
          have l2 := M.lb
          dsimp only
          refine wpS_bind (elem_ (by omega) (wpS_bind (elem_ (by omega) (wpS_bind (L _ _ _ _ (good_at gb (by omega)) (good_at ga (by omega)) (Mq'.kd.trans hk) ?_)))))
          dsimp only
          refine ite_ (fun q => ?_) fun q => ?_
          · have q := of_decide_eq_true q
            refine wpS_bind (elem_ (by omega) ?_)
            have M2 := M.pushA' b1 (by omega) fun x hx => Int.le_trans (last_ge' sb (by omega) (by omega) x hx) (Int.le_of_lt q)
            refine ite_ (fun q' => ?_) fun q' => ?_
            · exact wpS_pure ⟨Mq', .inl ⟨_, _, rfl, M2.done (.inl (by simpa using q'))⟩⟩
            · refine ite_ (fun _ => ?_) fun _ => ?_
              · exact wpS_pure ⟨Mq', .inr ⟨_, _, _, _, _, rfl, M2, by simp at q'; omega, b2, by rw [Array.size_push]; omega⟩⟩
              · exact wpS_pure ⟨Mq', _, _, _, _, _, rfl, M2, by simp at q'; omega, b2, by rw [Array.size_push]; omega⟩
          · have q : ¬ rk b[nb - 1] < rk a[na - 1] := by simpa using q
            refine wpS_bind (elem_ (by omega) ?_)
            have M2 := M.pushB' (by omega) (by omega) fun x hx => Int.le_trans (last_ge' sa (by omega) (by omega) x hx) (Int.not_lt.mp q)
            refine ite_ (fun q' => ?_) fun q' => ?_
            · exact wpS_pure ⟨Mq', .inl ⟨_, _, rfl, M2.first (by simpa using q') hl⟩⟩
            · refine ite_ (fun _ => ?_) fun _ => ?_
              · exact wpS_pure ⟨Mq', .inr ⟨_, _, _, _, _, rfl, M2, b1, by simp at q'; omega, by rw [Array.size_push]; omega⟩⟩
              · exact wpS_pure ⟨Mq', _, _, _, _, _, rfl, M2, b1, by simp at q'; omega, by rw [Array.size_push]; omega⟩
        case post1 =>
          clear M b1 b2 Mq'
          rintro c st' ⟨Mq', ⟨r, z, rfl, hr⟩ | ⟨na, nb, out1, ac, bc, rfl, M, b1, b2, b4⟩⟩
          · exact wpS_pure ⟨Mq', _, _, rfl, hr⟩
          · dsimp only
            refine wpS_bind (wpS_lift (wpAny_rule ⟨rfl, ?_⟩))
            refine wpS_bind (wpS_mono (wpS_forRange (I := fun x c st' => Mq st st' ∧ ∃ na nb out mg ac bc, c = (none, na, nb, out, mg, ac, bc) ∧ Mh rk a b out na nb ∧ 0 < na ∧ 1 < nb ∧ out1.size ≤ out.size)
              (Q := fun c st' => Mq st st' ∧ ((∃ r z, c = (some r, z) ∧ Res rk a b r) ∨ ∃ na nb out mg ac bc, c = (none, na, nb, out, mg, ac, bc) ∧ Mh rk a b out na nb ∧ 0 < na ∧ 1 < nb ∧ out1.size ≤ out.size)) ?step2 ?fin2 ?init2) ?post2)
            case init2 => exact ⟨Mq', _, _, _, _, _, _, rfl, M, b1, b2, Nat.le_refl _⟩
            case fin2 =>
              rintro c st' ⟨Mq', na, nb, out, mg, ac, bc, rfl, M, b1, b2, b3⟩
              exact ⟨Mq', .inr ⟨_, _, _, _, _, _, rfl, M, b1, b2, b3⟩⟩
            case post2 =>
              clear M b1 b2 Mq'
              rintro c st' ⟨Mq', ⟨r, z, rfl, hr⟩ | ⟨na, nb, out, mg, ac, bc, rfl, M, b1, b2, b5⟩⟩
              · exact wpS_pure ⟨Mq', _, _, rfl, hr⟩
              · exact wpS_bind (setMin_ (wpS_pure ⟨Mq'.min, _, _, _, _, rfl, M, b1, b2, by show _ ≤ out.size; omega⟩))
            case step2 =>
              clear M b1 b2 Mq'
              rintro y c st' _ hy ⟨Mq', na, nb, out, mg, ac, bc, rfl, M, b1, b2, b5⟩
              dsimp only
              have z0 := M.sz
              have l1 := M.la
              have l2 := M.lb
              refine ite_ (fun _ => ?_) fun _ => ?_
              · refine wpS_bind (setMin_ ?_)
                have Mx := Mq'.min (g := (mg - 1))
                refine wpS_bind (elem_ (by omega) ?_)
                refine wpS_bind (galR L (Mx.kd.trans hk) (good_at gb (by omega)) ga sa (by omega) (by omega) fun k k1 p1 p2 => ?_)
                simp only [Nat.zero_add] at p1 p2
                dsimp only
                refine ite_ (fun kp => ?_) fun kp => ?_
                · have M1 := M.blkA (k := k) (by omega) (fun i i1 i2 y hy => Int.le_trans (last_ge' sb (by omega) (by omega) y hy) (p2 i i1 i2))
                  have z1 := M1.sz
                  refine ite_ (fun q => ?_) fun q => ?_
                  · exact wpS_pure ⟨Mx, .inl ⟨_, _, rfl, M1.done (.inl (by simpa using q))⟩⟩
                  · have q3 : 0 < k := by simp at q; omega
                    have l3 : k ≤ a.size := M1.la
                    refine wpS_bind (elem_ (by omega) ?_)
                    have M2 := (M1).pushB' (by omega) (by omega) (pre_le (by omega) p1)
                    have z2 := M2.sz
                    rw [Array.size_push] at z2
                    refine ite_ (fun q => ?_) fun q => ?_
                    · exact wpS_pure ⟨Mx, .inl ⟨_, _, rfl, M2.first (by simpa using q) hl⟩⟩
                    · have q2 : 1 < nb - 1 := by simp at q; omega
                      refine wpS_bind (elem_ (by omega) ?_)
                      refine wpS_bind (galL L (Mx.kd.trans hk) (good_at ga (by omega)) gb sb (by omega) (by omega) fun k2 k1 p1 p2 => ?_)
                      simp only [Nat.zero_add] at p1 p2
                      dsimp only
                      refine ite_ (fun kp => ?_) fun kp => ?_
                      · have M4 := M2.blkB (k := k2) (by omega) (fun i i1 i2 y hy => Int.le_trans (last_ge' sa (by omega) (by omega) y hy) (p2 i i1 i2))
                        have z4 := M4.sz
                        refine ite_ (fun q => ?_) fun q => ?_
                        · exact wpS_pure ⟨Mx, .inl ⟨_, _, rfl, M4.first (by simpa using q) hl⟩⟩
                        · refine ite_ (fun q' => ?_) fun q' => ?_
                          · exact wpS_pure ⟨Mx, .inl ⟨_, _, rfl, M4.done (.inr (by simpa using q'))⟩⟩
                          · have q3 : 1 < k2 := by simp at q q'; omega
                            refine wpS_bind (elem_ (by omega) ?_)
                            have M3 := (M4).pushA' (by omega) (by omega) (pre_le (by omega) p1)
                            have z3 := M3.sz
                            rw [Array.size_push] at z3
                            refine ite_ (fun q => ?_) fun q => ?_
                            · exact wpS_pure ⟨Mx, .inl ⟨_, _, rfl, M3.done (.inl (by simpa using q))⟩⟩
                            · refine ite_ (fun _ => ?_) fun _ => ?_
                              · exact wpS_pure ⟨Mx, .inr ⟨_, _, _, _, _, _, rfl, M3, by simp at q; omega, by omega, by rw [Array.size_push]; omega⟩⟩
                              · exact wpS_pure ⟨Mx, _, _, _, _, _, _, rfl, M3, by simp at q; omega, by omega, by rw [Array.size_push]; omega⟩
                      · have e0 : k2 = nb - 1 := by omega
                        subst e0
                        refine wpS_bind (elem_ (by omega) ?_)
                        have M3 := (M2).pushA' (by omega) (by omega) (pre_le (by omega) p1)
                        have z3 := M3.sz
                        rw [Array.size_push] at z3
                        refine ite_ (fun q => ?_) fun q => ?_
                        · exact wpS_pure ⟨Mx, .inl ⟨_, _, rfl, M3.done (.inl (by simpa using q))⟩⟩
                        · refine ite_ (fun _ => ?_) fun _ => ?_
                          · exact wpS_pure ⟨Mx, .inr ⟨_, _, _, _, _, _, rfl, M3, by simp at q; omega, by omega, by rw [Array.size_push]; omega⟩⟩
                          · exact wpS_pure ⟨Mx, _, _, _, _, _, _, rfl, M3, by simp at q; omega, by omega, by rw [Array.size_push]; omega⟩
                · have e0 : k = na := by omega
                  subst e0
                  refine wpS_bind (elem_ (by omega) ?_)
                  have M2 := (M).pushB' (by omega) (by omega) (pre_le (by omega) p1)
                  have z2 := M2.sz
                  rw [Array.size_push] at z2
                  refine ite_ (fun q => ?_) fun q => ?_
                  · exact wpS_pure ⟨Mx, .inl ⟨_, _, rfl, M2.first (by simpa using q) hl⟩⟩
                  · have q2 : 1 < nb - 1 := by simp at q; omega
                    refine wpS_bind (elem_ (by omega) ?_)
                    refine wpS_bind (galL L (Mx.kd.trans hk) (good_at ga (by omega)) gb sb (by omega) (by omega) fun k2 k1 p1 p2 => ?_)
                    simp only [Nat.zero_add] at p1 p2
                    dsimp only
                    refine ite_ (fun kp => ?_) fun kp => ?_
                    · have M4 := M2.blkB (k := k2) (by omega) (fun i i1 i2 y hy => Int.le_trans (last_ge' sa (by omega) (by omega) y hy) (p2 i i1 i2))
                      have z4 := M4.sz
                      refine ite_ (fun q => ?_) fun q => ?_
                      · exact wpS_pure ⟨Mx, .inl ⟨_, _, rfl, M4.first (by simpa using q) hl⟩⟩
                      · refine ite_ (fun q' => ?_) fun q' => ?_
                        · exact wpS_pure ⟨Mx, .inl ⟨_, _, rfl, M4.done (.inr (by simpa using q'))⟩⟩
                        · have q3 : 1 < k2 := by simp at q q'; omega
                          refine wpS_bind (elem_ (by omega) ?_)
                          have M3 := (M4).pushA' (by omega) (by omega) (pre_le (by omega) p1)
                          have z3 := M3.sz
                          rw [Array.size_push] at z3
                          refine ite_ (fun q => ?_) fun q => ?_
                          · exact wpS_pure ⟨Mx, .inl ⟨_, _, rfl, M3.done (.inl (by simpa using q))⟩⟩
                          · refine ite_ (fun _ => ?_) fun _ => ?_
                            · exact wpS_pure ⟨Mx, .inr ⟨_, _, _, _, _, _, rfl, M3, by simp at q; omega, by omega, by rw [Array.size_push]; omega⟩⟩
                            · exact wpS_pure ⟨Mx, _, _, _, _, _, _, rfl, M3, by simp at q; omega, by omega, by rw [Array.size_push]; omega⟩
                    · have e0 : k2 = nb - 1 := by omega
                      subst e0
                      refine wpS_bind (elem_ (by omega) ?_)
                      have M3 := (M2).pushA' (by omega) (by omega) (pre_le (by omega) p1)
                      have z3 := M3.sz
                      rw [Array.size_push] at z3
                      refine ite_ (fun q => ?_) fun q => ?_
                      · exact wpS_pure ⟨Mx, .inl ⟨_, _, rfl, M3.done (.inl (by simpa using q))⟩⟩
                      · refine ite_ (fun _ => ?_) fun _ => ?_
                        · exact wpS_pure ⟨Mx, .inr ⟨_, _, _, _, _, _, rfl, M3, by simp at q; omega, by omega, by rw [Array.size_push]; omega⟩⟩
                        · exact wpS_pure ⟨Mx, _, _, _, _, _, _, rfl, M3, by simp at q; omega, by omega, by rw [Array.size_push]; omega⟩
              · refine wpS_bind (setMin_ ?_)
                have Mx := Mq'.min (g := mg)
                refine wpS_bind (elem_ (by omega) ?_)
                refine wpS_bind (galR L (Mx.kd.trans hk) (good_at gb (by omega)) ga sa (by omega) (by omega) fun k k1 p1 p2 => ?_)
                simp only [Nat.zero_add] at p1 p2
                dsimp only
                refine ite_ (fun kp => ?_) fun kp => ?_
                · have M1 := M.blkA (k := k) (by omega) (fun i i1 i2 y hy => Int.le_trans (last_ge' sb (by omega) (by omega) y hy) (p2 i i1 i2))
                  have z1 := M1.sz
                  refine ite_ (fun q => ?_) fun q => ?_
                  · exact wpS_pure ⟨Mx, .inl ⟨_, _, rfl, M1.done (.inl (by simpa using q))⟩⟩
                  · have q3 : 0 < k := by simp at q; omega
                    have l3 : k ≤ a.size := M1.la
                    refine wpS_bind (elem_ (by omega) ?_)
                    have M2 := (M1).pushB' (by omega) (by omega) (pre_le (by omega) p1)
                    have z2 := M2.sz
                    rw [Array.size_push] at z2
                    refine ite_ (fun q => ?_) fun q => ?_
                    · exact wpS_pure ⟨Mx, .inl ⟨_, _, rfl, M2.first (by simpa using q) hl⟩⟩
                    · have q2 : 1 < nb - 1 := by simp at q; omega
                      refine wpS_bind (elem_ (by omega) ?_)
                      refine wpS_bind (galL L (Mx.kd.trans hk) (good_at ga (by omega)) gb sb (by omega) (by omega) fun k2 k1 p1 p2 => ?_)
                      simp only [Nat.zero_add] at p1 p2
                      dsimp only
                      refine ite_ (fun kp => ?_) fun kp => ?_
                      · have M4 := M2.blkB (k := k2) (by omega) (fun i i1 i2 y hy => Int.le_trans (last_ge' sa (by omega) (by omega) y hy) (p2 i i1 i2))
                        have z4 := M4.sz
                        refine ite_ (fun q => ?_) fun q => ?_
                        · exact wpS_pure ⟨Mx, .inl ⟨_, _, rfl, M4.first (by simpa using q) hl⟩⟩
                        · refine ite_ (fun q' => ?_) fun q' => ?_
                          · exact wpS_pure ⟨Mx, .inl ⟨_, _, rfl, M4.done (.inr (by simpa using q'))⟩⟩
                          · have q3 : 1 < k2 := by simp at q q'; omega
                            refine wpS_bind (elem_ (by omega) ?_)
                            have M3 := (M4).pushA' (by omega) (by omega) (pre_le (by omega) p1)
                            have z3 := M3.sz
                            rw [Array.size_push] at z3
                            refine ite_ (fun q => ?_) fun q => ?_
                            · exact wpS_pure ⟨Mx, .inl ⟨_, _, rfl, M3.done (.inl (by simpa using q))⟩⟩
                            · refine ite_ (fun _ => ?_) fun _ => ?_
                              · exact wpS_pure ⟨Mx, .inr ⟨_, _, _, _, _, _, rfl, M3, by simp at q; omega, by omega, by rw [Array.size_push]; omega⟩⟩
                              · exact wpS_pure ⟨Mx, _, _, _, _, _, _, rfl, M3, by simp at q; omega, by omega, by rw [Array.size_push]; omega⟩
                      · have e0 : k2 = nb - 1 := by omega
                        subst e0
                        refine wpS_bind (elem_ (by omega) ?_)
                        have M3 := (M2).pushA' (by omega) (by omega) (pre_le (by omega) p1)
                        have z3 := M3.sz
                        rw [Array.size_push] at z3
                        refine ite_ (fun q => ?_) fun q => ?_
                        · exact wpS_pure ⟨Mx, .inl ⟨_, _, rfl, M3.done (.inl (by simpa using q))⟩⟩
                        · refine ite_ (fun _ => ?_) fun _ => ?_
                          · exact wpS_pure ⟨Mx, .inr ⟨_, _, _, _, _, _, rfl, M3, by simp at q; omega, by omega, by rw [Array.size_push]; omega⟩⟩
                          · exact wpS_pure ⟨Mx, _, _, _, _, _, _, rfl, M3, by simp at q; omega, by omega, by rw [Array.size_push]; omega⟩
                · have e0 : k = na := by omega
                  subst e0
                  refine wpS_bind (elem_ (by omega) ?_)
                  have M2 := (M).pushB' (by omega) (by omega) (pre_le (by omega) p1)
                  have z2 := M2.sz
                  rw [Array.size_push] at z2
                  refine ite_ (fun q => ?_) fun q => ?_
                  · exact wpS_pure ⟨Mx, .inl ⟨_, _, rfl, M2.first (by simpa using q) hl⟩⟩
                  · have q2 : 1 < nb - 1 := by simp at q; omega
                    refine wpS_bind (elem_ (by omega) ?_)
                    refine wpS_bind (galL L (Mx.kd.trans hk) (good_at ga (by omega)) gb sb (by omega) (by omega) fun k2 k1 p1 p2 => ?_)
                    simp only [Nat.zero_add] at p1 p2
                    dsimp only
                    refine ite_ (fun kp => ?_) fun kp => ?_
                    · have M4 := M2.blkB (k := k2) (by omega) (fun i i1 i2 y hy => Int.le_trans (last_ge' sa (by omega) (by omega) y hy) (p2 i i1 i2))
                      have z4 := M4.sz
                      refine ite_ (fun q => ?_) fun q => ?_
                      · exact wpS_pure ⟨Mx, .inl ⟨_, _, rfl, M4.first (by simpa using q) hl⟩⟩
                      · refine ite_ (fun q' => ?_) fun q' => ?_
                        · exact wpS_pure ⟨Mx, .inl ⟨_, _, rfl, M4.done (.inr (by simpa using q'))⟩⟩
                        · have q3 : 1 < k2 := by simp at q q'; omega
                          refine wpS_bind (elem_ (by omega) ?_)
                          have M3 := (M4).pushA' (by omega) (by omega) (pre_le (by omega) p1)
                          have z3 := M3.sz
                          rw [Array.size_push] at z3
                          refine ite_ (fun q => ?_) fun q => ?_
                          · exact wpS_pure ⟨Mx, .inl ⟨_, _, rfl, M3.done (.inl (by simpa using q))⟩⟩
                          · refine ite_ (fun _ => ?_) fun _ => ?_
                            · exact wpS_pure ⟨Mx, .inr ⟨_, _, _, _, _, _, rfl, M3, by simp at q; omega, by omega, by rw [Array.size_push]; omega⟩⟩
                            · exact wpS_pure ⟨Mx, _, _, _, _, _, _, rfl, M3, by simp at q; omega, by omega, by rw [Array.size_push]; omega⟩
                    · have e0 : k2 = nb - 1 := by omega
                      subst e0
                      refine wpS_bind (elem_ (by omega) ?_)
                      have M3 := (M2).pushA' (by omega) (by omega) (pre_le (by omega) p1)
                      have z3 := M3.sz
                      rw [Array.size_push] at z3
                      refine ite_ (fun q => ?_) fun q => ?_
                      · exact wpS_pure ⟨Mx, .inl ⟨_, _, rfl, M3.done (.inl (by simpa using q))⟩⟩
                      · refine ite_ (fun _ => ?_) fun _ => ?_
                        · exact wpS_pure ⟨Mx, .inr ⟨_, _, _, _, _, _, rfl, M3, by simp at q; omega, by omega, by rw [Array.size_push]; omega⟩⟩
                        · exact wpS_pure ⟨Mx, _, _, _, _, _, _, rfl, M3, by simp at q; omega, by omega, by rw [Array.size_push]; omega⟩
end
end Tim

end
noncomputable section
set_option linter.all false
set_option maxRecDepth 100000
namespace Tim
open PySem PyProof.Rows
section
variable {prog : Program} {w : World} {A : Around} {E : Value → Shared → Prop} {s : Shared} {κ : SortKind} {rk : Keyed → Int} {Good : Keyed → Prop} {a₀ : Array Keyed} {lo : Nat} {pd : Array (Nat × Nat × Nat)}
theorem mem_drop_R {xs : Array Keyed} {i : Nat} {x : Keyed} (hx : x ∈ xs.toList.drop i) : ∃ j, i ≤ j ∧ j < xs.size ∧ R rk xs j = rk x := by
  obtain ⟨j, hj, e⟩ := List.mem_iff_getElem.mp hx
  rw [List.length_drop, Array.length_toList] at hj
  refine ⟨i + j, by omega, by omega, ?_⟩
  rw [R_get (by omega), ← e]
  simp
theorem mem_ext_R {xs : Array Keyed} {i j : Nat} {x : Keyed} (hx : x ∈ (xs.extract i j).toList) (hj : j ≤ xs.size) : ∃ l, i ≤ l ∧ l < j ∧ R rk xs l = rk x := by
  rw [ext_list] at hx
  by_cases g : i ≤ j
  · obtain ⟨l, h1, h2⟩ := mem_take_drop (rk := rk) hx (by omega)
    exact ⟨i + l, by omega, by omega, h2⟩
  · rw [show j - i = 0 by omega] at hx
    simp at hx
theorem whole_ {xs : Array Keyed} {n1 n2 : Nat} (s1 : Sg rk xs 0 n1) (s2 : Sg rk xs n1 (n1 + n2)) (h : ∀ i, i < n1 → R rk xs i ≤ R rk xs n1) : Sg rk xs 0 (n1 + n2) := by
  intro i j hi hij hj
  by_cases g : j < n1
  · exact s1 i j hi hij g
  · by_cases g' : i < n1
    · exact Int.le_trans (h i g') (s2 n1 j (Nat.le_refl _) (by omega) hj)
    · exact s2 i j (by omega) hij hj
theorem join_ {xs : Array Keyed} {n1 n2 k m : Nat} {r : List Keyed} (hn : n1 + n2 = xs.size) (hk : k < n1) (hm : m ≤ n2) (s1 : Sg rk xs 0 n1) (s2 : Sg rk xs n1 (n1 + n2)) (p1 : ∀ i, i < k → R rk xs i ≤ R rk xs n1)
    (p2 : ∀ i, m ≤ i → i < n2 → R rk xs (n1 - 1) ≤ R rk xs (n1 + i)) (hp : r.Perm ((xs.extract k n1).toList ++ (xs.extract n1 (n1 + m)).toList)) (hs : Srt rk r) :
    (xs.toList.take k ++ r ++ xs.toList.drop (n1 + m)).Perm xs.toList ∧ Srt rk (xs.toList.take k ++ r ++ xs.toList.drop (n1 + m)) := by
  have wh : xs.toList.take k ++ ((xs.extract k n1).toList ++ (xs.extract n1 (n1 + m)).toList) ++ xs.toList.drop (n1 + m) = xs.toList := by
    rw [ext_list, ext_list, Nat.add_sub_cancel_left, ← List.append_assoc, ← cut_take (by omega), ← List.take_add, List.take_append_drop]
  have inr : ∀ y ∈ r, ∃ l, k ≤ l ∧ l < n1 + m ∧ R rk xs l = rk y := fun y hy => by
    rcases List.mem_append.mp (hp.mem_iff.mp hy) with e | e
    · obtain ⟨l, a, b, c⟩ := mem_ext_R (rk := rk) e (by omega)
      exact ⟨l, a, by omega, c⟩
    · obtain ⟨l, a, b, c⟩ := mem_ext_R (rk := rk) e (by omega)
      exact ⟨l, by omega, b, c⟩
  have int : ∀ y ∈ xs.toList.take k, ∃ l, l < k ∧ R rk xs l = rk y := fun y hy => by
    have hy : y ∈ (xs.toList.drop 0).take k := by simpa using hy
    obtain ⟨l, a, b⟩ := mem_take_drop (rk := rk) hy (by omega)
    exact ⟨l, a, by simpa using b⟩
  have A1 : ∀ l l', l < k → k ≤ l' → l' < n1 + n2 → R rk xs l ≤ R rk xs l' := fun l l' h1 h2 h3 => by
    by_cases g : l' < n1
    · exact s1 l l' (Nat.zero_le _) (by omega) g
    · exact Int.le_trans (p1 l h1) (s2 n1 l' (Nat.le_refl _) (by omega) h3)
  have A2 : ∀ l l', l < n1 + m → n1 + m ≤ l' → l' < n1 + n2 → R rk xs l ≤ R rk xs l' := fun l l' h1 h2 h3 => by
    by_cases g : l < n1
    · have e := p2 (l' - n1) (by omega) (by omega)
      rw [show n1 + (l' - n1) = l' by omega] at e
      exact Int.le_trans (s1 l (n1 - 1) (Nat.zero_le _) (by omega) (by omega)) e
    · exact s2 l l' (by omega) (by omega) h3
  refine ⟨?_, srt_app.mpr ⟨srt_app.mpr ⟨?_, hs, fun x hx y hy => ?_⟩, ?_, fun x hx y hy => ?_⟩⟩
  · have := (List.Perm.append_left (xs.toList.take k) hp).append_right (xs.toList.drop (n1 + m))
    rwa [wh] at this
  · have := sg_srt (lo := 0) (hi := k) (by omega) (fun i j a b c => s1 i j a b (by omega))
    rw [ext_list] at this
    simpa using this
  · obtain ⟨l, a, e⟩ := int x hx
    obtain ⟨l', b, c, e'⟩ := inr y hy
    rw [← e, ← e']
    exact A1 l l' a b (by omega)
  · have := sg_srt (lo := n1 + m) (hi := xs.size) (Nat.le_refl _) (fun i j a b c => s2 i j (by omega) b (by omega))
    rwa [ext_all] at this
  · obtain ⟨l', b, c, e'⟩ := mem_drop_R (rk := rk) hy
    rw [← e']
    rcases List.mem_append.mp hx with q | q
    · obtain ⟨l, a, e⟩ := int x q
      rw [← e]
      exact A1 l l' a (by omega) (by omega)
    · obtain ⟨l, a, a', e⟩ := inr x q
      rw [← e]
      exact A2 l l' a' b (by omega)
theorem set_ {σ : Type} {v st : σ} {M : Model} {Q : PUnit → σ → Prop} (h : Q ⟨⟩ v) : wpS M A E s (set v : StateT σ Sem PUnit) Q st := by
  unfold wpS; rw [StateT.run_set]; exact wpAny_pure ⟨rfl, h⟩
/-- the two runs become one -/
theorem mergeAt_ {n1 n2 pw : Nat} {st : SortSt} {Q : Bool → SortSt → Prop} (L : LtOk prog w A E s κ rk Good) (hg : ∀ x ∈ a₀.toList, Good x) (B : TB κ a₀ 0 #[(0, n1, pw), (n1, n2, 0)] st) (hn : n1 + n2 = a₀.size) (h1 : 0 < n1) (h2 : 0 < n2)
    (s1 : Sg rk (arrOf st) 0 n1) (s2 : Sg rk (arrOf st) n1 (n1 + n2))
    (h : ∀ st', TB κ a₀ 0 #[(0, n1 + n2, pw)] st' → Sg rk (arrOf st') 0 a₀.size → Q true st') : wpS (model prog w) A E s (mergeAt' 0) Q st := by
  refine wpS_bind (wpS_get ?_)
  have pn : (sortPriv% PySem.Builtin.SortState.pending) st = #[(0, n1, pw), (n1, n2, 0)] := B.pn
  rw [pn]
  have g0 : (#[(0, n1, pw), (n1, n2, 0)] : Array (Nat × Nat × Nat))[0]? = some (0, n1, pw) := rfl
  have g1 : (#[(0, n1, pw), (n1, n2, 0)] : Array (Nat × Nat × Nat))[0 + 1]? = some (n1, n2, 0) := rfl
  rw [g0, g1]
  dsimp only
  have gd := B.gd hg
  have zs := B.sz
  have ep : (#[(0, n1, pw), (n1, n2, 0)].setIfInBounds 0 (0, n1 + n2, pw)).eraseIdxIfInBounds (0 + 1) = #[(0, n1 + n2, pw)] := by simp
  rw [ep]
  refine wpS_bind (set_ ?_)
  have B1 : TB κ a₀ 0 #[(0, n1 + n2, pw)] (SortSt.mk' (kindOf st) (arrOf st) #[(0, n1 + n2, pw)] (gallopOf st) (failedOf st)) := ⟨B.pm, B.kd, B.fl, rfl, B.kp⟩
  refine wpS_bind (elem_ (show n1 < (arrOf st).size by omega) ?_)
  have key1 : rk (arrOf st)[n1] = R rk (arrOf st) n1 := (R_get (by omega)).symm
  refine wpS_bind (gallopB L B.kd (gd _ (by simp)) gd (show 0 + n1 ≤ (arrOf st).size by omega) (by rw [Nat.zero_add]; exact s1) h1 fun k k1 q1 q2 => ?_)
  have p1 : ∀ i, i < k → R rk (arrOf st) i ≤ R rk (arrOf st) n1 := fun i hi => by
    have := q1 i hi
    simp only [pB, Nat.zero_add, key1] at this
    simpa using this
  have p1' : ∀ i, k ≤ i → i < n1 → R rk (arrOf st) n1 < R rk (arrOf st) i := fun i hi hj => by
    have := q2 i hi hj
    simp only [pB, Nat.zero_add, key1] at this
    simpa using this
  dsimp only
  rw [Nat.zero_add]
  refine ite_ (fun q => ?_) fun q => ?_
  · have e : k = n1 := by simp at q; omega
    exact wpS_pure (h _ B1 (by rw [← hn]; exact whole_ s1 s2 (fun i hi => p1 i (by omega))))
  · have kl : k < n1 := by simp at q; omega
    have e1 : k + (n1 - k) - 1 = n1 - 1 := by omega
    rw [e1]
    refine wpS_bind (elem_ (show n1 - 1 < (arrOf st).size by omega) ?_)
    have key2 : rk (arrOf st)[n1 - 1] = R rk (arrOf st) (n1 - 1) := (R_get (by omega)).symm
    refine wpS_bind (gallopB L B.kd (gd _ (by simp)) gd (show n1 + n2 ≤ (arrOf st).size by omega) s2 (by omega) fun m m1 q1 q2 => ?_)
    have p2 : ∀ i, i < m → R rk (arrOf st) (n1 + i) < R rk (arrOf st) (n1 - 1) := fun i hi => by
      have := q1 i hi
      simp only [pB, key2] at this
      simpa using this
    have p2' : ∀ i, m ≤ i → i < n2 → R rk (arrOf st) (n1 - 1) ≤ R rk (arrOf st) (n1 + i) := fun i hi hj => by
      have := q2 i hi hj
      simp only [pB, key2] at this
      simpa using this
    dsimp only
    refine ite_ (fun q => ?_) fun q => ?_
    · have e : m = 0 := by simpa using q
      subst e
      exact wpS_pure (h _ B1 (by
        rw [← hn]
        exact whole_ s1 s2 (fun i hi => Int.le_trans (s1 i (n1 - 1) (Nat.zero_le _) (by omega) (by omega)) (p2' 0 (Nat.le_refl _) h2))))
    · have m0 : 0 < m := by simp at q; omega
      have x1 : ((arrOf st).extract k n1).size = n1 - k := by rw [Array.size_extract]; omega
      have y1 : ((arrOf st).extract n1 (n1 + m)).size = m := by rw [Array.size_extract]; omega
      have sx := sg_srt (rk := rk) (lo := k) (hi := n1) (xs := arrOf st) (by omega) (fun i j a b c => s1 i j (by omega) b c)
      have sy := sg_srt (rk := rk) (lo := n1) (hi := n1 + m) (xs := arrOf st) (by omega) (fun i j a b c => s2 i j a b (by omega))
      have gx : ∀ x ∈ ((arrOf st).extract k n1).toList, Good x := fun x hx => gd x (by rw [ext_list] at hx; exact List.mem_of_mem_drop (List.mem_of_mem_take hx))
      have gy : ∀ x ∈ ((arrOf st).extract n1 (n1 + m)).toList, Good x := fun x hx => gd x (by rw [ext_list] at hx; exact List.mem_of_mem_drop (List.mem_of_mem_take hx))
      have f0 : R rk ((arrOf st).extract n1 (n1 + m)) 0 = R rk (arrOf st) n1 := by rw [R_get (by omega), R_get (by omega)]; simp
      have fl : R rk ((arrOf st).extract k n1) (((arrOf st).extract k n1).size - 1) = R rk (arrOf st) (n1 - 1) := by
        rw [R_get (by omega), R_get (by omega)]
        simp only [Array.getElem_extract]
        have e : k + (((arrOf st).extract k n1).size - 1) = n1 - 1 := by rw [x1]; omega
        congr 2
      have le0 : ∀ x ∈ ((arrOf st).extract k n1).toList, R rk ((arrOf st).extract n1 (n1 + m)) 0 ≤ rk x := fun x hx => by
        obtain ⟨l, a, b, c⟩ := mem_ext_R (rk := rk) hx (by omega)
        rw [f0, ← c]
        exact Int.le_of_lt (p1' l a b)
      have lel : ∀ y ∈ ((arrOf st).extract n1 (n1 + m)).toList, rk y ≤ R rk ((arrOf st).extract k n1) (((arrOf st).extract k n1).size - 1) := fun y hy => by
        obtain ⟨l, a, b, c⟩ := mem_ext_R (rk := rk) hy (by omega)
        rw [fl, ← c]
        have := p2 (l - n1) (by omega)
        rw [show n1 + (l - n1) = l by omega] at this
        exact Int.le_of_lt this
      have fin : ∀ (r : Array Keyed) (st' : SortSt), Mq (SortSt.mk' (kindOf st) (arrOf st) #[(0, n1 + n2, pw)] (gallopOf st) (failedOf st)) st' → Res rk ((arrOf st).extract k n1) ((arrOf st).extract n1 (n1 + m)) r →
          TB κ a₀ 0 #[(0, n1 + n2, pw)] (setArr st' (r.toList.zipIdx.foldl (fun a (p : Keyed × Nat) => a.setIfInBounds (k + p.2) p.1) (arrOf st'))) ∧ Sg rk (r.toList.zipIdx.foldl (fun a (p : Keyed × Nat) => a.setIfInBounds (k + p.2) p.1) (arrOf st')) 0 a₀.size := by
        intro r st' mq hr
        have ear : arrOf st' = arrOf st := mq.ar
        have lr : r.toList.length = n1 - k + m := by rw [hr.1.length_eq, List.length_append, Array.length_toList, Array.length_toList, x1, y1]
        have J := join_ (by omega) kl m1 s1 s2 p1 p2' hr.1 hr.2
        have W := write_list (sa := k) (m := r.toList) (xs := arrOf st) (by omega)
        rw [show k + r.toList.length = n1 + m by omega] at W
        rw [← W] at J
        rw [ear]
        have P := Array.perm_iff_toList_perm.mpr J.1
        refine ⟨⟨P.trans B.pm, ?_, ?_, ?_, fun k q => by omega⟩, ?_⟩
        · exact mq.kd.trans B.kd
        · exact mq.fl.trans B.fl
        · exact mq.pn
        · have := srt_sg J.2
          rwa [P.size_eq, zs] at this
      refine ite_ (fun q => ?_) fun q => ?_
      · refine wpS_bind (mergeLo_ (rk := rk) L B.kd gx gy (show 0 < ((arrOf st).extract k n1).size by omega) (show 0 < ((arrOf st).extract n1 (n1 + m)).size by omega) sx sy ?_ lel fun r st' mq hr => ?_)
        · rw [R_get (by omega)] at le0
          exact le0
        · obtain ⟨f1, f2⟩ := fin r st' mq hr
          refine wpS_bind (wpS_modify (wpS_bind (wpS_get (wpS_pure ?_))))
          have e : failedOf st' = none := f1.fl
          have eb : (failedOf st').isNone = true := by rw [e]; rfl
          show Q ((failedOf st').isNone) (setArr st' _)
          rw [eb]
          exact h _ f1 f2
      · refine wpS_bind (mergeHi_ (rk := rk) L B.kd gx gy (show 0 < ((arrOf st).extract k n1).size by omega) (show 0 < ((arrOf st).extract n1 (n1 + m)).size by omega) sx sy le0 lel fun r st' mq hr => ?_)
        obtain ⟨f1, f2⟩ := fin r st' mq hr
        refine wpS_bind (wpS_modify (wpS_bind (wpS_get (wpS_pure ?_))))
        have e : failedOf st' = none := f1.fl
        have eb : (failedOf st').isNone = true := by rw [e]; rfl
        show Q ((failedOf st').isNone) (setArr st' _)
        rw [eb]
        exact h _ f1 f2
end
end Tim

end
noncomputable section
set_option linter.all false
set_option maxRecDepth 100000
namespace Tim
open PySem PyProof.Rows
section
variable {prog : Program} {w : World} {A : Around} {E : Value → Shared → Prop} {s : Shared} {κ : SortKind} {rk : Keyed → Int} {Good : Keyed → Prop} {a₀ : Array Keyed} {lo : Nat} {pd : Array (Nat × Nat × Nat)}
theorem minrun_ {n : Nat} (h2 : 2 ≤ n) (h : n < 128) : 1 ≤ minRun' n n 0 ∧ minRun' n n 0 ≤ n ∧ n ≤ 2 * minRun' n n 0 := by
  obtain ⟨f, hf⟩ : ∃ f, n = f + 1 + 1 := ⟨n - 2, by omega⟩
  have e : minRun' n n 0 = minRun' (f + 1 + 1) n 0 := by rw [← hf]
  rw [e, minRun'_succ]
  by_cases g : n < 64
  · rw [if_pos g]; omega
  · rw [if_neg g, minRun'_succ, if_pos (by omega)]; omega
theorem TB.rest {a₁ : Array Keyed} {lo' : Nat} {st : SortSt} (B : TB κ a₁ lo' pd st) (P : a₁.Perm a₀) : TB κ a₀ 0 pd st := ⟨B.pm.trans P, B.kd, B.fl, B.pn, fun k q => by omega⟩
theorem Sg.keep {xs ys : Array Keyed} {n : Nat} (h : Sg rk xs 0 n) (hk : ∀ k, k < n → ys[k]? = xs[k]?) : Sg rk ys 0 n := fun i j a b c => by
  rw [R_congr (hk i (by omega)), R_congr (hk j c)]
  exact h i j a b c
/-- what is known ahead of a run: nothing told yet; one run told; all told in two -/
def St (κ : SortKind) (rk : Keyed → Int) (a₀ : Array Keyed) (x lo : Nat) (st : SortSt) : Prop :=
  (x = 0 ∧ lo = 0 ∧ TB κ a₀ 0 #[] st) ∨
  (x = 1 ∧ 0 < lo ∧ lo ≤ a₀.size ∧ minRun' a₀.size a₀.size 0 ≤ lo ∧ TB κ a₀ 0 #[(0, lo, 0)] st ∧ Sg rk (arrOf st) 0 lo) ∨
  (2 ≤ x ∧ lo = a₀.size ∧ ∃ n1 n2 pw, n1 + n2 = a₀.size ∧ 0 < n1 ∧ 0 < n2 ∧ TB κ a₀ 0 #[(0, n1, pw), (n1, n2, 0)] st ∧ Sg rk (arrOf st) 0 n1 ∧ Sg rk (arrOf st) n1 (n1 + n2))
theorem sortRuns_ {st : SortSt} {Q : Unit → SortSt → Prop} (L : LtOk prog w A E s κ rk Good) (hg : ∀ x ∈ a₀.toList, Good x) (B : TB κ a₀ 0 #[] st) (h2 : 2 ≤ a₀.size) (h128 : a₀.size < 128)
    (h : ∀ st', (arrOf st').Perm a₀ → failedOf st' = none → Sg rk (arrOf st') 0 a₀.size → Q () st') : wpS (model prog w) A E s sortRuns' Q st := by
  obtain ⟨m1, m2, m3⟩ := minrun_ h2 h128
  rw [sortRuns'_eq]
  refine wpS_bind (wpS_get ?_)
  dsimp only
  rw [show (arrOf st).size = a₀.size from B.sz]
  generalize hmr : minRun' a₀.size a₀.size 0 = mr at m1 m2 m3
  refine wpS_bind (wpS_mono (wpS_forRange (I := fun x c st' => ∃ lo, c = (none, lo) ∧ St κ rk a₀ x lo st') (Q := fun c st' => ∃ lo x, c = (none, lo) ∧ lo = a₀.size ∧ 1 ≤ x ∧ St κ rk a₀ x lo st') ?step ?fin ?init) ?post)
  case init => exact ⟨0, rfl, .inl ⟨rfl, rfl, B⟩⟩
  case fin =>
    rintro c st' ⟨lo, rfl, hS⟩
    refine ⟨lo, _, rfl, ?_, by omega, hS⟩
    rcases hS with ⟨x0, _⟩ | ⟨x0, _⟩ | ⟨_, e, _⟩
    · omega
    · omega
    · exact e
  case step =>
    rintro x c st' _ hx ⟨lo, rfl, hS⟩
    dsimp only
    refine ite_ (fun q => ?_) fun q => ?_
    · refine wpS_pure ⟨lo, x, rfl, ?_, ?_, hS⟩
      · rcases hS with ⟨_, e, _⟩ | ⟨_, _, e, _⟩ | ⟨_, e, _⟩ <;> omega
      · rcases hS with ⟨_, e, _⟩ | ⟨_, _, e, _⟩ | ⟨_, e, _⟩ <;> omega
    · rcases hS with ⟨rfl, rfl, B'⟩ | ⟨rfl, l0, l1, l3, B', sg⟩ | ⟨x1, l1, _⟩
      · refine wpS_bind (count_ L hg B' (by omega) (by omega) fun n st2 B2 n1 n2 sg2 => ?_)
        dsimp only
        refine ite_ (fun g => ?_) fun g => ?_
        · refine wpS_bind (wpS_lift (wpAny_rule ⟨rfl, ?_⟩))
          have emin : min (a₀.size - 0) mr = mr := by omega
          rw [emin]
          refine wpS_bind (bin_ L hg B2 (by omega) n1 (by omega) sg2 fun st3 B3 sg3 => ?_)
          rw [if_neg (by simp)]
          refine wpS_bind (wpS_get ?_)
          rw [(B3).pn]
          have eb : (#[] : Array (Nat × Nat × Nat)).back? = none := rfl
          rw [eb]
          dsimp only
          refine wpS_bind (wpS_modify (wpS_pure ⟨_, rfl, .inr (.inl ⟨rfl, by omega, by omega, by omega, ?_, ?_⟩)⟩))
          · refine ⟨(B3).pm, (B3).kd, (B3).fl, ?_, fun k q => by omega⟩
            show (pendingOf _).push _ = _
            rw [(B3).pn, Nat.zero_add]
            rfl
          · exact sg3
        · refine wpS_bind (wpS_get ?_)
          rw [(B2).pn]
          have eb : (#[] : Array (Nat × Nat × Nat)).back? = none := rfl
          rw [eb]
          dsimp only
          refine wpS_bind (wpS_modify (wpS_pure ⟨_, rfl, .inr (.inl ⟨rfl, by omega, by omega, by omega, ?_, ?_⟩)⟩))
          · refine ⟨(B2).pm, (B2).kd, (B2).fl, ?_, fun k q => by omega⟩
            show (pendingOf _).push _ = _
            rw [(B2).pn, Nat.zero_add]
            rfl
          · exact sg2
      · rw [hmr] at l3
        have B1 : TB κ (arrOf st') lo #[(0, lo, 0)] st' := ⟨Array.Perm.refl _, B'.kd, B'.fl, B'.pn, fun _ _ => rfl⟩
        have zs := B'.sz
        refine wpS_bind (count_ L (B'.gd hg) B1 (by omega) (by omega) fun n st2 B2 n1 n2 sg2 => ?_)
        dsimp only
        refine ite_ (fun g => ?_) fun g => ?_
        · refine wpS_bind (wpS_lift (wpAny_rule ⟨rfl, ?_⟩))
          have emin : min (a₀.size - lo) mr = a₀.size - lo := by omega
          rw [emin]
          refine wpS_bind (bin_ L (B'.gd hg) B2 (by omega) n1 (by omega) sg2 fun st2 B3 sg3 => ?_)
          rw [if_neg (by simp)]
          refine wpS_bind (wpS_get ?_)
          have eb : (#[(0, lo, 0)] : Array (Nat × Nat × Nat)).back? = some (0, lo, 0) := rfl
          have epb := (B3).pn
          rw [epb, eb]
          dsimp only
          refine wpS_bind (wpS_mono (wpS_forRange (I := fun x c st'' => x = 0 ∧ c = (none, ()) ∧ st2 = st'') (Q := fun c st'' => c = (none, ()) ∧ st2 = st'') ?jstep ?jfin ⟨rfl, rfl, rfl⟩) ?jpost)
          case jfin =>
            rintro c st3 ⟨x0, _, _⟩
            omega
          case jstep =>
            rintro x c st3 _ _ ⟨x0, rfl, rfl⟩
            refine wpS_bind (wpS_get ?_)
            rw [epb]
            rw [if_neg (by simp)]
            exact wpS_pure ⟨rfl, rfl⟩
          case jpost =>
            rintro c st3 ⟨rfl, rfl⟩
            refine wpS_bind (wpS_modify (wpS_bind (wpS_modify (wpS_pure ⟨_, rfl, .inr (.inr ⟨by omega, by omega, lo, (a₀.size - lo), power' a₀.size (2 * 0 + lo) (2 * 0 + lo + lo + (a₀.size - lo)) a₀.size, by omega, l0, by omega, ?_, ?_, ?_⟩)⟩))))
            · refine ⟨(B3).pm.trans B'.pm, (B3).kd, (B3).fl, ?_, fun k q => by omega⟩
              show (Array.modify (pendingOf st2) ((pendingOf st2).size - 1) _).push _ = _
              rw [epb]
              rfl
            · exact sg.keep (B3).kp
            · exact sg3
        · refine wpS_bind (wpS_get ?_)
          have eb : (#[(0, lo, 0)] : Array (Nat × Nat × Nat)).back? = some (0, lo, 0) := rfl
          have epb := (B2).pn
          rw [epb, eb]
          dsimp only
          refine wpS_bind (wpS_mono (wpS_forRange (I := fun x c st'' => x = 0 ∧ c = (none, ()) ∧ st2 = st'') (Q := fun c st'' => c = (none, ()) ∧ st2 = st'') ?jstep ?jfin ⟨rfl, rfl, rfl⟩) ?jpost)
          case jfin =>
            rintro c st3 ⟨x0, _, _⟩
            omega
          case jstep =>
            rintro x c st3 _ _ ⟨x0, rfl, rfl⟩
            refine wpS_bind (wpS_get ?_)
            rw [epb]
            rw [if_neg (by simp)]
            exact wpS_pure ⟨rfl, rfl⟩
          case jpost =>
            rintro c st3 ⟨rfl, rfl⟩
            refine wpS_bind (wpS_modify (wpS_bind (wpS_modify (wpS_pure ⟨_, rfl, .inr (.inr ⟨by omega, by omega, lo, n, power' a₀.size (2 * 0 + lo) (2 * 0 + lo + lo + n) a₀.size, by omega, l0, by omega, ?_, ?_, ?_⟩)⟩))))
            · refine ⟨(B2).pm.trans B'.pm, (B2).kd, (B2).fl, ?_, fun k q => by omega⟩
              show (Array.modify (pendingOf st2) ((pendingOf st2).size - 1) _).push _ = _
              rw [epb]
              rfl
            · exact sg.keep (B2).kp
            · exact sg2
      · omega
  case post =>
    rintro c st' ⟨lo, x, rfl, e, x1, hS⟩
    dsimp only
    refine wpS_bind (wpS_mono (wpS_forRange (I := fun x c st'' => c = (none, ()) ∧ ((x = 0 ∧ st' = st'') ∨ (TB κ a₀ 0 (pendingOf st'') st'' ∧ (pendingOf st'').size = 1 ∧ Sg rk (arrOf st'') 0 a₀.size)))
      (Q := fun c st'' => c = (none, ()) ∧ TB κ a₀ 0 (pendingOf st'') st'' ∧ Sg rk (arrOf st'') 0 a₀.size) ?kstep ?kfin ⟨rfl, .inl ⟨rfl, rfl⟩⟩) ?kpost)
    case kfin =>
      rintro c st3 ⟨rfl, ⟨x0, _⟩ | ⟨B3, _, sg3⟩⟩
      · omega
      · exact ⟨rfl, B3, sg3⟩
    case kpost =>
      rintro c st3 ⟨rfl, B3, sg3⟩
      exact wpS_pure (h st3 B3.pm B3.fl sg3)
    case kstep =>
      rintro y c st3 _ _ ⟨rfl, ⟨rfl, rfl⟩ | ⟨B3, z3, sg3⟩⟩
      · refine wpS_bind (wpS_get ?_)
        rcases hS with ⟨e0, _⟩ | ⟨_, l0, l1, l3, B', sg⟩ | ⟨_, _, n1, n2, pw, hn, p1, p2, B', s1, s2⟩
        · omega
        · rw [B'.pn]
          refine ite_ (fun g => ?_) fun g => ?_
          · exact wpS_pure ⟨rfl, by rw [B'.pn]; exact B', by rw [← e]; exact sg⟩
          · exact absurd (by simp) g
        · rw [B'.pn]
          refine ite_ (fun g => ?_) fun g => ?_
          · exact absurd g (by simp)
          · refine wpS_bind (mergeAt_ L hg B' hn p1 p2 s1 s2 fun st4 B4 s4 => ?_)
            rw [if_neg (by simp)]
            exact wpS_pure ⟨rfl, .inr ⟨by rw [B4.pn]; exact B4, by rw [B4.pn]; rfl, s4⟩⟩
      · refine wpS_bind (wpS_get ?_)
        refine ite_ (fun g => ?_) fun g => ?_
        · exact wpS_pure ⟨rfl, B3, sg3⟩
        · omega
end
end Tim

end
noncomputable section
set_option linter.all false
set_option maxRecDepth 100000
namespace Tim
open PySem PyProof.Rows
theorem zip_no_len : typeLookup (.type "zip") "__len__" = pure none := by rw [typeLookup_type, builtinLookup_eq_fast]; kernel_rfl
theorem zip_no_hint : typeLookup (.type "zip") "__length_hint__" = pure none := by rw [typeLookup_type, builtinLookup_eq_fast]; kernel_rfl
/-- a zip whose first pair is held elsewhere -/
abbrev ZipOut (h : Heap) (z TI TO T : Addr) (f : Bool) : Prop :=
  h.get? z = some { cls := .type "zip", dict := none, data := .fields #[rawInt T, .bool f, .bool false, .ref TI, .ref TO], slots := #[] }
section
variable {prog : Program} {w : World} {A : Around} {E : Value → Shared → Prop} {s : Shared}
theorem alive_ {a : Addr} {o : Obj} {Q : Option Obj → Shared → Prop} (ho : s.heap.get? a = some o) (h : Q (some o) s) : wpAny (model prog w) A (loadIfAlive a) Q E s := by
  rw [← ho] at h
  exact fun _ _ _ => h
theorem free_ {z TI TO T : Addr} {f : Bool} {o : Obj} {Q : Bool → Shared → Prop} (hz : ZipOut s.heap z TI TO T f) (hT : s.heap.get? T = some o) (h : ∀ h', ZipOut h' z TI TO T true → Heap.SameBut z s.heap h' → Q false { s with heap := h' }) :
    wpAny (model prog w) A (Builtin.SmallTypes.ownedTupleIsFree (.ref z)) Q E s := by
  unfold Builtin.SmallTypes.ownedTupleIsFree
  refine wpAny_bind (wpAny_field hz rfl (x := rawInt T) rfl ?_)
  show wpAny _ _ (loadIfAlive ((T : Int).toNat) >>= _) _ _ _
  rw [Int.toNat_natCast]
  refine wpAny_bind (alive_ hT ?_)
  simp only [Option.isNone_some, Bool.false_eq_true, if_false]
  refine wpAny_bind (wpAny_field hz rfl (x := .bool f) rfl ?_)
  cases f with
  | true =>
    rw [if_neg (show ¬ ((Value.bool true != Value.bool true) = true) from Bool.false_ne_true)]
    exact wpAny_pure (h _ hz (Heap.SameBut.refl _ _))
  | false =>
    rw [if_pos (show (Value.bool false != Value.bool true) = true from rfl)]
    exact wpAny_bind (wpAny_setField_rec hz (by simp) fun h₃ he₃ hs₃ => wpAny_pure (h h₃ he₃ hs₃))
theorem zitem {z TI TO i1 i2 l1 l2 T : Addr} {f : Bool} {o : Obj} {k1 k2 : Nat} {xs ys : Array Value} {x y : Value} {Q : Option Value → Shared → Prop} (D : ZipApart z TI TO i1 i2 l1 l2)
    (hz : ZipOut s.heap z TI TO T f) (hT : s.heap.get? T = some o) (hTI : IsPair s.heap TI (.ref i1) (.ref i2))
    (h1 : s.heap.IsListIter i1 l1 k1) (h2 : s.heap.IsListIter i2 l2 k2) (hl1 : s.heap.IsList l1 xs) (hl2 : s.heap.IsList l2 ys) (hx : xs[k1]? = some x) (hy : ys[k2]? = some y)
    (hQ : ∀ h', ZipOut h' z TI TO T true → h'.IsListIter i1 l1 (k1 + 1) → h'.IsListIter i2 l2 (k2 + 1) → IsPair h' s.heap.objs.size x y → h'.objs.size = s.heap.objs.size + 1 →
      (∀ c o, c ≠ z → c ≠ i1 → c ≠ i2 → s.heap.get? c = some o → h'.get? c = some o) → Q (some (.ref s.heap.objs.size)) { s with heap := h' }) :
    wpAny (model prog w) A (pyNext (.ref z)) Q E s := by
  have hTy : s.TypeIs (.ref z) "zip" := ⟨_, hz, rfl⟩
  unfold pyNext
  refine wpAny_bind (wpAny_attempt (wpAny_callSpecial?_slot (name := Str.ofString "__next__") hTy F.slot_zip_next
    (wpAny_call_entry F.slot_zip_next hTy F.entry_zip_next ?_ (F.args_zip_next_1 _))))
  show wpAny _ _ (field (.ref z) 2 >>= _) _ _ _
  refine wpAny_bind (wpAny_field hz rfl (x := .bool false) rfl ?_)
  show wpAny _ _ (field (.ref z) 3 >>= _) _ _ _
  refine wpAny_bind (wpAny_field hz rfl (x := .ref TI) rfl ?_)
  refine wpAny_bind (wpAny_seqItems hTI rfl ?_)
  show wpAny _ _ (Builtin.SmallTypes.ownedTupleIsFree (.ref z) >>= _) _ _ _
  refine wpAny_bind (free_ hz hT fun h₁ hz₁ hs₁ => ?_)
  dsimp only
  rw [if_neg (show ¬ (false = true) from Bool.false_ne_true)]
  simp only [List.forIn_toArray, List.forIn_cons, List.forIn_nil]
  refine wpAny_bind (wpAny_bind (wpAny_bind (wpAny_holding ?_)))
  show wpAny _ _ (Builtin.SmallTypes.nextOf (.ref i1) >>= _) _ _ _
  refine wpAny_bind (wpAny_nextOf_list_item (h1.extBut hs₁.extBut D.i1z) (hl1.extBut hs₁.extBut D.l1z) hx fun h₂ h1₂ hs₂ => wpAny_pure (wpAny_pure ?_))
  refine wpAny_bind (wpAny_bind (wpAny_holding ?_))
  show wpAny _ _ (Builtin.SmallTypes.nextOf (.ref i2) >>= _) _ _ _
  refine wpAny_bind (wpAny_nextOf_list_item ((h2.extBut hs₁.extBut D.i2z).extBut hs₂.extBut D.i12.symm) ((hl2.extBut hs₁.extBut D.l2z).extBut hs₂.extBut D.l2i1) hy fun h₃ h2₃ hs₃ => wpAny_pure (wpAny_pure (wpAny_pure ?_)))
  refine wpAny_bind (wpAny_newTuple ?_ (by show 2 ≤ sizeLine; decide))
  have hsz : h₃.objs.size = s.heap.objs.size := by rw [hs₃.1, hs₂.1, hs₁.1]
  have up : ∀ c o, h₃.get? c = some o → (h₃.push { cls := .type "tuple", data := .seq #[x, y] }).get? c = some o := fun c o e => Heap.get?_push_of_some _ e
  refine wpAny_pure ⟨_, rfl, wpAny_pure ?_⟩
  show Q (some (.ref h₃.objs.size)) { s with heap := h₃.push { cls := .type "tuple", data := .seq #[x, y] } }
  rw [hsz]
  refine hQ _ (up _ _ (hs₃.extBut _ _ D.i2z.symm (hs₂.extBut _ _ D.i1z.symm hz₁))) ((h1₂.extBut hs₃.extBut D.i12).at fun o e => up _ o e) (h2₃.at fun o e => up _ o e) ?_ (by rw [Heap.size_push, hsz])
    fun c o c1 c2 c3 e => up _ _ (hs₃.extBut _ _ c3 (hs₂.extBut _ _ c2 (hs₁.extBut _ _ c1 e)))
  show (h₃.push { cls := .type "tuple", data := .seq #[x, y] }).get? s.heap.objs.size = _
  rw [← hsz]
  exact Heap.get?_push_size _ rfl
theorem zend {z TI TO i1 i2 l1 l2 T : Addr} {f : Bool} {o : Obj} {k1 k2 : Nat} {xs ys : Array Value} {Q : Option Value → Shared → Prop} (hh : A.handled = none) (D : ZipApart z TI TO i1 i2 l1 l2)
    (hz : ZipOut s.heap z TI TO T f) (hT : s.heap.get? T = some o) (hTI : IsPair s.heap TI (.ref i1) (.ref i2))
    (h1 : s.heap.IsListIter i1 l1 k1) (h2 : s.heap.IsListIter i2 l2 k2) (hl1 : s.heap.IsList l1 xs) (hl2 : s.heap.IsList l2 ys) (hend : xs[k1]? = none ∨ ys[k2]? = none)
    (hQ : ∀ h', (∀ c o, c ≠ z → c ≠ i1 → c ≠ i2 → s.heap.get? c = some o → h'.get? c = some o) → Q none { s with heap := h' }) :
    wpAny (model prog w) A (pyNext (.ref z)) Q E s := by
  have hTy : s.TypeIs (.ref z) "zip" := ⟨_, hz, rfl⟩
  unfold pyNext
  refine wpAny_bind (wpAny_attempt (wpAny_callSpecial?_slot (name := Str.ofString "__next__") hTy F.slot_zip_next
    (wpAny_call_entry F.slot_zip_next hTy F.entry_zip_next ?_ (F.args_zip_next_1 _))))
  show wpAny _ _ (field (.ref z) 2 >>= _) _ _ _
  refine wpAny_bind (wpAny_field hz rfl (x := .bool false) rfl ?_)
  show wpAny _ _ (field (.ref z) 3 >>= _) _ _ _
  refine wpAny_bind (wpAny_field hz rfl (x := .ref TI) rfl ?_)
  refine wpAny_bind (wpAny_seqItems hTI rfl ?_)
  show wpAny _ _ (Builtin.SmallTypes.ownedTupleIsFree (.ref z) >>= _) _ _ _
  refine wpAny_bind (free_ hz hT fun h₁ hz₁ hs₁ => ?_)
  dsimp only
  rw [if_neg (show ¬ (false = true) from Bool.false_ne_true)]
  simp only [List.forIn_toArray, List.forIn_cons, List.forIn_nil]
  refine wpAny_bind (wpAny_bind (wpAny_bind (wpAny_holding ?_)))
  show wpAny _ _ (Builtin.SmallTypes.nextOf (.ref i1) >>= _) _ _ _
  have fin : ∀ (h' : Heap) (e : Addr), (∀ c o, c ≠ z → c ≠ i1 → c ≠ i2 → s.heap.get? c = some o → h'.get? c = some o) → (∃ o, h'.get? e = some o ∧ o.cls = .type "StopIteration") →
      wpAny (model prog w) A (isInstance (.ref e) (.type "StopIteration") >>= fun b => if b = true then pure none else throw (.ref e)) Q E { s with heap := h' } := by
    rintro h' e hk ⟨oe, ho, hc⟩
    refine wpAny_bind (wpAny_isInstance (T := "StopIteration") (b := true) ⟨oe, ho, hc⟩ isSubtype_stop ?_)
    exact wpAny_pure (hQ _ hk)
  cases hx : xs[k1]? with
  | none =>
    refine wpAny_bind (wpAny_nextOf_list_end hh (h1.extBut hs₁.extBut D.i1z) (hl1.extBut hs₁.extBut D.l1z) hx fun h₂ e hs₂ he => ?_)
    exact fin h₂ e (fun c o c1 c2 c3 x => hs₂ _ _ c2 (hs₁.extBut _ _ c1 x)) he
  | some x =>
    have hy : ys[k2]? = none := by rcases hend with h | h; rw [hx] at h; cases h; exact h
    refine wpAny_bind (wpAny_nextOf_list_item (h1.extBut hs₁.extBut D.i1z) (hl1.extBut hs₁.extBut D.l1z) hx fun h₂ h1₂ hs₂ => wpAny_pure (wpAny_pure ?_))
    refine wpAny_bind (wpAny_bind (wpAny_holding ?_))
    show wpAny _ _ (Builtin.SmallTypes.nextOf (.ref i2) >>= _) _ _ _
    refine wpAny_bind (wpAny_nextOf_list_end hh ((h2.extBut hs₁.extBut D.i2z).extBut hs₂.extBut D.i12.symm) ((hl2.extBut hs₁.extBut D.l2z).extBut hs₂.extBut D.l2i1) hy fun h₄ e hs₄ he => ?_)
    exact fin h₄ e (fun c o c1 c2 c3 x => hs₄ _ _ c3 (hs₂.extBut _ _ c2 (hs₁.extBut _ _ c1 x))) he
end
end Tim
namespace Tim
open PySem PyProof.Rows
/-- the pairs that were drawn -/
structure Drawn (h : Heap) (xs ys : Array Value) (as : List Addr) : Prop where
  nd : as.Nodup
  at_ : ∀ (j : Nat) (b : Addr), as[j]? = some b → ∃ x y, xs[j]? = some x ∧ ys[j]? = some y ∧ IsPair h b x y
section
variable {prog : Program} {w : World} {A : Around} {E : Value → Shared → Prop}
theorem Drawn.keep {h h' : Heap} {xs ys : Array Value} {as : List Addr} (d : Drawn h xs ys as) (k : ∀ b ∈ as, ∀ o, h.get? b = some o → h'.get? b = some o) : Drawn h' xs ys as :=
  ⟨d.nd, fun j b e => let ⟨x, y, a1, a2, a3⟩ := d.at_ j b e; ⟨x, y, a1, a2, k b (List.mem_of_getElem? e) _ a3⟩⟩
theorem far {n b c : Nat} (h : n ≤ b) (h' : c < n) : b ≠ c := Nat.ne_of_gt (Nat.lt_of_lt_of_le h' h)
theorem zloop {R : Result → Shared → Prop} (hh : A.handled = none) {z TI TO i1 i2 l1 l2 S : Addr} (D : ZipApart z TI TO i1 i2 l1 l2) (hS : S ≠ z ∧ S ≠ TI ∧ S ≠ TO ∧ S ≠ i1 ∧ S ≠ i2 ∧ S ≠ l1 ∧ S ≠ l2) {xs ys : Array Value} (res : Value) (hn : min xs.size ys.size ≤ sizeLine) {s₀ : Shared}
    (hR : ∀ (h' : Heap) (acc : Array Value) (c : Nat) (as : List Addr), (∀ b o, b ≠ z → b ≠ TO → b ≠ i1 → b ≠ i2 → b ≠ S → s₀.heap.get? b = some o → h'.get? b = some o) → h'.get? S = some { cls := .type "list", dict := none, data := .seq acc c, slots := #[] } →
      acc.toList = as.map Value.ref → as.length = min xs.size ys.size → Drawn h' xs ys as → (∀ b ∈ as, s₀.heap.objs.size ≤ b) → R (.ok (.ret res)) { s₀ with heap := h' }) :
    ∀ (k i : Nat) (h : Heap) (acc : Array Value) (c : Nat) (as : List Addr), min xs.size ys.size - i = k → as.length = i → i ≤ min xs.size ys.size →
      ((i = 0 ∧ IsZip h z TI TO .none) ∨ ∃ T f, T ∈ as ∧ ZipOut h z TI TO T f) → IsPair h TI (.ref i1) (.ref i2) → (∃ a b, IsPair h TO a b) → h.IsListIter i1 l1 i → h.IsListIter i2 l2 i → h.IsList l1 xs → h.IsList l2 ys →
      h.get? S = some { cls := .type "list", dict := none, data := .seq acc c, slots := #[] } → acc.toList = as.map Value.ref → Drawn h xs ys as → (∀ b ∈ as, s₀.heap.objs.size ≤ b) → s₀.heap.objs.size ≤ h.objs.size → z < s₀.heap.objs.size → TO < s₀.heap.objs.size → i1 < s₀.heap.objs.size → i2 < s₀.heap.objs.size → S < s₀.heap.objs.size →
      (∀ b o, b ≠ z → b ≠ TO → b ≠ i1 → b ≠ i2 → b ≠ S → s₀.heap.get? b = some o → h.get? b = some o) →
      codeAny (model prog w) A (.builtin "list.extend.loop" ⟨[.ref S, .ref z, res], []⟩) R { s₀ with heap := h } := by
  intro k
  induction k with
  | zero =>
    intro i h acc c as hk hal hi hzs hTI ⟨a, b, hTO⟩ h1 h2 hl1 hl2 hSS hacc hdr hab hsz lz lTO li1 li2 lS hkp
    have e : i = min xs.size ys.size := by omega
    refine codeAny_builtin F.entry_extend_loop ?_
    rw [Around.under_plainId F.plain_extend_loop _]
    show wpAny _ A.in1 (pyNext (.ref z) >>= _) _ _ _
    have hend : xs[i]? = none ∨ ys[i]? = none := by
      by_cases q : xs.size ≤ ys.size
      · exact .inl (Array.getElem?_eq_none (by omega))
      · exact .inr (Array.getElem?_eq_none (by omega))
    have fin : ∀ h' : Heap, (∀ c o, c ≠ z → c ≠ TO → c ≠ i1 → c ≠ i2 → h.get? c = some o → h'.get? c = some o) → R (.ok (.ret res)) { s₀ with heap := h' } := fun h' kk => by
      refine hR h' acc c as (fun b o b1 b2 b3 b4 b5 q => kk b o b1 b2 b3 b4 (hkp b o b1 b2 b3 b4 b5 q)) (kk S _ hS.1 hS.2.2.1 hS.2.2.2.1 hS.2.2.2.2.1 hSS) hacc (by omega) (hdr.keep fun b hb o q => ?_) hab
      have := hab b hb
      exact kk b o (far this lz) (far this lTO) (far this li1) (far this li2) q
    rcases hzs with ⟨i0, hz⟩ | ⟨T, f, hTa, hz⟩
    · exact wpAny_bind (wpAny_pyNext_zip_end hh D hz hTI hTO h1 h2 hl1 hl2 hend fun h' kk => wpAny_pure (fin h' kk))
    · obtain ⟨j, hj⟩ := List.mem_iff_getElem?.mp hTa
      obtain ⟨x, y, _, _, hT⟩ := hdr.at_ j T hj
      exact wpAny_bind (zend hh D hz hT hTI h1 h2 hl1 hl2 hend fun h' kk => wpAny_pure (fin h' fun c o c1 c2 c3 c4 q => kk c o c1 c3 c4 q))
  | succ k ih =>
    intro i h acc c as hk hal hi hzs hTI ⟨a, b, hTO⟩ h1 h2 hl1 hl2 hSS hacc hdr hab hsz lz lTO li1 li2 lS hkp
    have hlt : i < min xs.size ys.size := by omega
    have hx : xs[i]? = some (xs[i]'(by omega)) := Array.getElem?_eq_getElem (by omega)
    have hy : ys[i]? = some (ys[i]'(by omega)) := Array.getElem?_eq_getElem (by omega)
    generalize xs[i]'(by omega) = x at hx
    generalize ys[i]'(by omega) = y at hy
    refine codeAny_builtin F.entry_extend_loop ?_
    rw [Around.under_plainId F.plain_extend_loop _]
    show wpAny _ A.in1 (pyNext (.ref z) >>= _) _ _ _
    -- behind a pair
    have nxt : ∀ h' : Heap, (∃ T f, T ∈ as ++ [h.objs.size] ∧ ZipOut h' z TI TO T f) → (∃ a b, IsPair h' TO a b) → h'.IsListIter i1 l1 (i + 1) → h'.IsListIter i2 l2 (i + 1) → IsPair h' h.objs.size x y → h'.objs.size = h.objs.size + 1 →
        (∀ c o, c ≠ z → c ≠ TO → c ≠ i1 → c ≠ i2 → h.get? c = some o → h'.get? c = some o) →
        wpAny (model prog w) A.in1 (updateSeq S (·.push (.ref h.objs.size)) >>= fun _ => again (.builtin "list.extend.loop" ⟨[.ref S, .ref z, res], []⟩)) (fun fin s' => match fin with | .done f => R (.ok f) s' | .again c' => c'.quiet = true ∧ codeAny (model prog w) A c' R s') (fun e s' => R (.error e) s') { s₀ with heap := h' } := by
      intro h' hz' hTO' h1' h2' hp' hsz' kk
      have hS' := kk S _ hS.1 hS.2.2.1 hS.2.2.2.1 hS.2.2.2.2.1 hSS
      have oth : ∀ b o, b ≠ S → h'.get? b = some o → (h'.update S (Obj.mapSeq (·.push (.ref h.objs.size)))).get? b = some o := fun b o hb e => (Heap.get?_update_other _ _ (Ne.symm hb)).trans e
      have accs : acc.size = i := by rw [← Array.length_toList, hacc, List.length_map, hal]
      have hnS : h.objs.size ≠ S := far hsz lS
      refine wpAny_bind (wpAny_updateSeq hS' rfl (wpAny_pure ⟨plainId_quiet F.plain_extend_loop _, ?_⟩) (by rw [accs]; omega) (by show (acc.push _).size ≤ sizeLine + 1; rw [Array.size_push, accs]; omega))
      obtain ⟨T, f, hTa, hz'⟩ := hz'
      obtain ⟨a', b', hTO'⟩ := hTO'
      refine ih (i + 1) _ (acc.push (.ref h.objs.size)) _ (as ++ [h.objs.size]) (by omega) (by simp [hal]) (by omega) (.inr ⟨T, f, hTa, oth _ _ hS.1.symm hz'⟩) (oth _ _ hS.2.1.symm (kk _ _ D.TIz D.TITO D.TIi1 D.TIi2 hTI)) ⟨a', b', oth _ _ hS.2.2.1.symm hTO'⟩
        (h1'.at fun o e => oth _ o hS.2.2.2.1.symm e) (h2'.at fun o e => oth _ o hS.2.2.2.2.1.symm e) ?_ ?_ (Heap.get?_update_self _ hS' rfl) (by rw [Array.toList_push, hacc]; simp) ⟨?_, ?_⟩ ?_ (by rw [Heap.size_update, hsz']; exact Nat.le_succ_of_le hsz) lz lTO li1 li2 lS ?_
      · obtain ⟨o, e1, e2⟩ := hl1
        exact ⟨o, oth _ _ hS.2.2.2.2.2.1.symm (kk _ _ D.l1z D.l1TO D.l1i1 D.l1i2 e1), e2⟩
      · obtain ⟨o, e1, e2⟩ := hl2
        exact ⟨o, oth _ _ hS.2.2.2.2.2.2.symm (kk _ _ D.l2z D.l2TO D.l2i1 D.l2i2 e1), e2⟩
      · refine List.nodup_append.mpr ⟨hdr.nd, by simp, fun b hb b' hb' => ?_⟩
        obtain ⟨j, hj⟩ := List.mem_iff_getElem?.mp hb
        obtain ⟨x, y, _, _, hT⟩ := hdr.at_ j b hj
        have := Heap.lt_size hT
        rw [List.mem_singleton.mp hb']
        exact Nat.ne_of_lt this
      · intro j b hj
        by_cases q : j < as.length
        · rw [List.getElem?_append_left q] at hj
          obtain ⟨x, y, a1, a2, a3⟩ := hdr.at_ j b hj
          have := hab b (List.mem_of_getElem? hj)
          exact ⟨x, y, a1, a2, oth _ _ (far this lS) (kk _ _ (far this lz) (far this lTO) (far this li1) (far this li2) a3)⟩
        · have hj' := (List.getElem?_eq_some_iff.mp hj).1
          rw [List.length_append, List.length_singleton] at hj'
          have ej : j = i := by omega
          subst ej
          rw [List.getElem?_append_right (by omega), hal, Nat.sub_self] at hj
          have eb : h.objs.size = b := by simpa using hj
          subst eb
          exact ⟨x, y, hx, hy, oth _ _ hnS hp'⟩
      · intro b hb
        rcases List.mem_append.mp hb with q | q
        · exact hab b q
        · rw [List.mem_singleton.mp q]; exact hsz
      · exact fun b o b1 b2 b3 b4 b5 q => oth _ _ b5 (kk b o b1 b2 b3 b4 (hkp b o b1 b2 b3 b4 b5 q))
    rcases hzs with ⟨i0, hz⟩ | ⟨T, f, hTa, hz⟩
    · exact wpAny_bind (wpAny_pyNext_zip_item D hz hTI hTO h1 h2 hl1 hl2 hx hy fun h' b1 b2 b3 b4 b5 b6 kk => nxt h' ⟨_, false, by simp, b1⟩ ⟨_, _, b2⟩ b3 b4 b5 b6 kk)
    · obtain ⟨j, hj⟩ := List.mem_iff_getElem?.mp hTa
      obtain ⟨x', y', _, _, hT⟩ := hdr.at_ j T hj
      exact wpAny_bind (zitem D hz hT hTI h1 h2 hl1 hl2 hx hy fun h' b1 b3 b4 b5 b6 kk => nxt h' ⟨T, true, by simp [hTa], b1⟩ ⟨a, b, kk _ _ D.TOz D.TOi1 D.TOi2 hTO⟩ b3 b4 b5 b6 fun c o c1 c2 c3 c4 q => kk c o c1 c3 c4 q)
end
end Tim

end
noncomputable section
set_option linter.all false
set_option maxRecDepth 100000
namespace Tim
open PySem PyProof.Rows
def rkT (h : Heap) (x : Keyed) : Int := match x.1 with
  | .ref p => match h.get? p with
    | some o => match o.data with
      | .seq vs _ => numOf (vs.getD 0 .none) * 1001 + numOf (vs.getD 1 .none)
      | _ => 0
    | none => 0
  | _ => 0
def GoodT (h : Heap) (x : Keyed) : Prop := ∃ p n t c u, x.1 = .ref p ∧ IsPair h p (.int n t) (.int c u) ∧ 0 ≤ c ∧ c ≤ 1000
theorem rkT_eq {h : Heap} {x : Keyed} {p : Addr} {n c : Int} {t u : Tok} (e : x.1 = .ref p) (hp : IsPair h p (.int n t) (.int c u)) : rkT h x = n * 1001 + c := by
  unfold rkT
  rw [e]
  dsimp only
  rw [hp]
  rfl
section
variable {prog : Program} {w : World} {A : Around} {E : Value → Shared → Prop} {s : Shared}
theorem keyLt_ {p q : Addr} {n c n' c' : Int} {t u t' u' : Tok} {Q : Bool → Shared → Prop} (hp : IsPair s.heap p (.int n t) (.int c u)) (hq : IsPair s.heap q (.int n' t') (.int c' u'))
    (h : Q (if n = n' then decide (c < c') else decide (n < n')) s) : wpAny (model prog w) A (keyLt' (tuples' true) (.ref p) (.ref q)) Q E s := by
  refine wpAny_bind (listItems_at hp rfl (wpAny_bind (listItems_at hq rfl ?_)))
  have ez : (#[Value.int n t, Value.int c u].toList.zip #[Value.int n' t', Value.int c' u'].toList).zipIdx = [((Value.int n t, Value.int n' t'), 0), ((Value.int c u, Value.int c' u'), 1)] := rfl
  rw [ez]
  simp only [List.forIn_cons, List.forIn_nil]
  refine wpAny_bind (wpAny_bind (wpAny_bind (wpAny_eqBool_int ?_)))
  by_cases e : n = n'
  · subst e
    rw [if_pos rfl] at h
    rw [if_neg (by simp)]
    refine wpAny_pure ?_
    refine wpAny_bind (wpAny_bind (wpAny_eqBool_int ?_))
    by_cases e : c = c'
    · subst e
      rw [if_neg (by simp)]
      refine wpAny_pure (wpAny_pure (wpAny_pure ?_))
      have z : decide (c < c) = false := by simp
      rw [z] at h
      exact h
    · rw [if_pos (by simpa using e)]
      refine wpAny_bind ?_
      show wpAny _ _ (oneLt' false (.int c u) (.int c' u')) _ _ _
      rw [oneLt'_eq, if_neg (by simp)]
      refine wpAny_bind (show wpAny _ _ (compareOp .Lt (.int c u) (.int c' u')) _ _ _ from PyProof.Rows.lt_int ?_)
      exact wpAny_truthy_bool (wpAny_pure (wpAny_pure (wpAny_pure h)))
  · rw [if_neg e] at h
    rw [if_pos (by simpa using e)]
    refine wpAny_bind ?_
    show wpAny _ _ (oneLt' true (.int n t) (.int n' t')) _ _ _
    exact oneLt_int (wpAny_pure (wpAny_pure (wpAny_pure h)))
theorem ltT : LtOk prog w A E s (tuples' true) (rkT s.heap) (GoodT s.heap) := by
  rintro x y st Q ⟨p, n, t, c, u, e1, hp, b1, b2⟩ ⟨q, n', t', c', u', e2, hq, b3, b4⟩ hk h
  rw [rkT_eq e1 hp, rkT_eq e2 hq] at h
  rw [lt'_eq]
  refine wpS_bind (wpS_get ?_)
  rw [hk, e1, e2]
  refine wpS_bind (wpS_lift (wpAny_attempt (keyLt_ hp hq ⟨rfl, ?_⟩)))
  refine wpS_pure ?_
  have e : (if n = n' then decide (c < c') else decide (n < n')) = decide (n * 1001 + c < n' * 1001 + c') := by
    by_cases g : n = n'
    · subst g
      rw [if_pos rfl]
      rw [Bool.eq_iff_iff, decide_eq_true_iff, decide_eq_true_iff]
      omega
    · rw [if_neg g]
      rw [Bool.eq_iff_iff, decide_eq_true_iff, decide_eq_true_iff]
      omega
  rw [e]
  exact h
/-- the kinds of the pairs' firsts -/
theorem firsts_ : ∀ (as : List Addr) (ns : List Int), as.length = ns.length → (∀ (j : Nat) (b : Addr), as[j]? = some b → ∃ t y, IsPair s.heap b (.int (ns.getD j 0) t) y) → ∀ {Q : List (Option Value) → Shared → Prop},
    (∀ fs : List Value, IntsAre fs ns → Q (fs.map some) s) → wpAny (model prog w) A ((as.map Value.ref).mapM firstOfTuple') Q E s
  | [], [], _, _, Q, h => by rw [List.map_nil, List.mapM_nil]; exact wpAny_pure (h [] .nil)
  | a :: as, n :: ns, hl, ha, Q, h => by
    obtain ⟨t, y, hp⟩ := ha 0 a rfl
    rw [List.map_cons, List.mapM_cons]
    refine wpAny_bind ?_
    refine wpAny_bind (wpAny_typeOf (T := "tuple") ⟨_, hp, rfl⟩ ?_)
    rw [if_neg (by decide)]
    refine wpAny_bind (listItems_at hp rfl (wpAny_pure ?_))
    refine wpAny_bind (firsts_ as ns (by simpa using hl) (fun j b e => by simpa using ha (j + 1) b (by simpa using e)) fun fs hf => wpAny_pure ?_)
    exact h (.int n t :: fs) (.cons n t hf)
theorem kind_ {as : List Addr} {ns : List Int} {Q : SortKind → Shared → Prop} (hl : as.length = ns.length) (h2 : 1 ≤ as.length) (ha : ∀ (j : Nat) (b : Addr), as[j]? = some b → ∃ t y, IsPair s.heap b (.int (ns.getD j 0) t) y) (h : Q (tuples' true) s) :
    wpAny (model prog w) A (keyKind' (as.map Value.ref).toArray) Q E s := by
  rw [keyKind'_eq, List.mapM_toArray, map_eq_pure_bind]
  refine wpAny_bind (wpAny_bind (firsts_ as ns hl ha fun fs hf => wpAny_pure ?_))
  have hfl : fs.length = ns.length := IntsAre.length hf
  have hall : ((fs.map some).toArray.all fun x => x.isSome) = true := by simp
  rw [if_pos hall]
  refine wpAny_bind (wpAny_rule ?_)
  have hfm : ((fs.map some).toArray.filterMap id) = fs.toArray := by simp
  rw [hfm, oneTypeOnly'_eq, List.mapM_toArray, mapM_typeOf_ints hf]
  simp only [map_pure, pure_bind]
  obtain ⟨f₁, fr, rfl⟩ : ∃ f₁ fr, fs = f₁ :: fr := by
    match fs, hfl with
    | [], e => exact absurd e (by simp; omega)
    | f₁ :: fr, _ => exact ⟨f₁, fr, rfl⟩
  have h0 : (List.map (fun _ => Value.type "int") (f₁ :: fr)).toArray[0]? = some (Value.type "int") := by simp
  rw [h0]
  have hall2 : ((List.map (fun _ => Value.type "int") (f₁ :: fr)).toArray.all fun x => x == Value.type "int") = true := by
    simp only [List.all_toArray, List.all_map, List.all_eq_true]
    intro _ _
    rfl
  simp only [hall2, if_true, pure_bind]
  exact wpAny_pure h
theorem zcollect {z TI TO i1 i2 l1 l2 : Addr} {xs ys : Array Value} {a b : Value} {Q : List Value → Shared → Prop} (hh : A.handled = none) (D : ZipApart z TI TO i1 i2 l1 l2) (hz : IsZip s.heap z TI TO .none) (hTI : IsPair s.heap TI (.ref i1) (.ref i2)) (hTO : IsPair s.heap TO a b)
    (h1 : s.heap.IsListIter i1 l1 0) (h2 : s.heap.IsListIter i2 l2 0) (hl1 : s.heap.IsList l1 xs) (hl2 : s.heap.IsList l2 ys) (hn : min xs.size ys.size ≤ sizeLine)
    (hQ : ∀ (h' : Heap) (as : List Addr), (∀ b o, b ≠ z → b ≠ TO → b ≠ i1 → b ≠ i2 → s.heap.get? b = some o → h'.get? b = some o) → as.length = min xs.size ys.size → Drawn h' xs ys as → (∀ b ∈ as, s.heap.objs.size ≤ b) → s.heap.objs.size ≤ h'.objs.size → Q (as.map Value.ref) { s with heap := h' }) :
    wpAny (model prog w) A (collect (.ref z)) Q E s := by
  have lz : z < s.heap.objs.size := Heap.lt_size hz
  have lTI : TI < s.heap.objs.size := Heap.lt_size hTI
  have lTO : TO < s.heap.objs.size := Heap.lt_size hTO
  have li1 : i1 < s.heap.objs.size := let ⟨_, e, _⟩ := h1; Heap.lt_size e
  have li2 : i2 < s.heap.objs.size := let ⟨_, e, _⟩ := h2; Heap.lt_size e
  have ll1 : l1 < s.heap.objs.size := let ⟨_, e, _⟩ := hl1; Heap.lt_size e
  have ll2 : l2 < s.heap.objs.size := let ⟨_, e, _⟩ := hl2; Heap.lt_size e
  unfold collect
  refine wpAny_bind (wpAny_runValue (codeAny_builtin F.entry_proto_collect ?_))
  rw [Around.under_plainId F.plain_proto_collect _]
  show wpAny _ A.in1 (newList [] >>= fun l => again (.builtin "list.__iadd__" ⟨[l, .ref z], []⟩)) _ _ s
  refine wpAny_bind (wpAny_newObj_type ?_)
  refine wpAny_pure ⟨plainId_quiet F.plain_list_iadd _, codeAny_builtin F.entry_list_iadd ?_⟩
  rw [Around.under_plainId F.plain_list_iadd _]
  generalize hS : s.heap.objs.size = S
  rw [hS] at lz lTI lTO li1 li2 ll1 ll2
  have up : ∀ b o, s.heap.get? b = some o → (s.heap.push { cls := .type "list", data := .seq ([] : List Value).toArray }).get? b = some o := fun b o e => Heap.get?_push_of_some _ e
  have hS₁ : (s.heap.push { cls := .type "list", data := .seq ([] : List Value).toArray }).get? S = some { cls := .type "list", data := .seq ([] : List Value).toArray } := by rw [← hS]; exact Heap.get?_push_size _ rfl
  have hsz₁ : (s.heap.push { cls := .type "list", data := .seq ([] : List Value).toArray }).objs.size = S + 1 := by rw [Heap.size_push, hS]
  have hz₁ := up _ _ hz
  have hT₁ : ({ s with heap := s.heap.push { cls := .type "list", data := .seq ([] : List Value).toArray } } : Shared).TypeIs (.ref z) "zip" := ⟨_, hz₁, rfl⟩
  show wpAny _ A.in1 (Builtin.List.listExtendWith (.ref S) (.ref z) (.ref S)) _ _ _
  unfold Builtin.List.listExtendWith
  refine wpAny_bind (wpAny_typeOf hT₁ ?_)
  have e1 : Builtin.List.listSameRef (.ref S) (.ref z) = false := by simp [Builtin.List.listSameRef, Nat.ne_of_gt lz]
  have e2 : (Value.type "zip" == Value.type "list") = false := by decide
  have e3 : (Value.type "zip" == Value.type "tuple") = false := by decide
  simp only [e1, e2, e3, Bool.or_false, Bool.false_eq_true, if_false]
  refine wpAny_bind (wpAny_pyIter_zip hz₁ ?_)
  refine wpAny_bind (wpAny_holding ?_)
  unfold Builtin.List.listLengthHint
  refine wpAny_bind (wpAny_specialOf hT₁ zip_no_len ?_)
  show wpAny _ A.in1 (specialOf (Value.ref z) (Str.ofString "__length_hint__") >>= _) _ _ _
  refine wpAny_bind (wpAny_specialOf hT₁ zip_no_hint ?_)
  refine wpAny_pure ?_
  show wpAny _ A.in1 (rule "list.extend.makes-room" >>= fun _ => Builtin.List.listTouch (.ref S) >>= fun _ => again (.builtin "list.extend.loop" ⟨[.ref S, .ref z, .ref S], []⟩)) _ _ _
  refine wpAny_bind (wpAny_rule ?_)
  refine wpAny_bind ?_
  show wpAny _ A.in1 (updateSeq S (·.push .none) >>= fun _ => updateSeq S (·.pop)) _ _ _
  refine wpAny_bind (wpAny_updateSeq hS₁ rfl ?_)
  have hS₂ := Heap.get?_update_self (Obj.mapSeq (·.push Value.none)) hS₁ rfl
  refine wpAny_updateSeq hS₂ rfl ?_
  have hS₃ := Heap.get?_update_self (Obj.mapSeq (·.pop)) hS₂ rfl
  have oth : ∀ b o, b ≠ S → s.heap.get? b = some o → (((s.heap.push { cls := .type "list", data := .seq ([] : List Value).toArray }).update S (Obj.mapSeq (·.push Value.none))).update S (Obj.mapSeq (·.pop))).get? b = some o :=
    fun b o hb e => (Heap.get?_update_other _ _ (Ne.symm hb)).trans ((Heap.get?_update_other _ _ (Ne.symm hb)).trans (up b o e))
  have hsz₃ : (((s.heap.push { cls := .type "list", data := .seq ([] : List Value).toArray }).update S (Obj.mapSeq (·.push Value.none))).update S (Obj.mapSeq (·.pop))).objs.size = S + 1 := by rw [Heap.size_update, Heap.size_update, hsz₁]
  generalize ((s.heap.push { cls := .type "list", data := .seq ([] : List Value).toArray }).update S (Obj.mapSeq (·.push Value.none))).update S (Obj.mapSeq (·.pop)) = h₃ at hS₃ oth hsz₃
  have L1 : ∀ {c : Addr}, c < S → c ≠ S := fun h => Nat.ne_of_lt h
  refine wpAny_pure ⟨plainId_quiet F.plain_extend_loop _, zloop (s₀ := { s with heap := h₃ }) hh D ⟨(L1 lz).symm, (L1 lTI).symm, (L1 lTO).symm, (L1 li1).symm, (L1 li2).symm, (L1 ll1).symm, (L1 ll2).symm⟩ (xs := xs) (ys := ys) (.ref S) hn ?_
    (min xs.size ys.size - 0) 0 h₃ #[] _ [] rfl rfl (Nat.zero_le _) (.inl ⟨rfl, oth _ _ (L1 lz) hz⟩) (oth _ _ (L1 lTI) hTI) ⟨a, b, oth _ _ (L1 lTO) hTO⟩ (h1.at fun o e => oth _ o (L1 li1) e) (h2.at fun o e => oth _ o (L1 li2) e) ?_ ?_ hS₃ rfl
    ⟨List.nodup_nil, fun j b e => by simp at e⟩ (fun b hb => by simp at hb) (Nat.le_refl _) ?_ ?_ ?_ ?_ ?_ (fun b o _ _ _ _ _ e => e)⟩
  · intro h' acc c as kk hS' hacc hl hd hab
    show wpAny _ A (load S >>= _) _ _ _
    refine wpAny_bind (wpAny_load hS' ?_)
    have hab' : ∀ b ∈ as, S + 1 ≤ b := fun b hb => by have := hab b hb; rw [hsz₃] at this; exact this
    have := hQ h' as (fun b o b1 b2 b3 b4 e => by
      have : b < s.heap.objs.size := Heap.lt_size e
      rw [hS] at this
      exact kk b o b1 b2 b3 b4 (L1 this) (oth b o (L1 this) e)) hl hd (fun b hb => by rw [hS]; exact Nat.le_of_succ_le (hab' b hb)) (by rw [hS]; exact Nat.le_of_lt (Heap.lt_size hS'))
    rw [← hacc] at this
    exact wpAny_pure this
  · obtain ⟨o, e, r⟩ := hl1
    exact ⟨o, oth _ _ (L1 ll1) e, r⟩
  · obtain ⟨o, e, r⟩ := hl2
    exact ⟨o, oth _ _ (L1 ll2) e, r⟩
  all_goals (show _ < h₃.objs.size; rw [hsz₃])
  · exact Nat.lt_succ_of_lt lz
  · exact Nat.lt_succ_of_lt lTO
  · exact Nat.lt_succ_of_lt li1
  · exact Nat.lt_succ_of_lt li2
  · exact Nat.lt_succ_self _
end
end Tim

end
noncomputable section
set_option linter.all false
set_option maxRecDepth 100000
namespace Tim
open PySem PyProof.Rows
def adr : Value → Addr
  | .ref a => a
  | _ => 0
def rkA (h : Heap) (b : Addr) : Int := rkT h (.ref b, .none)
section
variable {prog : Program} {w : World} {A : Around} {E : Value → Shared → Prop} {s : Shared}
def PairT (h : Heap) (b : Addr) : Prop := ∃ n t c u, IsPair h b (.int n t) (.int c u) ∧ 0 ≤ c ∧ c ≤ 1000
theorem zip_refs {as : List Addr} {p : Keyed} (h : p ∈ (pairsOf (as.map Value.ref)).toList) : ∃ b ∈ as, p = (.ref b, .ref b) := by
  rw [pairsOf_toList] at h
  obtain ⟨e, m⟩ := mem_zip_self h
  obtain ⟨b, hb, e'⟩ := List.mem_map.mp m
  exact ⟨b, hb, Prod.ext e'.symm (by rw [← e]; exact e'.symm)⟩
theorem lsort_ {a : Addr} {as : List Addr} {ns : List Int} {n : Nat} {P : PySem.Fin → Shared → Prop} (ho : s.heap.get? a = some (seqObj "list" (as.map Value.ref).toArray n)) (hl : as.length = ns.length)
    (hk : ∀ (j : Nat) (b : Addr), as[j]? = some b → ∃ t y, IsPair s.heap b (.int (ns.getD j 0) t) y) (ha : ∀ b ∈ as, PairT s.heap b) (h2 : 2 ≤ as.length) (h128 : as.length < 128)
    (h : ∀ (h' : Heap) (as' : List Addr) (c' : Nat), (∀ b o, b ≠ a → s.heap.get? b = some o → h'.get? b = some o) → h'.get? a = some (seqObj "list" (as'.map Value.ref).toArray c') → as'.Perm as → as'.Pairwise (fun x y => rkA s.heap x ≤ rkA s.heap y) → P (.done (.ret .none)) { s with heap := h' }) :
    wpAny (model prog w) A (Builtin.«list.sort» ⟨[.ref a], []⟩) P E s := by
  rw [list_sort_plain]
  have al : a < s.heap.objs.size := Heap.lt_size ho
  have zs : (as.map Value.ref).toArray.size = as.length := by simp
  have nea : ∀ b, PairT s.heap b → b ≠ a := by
    rintro b ⟨n, t, c, u, hp, _⟩ rfl
    have := congrArg Obj.cls (Option.some.inj (ho.symm.trans hp))
    exact absurd this (by simp [seqObj])
  refine wpAny_bind (listItems_at ho rfl ?_)
  refine wpAny_bind (listUpdate_at ho rfl ?_ (by rw [zs, sizeLine_eq]; omega) (Nat.zero_le _))
  obtain ⟨e1, ho1⟩ : ∃ e1, (s.heap.update a (Obj.mapSeq fun _ => (#[] : Array Value))).get? a = some (seqObj "list" #[] e1) := ⟨_, get?_update_seq ho fun _ => #[]⟩
  refine wpAny_bind (seqEpoch_at ho1 rfl ?_)
  refine wpAny_bind (wpAny_newTuple ?_ (by rw [Array.length_toList, zs, sizeLine_eq]; omega))
  refine wpAny_bind (wpAny_newList ?_ (Nat.zero_le _))
  refine wpAny_holding ?_
  have up : ∀ b o, b ≠ a → s.heap.get? b = some o → (((s.heap.update a (Obj.mapSeq fun _ => (#[] : Array Value))).push (seqObj "tuple" (as.map Value.ref).toArray 0)).push (seqObj "list" #[] 0)).get? b = some o := fun b o hb e =>
    Heap.get?_push_of_some _ (Heap.get?_push_of_some _ ((Heap.get?_update_other _ _ (Ne.symm hb)).trans e))
  have ho6 : (((s.heap.update a (Obj.mapSeq fun _ => (#[] : Array Value))).push (seqObj "tuple" (as.map Value.ref).toArray 0)).push (seqObj "list" #[] 0)).get? a = some (seqObj "list" #[] e1) := Heap.get?_push_of_some _ (Heap.get?_push_of_some _ ho1)
  show wpAny (model prog w) A _ P E { s with heap := ((s.heap.update a (Obj.mapSeq fun _ => (#[] : Array Value))).push (seqObj "tuple" (as.map Value.ref).toArray 0)).push (seqObj "list" #[] 0) }
  generalize ((s.heap.update a (Obj.mapSeq fun _ => (#[] : Array Value))).push (seqObj "tuple" (as.map Value.ref).toArray 0)).push (seqObj "list" #[] 0) = h₃ at up ho6
  dsimp only
  have hn2 : ¬ (as.map Value.ref).toArray.size < 2 := by rw [zs]; omega
  rw [if_neg hn2, if_neg hn2]
  have pk : ∀ b, PairT s.heap b → PairT h₃ b := fun b hb => by
    have ne := nea b hb
    obtain ⟨n, t, c, u, hp, r⟩ := hb
    exact ⟨n, t, c, u, up _ _ ne hp, r⟩
  have rke : ∀ b, PairT s.heap b → rkA h₃ b = rkA s.heap b := fun b hb => by
    have ne := nea b hb
    obtain ⟨n, t, c, u, hp, r⟩ := hb
    unfold rkA
    rw [rkT_eq rfl (up _ _ ne hp), rkT_eq rfl hp]
  refine wpAny_bind (kind_ (s := { s with heap := h₃ }) (as := as) (ns := ns) hl (by omega) (fun j b e => ?_) ?_)
  · obtain ⟨t, y, hp⟩ := hk j b e
    exact ⟨t, y, up _ _ (nea b (ha b (List.mem_of_getElem? e))) hp⟩
  have hg : ∀ x ∈ (pairsOf (as.map Value.ref)).toList, GoodT h₃ x := fun x hx => by
    obtain ⟨b, hb, rfl⟩ := zip_refs hx
    obtain ⟨n, t, c, u, hp, r⟩ := pk b (ha b hb)
    exact ⟨b, n, t, c, u, rfl, hp, r⟩
  refine wpAny_bind (wpAny_mono (sortRuns_ (s := { s with heap := h₃ }) (rk := rkT h₃) (a₀ := pairsOf (as.map Value.ref)) (st := SortSt.mk' (tuples' true) (pairsOf (as.map Value.ref)) #[] 7 none)
    (Q := fun _ st' => (arrOf st').Perm (pairsOf (as.map Value.ref)) ∧ failedOf st' = none ∧ Sg (rkT h₃) (arrOf st') 0 (pairsOf (as.map Value.ref)).size)
    ltT hg ⟨Array.Perm.refl _, rfl, rfl, rfl, fun _ _ => rfl⟩ (by rw [pairsOf_size]; simp; omega) (by rw [pairsOf_size]; simp; omega) fun st' a1 a2 a3 => ⟨a1, a2, a3⟩) ?_ fun _ _ e => e)
  rintro ⟨⟨⟩, st'⟩ s' ⟨rfl, hp, hf, hs⟩
  dsimp only
  have hpl : (arrOf st').toList.Perm (pairsOf (as.map Value.ref)).toList := Array.perm_iff_toList_perm.mp hp
  have eo : (arrOf st').map (·.2) = (((arrOf st').toList.map fun p => adr p.2).map Value.ref).toArray := by
    apply Array.toList_inj.mp
    rw [Array.toList_map, List.map_map]
    refine List.map_congr_left fun p hp' => ?_
    obtain ⟨b, hb, rfl⟩ := zip_refs (hpl.mem_iff.mp hp')
    rfl
  have hperm : ((arrOf st').toList.map fun p => adr p.2).Perm as := by
    have := hpl.map fun p => adr p.2
    rw [pairsOf_toList] at this
    have e : ((as.map Value.ref).zip (as.map Value.ref)).map (fun p => adr p.2) = as := by
      have : ((as.map Value.ref).zip (as.map Value.ref)).map (fun p => adr p.2) = (((as.map Value.ref).zip (as.map Value.ref)).map Prod.snd).map adr := by rw [List.map_map]; rfl
      rw [this, List.map_snd_zip (Nat.le_refl _), List.map_map]
      exact List.map_id'' (fun _ => rfl) as
    rwa [e] at this
  have hsort : ((arrOf st').toList.map fun p => adr p.2).Pairwise (fun x y => rkA s.heap x ≤ rkA s.heap y) := by
    have hS : Srt (rkT h₃) (arrOf st').toList := by
      have := sg_srt (rk := rkT h₃) (lo := 0) (hi := (arrOf st').size) (xs := arrOf st') (Nat.le_refl _) (by rw [hp.size_eq]; exact hs)
      rw [ext_all] at this
      simpa using this
    rw [List.pairwise_map]
    refine List.Pairwise.imp_of_mem (fun {x y} hx hy hxy => ?_) hS
    obtain ⟨b, hb, rfl⟩ := zip_refs (hpl.mem_iff.mp hx)
    obtain ⟨c, hc, rfl⟩ := zip_refs (hpl.mem_iff.mp hy)
    show rkA s.heap b ≤ rkA s.heap c
    rw [← rke b (ha b hb), ← rke c (ha c hc)]
    exact hxy
  rw [eo]
  generalize ((arrOf st').toList.map fun p => adr p.2) = as' at hperm hsort
  have zs' : (as'.map Value.ref).toArray.size = as.length := by simp [hperm.length_eq]
  refine wpAny_bind (seqEpoch_at ho6 rfl ?_)
  refine wpAny_bind (listUpdate_at ho6 rfl ?_ (Nat.zero_le _) (by rw [zs', sizeLine_eq]; omega))
  rw [hf]
  simp only [bne_self_eq_false, Bool.false_eq_true, if_false]
  exact wpAny_pure (h _ as' _ (fun b o hb e => (Heap.get?_update_other _ _ (Ne.symm hb)).trans (up b o hb e)) (get?_update_seq ho6 fun _ => (as'.map Value.ref).toArray) hperm hsort)
/-- sorted(zip(xs, ys)): the pairs, by their ranks -/
theorem sortedZip {z TI TO i1 i2 l1 l2 : Addr} {xs ys : Array Value} {a b : Value} {ns ts : List Int} {Q : Value → Shared → Prop} (hh : A.handled = none) (D : ZipApart z TI TO i1 i2 l1 l2) (hz : IsZip s.heap z TI TO .none) (hTI : IsPair s.heap TI (.ref i1) (.ref i2)) (hTO : IsPair s.heap TO a b)
    (h1 : s.heap.IsListIter i1 l1 0) (h2 : s.heap.IsListIter i2 l2 0) (hl1 : s.heap.IsList l1 xs) (hl2 : s.heap.IsList l2 ys) (ex : xs.size = ns.length) (ey : ys.size = ns.length) (et : ts.length = ns.length)
    (hx : ∀ (i : Nat) (v : Value), xs[i]? = some v → ∃ t, v = .int (ns.getD i 0) t) (hy : ∀ (i : Nat) (v : Value), ys[i]? = some v → ∃ t, v = .int (ts.getD i 0) t) (ht : ∀ c ∈ ts, 0 ≤ c ∧ c ≤ 1000) (n2 : 2 ≤ ns.length) (n128 : ns.length < 128)
    (hQ : ∀ (h' : Heap) (L : Addr) (c : Nat) (ps : List (Addr × Int × Int)), (∀ b o, b ≠ z → b ≠ TO → b ≠ i1 → b ≠ i2 → s.heap.get? b = some o → h'.get? b = some o) → s.heap.objs.size ≤ L → h'.get? L = some (seqObj "list" (ps.map fun p => Value.ref p.1).toArray c) →
      (ps.map Prod.fst).Nodup → (∀ p ∈ ps, s.heap.objs.size ≤ p.1 ∧ p.1 ≠ L ∧ ∃ t u, IsPair h' p.1 (.int p.2.1 t) (.int p.2.2 u)) → (ps.map Prod.snd).Perm (ns.zip ts) → (ps.map Prod.snd).Pairwise (fun p q => p.1 * 1001 + p.2 ≤ q.1 * 1001 + q.2) → Q (.ref L) { s with heap := h' }) :
    wpAny (model prog w) A (call (.builtin "sorted") [.ref z]) Q E s := by
  refine Calls.call_function_entry kind_sorted plain_sorted entry_sorted (args_sorted1 _) ?_
  unfold Builtin.«sorted»
  refine wpAny_bind (m := checkCount "sorted" 1 1 _) (wpAny_pure ?_)
  refine wpAny_bind (zcollect hh D hz hTI hTO h1 h2 hl1 hl2 (by rw [sizeLine_eq]; omega) fun h₁ as k₁ hl hd hab hgr => ?_)
  have hlen : as.length = ns.length := by omega
  have dr : ∀ (j : Nat) (b : Addr), as[j]? = some b → ∃ t u, IsPair h₁ b (.int (ns.getD j 0) t) (.int (ts.getD j 0) u) := fun j b e => by
    obtain ⟨x, y, e1, e2, hp⟩ := hd.at_ j b e
    obtain ⟨t, rfl⟩ := hx j x e1
    obtain ⟨u, rfl⟩ := hy j y e2
    exact ⟨t, u, hp⟩
  refine wpAny_bind (wpAny_newList ?_ (by rw [List.length_map, sizeLine_eq]; omega))
  have hoL : (h₁.push (seqObj "list" (as.map Value.ref).toArray 0)).get? h₁.objs.size = some (seqObj "list" (as.map Value.ref).toArray 0) := Heap.get?_push_size _ rfl
  have up : ∀ b o, h₁.get? b = some o → (h₁.push (seqObj "list" (as.map Value.ref).toArray 0)).get? b = some o := fun b o e => Heap.get?_push_of_some _ e
  have lt1 : ∀ b o, h₁.get? b = some o → b ≠ h₁.objs.size := fun b o e => Nat.ne_of_lt (Heap.lt_size e)
  show wpAny _ _ _ _ _ { s with heap := h₁.push (seqObj "list" (as.map Value.ref).toArray 0) }
  generalize h₁.push (seqObj "list" (as.map Value.ref).toArray 0) = h₂ at hoL up
  have drA : ∀ b ∈ as, PairT h₂ b := fun b hb => by
    obtain ⟨j, hj⟩ := List.mem_iff_getElem?.mp hb
    obtain ⟨t, u, hp⟩ := dr j b hj
    have hjl := (List.getElem?_eq_some_iff.mp hj).1
    refine ⟨_, t, _, u, up _ _ hp, ht _ ?_⟩
    rw [List.getD_eq_getElem?_getD, List.getElem?_eq_getElem (by omega)]
    exact List.getElem_mem _
  refine wpAny_bind (wpAny_holding (wpAny_call_entry slot_list_sort ⟨_, hoL, rfl⟩ entry_list_sort (lsort_ (s := { s with heap := h₂ }) hoL hlen (fun j b e => ?_) drA (by omega) (by omega) fun h₃ as' c' k₃ hL hperm hsort => ⟨_, rfl, ?_⟩) (args_list_sort _)))
  · obtain ⟨t, u, hp⟩ := dr j b e
    exact ⟨t, _, up _ _ hp⟩
  refine wpAny_pure ⟨_, rfl, ?_⟩
  have num : ∀ b, PairT h₂ b → ∃ n c t u, IsPair h₂ b (.int n t) (.int c u) ∧ rkA h₂ b = n * 1001 + c := fun b ⟨n, t, c, u, hp, _⟩ => ⟨n, c, t, u, hp, rkT_eq rfl hp⟩
  -- the numbers of a pair
  let f : Addr → Int × Int := fun b => match h₂.get? b with
    | some o => match o.data with
      | .seq vs _ => (numOf (vs.getD 0 .none), numOf (vs.getD 1 .none))
      | _ => (0, 0)
    | none => (0, 0)
  have fe : ∀ {b : Addr} {n c : Int} {t u : Tok}, IsPair h₂ b (.int n t) (.int c u) → f b = (n, c) := fun {b n c t u} hp => by
    show (match h₂.get? b with | some o => (match o.data with | .seq vs _ => (numOf (vs.getD 0 .none), numOf (vs.getD 1 .none)) | _ => (0, 0)) | none => (0, 0)) = _
    rw [hp]
    rfl
  have e1 : (as'.map fun b => (b, f b)).map (fun p => Value.ref p.1) = as'.map Value.ref := by rw [List.map_map]; rfl
  have e2 : (as'.map fun b => (b, f b)).map Prod.snd = as'.map f := by rw [List.map_map]; rfl
  have e3 : (as'.map fun b => (b, f b)).map Prod.fst = as' := by rw [List.map_map]; exact List.map_id'' (fun _ => rfl) as'
  refine hQ h₃ h₁.objs.size c' (as'.map fun b => (b, f b)) (fun b o b1 b2 b3 b4 e => k₃ b o (lt1 b o (k₁ b o b1 b2 b3 b4 e)) (up b o (k₁ b o b1 b2 b3 b4 e))) hgr (by rw [e1]; exact hL) (by rw [e3]; exact hperm.nodup_iff.mpr hd.nd) (fun p hp => ?_) ?_ ?_
  · obtain ⟨b, hb, rfl⟩ := List.mem_map.mp hp
    have hb' := hperm.mem_iff.mp hb
    obtain ⟨n, c, t, u, hq, _⟩ := num b (drA b hb')
    obtain ⟨j, hj⟩ := List.mem_iff_getElem?.mp hb'
    obtain ⟨t', u', hp'⟩ := dr j b hj
    refine ⟨hab b hb', lt1 _ _ hp', t, u, ?_⟩
    show IsPair h₃ b (.int (f b).1 t) (.int (f b).2 u)
    rw [fe hq]
    exact k₃ _ _ (lt1 _ _ hp') hq
  · rw [e2]
    have e4 : as.map f = ns.zip ts := by
      apply List.ext_getElem?
      intro j
      by_cases q : j < as.length
      · obtain ⟨t, u, hp⟩ := dr j as[j] (by simp [q])
        rw [List.getElem?_map, List.getElem?_eq_getElem q, Option.map_some, fe (up _ _ hp), List.getElem?_zip_eq_some.mpr ⟨?_, ?_⟩]
        · simp [List.getD, List.getElem?_eq_getElem (show j < ns.length by omega)]
        · simp [List.getD, List.getElem?_eq_getElem (show j < ts.length by omega)]
      · rw [List.getElem?_eq_none (by simp; omega), List.getElem?_eq_none (by simp; omega)]
    rw [← e4]
    exact hperm.map f
  · rw [e2, List.pairwise_map]
    refine List.Pairwise.imp_of_mem (fun {x y} hx hy hxy => ?_) hsort
    obtain ⟨n, c, t, u, hp, ep⟩ := num x (drA x (hperm.mem_iff.mp hx))
    obtain ⟨n', c', t', u', hp', ep'⟩ := num y (drA y (hperm.mem_iff.mp hy))
    rw [fe hp, fe hp']
    have hxy : rkA h₂ x ≤ rkA h₂ y := hxy
    rw [ep, ep'] at hxy
    exact hxy
end
end Tim

end
noncomputable section
/-! Comprehensions over the hand layer: a block of its own, its iterator, its list. -/
namespace L2
open PySem PySem.Spec PyProof.Rows

/-! ### the cells that a block takes along -/
def closL (cells : List (Str × Addr)) : List (Str × NameKind) → List (Str × Addr) → List (Str × Addr)
  | [], acc => acc
  | (n, k) :: r, acc => if (k == NameKind.free) = true then closL cells r ((n, (cells.lookup n).getD 0) :: acc) else closL cells r acc

theorem closure_go {env : Env} : ∀ (names : List (Str × NameKind)) (acc : List (Str × Addr)), (∀ x ∈ names, x.2 = .free → ∃ c, env.cells.lookup x.1 = some c) →
    (forIn names acc fun (x : Str × NameKind) cs => (do
      if (x.2 == NameKind.free) = true then do
        let c ← cellOf env x.1
        pure (ForInStep.yield ((x.1, c) :: cs))
      else pure (ForInStep.yield cs) : Sem (ForInStep (List (Str × Addr))))) = pure (closL env.cells names acc) := by
  intro names
  induction names with
  | nil => intro acc _; rfl
  | cons x r ih =>
    intro acc h
    obtain ⟨n, k⟩ := x
    rw [List.forIn_cons]
    by_cases hk : k = .free
    · subst hk
      obtain ⟨c, hc⟩ := h (n, .free) List.mem_cons_self rfl
      have hc' : env.cells.lookup n = some c := hc
      have e1 : cellOf env n = pure c := by unfold cellOf; rw [hc']
      have e2 : closL env.cells ((n, NameKind.free) :: r) acc = closL env.cells r ((n, c) :: acc) := by
        show (if (NameKind.free == NameKind.free) = true then _ else _) = _
        rw [if_pos (by decide), hc']; rfl
      rw [e2, ← ih ((n, c) :: acc) fun y hy => h y (List.mem_cons_of_mem _ hy)]
      simp only [beq_self_eq_true, if_true, e1]
      rfl
    · have hb : (k == NameKind.free) = false := by simpa using hk
      have e2 : closL env.cells ((n, k) :: r) acc = closL env.cells r acc := by
        show (if (k == NameKind.free) = true then _ else _) = _
        rw [hb]; rfl
      rw [e2, ← ih acc fun y hy => h y (List.mem_cons_of_mem _ hy)]
      simp only [hb, Bool.false_eq_true, if_false]
      rfl
theorem closureFor_eq {scope : Scope} {env : Env} (h : ∀ x ∈ scope.names, x.2 = .free → ∃ c, env.cells.lookup x.1 = some c) : closureFor scope env = pure (closL env.cells scope.names []) := by
  have e := closure_go (env := env) scope.names [] h
  simp only [closureFor]
  first
    | exact e
    | (rw [← e]; rfl)
    | (have e' := congrArg (fun m => m >>= pure) e; simpa using e')
theorem closL_of {cells : List (Str × Addr)} : ∀ {names : List (Str × NameKind)} {acc : List (Str × Addr)} {x : Str} {c : Addr}, (closL cells names acc).lookup x = some c → (∀ y ∈ names, y.2 = .free → ∃ c, cells.lookup y.1 = some c) →
    (∀ d, acc.lookup x = some d → cells.lookup x = some d) → cells.lookup x = some c
  | [], _, _, _, e, _, ha => ha _ e
  | (n, k) :: r, acc, x, c, e, h, ha => by
    have e' : (if (k == NameKind.free) = true then closL cells r ((n, (cells.lookup n).getD 0) :: acc) else closL cells r acc).lookup x = some c := e
    by_cases hk : k = .free
    · subst hk
      rw [if_pos (by decide)] at e'
      refine closL_of e' (fun y hy => h y (List.mem_cons_of_mem _ hy)) fun d hd => ?_
      obtain ⟨c0, hc0⟩ := h (n, .free) List.mem_cons_self rfl
      have hc1 : cells.lookup n = some c0 := hc0
      rw [List.lookup_cons] at hd
      cases hx : x == n with
      | true =>
        rw [hx] at hd
        have hxn : x = n := by simpa using hx
        subst hxn
        rw [hc1] at hd ⊢
        exact hd
      | false =>
        rw [hx] at hd
        exact ha d hd
    · have hb : (k == NameKind.free) = false := by simpa using hk
      rw [hb, if_neg Bool.false_ne_true] at e'
      exact closL_of e' (fun y hy => h y (List.mem_cons_of_mem _ hy)) ha
theorem closL_has {cells : List (Str × Addr)} : ∀ {names : List (Str × NameKind)} {acc : List (Str × Addr)} {x : Str}, ((∃ d, acc.lookup x = some d) ∨ ∃ y ∈ names, y.1 = x ∧ y.2 = .free) → ∃ c, (closL cells names acc).lookup x = some c
  | [], _, _, h => by
    rcases h with h | ⟨y, hy, _⟩
    · exact h
    · cases hy
  | (n, k) :: r, acc, x, h => by
    show ∃ c, (if (k == NameKind.free) = true then closL cells r ((n, (cells.lookup n).getD 0) :: acc) else closL cells r acc).lookup x = some c
    by_cases hk : k = .free
    · subst hk
      rw [if_pos (by decide)]
      refine closL_has ?_
      by_cases hx : x = n
      · exact .inl ⟨_, by rw [hx, List.lookup_cons]; simp; rfl⟩
      · rcases h with ⟨d, hd⟩ | ⟨y, hy, e1, e2⟩
        · refine .inl ⟨d, ?_⟩
          rw [List.lookup_cons]
          have : (x == n) = false := by simpa using hx
          rw [this]; exact hd
        · rcases List.mem_cons.mp hy with z | z
          · subst z; exact absurd e1.symm hx
          · exact .inr ⟨y, z, e1, e2⟩
    · have hb : (k == NameKind.free) = false := by simpa using hk
      rw [hb, if_neg Bool.false_ne_true]
      refine closL_has ?_
      rcases h with h | ⟨y, hy, e1, e2⟩
      · exact .inl h
      · rcases List.mem_cons.mp hy with z | z
        · subst z; exact absurd e2 hk
        · exact .inr ⟨y, z, e1, e2⟩

/-! ### names of the block -/
/-- at a turn's start: the block's own names (t of them) forgotten, then those of around that it reads, by their places there -/
def capt (t : Nat) (ix : List Nat) (σ : St) : St := List.replicate t none ++ ix.map fun j => (σ[j]?).join

/-- the block's names from place t on are those of around at the places ix -/
def compAt (XN : List Str) (scope : Scope) (N' : List Str) (t : Nat) (ix : List Nat) : Bool :=
  (List.range ix.length).all fun k => match ix[k]?, N'[t + k]? with
    | some j, some x => decide (XN[j]? = some x) && decide (scope.names.lookup x = some .free)
    | _, _ => false
theorem compAt_get {XN : List Str} {scope : Scope} {N' : List Str} {t : Nat} {ix : List Nat} (h : compAt XN scope N' t ix = true) {k : Nat} (hk : k < ix.length) :
    ∃ j x, ix[k]? = some j ∧ N'[t + k]? = some x ∧ XN[j]? = some x ∧ scope.names.lookup x = some .free := by
  have q := List.all_eq_true.mp h k (List.mem_range.mpr hk)
  cases e1 : ix[k]? with
  | none => rw [e1] at q; simp at q
  | some j =>
    cases e2 : N'[t + k]? with
    | none => rw [e1, e2] at q; simp at q
    | some x =>
      rw [e1, e2] at q
      have q' : (decide (XN[j]? = some x) && decide (scope.names.lookup x = some .free)) = true := q
      rw [Bool.and_eq_true] at q'
      exact ⟨j, x, rfl, rfl, of_decide_eq_true q'.1, of_decide_eq_true q'.2⟩
structure CompScope (sc : Scope) (XN : List Str) (scope : Scope) (N' : List Str) (t : Nat) (ix : List Nat) : Prop where
  kind : scope.kind = .function
  nocell : ∀ y ∈ scope.names, y.2 ≠ .cell
  names : ∀ y ∈ scope.names, y.2 = .local → scope.names.lookup y.1 = some .local
  fr : ∀ y ∈ scope.names, y.2 = .free → sc.names.lookup y.1 = some .cell ∨ sc.names.lookup y.1 = some .free
  nd : N'.Nodup
  len : N'.length = t + ix.length
  at_ : compAt XN scope N' t ix = true

/-- the context of a block: no exception leaves it -/
def cxComp (X : Cx) (N' : List Str) (scope : Scope) (cl : List (Str × Addr)) (C : Addr) (s₀ : Shared) (H₀ : Hp) (fp : List Addr) : Cx where
  prog := X.prog
  w := X.w
  K := X.K
  mg := X.mg
  base := X.base
  A := X.A
  N := N'
  s₀ := s₀
  H₀ := H₀
  env := compEnvC scope cl C X.env
  outer := X.stack
  stack := X.stack
  ex := fp
  fn := fun _ => false
  calm := X.calm
  pn := []
  xe := fun _ _ => False

theorem lookup_relabel_kind {env : Env} : ∀ {names : List (Str × NameKind)} {x : Str} {k : NameKind},
    (names.map fun (n, k) => if (k == NameKind.free && env.scope.kind == .function && env.kindOf n == some .cell) = true then (n, NameKind.cell) else (n, k)).lookup x = some k → k = .cell ∨ k = .free →
    (∀ y ∈ names, y.2 ≠ .cell) → ∃ y ∈ names, y.1 = x ∧ y.2 = .free
  | [], _, _, h, _, _ => by simp at h
  | (n, k0) :: r, x, k, h, hk, hc => by
    have h' : List.lookup x ((if (k0 == NameKind.free && env.scope.kind == .function && env.kindOf n == some .cell) = true then (n, NameKind.cell) else (n, k0)) ::
      (r.map fun (n, k) => if (k == NameKind.free && env.scope.kind == .function && env.kindOf n == some .cell) = true then (n, NameKind.cell) else (n, k))) = some k := h
    have hcr : ∀ y ∈ r, y.2 ≠ .cell := fun y hy => hc y (List.mem_cons_of_mem _ hy)
    by_cases hq : (k0 == NameKind.free && env.scope.kind == .function && env.kindOf n == some .cell) = true
    · have hk0 : k0 = .free := by
        have := (Bool.and_eq_true_iff.mp (Bool.and_eq_true_iff.mp hq).1).1
        simpa using this
      rw [if_pos hq, List.lookup_cons] at h'
      cases hx : x == n with
      | true =>
        have hxn : x = n := by simpa using hx
        exact ⟨(n, k0), List.mem_cons_self, hxn.symm, hk0⟩
      | false =>
        rw [hx] at h'
        obtain ⟨y, hy, e1, e2⟩ := lookup_relabel_kind h' hk hcr
        exact ⟨y, List.mem_cons_of_mem _ hy, e1, e2⟩
    · rw [if_neg hq, List.lookup_cons] at h'
      cases hx : x == n with
      | true =>
        rw [hx] at h'
        have hxn : x = n := by simpa using hx
        have e : k0 = k := by simpa using h'
        subst e
        rcases hk with e | e
        · exact absurd e (hc (n, k0) List.mem_cons_self)
        · exact ⟨(n, k0), List.mem_cons_self, hxn.symm, e⟩
      | false =>
        rw [hx] at h'
        obtain ⟨y, hy, e1, e2⟩ := lookup_relabel_kind h' hk hcr
        exact ⟨y, List.mem_cons_of_mem _ hy, e1, e2⟩
theorem lookup_relabel_free {env : Env} : ∀ {names : List (Str × NameKind)} {x : Str}, names.lookup x = some .free →
    (names.map fun (n, k) => if (k == NameKind.free && env.scope.kind == .function && env.kindOf n == some .cell) = true then (n, NameKind.cell) else (n, k)).lookup x = some .cell ∨
    (names.map fun (n, k) => if (k == NameKind.free && env.scope.kind == .function && env.kindOf n == some .cell) = true then (n, NameKind.cell) else (n, k)).lookup x = some .free
  | [], _, h => by simp at h
  | (n, k0) :: r, x, h => by
    show List.lookup x ((if (k0 == NameKind.free && env.scope.kind == .function && env.kindOf n == some .cell) = true then (n, NameKind.cell) else (n, k0)) :: _) = _ ∨
      List.lookup x ((if (k0 == NameKind.free && env.scope.kind == .function && env.kindOf n == some .cell) = true then (n, NameKind.cell) else (n, k0)) :: _) = _
    rw [List.lookup_cons] at h
    by_cases hq : (k0 == NameKind.free && env.scope.kind == .function && env.kindOf n == some .cell) = true
    · rw [if_pos hq, List.lookup_cons]
      cases hx : x == n with
      | true => exact .inl rfl
      | false => rw [hx] at h; exact lookup_relabel_free h
    · rw [if_neg hq, List.lookup_cons]
      cases hx : x == n with
      | true => rw [hx] at h; exact .inr h
      | false => rw [hx] at h; exact lookup_relabel_free h

section
variable {X : Cx} {pins : List (Addr × Obj)} {σ : St} {H : Hp} {s : Shared} {sc scope : Scope} {XN N' : List Str} {t : Nat} {ix : List Nat} {fp : List Addr} {C : Addr}

theorem CompScope.cells (S : CompScope sc XN scope N' t ix) (hsc : X.env.scope.names = sc.names) (I : Inv X pins σ H s) : ∀ y ∈ scope.names, y.2 = .free → ∃ c, X.env.cells.lookup y.1 = some c := fun y hy hf => by
  have := S.fr y hy hf
  rw [← hsc] at this
  exact I.ok.has y.1 this
theorem cells_up (S : CompScope sc XN scope N' t ix) (hsc : X.env.scope.names = sc.names) (I : Inv X pins σ H s) {x : Str} {c : Addr} (e : (closL X.env.cells scope.names []).lookup x = some c) : X.env.cells.lookup x = some c :=
  closL_of e (S.cells hsc I) fun d hd => by simp at hd

/-- the block's context stands -/
theorem comp_ok (S : CompScope sc XN scope N' t ix) (hsc : X.env.scope.names = sc.names) (I : Inv X pins σ H s) (hf : ∀ b ∈ fp, FpOk X pins H b) (ho : ∀ b ∈ fp, b < s.heap.objs.size) (hC : s.heap.objs.size ≤ C) :
    (cxComp X N' scope (closL X.env.cells scope.names []) C s H fp).Ok where
  mod := I.ok.mod
  kind := S.kind
  glob := I.ok.glob
  blt := I.ok.blt
  above := hC
  inj := fun x y c h1 h2 => I.ok.inj x y c (cells_up S hsc I h1) (cells_up S hsc I h2)
  has := fun x hx => by
    have hk : ∃ k, (k = NameKind.cell ∨ k = .free) ∧ (relabel scope X.env).names.lookup x = some k := by
      rcases hx with z | z
      · exact ⟨_, .inl rfl, z⟩
      · exact ⟨_, .inr rfl, z⟩
    obtain ⟨k, hk, e⟩ := hk
    exact closL_has (.inr (lookup_relabel_kind e hk S.nocell))
  cab := fun x c h => by cases h
  hd := I.ok.hd
  frames := I.ok.frames
  stk := .inl rfl
  exf := fun b hb => ⟨Nat.ne_of_lt (Nat.lt_of_lt_of_le (ho b hb) hC), fun x c e => (hf b hb).2.2.2.2.1 x c (cells_up S hsc I e)⟩
  bs := I.bs
  bsz := Nat.le_trans I.ok.bsz I.sz
  noex := fun b o e hb => by
    rcases (hf b hb).2.2.2.1 with z | z
    · exact I.ok.noex b o e z
    · exact absurd (Nat.lt_of_lt_of_le (Heap.lt_size (I.ok.bs b o e).1) z) (Nat.lt_irrefl _)
  exfs := fun b hb z => by
    rcases List.mem_cons.mp (I.stkSub b z) with e | e
    · exact (hf b hb).2.1 e
    · exact (hf b hb).2.2.1 e
  funs := I.stack
  frf := I.stkFree

/-- the block's state at its entry -/
theorem comp_inv {h₁ : Heap} {m : Str → Option Value} {D : Addr} {tk : Nat} (S : CompScope sc XN scope N' t ix) (hsc : X.env.scope.names = sc.names) (hXN : X.N = XN) (I : Inv X pins σ H s) (hf : ∀ b ∈ fp, FpOk X pins H b) (ho : ∀ b ∈ fp, b < s.heap.objs.size)
    (hD : s.heap.objs.size ≤ D) (hC : s.heap.objs.size ≤ C) (hDC : C ≠ D) (keep : ∀ b o, s.heap.get? b = some o → h₁.get? b = some o) (hn : h₁.Ns C m) (hl : ∃ n, h₁.get? D = some { cls := .type "list", data := .seq ([] : List Value).toArray n }) :
    Inv (cxComp X N' scope (closL X.env.cells scope.names []) C s H fp) [] (capt t ix σ) (upd H D (.lst [])) { s with heap := h₁, toks := tk } := by
  have fD : H D = none := I.hok.fresh hD
  refine ⟨comp_ok S hsc I hf ho hC, rfl, I.bare, Un.laid keep hD fD, ⟨m, hn, fun i x v e1 e2 e3 => ?_⟩, fun x c e => ?_, ?_, fun x c e => ?_, fun p hp => absurd (show p ∈ ([] : List (Addr × Obj)) from hp) (by simp), ?_, ?_⟩
  · have e1' : N'[i]? = some x := e1
    unfold capt at e2
    by_cases hi : i < t
    · rw [List.getElem?_append_left (by simpa using hi), List.getElem?_replicate] at e2
      rw [if_pos hi] at e2
      cases e2
    · rw [List.getElem?_append_right (by simpa using hi), List.getElem?_map, List.length_replicate] at e2
      have hk : i - t < ix.length := by
        rcases Nat.lt_or_ge (i - t) ix.length with q | q
        · exact q
        · rw [List.getElem?_eq_none q] at e2; cases e2
      obtain ⟨j, y, hj, ey, hNj, hx⟩ := compAt_get S.at_ hk
      have hti : t + (i - t) = i := by omega
      rw [hti, e1'] at ey
      obtain rfl : x = y := Option.some.inj ey
      rw [hj] at e2
      have e2' : (σ[j]?).join = some v := by simpa using e2
      have e2'' : σ[j]? = some (some v) := by
        cases q : σ[j]? with
        | none => rw [q] at e2'; cases e2'
        | some o => rw [q] at e2'; simpa using e2'
      have hN : X.N[j]? = some x := by rw [hXN]; exact hNj
      have hmem : (x, NameKind.free) ∈ scope.names := PySem.mem_of_lookup hx
      have hvis0 := S.fr (x, .free) hmem rfl
      rw [← hsc] at hvis0
      have hvis : Vis X.env.scope x := .inr hvis0
      obtain ⟨mX, hnX, hlX⟩ := I.loc
      obtain ⟨u, ru, l⟩ := hlX j x v hN e2'' hvis
      refine ⟨u, ru, ?_⟩
      rcases l with ⟨lk, _⟩ | ⟨_, c, hc, z⟩
      · have lk' : X.env.scope.names.lookup x = some .local := lk
        rcases hvis0 with q | q <;> · have q' : X.env.scope.names.lookup x = _ := q; rw [lk'] at q'; cases q'
      · obtain ⟨c', hc'⟩ := closL_has (cells := X.env.cells) (names := scope.names) (acc := []) (x := x) (.inr ⟨(x, .free), hmem, rfl, rfl⟩)
        have hcc : c' = c := by
          have := cells_up S hsc I hc'
          rw [hc] at this
          exact (Option.some.inj this).symm
        subst hcc
        obtain ⟨o, eo, ed⟩ := z
        exact .inr ⟨lookup_relabel_free hx, c', hc', o, keep c' o eo, ed⟩
  · obtain ⟨v, o, eo, ed⟩ := I.cell x c (cells_up S hsc I e)
    exact ⟨v, o, keep c o eo, ed⟩
  · show upd H D (.lst []) C = none
    rw [upd_ne hDC]
    exact I.hok.fresh hC
  · have hc := cells_up S hsc I e
    obtain ⟨v, o, eo, ed⟩ := I.cell x c hc
    show upd H D (.lst []) c = none
    rw [upd_ne (Nat.ne_of_lt (Nat.lt_of_lt_of_le (Heap.lt_size eo) hD))]
    exact I.freeC x c hc
  · obtain ⟨n, el⟩ := hl
    exact I.hok.laid keep hD ⟨by simp, [], n, .nil, el⟩
  · show (capt t ix σ).length = N'.length
    unfold capt
    rw [List.length_append, List.length_replicate, List.length_map, S.len]
end

theorem codeAny_compLoop_go {prog : Program} {w : World} {A : Around} {R : Result → Shared → Prop} {s : Shared} {elt target iter : Expr} {scope : Scope} {pos : Pos} {it acc : Value} {env : Env} (I : Nat → Shared → Prop)
    (turn : ∀ n s, I n s → wpAny (model prog w) A (pyNext it) (fun r s₁ => match r with
      | none => R (.ok .next) s₁
      | some v => wpAny (model prog w) A (letOwnedTupleGo target it v) (fun _ s₂ => wpAny (model prog w) A (assign target env v) (fun _ s₃ => wpAny (model prog w) A (eval elt env) (fun x s₄ =>
          wpAny (model prog w) A (call (.builtin "list.append") [acc, x]) (fun _ s₅ => ∃ m, m < n ∧ I m s₅) (fun _ _ => False) s₄) (fun _ _ => False) s₃) (fun _ _ => False) s₂) (fun _ _ => False) s₁) (fun _ _ => False) s)
    (n : Nat) (h : I n s) : codeAny (model prog w) A (.compLoop (.ListComp elt [⟨target, iter, [], 0⟩] scope pos) 0 it acc env) R s := by
  refine codeAny_loop rfl I (fun n s hI => ?_) n h
  show wpAny _ _ ((compTurn (.ListComp elt [⟨target, iter, [], 0⟩] scope pos) 0 it acc env).onRaise (fun x => do noteFrame x env; theTreesLotGoes x)) _ _ s
  refine wpAny_noted ?_
  rw [compTurn_list1]
  refine wpAny_bind (wpAny_standAt (wpAny_bind (wpAny_mono (turn n s hI) (fun r s₁ h₁ => ?_) fun _ _ h' => False.elim h')))
  cases r with
  | none => exact wpAny_pure h₁
  | some v =>
    refine wpAny_bind (wpAny_mono h₁ (fun _ s₂ h₂ => ?_) fun _ _ h' => False.elim h')
    exact wpAny_bind (wpAny_mono h₂ (fun _ s₃ h₃ => wpAny_bind (wpAny_bind (wpAny_mono h₃ (fun x s₄ h₄ => wpAny_bind (wpAny_mono h₄
      (fun _ s₅ h₅ => wpAny_pure (wpAny_pure ⟨rfl, h₅⟩)) fun _ _ h' => False.elim h')) fun _ _ h' => False.elim h'))) fun _ _ h' => False.elim h')

/-- W: the invariant by the turn, a measure and what the list holds -/
def CompIt (J : It) (g : TG) (te : TE) (τ : St) (H1 : Hp) (Q : VK) (D : Addr) : Prop :=
  ∃ W : Nat → Nat → List V → Hp → Prop, (∃ m, W 0 m [] (upd H1 D (.lst []))) ∧ ∀ i m ys H2, W i m ys H2 → H2 D = some (.lst ys) →
    (J.stop i H2 ∧ Q (.ref D) H2) ∨ (J.go i H2 ∧ ys.length < sizeLine ∧ ∀ x H', J.yld i H2 x H' → g x τ H' fun σ3 H3 => (∀ (j : Nat) v, τ[j]? = some (some v) → σ3[j]? = some (some v)) ∧ te σ3 H3 fun y H4 => H4 D = some (.lst ys) ∧ ∃ m', m' < m ∧ W (i + 1) m' (ys ++ [y]) (upd H4 D (.lst (ys ++ [y]))))
def tComp (wi : TI) (g : TG) (te : TE) (cp : St → St) : TE := fun σ H Q => wi σ H fun J H1 => ∀ D, H1 D = none → CompIt J g te (cp σ) H1 Q D

section
variable {X : Cx} {pins : List (Addr × Obj)} {σ : St} {H : Hp} {s : Shared} {sc scope : Scope} {XN N' : List Str} {t : Nat} {ix : List Nat} {elt iter tg : Expr} {pos pc : Pos} {wi : TI} {g : TG} {te : TE}

theorem comp_run {use : Option (Value → Sem Unit)} {Q : Value → Shared → Prop} {Z : VK} (hc : X.calm = true) (S : CompScope sc XN scope N' t ix) (hsc : X.env.scope.names = sc.names) (hXN : X.N = XN)
    (hi : PI X tg iter wi) (hg : ∀ cl C s₀ H₀ fp, PG (cxComp X N' scope cl C s₀ H₀ fp) tg g) (he : ∀ cl C s₀ H₀ fp, PE (cxComp X N' scope cl C s₀ H₀ fp) elt te)
    (I : Inv X pins σ H s) (h : tComp wi g te (capt t ix) σ H Z)
    (fin : ∀ D C s' H', Inv X pins σ H' s' → Z (.ref D) H' → (∃ m, s'.heap.Ns C m) → H' C = none → C ≠ X.env.locals → X.s₀.heap.objs.size ≤ C → (∀ x c, X.env.cells.lookup x = some c → c ≠ C) → (∀ p ∈ X.pn ++ pins, p.1 ≠ C) →
      compPost (model X.prog X.w) X.A X.xe use Q (.ref D) C (.ok .next) s')
    (hs : ∀ x, foldedSetIterable iter X.env x = pure x := by intro _; rfl) :
    wpAny (model X.prog X.w) X.A (comprehension (.ListComp elt [⟨tg, iter, [], 0⟩] scope pos) scope X.env pc (newList []) false (eval iter X.env) use) Q X.xe s := by
  refine wpAny_comprehension_free (use := use) rfl hs (closureFor_eq (S.cells hsc I)) S.kind S.names ?_
  refine thn (hi pins s σ H _ I h) fun v s1 h1 => thn h1 fun itv s2 h2 => ?_
  obtain ⟨it, fp, tn, J, H2, e, I2, T, st2, f2, hD⟩ := h2
  subst e
  have ho : ∀ b ∈ fp, b < s2.heap.objs.size := fun b hb => by
    obtain ⟨o, e, _⟩ := T.obj _ _ st2 b hb
    exact Heap.lt_size e
  refine wpAny_newObj_type (wpAny_newFunctionEnv S.nocell (by intro y hy; simp at hy) (fun h₁ hns₁ hsb₁ => ?_) S.kind)
  dsimp only at hns₁ hsb₁ ⊢
  generalize hH2 : s2.heap.push { cls := .type "list", dict := none, data := .seq ([] : List Value).toArray } = HH at hns₁ hsb₁ ⊢
  have hC : HH.objs.size = s2.heap.objs.size + 1 := by rw [← hH2, Heap.size_push]
  have hDC : HH.objs.size ≠ s2.heap.objs.size := by rw [hC]; exact Nat.succ_ne_self _
  have hCle : s2.heap.objs.size ≤ HH.objs.size := by rw [hC]; exact Nat.le_succ _
  have old : ∀ b o, s2.heap.get? b = some o → h₁.get? b = some o := fun b o e =>
    hsb₁.extBut b o (by rw [hC]; exact Nat.ne_of_lt (Nat.lt_succ_of_lt (Heap.lt_size e))) (Heap.get?_push_of_some _ (hH2 ▸ Heap.get?_push_of_some _ e))
  have hacc : ∃ n, h₁.get? s2.heap.objs.size = some { cls := .type "list", data := .seq ([] : List Value).toArray n } := ⟨_, hsb₁.extBut _ _ (Ne.symm hDC) (Heap.get?_push_of_some _ (hH2 ▸ Heap.get?_push_size _ rfl))⟩
  obtain ⟨W, ⟨m0, w0⟩, turn⟩ := hD s2.heap.objs.size (I2.hok.fresh (Nat.le_refl _))
  have I4 := comp_inv (tk := s2.toks + ([] : List (Str × Value)).length) S hsc hXN I2 f2 ho (Nat.le_refl _) hCle hDC old hns₁ hacc
  have fpX : ∀ {H' : Hp}, (∀ b ∈ fp, H' b = none) → ∀ b ∈ fp, FpOk (cxComp X N' scope (closL X.env.cells scope.names []) HH.objs.size s2 H2 fp) [] H' b := fun hn b hb =>
    ⟨hn b hb, (I4.ok.exf b hb).1, I4.ok.exfs b hb, .inl hb, fun x c e => (I4.ok.exf b hb).2 x c e, fun p hp => absurd (show p ∈ ([] : List (Addr × Obj)) from hp) (by simp)⟩
  have loop : ∀ s3 : Shared, s3 = { s2 with heap := h₁, toks := s2.toks + ([] : List (Str × Value)).length } →
      codeAny (model X.prog X.w) X.A (.compLoop (.ListComp elt [⟨tg, iter, [], 0⟩] scope pos) 0 (.ref it) (.ref s2.heap.objs.size) (compEnvC scope (closL X.env.cells scope.names []) HH.objs.size X.env))
        (compPost (model X.prog X.w) X.A X.xe use Q (.ref s2.heap.objs.size) HH.objs.size) s3 := by
    rintro s3 rfl
    refine codeAny_compLoop_go (fun n s' => ∃ i ys H', Inv (cxComp X N' scope (closL X.env.cells scope.names []) HH.objs.size s2 H2 fp) [] (capt t ix σ) H' s' ∧ tn i s'.heap ∧ (∀ b ∈ fp, H' b = none) ∧ H' s2.heap.objs.size = some (.lst ys) ∧ W i n ys H') ?_ m0
      ⟨0, [], _, I4, T.keep _ _ _ st2 fun b _ o e => old b o e, fun b hb => ?_, upd_same, w0⟩
    · rintro n s3 ⟨i, ys, H3, I3, st3, fr3, hl3, w3⟩
      rcases turn i n ys H3 w3 hl3 with ⟨stop, qn⟩ | ⟨go, hsz, step⟩
      · refine thn (T.done (cxComp X N' scope (closL X.env.cells scope.names []) HH.objs.size s2 H2 fp) rfl rfl rfl hc i [] s3 (capt t ix σ) H3 _ I3 (fpX fr3) st3 stop) fun r s4 ⟨hr, I4'⟩ => ?_
        subst hr
        have IX : Inv X pins σ H3 s4 := I2.call' (ch := fp) I4'.os I4'.base I4'.hok I4'.bare fun b hb => ⟨(f2 b hb).2.2.2.1, (f2 b hb).2.1, (f2 b hb).2.2.2.2.1, (f2 b hb).2.2.2.2.2⟩
        obtain ⟨mC, hnC, _⟩ := I4'.loc
        refine fin _ _ _ _ IX qn ⟨mC, hnC⟩ I4'.free (Nat.ne_of_gt (Nat.lt_of_lt_of_le I2.lt hCle)) (Nat.le_trans I2.sz hCle) (fun x c e z => ?_) fun p hp z => ?_
        · obtain ⟨vc, oc, eo, _⟩ := I2.cell x c e
          exact absurd (Nat.lt_of_lt_of_le (Heap.lt_size eo) hCle) (by rw [z]; exact Nat.lt_irrefl _)
        · exact absurd (Nat.lt_of_lt_of_le (Heap.lt_size (I2.pin p hp).1) hCle) (by rw [z]; exact Nat.lt_irrefl _)
      · refine thn (T.item (cxComp X N' scope (closL X.env.cells scope.names []) HH.objs.size s2 H2 fp) rfl rfl rfl hc i [] s3 (capt t ix σ) H3 _ I3 (fpX fr3) st3 go) fun r s4 ⟨u, hr, h4⟩ => ?_
        subst hr
        refine thn h4 fun _ s5 ⟨x, H5, I5, r5, y5, st5, fr5⟩ => ?_
        have I5' := I5.pinned (fpX fr5) (T.obj _ _ st5)
        refine thn (hg _ _ _ _ _ _ s5 (capt t ix σ) H5 x u _ I5' r5 (step x H5 y5)) fun _ s6 ⟨σ6, H6, I6, k6, q6⟩ => ?_
        refine thn (he _ _ _ _ _ _ s6 σ6 H6 _ I6 q6) fun yv s7 ⟨y, H7, I7, r7, q7⟩ => ?_
        obtain ⟨hl7, m', hm, w7⟩ := q7
        have app := mt_append (X := cxComp X N' scope (closL X.env.cells scope.names []) HH.objs.size s2 H2 fp) _ s7 σ6 H7 (.ref s2.heap.objs.size) [y] (.ref s2.heap.objs.size) [yv]
          (fun _ H8 => H8 = upd H7 s2.heap.objs.size (.lst (ys ++ [y]))) I7 rfl (.cons r7 .nil) ⟨_, ys, y, rfl, rfl, hl7, hsz, rfl⟩
        refine thn app fun _ s8 ⟨v8, H8, I8, _, e8⟩ => ?_
        subst e8
        have I9 := I8.weak (σ' := capt t ix σ) (by rw [I8.len, I4.len]) k6
        · refine ⟨m', hm, i + 1, ys ++ [y], _, I9.unpinned, T.keep _ _ _ st5 fun b hb o e => (I9.pin (b, o) (List.mem_append_right _ (List.mem_append_right _ (mem_pinsAt hb e)))).1, fun b hb => ?_, upd_same, w7⟩
          obtain ⟨o, e, d⟩ := T.obj _ _ st5 b hb
          exact (I9.pin (b, o) (List.mem_append_right _ (List.mem_append_right _ (mem_pinsAt hb e)))).2.1
    · rw [upd_ne (Nat.ne_of_lt (ho b hb))]
      exact (f2 b hb).1
  exact codeAny_compStart_list (loop _ rfl) (T.self _ 0 _ _ _ (T.keep _ _ _ st2 fun b _ o e => old b o e) (loop _ rfl))
end
end L2

end
noncomputable section
namespace L2
open PySem PySem.Spec PyProof.Rows
section
variable {X : Cx} {sc scope : Scope} {XN N' : List Str} {t : Nat} {ix : List Nat} {elt iter tg : Expr} {pos pc : Pos} {wi : TI} {g : TG} {te : TE}

/-- [elt for tg in iter] -/
theorem pe_comp (hc : X.calm = true) (S : CompScope sc XN scope N' t ix) (hsc : X.env.scope.names = sc.names) (hXN : X.N = XN)
    (hi : PI X tg iter wi) (hg : ∀ cl C s₀ H₀ fp, PG (cxComp X N' scope cl C s₀ H₀ fp) tg g) (he : ∀ cl C s₀ H₀ fp, PE (cxComp X N' scope cl C s₀ H₀ fp) elt te)
    (hs : ∀ x, foldedSetIterable iter X.env x = pure x := by intro _; rfl) : PE X (.ListComp elt [⟨tg, iter, [], 0⟩] scope pos) (tComp wi g te (capt t ix)) := by
  intro pins s σ H Q I h
  rw [eval_ListComp]
  refine comp_run (use := none) (Z := Q) hc S hsc hXN hi hg he I h (fun D C s' H' I' q hn hf hL hz hcl hp => ?_) hs
  obtain ⟨m, hn⟩ := hn
  refine ⟨m, hn, fun h' hb => ⟨.ref D, H', ?_, rfl, q⟩⟩
  exact I'.turned (it := C) (t' := s'.toks) (fun b o hbc e => (hb.2 b hbc).trans e) hf hL (.inr hz) hcl hp

/-- name = [elt for tg in iter], the name a plain local: the store comes ahead of the block's end -/
def tSetComp (i : Nat) (tc : TE) : TS := fun D σ H => tc σ H fun v H1 => D.nx (σ.set i (some v)) H1
theorem ps_setComp {i : Nat} {x : Str} {px : Pos} (hc : X.calm = true) (S : CompScope sc XN scope N' t ix) (hsc : X.env.scope.names = sc.names) (hXN : X.N = XN) (hN : X.N.Nodup) (hi' : X.N[i]? = some x) (hx : X.env.scope.names.lookup x = some .local)
    (hi : PI X tg iter wi) (hg : ∀ cl C s₀ H₀ fp, PG (cxComp X N' scope cl C s₀ H₀ fp) tg g) (he : ∀ cl C s₀ H₀ fp, PE (cxComp X N' scope cl C s₀ H₀ fp) elt te)
    (hsw : swapsWith (.ListComp elt [⟨tg, iter, [], 0⟩] scope pos) (some (.Name x px)) pc.line X.env = pure true)
    (hs : ∀ x, foldedSetIterable iter X.env x = pure x := by intro _; rfl) : PS X (.Assign [.Name x px] (.ListComp elt [⟨tg, iter, [], 0⟩] scope pos) pc) (tSetComp i (tComp wi g te (capt t ix))) := by
  intro pins s σ H D I h
  rw [exec_Assign_Name_used _ _ _ _ hsw]
  refine wpAny_bind (wpAny_standAt (wpAny_bind ?_))
  show wpAny _ X.A (do let _ ← comprehension (.ListComp elt [⟨tg, iter, [], 0⟩] scope pos) scope X.env _ (newList []) false (eval iter X.env) (some (assign (.Name x px) X.env))) _ _ s
  refine wpAny_bind (wpAny_mono (comp_run (use := some (assign (.Name x px) X.env)) (Q := fun _ s' => SP X pins D .next s') (Z := fun v H1 => D.nx (σ.set i (some v)) H1) hc S hsc hXN hi hg he I h (fun Dd C s' H' I' q hn hf hL hz hcl hp => ?_) hs)
    (fun _ s' hq => wpAny_pure (wpAny_pure hq)) fun _ _ e => e)
  obtain ⟨m, hn⟩ := hn
  show wpAny _ X.A (assign (.Name x px) X.env (.ref Dd)) _ _ _
  refine wpAny_assign_Name (store_ok2 I' hN hi' (.inl hx) (v := .ref Dd) rfl (fun s'' I'' ⟨a, sb, ha⟩ => ?_) (.inr hx))
  have hne : C ≠ a := by
    rcases ha with z | z
    · rw [z]; exact hL
    · exact fun e => hcl x a z e.symm
  refine ⟨m, hn.sameBut sb hne, fun h' hb => ⟨_, H', ?_, q⟩⟩
  exact I''.turned (it := C) (t' := s''.toks) (fun b o hbc e => (hb.2 b hbc).trans e) hf hL (.inr hz) hcl hp
end

/-! ### the forms one uses: the elements change nothing that was tracked -/
theorem Same.upd {H H' : Hp} {a : Addr} {o : HO} (e : Same H H') (h : H a = none) : Same H (upd H' a o) := fun b u q => by
  rw [upd_ne (ne_of_none q h)]; exact e b u q
theorem same_upd {H : Hp} {a : Addr} {o : HO} (h : H a = none) : Same H (L2.upd H a o) := Same.upd (Same.refl H) h
theorem Same.sqT {K : PySem.W.Frag} {H H' : Hp} {a : Addr} {xs : List V} (e : Same H H') (h : SqT K H a xs) : SqT K H' a xs := by
  rcases h with (h | ⟨o, h⟩) | h
  · exact .inl (.inl (e _ _ h))
  · exact .inl (.inr ⟨o, e _ _ h⟩)
  · exact .inr h
theorem capt_set {t : Nat} {ix : List Nat} {σ : St} {i : Nat} {v : V} (hi : i < t) : ∀ (j : Nat) w, (capt t ix σ)[j]? = some (some w) → ((capt t ix σ).set i (some v))[j]? = some (some w) := fun j w e => by
  by_cases hj : j < t
  · unfold capt at e
    rw [List.getElem?_append_left (by simpa using hj), List.getElem?_replicate, if_pos hj] at e
    cases e
  · rw [List.getElem?_set_ne (by omega)]; exact e
theorem capt_set2 {t : Nat} {ix : List Nat} {σ : St} {i k : Nat} {v u : V} (hi : i < t) (hk : k < t) : ∀ (j : Nat) w, (capt t ix σ)[j]? = some (some w) → (((capt t ix σ).set i (some v)).set k (some u))[j]? = some (some w) := fun j w e => by
  by_cases hj : j < t
  · unfold capt at e
    rw [List.getElem?_append_left (by simpa using hj), List.getElem?_replicate, if_pos hj] at e
    cases e
  · rw [List.getElem?_set_ne (by omega), List.getElem?_set_ne (by omega)]; exact e

section
variable {te : TE} {t : Nat} {ix : List Nat} {σ : St} {H1 : Hp} {Q : VK} {D : Addr}
/-- over a range: the k-th element is f k -/
theorem comp_range {lo : Int} {n : Nat} (f : Nat → V) (hn : n ≤ sizeLine) (ht : 0 < t) (hD : H1 D = none)
    (hs : ∀ (k : Nat) (H2 : Hp) (Z : VK), k < n → Same H1 H2 → (∀ H3, Same H2 H3 → Z (f k) H3) → te ((capt t ix σ).set 0 (some (.int (lo + k)))) H2 Z)
    (hq : ∀ H', Same H1 H' → H' D = some (.lst ((List.range n).map f)) → Q (.ref D) H') :
    CompIt (Itr lo n) (gName 0) te (capt t ix σ) H1 Q D := by
  refine ⟨fun i m ys H2 => m = n - i ∧ i ≤ n ∧ ys = (List.range i).map f ∧ Same H1 H2, ⟨n, by simp, Nat.zero_le _, rfl, same_upd hD⟩, ?_⟩
  rintro i m ys H2 ⟨rfl, hi, rfl, sm⟩ hl
  by_cases hlt : i < n
  · refine .inr ⟨hlt, by simp; omega, fun x H' y => ?_⟩
    obtain ⟨e, y⟩ := y
    subst e y
    refine ⟨capt_set ht, hs i _ _ hlt sm fun H4 s4 => ⟨s4 _ _ hl, n - (i + 1), by omega, rfl, hlt, ?_, (sm.trans s4).upd hD⟩⟩
    rw [List.range_succ, List.map_append]; rfl
  · have e : i = n := by omega
    subst e
    exact .inl ⟨Nat.le_refl _, hq _ sm hl⟩
/-- over a list that stays: the element of x is f x -/
theorem comp_list {K : PySem.W.Frag} {a : Addr} {xs : List V} (f : V → V) (hn : xs.length ≤ sizeLine) (ht : 0 < t) (hD : H1 D = none) (ha : SqL K H1 a xs)
    (hs : ∀ (k : Nat) (x : V) (H2 : Hp) (Z : VK), xs[k]? = some x → Same H1 H2 → (∀ H3, Same H2 H3 → Z (f x) H3) → te ((capt t ix σ).set 0 (some x)) H2 Z)
    (hq : ∀ H', Same H1 H' → H' D = some (.lst (xs.map f)) → Q (.ref D) H') :
    CompIt (Itl K a) (gName 0) te (capt t ix σ) H1 Q D := by
  refine ⟨fun i m ys H2 => m = xs.length - i ∧ i ≤ xs.length ∧ ys = (xs.take i).map f ∧ Same H1 H2, ⟨xs.length, by simp, Nat.zero_le _, by simp, same_upd hD⟩, ?_⟩
  rintro i m ys H2 ⟨rfl, hi, rfl, sm⟩ hl
  have q := sm.seq ha
  by_cases hlt : i < xs.length
  · refine .inr ⟨⟨xs, xs[i], q, by simp [hlt]⟩, by simp; omega, fun x H' y => ?_⟩
    obtain ⟨e, y⟩ := y
    subst e
    have hx := y xs q
    refine ⟨capt_set ht, hs i x _ _ hx sm fun H4 s4 => ⟨s4 _ _ hl, xs.length - (i + 1), by omega, rfl, hlt, ?_, (sm.trans s4).upd hD⟩⟩
    rw [List.take_add_one, List.map_append, hx]; rfl
  · have e : i = xs.length := by omega
    subst e
    exact .inl ⟨⟨xs, q, Nat.le_refl _⟩, hq _ sm (by rw [hl]; simp)⟩
/-- over a tuple that stays -/
theorem comp_tup {K : PySem.W.Frag} {a : Addr} {xs : List V} (f : V → V) (hn : xs.length ≤ sizeLine) (ht : 0 < t) (hD : H1 D = none) (ha : SqT K H1 a xs)
    (hs : ∀ (k : Nat) (x : V) (H2 : Hp) (Z : VK), xs[k]? = some x → Same H1 H2 → (∀ H3, Same H2 H3 → Z (f x) H3) → te ((capt t ix σ).set 0 (some x)) H2 Z)
    (hq : ∀ H', Same H1 H' → H' D = some (.lst (xs.map f)) → Q (.ref D) H') :
    CompIt (Itt K a) (gName 0) te (capt t ix σ) H1 Q D := by
  refine ⟨fun i m ys H2 => m = xs.length - i ∧ i ≤ xs.length ∧ ys = (xs.take i).map f ∧ Same H1 H2, ⟨xs.length, by simp, Nat.zero_le _, by simp, same_upd hD⟩, ?_⟩
  rintro i m ys H2 ⟨rfl, hi, rfl, sm⟩ hl
  have q := sm.sqT ha
  by_cases hlt : i < xs.length
  · refine .inr ⟨⟨xs, xs[i], q, by simp [hlt]⟩, by simp; omega, fun x H' y => ?_⟩
    obtain ⟨e, y⟩ := y
    subst e
    have hx := y xs q
    refine ⟨capt_set ht, hs i x _ _ hx sm fun H4 s4 => ⟨s4 _ _ hl, xs.length - (i + 1), by omega, rfl, hlt, ?_, (sm.trans s4).upd hD⟩⟩
    rw [List.take_add_one, List.map_append, hx]; rfl
  · have e : i = xs.length := by omega
    subst e
    exact .inl ⟨⟨xs, q, Nat.le_refl _⟩, hq _ sm (by rw [hl]; simp)⟩
end
end L2

end
noncomputable section
namespace L2
open PySem PySem.Spec PyProof.Rows

/-! ### several records of ours have turned; one new thing is tracked -/
section
variable {X : Cx} {pins : List (Addr × Obj)} {σ : St} {H : Hp} {s : Shared} {h' : Heap} {ch : List Addr}
theorem Inv.turnedL {t' : Nat} (I : Inv X pins σ H s) (k : ∀ b o, b ∉ ch → s.heap.get? b = some o → h'.get? b = some o) (hf : ∀ b ∈ ch, FpOk X pins H b) : Inv X pins σ H { s with heap := h', toks := t' } := by
  have nit : ∀ b u, H b = some u → b ∉ ch := fun b u e z => by rw [(hf b z).1] at e; cases e
  refine I.step (g' := s.gens) (d' := s.drawn) (ch := ch) (fun b hb => ⟨(hf b hb).2.2.2.1, (hf b hb).2.1, (hf b hb).2.2.2.2.1, (hf b hb).2.2.2.2.2⟩) (fun b o _ _ hc e _ => k b o hc e) (fun b o _ _ hc e _ => ⟨o.slots, k b o hc e⟩) (fun _ _ _ _ n => n)
    (fun b o hc e => ⟨o, k b o hc e⟩) (fun _ _ e => e) (fun _ _ _ e => e) (fun b ps e => ⟨#[], by rw [e]; simp⟩) (fun m hm => ?_) (fun b u e => ?_) I.bare
  · obtain ⟨o, es, ep, ho, r⟩ := hm
    exact ⟨o, es, ep, k _ o (fun z => (hf _ z).2.1 rfl) ho, r⟩
  · refine (I.hok b u e).stay (fun c v hc q => k c v ?_ q) (fun _ q => q) fun _ _ q => q
    rcases hc with z | z
    · rw [z]; exact nit b u e
    · exact nit c _ z
theorem Inv.turnedNew {t' : Nat} {a : Addr} {ob : HO} (I : Inv X pins σ H s) (k : ∀ b o, b ∉ ch → s.heap.get? b = some o → h'.get? b = some o) (hf : ∀ b ∈ ch, FpOk X pins H b) (ha : s.heap.objs.size ≤ a) (new : ObjOk X.prog X.w (upd H a ob) h' a ob) :
    Inv X pins σ (upd H a ob) { s with heap := h', toks := t' } := by
  have hn : H a = none := I.hok.fresh ha
  have nit : ∀ b u, H b = some u → b ∉ ch := fun b u e z => by rw [(hf b z).1] at e; cases e
  refine I.step (g' := s.gens) (d' := s.drawn) (ch := ch) (fun b hb => ⟨(hf b hb).2.2.2.1, (hf b hb).2.1, (hf b hb).2.2.2.2.1, (hf b hb).2.2.2.2.2⟩) (fun b o _ _ hc e _ => k b o hc e) (fun b o _ _ hc e _ => ⟨o.slots, k b o hc e⟩)
    (fun b o _ e n => by rw [upd_ne (Nat.ne_of_lt (Nat.lt_of_lt_of_le (Heap.lt_size e) ha))]; exact n)
    (fun b o hc e => ⟨o, k b o hc e⟩) (fun b xs e => by rw [upd_ne (ne_of_none e hn)]; exact e) (fun b o u e => by rw [upd_ne (ne_of_none e hn)]; exact e) (fun b ps e => ⟨#[], by rw [upd_ne (ne_of_none e hn), e]; simp⟩) (fun m hm => ?_) (fun b u e => ?_) I.bare
  · obtain ⟨o, es, ep, ho, r⟩ := hm
    exact ⟨o, es, ep, k _ o (fun z => (hf _ z).2.1 rfl) ho, r⟩
  · by_cases hb : b = a
    · subst hb; rw [upd_same] at e; cases e; exact new
    · rw [upd_ne hb] at e
      refine (I.hok b u e).stay (fun c v hc q => k c v ?_ q) (fun c q => by rw [upd_ne (ne_of_none q hn)]; exact q) fun c xs q => by rw [upd_ne (ne_of_none q hn)]; exact q
      rcases hc with z | z
      · rw [z]; exact nit b u e
      · exact nit c _ z
end

/-! ### zip of two lists -/
def Itz (K : PySem.W.Frag) (a b : Addr) : It :=
  ⟨fun i H => ∃ xs ys x y, SqL K H a xs ∧ SqL K H b ys ∧ xs[i]? = some x ∧ ys[i]? = some y,
   fun i H v H' => ∃ T x y, v = .ref T ∧ H T = none ∧ H' = upd H T (.tup [x, y]) ∧ (∀ xs, SqL K H a xs → xs[i]? = some x) ∧ ∀ ys, SqL K H b ys → ys[i]? = some y,
   fun i H => ∃ xs ys, SqL K H a xs ∧ SqL K H b ys ∧ (xs.length ≤ i ∨ ys.length ≤ i)⟩
theorem tyne {a b : String} (h : a ≠ b) : Value.type a ≠ Value.type b := fun e => h (by injection e)
theorem zip_apart {h : Heap} {z TI TO i1 i2 l1 l2 : Addr} {f0 a b : Value} {k1 k2 : Nat} {xs ys : Array Value} (hz : IsZip h z TI TO f0) (hTI : IsPair h TI (.ref i1) (.ref i2)) (hTO : IsPair h TO a b) (h1 : h.IsListIter i1 l1 k1) (h2 : h.IsListIter i2 l2 k2)
    (p1 : h.IsList l1 xs) (p2 : h.IsList l2 ys) (n1 : TI ≠ TO) (n2 : i1 ≠ i2) : ZipApart z TI TO i1 i2 l1 l2 := by
  have cls : ∀ {b c : Addr} {o u : Obj}, h.get? b = some o → h.get? c = some u → o.cls ≠ u.cls → b ≠ c := fun {b c o u} e e' d z => by
    subst z; rw [e] at e'; cases e'; exact d rfl
  obtain ⟨o1, e1, c1, _⟩ := h1
  obtain ⟨o2, e2, c2, _⟩ := h2
  obtain ⟨q1, f1, d1, _⟩ := p1
  obtain ⟨q2, f2, d2, _⟩ := p2
  have ne1 : Value.type "tuple" ≠ Value.type "zip" := tyne (by decide)
  have ne2 : Value.type "list_iterator" ≠ Value.type "zip" := tyne (by decide)
  have ne3 : Value.type "tuple" ≠ Value.type "list_iterator" := tyne (by decide)
  have ne4 : Value.type "list" ≠ Value.type "zip" := tyne (by decide)
  have ne5 : Value.type "list" ≠ Value.type "tuple" := tyne (by decide)
  have ne6 : Value.type "list" ≠ Value.type "list_iterator" := tyne (by decide)
  refine ⟨cls hTI hz ne1, cls hTO hz ne1, cls e1 hz (by rw [c1]; exact ne2), cls e2 hz (by rw [c2]; exact ne2), n1, cls hTI e1 (by rw [c1]; exact ne3), cls hTI e2 (by rw [c2]; exact ne3), cls hTO e1 (by rw [c1]; exact ne3), cls hTO e2 (by rw [c2]; exact ne3), n2,
    cls f1 hz (by rw [d1]; exact ne4), cls f1 hTO (by rw [d1]; exact ne5), cls f1 e1 (by rw [d1, c1]; exact ne6), cls f1 e2 (by rw [d1, c2]; exact ne6), cls f2 hz (by rw [d2]; exact ne4), cls f2 hTO (by rw [d2]; exact ne5), cls f2 e1 (by rw [d2, c1]; exact ne6), cls f2 e2 (by rw [d2, c2]; exact ne6)⟩
theorem turn_zip {P : Program} {w : World} {K : PySem.W.Frag} {elts : List Expr} {kt : Nat} {pt : Pos} (a b z TI TO i1 i2 : Addr) (n1 : TI ≠ TO) (n2 : i1 ≠ i2) : Turn P w K (.Tuple elts kt pt) (Itz K a b) [z, TI, TO, i1, i2] z
    (fun i h => IsZip h z TI TO .none ∧ IsPair h TI (.ref i1) (.ref i2) ∧ (∃ u v, IsPair h TO u v) ∧ h.IsListIter i1 a i ∧ h.IsListIter i2 b i) where
  mem := by simp
  obj := fun i h st c hc => by
    obtain ⟨hz, hTI, ⟨u, v, hTO⟩, ⟨o1, e1, _, d1⟩, ⟨o2, e2, _, d2⟩⟩ := st
    simp only [List.mem_cons, List.not_mem_nil, or_false] at hc
    rcases hc with rfl | rfl | rfl | rfl | rfl
    · exact ⟨_, hz, fun v z => by cases z⟩
    · exact ⟨_, hTI, fun v z => by cases z⟩
    · exact ⟨_, hTO, fun v z => by cases z⟩
    · exact ⟨_, e1, fun v z => by rw [d1] at z; cases z⟩
    · exact ⟨_, e2, fun v z => by rw [d2] at z; cases z⟩
  keep := fun i h h' st k => by
    obtain ⟨hz, hTI, ⟨u, v, hTO⟩, h1, h2⟩ := st
    exact ⟨k z (by simp) _ hz, k TI (by simp) _ hTI, ⟨u, v, k TO (by simp) _ hTO⟩, h1.at fun o e => k i1 (by simp) o e, h2.at fun o e => k i2 (by simp) o e⟩
  item := by
    intro X hP hw hK hc i pins s σ H E I hf st hg
    subst hP hw hK
    obtain ⟨hz, hTI, ⟨u, v, hTO⟩, h1, h2⟩ := st
    obtain ⟨xs, ys, x, y, hq1, hq2, hx, hy⟩ := hg
    obtain ⟨its1, r1, p1, _⟩ := I.list hq1
    obtain ⟨its2, r2, p2, _⟩ := I.list hq2
    obtain ⟨u1, e1, ru1⟩ := r1.get hx
    obtain ⟨u2, e2, ru2⟩ := r2.get hy
    have D := zip_apart hz hTI hTO h1 h2 p1.isList p2.isList n1 n2
    refine wpAny_pyNext_zip_item D hz hTI hTO h1 h2 p1.isList p2.isList (x := u1) (y := u2) (by simpa using e1) (by simpa using e2) fun h' b1 b2 b3 b4 b5 b6 hk => ?_
    refine ⟨_, rfl, wpAny_letOwnedTupleGo_zip b1 fun h'' hz'' hs'' => ?_⟩
    have zT : s.heap.objs.size ≠ z := Nat.ne_of_gt (Heap.lt_size hz)
    have T2 : h''.get? s.heap.objs.size = some { cls := .type "tuple", data := .seq #[u1, u2] } := hs''.extBut _ _ zT b5
    have kk : ∀ c o, c ∉ [z, TI, TO, i1, i2] → s.heap.get? c = some o → h''.get? c = some o := fun c o hc e =>
      hs''.extBut _ _ (fun q => hc (by simp [q])) (hk c o (fun q => hc (by simp [q])) (fun q => hc (by simp [q])) (fun q => hc (by simp [q])) (fun q => hc (by simp [q])) e)
    have I' : Inv X pins σ (upd H s.heap.objs.size (.tup [x, y])) { s with heap := h'' } := I.turnedNew (t' := s.toks) (ch := [z, TI, TO, i1, i2]) kk hf (Nat.le_refl _)
      ⟨by show 2 ≤ sizeLine; decide, [u1, u2], .cons ru1 (.cons ru2 .nil), _, T2, rfl, _, rfl⟩
    have fT : H s.heap.objs.size = none := I.hok.fresh (Nat.le_refl _)
    refine ⟨.ref s.heap.objs.size, _, I', rfl, ⟨_, x, y, rfl, fT, rfl, fun xs' q => by rw [I.list_inj q hq1]; exact hx, fun ys' q => by rw [I.list_inj q hq2]; exact hy⟩,
      ⟨hz'', hs''.extBut _ _ D.TIz (hk _ _ D.TIz D.TITO D.TIi1 D.TIi2 hTI), ⟨_, _, hs''.extBut _ _ D.TOz b2⟩, b3.extBut hs''.extBut D.i1z, b4.extBut hs''.extBut D.i2z⟩, fun c hc' => ?_⟩
    rw [upd_ne (fun q => ?_)]
    · exact (hf c hc').1
    · subst q
      obtain ⟨o1, g1, _⟩ := h1
      obtain ⟨o2, g2, _⟩ := h2
      simp only [List.mem_cons, List.not_mem_nil, or_false] at hc'
      rcases hc' with q | q | q | q | q
      · exact absurd (Heap.lt_size hz) (by rw [← q]; exact Nat.lt_irrefl _)
      · exact absurd (Heap.lt_size hTI) (by rw [← q]; exact Nat.lt_irrefl _)
      · exact absurd (Heap.lt_size hTO) (by rw [← q]; exact Nat.lt_irrefl _)
      · exact absurd (Heap.lt_size g1) (by rw [← q]; exact Nat.lt_irrefl _)
      · exact absurd (Heap.lt_size g2) (by rw [← q]; exact Nat.lt_irrefl _)
  done := by
    intro X hP hw hK hc i pins s σ H E I hf st hg
    subst hP hw hK
    obtain ⟨hz, hTI, ⟨u, v, hTO⟩, h1, h2⟩ := st
    obtain ⟨xs, ys, hq1, hq2, hend⟩ := hg
    obtain ⟨its1, r1, p1, _⟩ := I.list hq1
    obtain ⟨its2, r2, p2, _⟩ := I.list hq2
    have D := zip_apart hz hTI hTO h1 h2 p1.isList p2.isList n1 n2
    have l1 := r1.length
    have l2 := r2.length
    refine wpAny_pyNext_zip_end (I.ok.hd hc) D hz hTI hTO h1 h2 p1.isList p2.isList ?_ fun h' hk => ⟨rfl, I.turnedL (t' := s.toks) (ch := [z, TI, TO, i1, i2]) (fun c o hc e => hk c o (fun q => hc (by simp [q])) (fun q => hc (by simp [q])) (fun q => hc (by simp [q])) (fun q => hc (by simp [q])) e) hf⟩
    rcases hend with q | q
    · exact .inl (by simp; omega)
    · exact .inr (by simp; omega)
  self := fun _ _ _ _ _ st h => wpAny_pyIter_zip st.1 h
def iZip (K : PySem.W.Frag) (ta : TA) : TI := fun σ H R => ta σ H fun vs H1 => ∃ a b, vs = [.ref a, .ref b] ∧ (∃ xs, SqL K H1 a xs) ∧ (∃ ys, SqL K H1 b ys) ∧ R (Itz K a b) H1
theorem boot_zip : bootBuiltins "zip" = some (.type "zip") := by decide +kernel
theorem pi_zip {X : Cx} {elts : List Expr} {kt : Nat} {pt p pos : Pos} {a b : Expr} {ta : TA} (hg : Gl X "zip") (hm : X.mg "zip" = none) (ha : PA X [a, b] ta)
    (hs : starEach [a, b] X.env = [(false, eval a X.env), (false, eval b X.env)] := by rfl) (hs2 : starEach [b] X.env = [(false, eval b X.env)] := by rfl) :
    PI X (.Tuple elts kt pt) (.Call (.Name "zip" p) [a, b] [] pos) (iZip X.K ta) := by
  intro pins s σ H R I h
  refine Call_ (ld_blt I hg hm boot_zip (PyProof.Rows.callWith_type1 (thn (ha pos pins s σ H _ I h) fun us s1 ⟨vs, H1, I1, r1, q1⟩ => ?_) (by rw [hs, hs2]) (by rw [hs2]; rfl)))
  obtain ⟨a, b, e, ⟨xs, hx⟩, ⟨ys, hy⟩, q⟩ := q1
  subst e
  obtain ⟨u, v, rfl, ru, rv⟩ := r1.two
  cases ru
  cases rv
  obtain ⟨its1, _, p1, _⟩ := I1.list hx
  obtain ⟨its2, _, p2, _⟩ := I1.list hy
  refine call_zip_2 p1.isList p2.isList fun h' b1 b2 b3 b4 b5 b6 hk => ?_
  refine wpAny_pyIter_zip b1 ?_
  have I2 : Inv X pins σ H1 { s1 with heap := h' } := I1.kept (t' := s1.toks) hk
  refine ⟨_, _, _, _, H1, rfl, I2, turn_zip a b (s1.heap.objs.size + 4) (s1.heap.objs.size + 2) (s1.heap.objs.size + 3) s1.heap.objs.size (s1.heap.objs.size + 1) (Nat.ne_of_lt (Nat.lt_succ_self _)) (Nat.ne_of_lt (Nat.lt_succ_self _)), ⟨b1, b2, ⟨_, _, b3⟩, b4, b5⟩, fun c hc => ?_, q⟩
  have hle : s1.heap.objs.size ≤ c := by
    simp only [List.mem_cons, List.not_mem_nil, or_false] at hc
    rcases hc with rfl | rfl | rfl | rfl | rfl
    · exact Nat.le_add_right _ _
    · exact Nat.le_add_right _ _
    · exact Nat.le_add_right _ _
    · exact Nat.le_refl _
    · exact Nat.le_add_right _ _
  exact I1.fpOk hle (I1.hok.fresh hle)
theorem comp_zip {te : TE} {t : Nat} {ix : List Nat} {σ : St} {H1 : Hp} {Q : VK} {D : Addr} {K : PySem.W.Frag} {a b : Addr} {xs ys : List V} (f : V → V → V) (hn : xs.length ≤ sizeLine) (ht : 1 < t) (hD : H1 D = none) (ha : SqL K H1 a xs) (hb : SqL K H1 b ys)
    (hs : ∀ (k : Nat) (x y : V) (H2 : Hp) (Z : VK), xs[k]? = some x → ys[k]? = some y → Same H1 H2 → (∀ H3, Same H2 H3 → Z (f x y) H3) → te (((capt t ix σ).set 0 (some x)).set 1 (some y)) H2 Z)
    (hq : ∀ H', Same H1 H' → H' D = some (.lst (List.zipWith f xs ys)) → Q (.ref D) H') :
    CompIt (Itz K a b) (gTup K 2 (gCons (gName 0) (gCons (gName 1) gNil))) te (capt t ix σ) H1 Q D := by
  refine ⟨fun i m zs H2 => m = min xs.length ys.length - i ∧ i ≤ min xs.length ys.length ∧ zs = (List.zipWith f xs ys).take i ∧ Same H1 H2, ⟨_, rfl, Nat.zero_le _, by simp, same_upd hD⟩, ?_⟩
  rintro i m zs H2 ⟨rfl, hi, rfl, sm⟩ hl
  have qa := sm.seq ha
  have qb := sm.seq hb
  by_cases hlt : i < min xs.length ys.length
  · have hx : xs[i]? = some (xs[i]'(by omega)) := by rw [List.getElem?_eq_getElem]
    have hy : ys[i]? = some (ys[i]'(by omega)) := by rw [List.getElem?_eq_getElem]
    refine .inr ⟨⟨xs, ys, _, _, qa, qb, hx, hy⟩, by simp; omega, fun v H' y => ?_⟩
    obtain ⟨T, x, y, e1, e2, e3, y1, y2⟩ := y
    subst e1 e3
    have hx' := y1 xs qa
    have hy' := y2 ys qb
    refine ⟨T, [x, y], rfl, SqT.of upd_same, rfl, x, [y], rfl, y, [], rfl, rfl, ?_⟩
    refine ⟨capt_set2 (by omega) ht, hs i x y _ _ hx' hy' (sm.upd (sm.free e2)) fun H4 s4 => ⟨s4 _ _ ?_, min xs.length ys.length - (i + 1), by omega, rfl, hlt, ?_, ?_⟩⟩
    · rw [upd_ne (ne_of_none hl e2)]; exact hl
    · rw [List.take_add_one, List.getElem?_zipWith, hx', hy']; rfl
    · exact ((sm.upd (sm.free e2)).trans s4).upd hD
  · have e : i = min xs.length ys.length := by omega
    subst e
    refine .inl ⟨⟨xs, ys, qa, qb, by omega⟩, hq _ sm ?_⟩
    rw [hl, List.take_of_length_le (by simp)]

/-! ### sum, all, any, max, min of a list -/
theorem preSum_list (ns : List Int) : ∀ k, preSum (fun i => ns.getD i 0) k = (ns.take k).sum
  | 0 => by simp [preSum]
  | k + 1 => by rw [preSum, preSum_list ns k, PySem.sum_take_succ]
theorem vals_int_at {ns : List Int} {us : List Value} (r : Vals (ns.map V.int) us) {i : Nat} {v : Value} (e : us[i]? = some v) : ∃ t, v = .int (ns.getD i 0) t := by
  have hl := r.length
  rw [List.length_map] at hl
  have hi : i < ns.length := by
    have := (List.getElem?_eq_some_iff.mp e).1
    omega
  obtain ⟨u, e', ru⟩ := r.get (i := i) (x := .int (ns[i])) (by simp [hi])
  rw [e] at e'; cases e'
  obtain ⟨t, rfl⟩ := ru
  exact ⟨t, by simp [List.getD, hi]⟩
theorem vals_bool_at {bs : List Bool} {us : List Value} (r : Vals (bs.map V.bl) us) {i : Nat} {v : Value} (e : us[i]? = some v) : v = .bool (bs.getD i false) := by
  have hl := r.length
  rw [List.length_map] at hl
  have hi : i < bs.length := by
    have := (List.getElem?_eq_some_iff.mp e).1
    omega
  obtain ⟨u, e', ru⟩ := r.get (i := i) (x := .bl (bs[i])) (by simp [hi])
  rw [e] at e'; cases e'
  have ru' : v = Value.bool bs[i] := ru
  rw [ru']; simp [List.getD, hi]
theorem range_all (bs : List Bool) : (List.range bs.length).all (fun i => bs.getD i false) = bs.all id := by
  rw [Bool.eq_iff_iff, List.all_eq_true, List.all_eq_true]
  constructor
  · intro h b hb
    obtain ⟨i, hi, e⟩ := List.mem_iff_getElem.mp hb
    have := h i (List.mem_range.mpr hi)
    simp [List.getD, hi, e] at this
    exact this
  · intro h i hi
    have hi' := List.mem_range.mp hi
    have := h bs[i] (List.getElem_mem hi')
    simp [List.getD, hi']
    exact this
theorem range_any (bs : List Bool) : (List.range bs.length).any (fun i => bs.getD i false) = bs.any id := by
  rw [Bool.eq_iff_iff, List.any_eq_true, List.any_eq_true]
  constructor
  · rintro ⟨i, hi, e⟩
    have hi' := List.mem_range.mp hi
    exact ⟨bs[i], List.getElem_mem hi', by simpa [List.getD, hi'] using e⟩
  · rintro ⟨b, hb, e⟩
    obtain ⟨i, hi, e'⟩ := List.mem_iff_getElem.mp hb
    exact ⟨i, List.mem_range.mpr hi, by simp [List.getD, hi, e']; exact e⟩
section
variable {X : Cx}
/-- the iterator that a built-in makes of a list -/
theorem list_walk {pins : List (Addr × Obj)} {σ : St} {H : Hp} {s : Shared} {a : Addr} {xs : List V} (hc : X.calm = true) (I : Inv X pins σ H s) (hq : SqL X.K H a xs) :
    ∃ its : List Value, Vals xs its ∧ its.length = xs.length ∧ s.heap.IsList a its.toArray ∧ a ≠ s.heap.objs.size ∧
      Walks X.prog X.w X.A.in1 s.heap.objs.size [s.heap.objs.size, a] [s.heap.objs.size] its.toArray.size (fun i v => its.toArray[i]? = some v) (fun i h => h.IsListIter s.heap.objs.size a i ∧ h.IsList a its.toArray) ∧
      (let h₂ := s.heap.push { cls := .type "list_iterator", data := .fields #[.ref a, .int 0 0] }
       (h₂.IsListIter s.heap.objs.size a 0 ∧ h₂.IsList a its.toArray) ∧ (∀ b ∈ [s.heap.objs.size, a], b < h₂.objs.size) ∧
       ∀ h' tk, (∀ b o, b ∉ [s.heap.objs.size] → h₂.get? b = some o → h'.get? b = some o) → Inv X pins σ H { s with heap := h', toks := tk }) := by
  obtain ⟨its, r, p, _⟩ := I.list hq
  obtain ⟨o, n, eo, hcl, hdt, hsq⟩ := id p
  have hlt : a < s.heap.objs.size := Heap.lt_size eo
  refine ⟨its, r, r.length.symm, p.isList, Nat.ne_of_lt hlt, Walks.list (A := X.A.in1) (I.ok.hd hc) _ a (Nat.ne_of_lt hlt) its.toArray, ⟨⟨_, Heap.get?_push_size _ rfl, rfl, rfl⟩, p.isList.push _⟩, fun b hb => ?_, fun h' tk k => ?_⟩
  · rw [Heap.size_push]
    simp only [List.mem_cons, List.not_mem_nil, or_false] at hb
    rcases hb with rfl | rfl
    · exact Nat.lt_succ_self _
    · exact Nat.lt_succ_of_lt hlt
  · exact I.kept fun b u e => k b u (by simp; exact Nat.ne_of_lt (Heap.lt_size e)) (Heap.get?_push_of_some _ e)
theorem call_sumL (hc : X.calm = true) : CallR X (.builtin "sum") (fun xs H Q => ∃ (a : Addr) (ns : List Int), xs = [.ref a] ∧ SqL X.K H a (ns.map V.int) ∧ Q (.int ns.sum) H) := by
  intro pins s σ H xs us Q I r h
  obtain ⟨a, ns, rfl, hq, q⟩ := h
  obtain ⟨u, rfl, ru⟩ := r.one
  cases ru
  obtain ⟨its, rv, hl, p, hne, W, st, hfp, fin⟩ := list_walk hc I hq
  refine call_sum_walkG (wpAny_pyIter_list p ⟨_, _, _, _, _, _, fun i => ns.getD i 0, rfl, W, st, hfp, fun i v e => vals_int_at rv (by simpa using e), fun h' tk t' k => ⟨.int ns.sum, H, fin h' tk k, ⟨t', ?_⟩, q⟩⟩)
  rw [preSum_list, List.take_of_length_le (by rw [List.size_toArray, hl, List.length_map]; exact Nat.le_refl _)]
theorem call_allL (hc : X.calm = true) : CallR X (.builtin "all") (fun xs H Q => ∃ (a : Addr) (bs : List Bool), xs = [.ref a] ∧ SqL X.K H a (bs.map V.bl) ∧ Q (.bl (bs.all id)) H) := by
  intro pins s σ H xs us Q I r h
  obtain ⟨a, bs, rfl, hq, q⟩ := h
  obtain ⟨u, rfl, ru⟩ := r.one
  cases ru
  obtain ⟨its, rv, hl, p, hne, W, st, hfp, fin⟩ := list_walk hc I hq
  refine call_all_walk (wpAny_pyIter_list p ⟨_, _, _, _, _, _, fun i => bs.getD i false, rfl, W, st, fun i v s' Q' E' e hQ => ?_, fun h' tk k => ⟨.bl (bs.all id), H, fin h' tk k, ?_, q⟩⟩)
  · have ev := vals_bool_at rv (i := i) (v := v) (by simpa using e)
    rw [ev]
    exact wpAny_truthy_bool hQ
  · rw [List.size_toArray, hl, List.length_map, range_all]; rfl
theorem call_anyL (hc : X.calm = true) : CallR X (.builtin "any") (fun xs H Q => ∃ (a : Addr) (bs : List Bool), xs = [.ref a] ∧ SqL X.K H a (bs.map V.bl) ∧ Q (.bl (bs.any id)) H) := by
  intro pins s σ H xs us Q I r h
  obtain ⟨a, bs, rfl, hq, q⟩ := h
  obtain ⟨u, rfl, ru⟩ := r.one
  cases ru
  obtain ⟨its, rv, hl, p, hne, W, st, hfp, fin⟩ := list_walk hc I hq
  refine call_any_walk (wpAny_pyIter_list p ⟨_, _, _, _, _, _, fun i => bs.getD i false, rfl, W, st, fun i v s' Q' E' e hQ => ?_, fun h' tk k => ⟨.bl (bs.any id), H, fin h' tk k, ?_, q⟩⟩)
  · have ev := vals_bool_at rv (i := i) (v := v) (by simpa using e)
    rw [ev]
    exact wpAny_truthy_bool hQ
  · rw [List.size_toArray, hl, List.length_map, range_any]; rfl
theorem getD_mem {ns : List Int} {i : Nat} (h : i < ns.length) : ns.getD i 0 ∈ ns := by
  have : ns.getD i 0 = ns[i] := by simp [List.getD, h]
  rw [this]; exact List.getElem_mem h
theorem mem_getD {ns : List Int} {a : Int} (h : a ∈ ns) : ∃ i, i < ns.length ∧ ns.getD i 0 = a := by
  obtain ⟨i, hi, e⟩ := List.mem_iff_getElem.mp h
  exact ⟨i, hi, by simp [List.getD, hi, e]⟩
theorem call_maxL (hc : X.calm = true) : CallR X (.builtin "max") (fun xs H Q => ∃ (a : Addr) (ns : List Int), xs = [.ref a] ∧ SqL X.K H a (ns.map V.int) ∧ ns ≠ [] ∧ ∀ M, M ∈ ns → (∀ b ∈ ns, b ≤ M) → Q (.int M) H) := by
  intro pins s σ H xs us Q I r h
  obtain ⟨a, ns, rfl, hq, hne0, q⟩ := h
  obtain ⟨u, rfl, ru⟩ := r.one
  cases ru
  obtain ⟨its, rv, hl, p, hne, W, st, hfp, fin⟩ := list_walk hc I hq
  rw [List.length_map] at hl
  have hpos : 0 < ns.length := List.length_pos_iff.mpr hne0
  obtain ⟨b1, b2⟩ := argBest_gt (fun i => ns.getD i 0) (ns.length - 1)
  refine call_max_walk (wpAny_pyIter_list p ⟨_, _, _, _, _, _, fun i j => decide (ns.getD i 0 > ns.getD j 0), rfl, W, st, hfp, by rw [List.size_toArray, hl]; exact hpos, fun i j vi vj s' Q' E' ei ej hQ => ?_, fun v h' tk e k => ?_⟩)
  · obtain ⟨t1, rfl⟩ := vals_int_at rv (i := i) (v := vi) (by simpa using ei)
    obtain ⟨t2, rfl⟩ := vals_int_at rv (i := j) (v := vj) (by simpa using ej)
    exact (PyProof.Rows.gt_int hQ : wpAny _ _ (compareOp .Gt _ _) _ _ _)
  · rw [List.size_toArray, hl, List.getElem?_toArray] at e
    obtain ⟨t1, rfl⟩ := vals_int_at rv e
    refine ⟨.int _, H, fin h' tk k, ⟨t1, rfl⟩, q _ (getD_mem (by omega)) fun b hb => ?_⟩
    obtain ⟨i, hi, e'⟩ := mem_getD hb
    rw [← e']
    exact b2 i (by omega)
theorem call_minL (hc : X.calm = true) : CallR X (.builtin "min") (fun xs H Q => ∃ (a : Addr) (ns : List Int), xs = [.ref a] ∧ SqL X.K H a (ns.map V.int) ∧ ns ≠ [] ∧ ∀ M, M ∈ ns → (∀ b ∈ ns, M ≤ b) → Q (.int M) H) := by
  intro pins s σ H xs us Q I r h
  obtain ⟨a, ns, rfl, hq, hne0, q⟩ := h
  obtain ⟨u, rfl, ru⟩ := r.one
  cases ru
  obtain ⟨its, rv, hl, p, hne, W, st, hfp, fin⟩ := list_walk hc I hq
  rw [List.length_map] at hl
  have hpos : 0 < ns.length := List.length_pos_iff.mpr hne0
  obtain ⟨b1, b2⟩ := argBest_lt (fun i => ns.getD i 0) (ns.length - 1)
  refine call_min_walk (wpAny_pyIter_list p ⟨_, _, _, _, _, _, fun i j => decide (ns.getD i 0 < ns.getD j 0), rfl, W, st, hfp, by rw [List.size_toArray, hl]; exact hpos, fun i j vi vj s' Q' E' ei ej hQ => ?_, fun v h' tk e k => ?_⟩)
  · obtain ⟨t1, rfl⟩ := vals_int_at rv (i := i) (v := vi) (by simpa using ei)
    obtain ⟨t2, rfl⟩ := vals_int_at rv (i := j) (v := vj) (by simpa using ej)
    exact (PyProof.Rows.lt_int hQ : wpAny _ _ (compareOp .Lt _ _) _ _ _)
  · rw [List.size_toArray, hl, List.getElem?_toArray] at e
    obtain ⟨t1, rfl⟩ := vals_int_at rv e
    refine ⟨.int _, H, fin h' tk k, ⟨t1, rfl⟩, q _ (getD_mem (by omega)) fun b hb => ?_⟩
    obtain ⟨i, hi, e'⟩ := mem_getD hb
    rw [← e']
    exact b2 i (by omega)

/-! ### == and != of two lists of flat values -/
def eqVs : List V → List V → Bool
  | [], [] => true
  | x :: xs, y :: ys => eqV x y && eqVs xs ys
  | _, _ => false
theorem eqVs_len : ∀ {xs ys : List V}, xs.length ≠ ys.length → eqVs xs ys = false
  | [], [], h => absurd rfl h
  | [], _ :: _, _ => rfl
  | _ :: _, [], _ => rfl
  | x :: xs, y :: ys, h => by
    show (eqV x y && eqVs xs ys) = false
    rw [eqVs_len (xs := xs) (ys := ys) (fun e => h (by simp [e])), Bool.and_false]
theorem eqVs_all : ∀ {xs ys : List V}, xs.length = ys.length → eqVs xs ys = (List.range xs.length).all fun i => match xs[i]?, ys[i]? with | some x, some y => eqV x y | _, _ => false
  | [], [], _ => rfl
  | [], _ :: _, h => by simp at h
  | _ :: _, [], h => by simp at h
  | x :: xs, y :: ys, h => by
    show (eqV x y && eqVs xs ys) = _
    rw [eqVs_all (xs := xs) (ys := ys) (by simpa using h), List.length_cons, List.range_succ_eq_map, List.all_cons, List.all_map]
    rfl
theorem eqVs_ints (ns ms : List Int) : eqVs (ns.map V.int) (ms.map V.int) = decide (ns = ms) := by
  induction ns generalizing ms with
  | nil => cases ms <;> simp [eqVs]
  | cons n ns ih =>
    cases ms with
    | nil => simp [eqVs]
    | cons m ms =>
      show (eqV (.int n) (.int m) && eqVs (ns.map V.int) (ms.map V.int)) = _
      rw [ih]
      show ((n == m) && decide (ns = ms)) = _
      by_cases h : n = m <;> simp [h]
theorem eqVs_bools (ns ms : List Bool) : eqVs (ns.map V.bl) (ms.map V.bl) = decide (ns = ms) := by
  induction ns generalizing ms with
  | nil => cases ms <;> simp [eqVs]
  | cons n ns ih =>
    cases ms with
    | nil => simp [eqVs]
    | cons m ms =>
      show (eqV (.bl n) (.bl m) && eqVs (ns.map V.bl) (ms.map V.bl)) = _
      rw [ih]
      show ((n == m) && decide (ns = ms)) = _
      by_cases h : n = m <;> simp [h]
def rEqL (K : PySem.W.Frag) (neg : Bool) : R2 := fun x y H Q => ∃ a b xs ys, x = .ref a ∧ y = .ref b ∧ SqL K H a xs ∧ SqL K H b ys ∧ xs.all flatV = true ∧ ys.all flatV = true ∧ Q (.bl (neg ^^ eqVs xs ys)) H
theorem op_eqL (hu : X.A.units < cLine) : OpR X (compareOp .Eq) (rEqL X.K false) := by
  intro pins s σ H x y v u Q I rx ry h
  obtain ⟨a, b, xs, ys, rfl, rfl, ha, hb, fx, fy, q⟩ := h
  cases rx
  cases ry
  obtain ⟨its, r1, p1, _⟩ := I.list ha
  obtain ⟨its2, r2, p2, _⟩ := I.list hb
  have l1 := r1.length
  have l2 := r2.length
  rw [Bool.false_xor] at q
  by_cases hl : xs.length = ys.length
  · refine SeqAt.eq_listAt (e := fun i => match xs[i]?, ys[i]? with | some x, some y => eqV x y | _, _ => false) p1.isList p2.isList (by simp; omega) hu (fun j h1 h2 => ?_) ?_
    · rw [List.size_toArray] at h1 h2
      have ex : xs[j]? = some (xs[j]'(by omega)) := by rw [List.getElem?_eq_getElem]
      have ey : ys[j]? = some (ys[j]'(by omega)) := by rw [List.getElem?_eq_getElem]
      obtain ⟨u1, e1, ru1⟩ := r1.get ex
      obtain ⟨u2, e2, ru2⟩ := r2.get ey
      have q1 : its.toArray[j] = u1 := by
        have := (List.getElem?_eq_some_iff.mp e1).2
        simpa using this
      have q2 : its2.toArray[j] = u2 := by
        have := (List.getElem?_eq_some_iff.mp e2).2
        simpa using this
      rw [q1, q2]
      simp only [ex, ey]
      exact eqAt_V ru1 ru2 (List.all_eq_true.mp fx _ (List.getElem_mem _)) (List.all_eq_true.mp fy _ (List.getElem_mem _))
    · rw [eqVs_all hl] at q
      rw [List.size_toArray, ← l1]
      exact ⟨.bl _, H, I, rfl, q⟩
  · rw [eqVs_len hl] at q
    exact SeqAt.eq_list_lengthsAt p1.isList p2.isList (by simp; omega) hu ⟨.bl _, H, I, rfl, q⟩
theorem op_neL (hu : X.A.units < cLine) : OpR X (compareOp .NotEq) (rEqL X.K true) := by
  intro pins s σ H x y v u Q I rx ry h
  obtain ⟨a, b, xs, ys, rfl, rfl, ha, hb, fx, fy, q⟩ := h
  cases rx
  cases ry
  obtain ⟨its, r1, p1, _⟩ := I.list ha
  obtain ⟨its2, r2, p2, _⟩ := I.list hb
  have l1 := r1.length
  have l2 := r2.length
  rw [Bool.true_xor] at q
  by_cases hl : xs.length = ys.length
  · refine SeqAt.RcNeAt.lists (e := fun i => match xs[i]?, ys[i]? with | some x, some y => eqV x y | _, _ => false) p1.isList p2.isList (by simp; omega) hu (fun j h1 h2 => ?_) _ _ _ _ ?_
    · rw [List.size_toArray] at h1 h2
      have ex : xs[j]? = some (xs[j]'(by omega)) := by rw [List.getElem?_eq_getElem]
      have ey : ys[j]? = some (ys[j]'(by omega)) := by rw [List.getElem?_eq_getElem]
      obtain ⟨u1, e1, ru1⟩ := r1.get ex
      obtain ⟨u2, e2, ru2⟩ := r2.get ey
      have q1 : its.toArray[j] = u1 := by
        have := (List.getElem?_eq_some_iff.mp e1).2
        simpa using this
      have q2 : its2.toArray[j] = u2 := by
        have := (List.getElem?_eq_some_iff.mp e2).2
        simpa using this
      rw [q1, q2]
      simp only [ex, ey]
      exact eqAt_V ru1 ru2 (List.all_eq_true.mp fx _ (List.getElem_mem _)) (List.all_eq_true.mp fy _ (List.getElem_mem _))
    · rw [eqVs_all hl] at q
      rw [List.size_toArray, ← l1]
      exact ⟨.bl _, H, I, rfl, q⟩
  · rw [eqVs_len hl] at q
    exact SeqAt.RcNeAt.lists_lengths p1.isList p2.isList (by simp; omega) hu _ _ _ _ ⟨.bl _, H, I, rfl, q⟩

/-! ### is, is not of bools -/
theorem op_isB : OpR X (compareOp .Is) (fun x y H Q => ∃ c d, x = .bl c ∧ y = .bl d ∧ Q (.bl (c == d)) H) := by
  intro pins s σ H x y v u Q I rx ry h
  obtain ⟨c, d, rfl, rfl, q⟩ := h
  cases rx
  cases ry
  exact is_bool ⟨.bl _, H, I, rfl, q⟩
theorem op_isnotB : OpR X (compareOp .IsNot) (fun x y H Q => ∃ c d, x = .bl c ∧ y = .bl d ∧ Q (.bl (c != d)) H) := by
  intro pins s σ H x y v u Q I rx ry h
  obtain ⟨c, d, rfl, rfl, q⟩ := h
  cases rx
  cases ry
  exact isnot_bool ⟨.bl _, H, I, rfl, q⟩

/-! ### isinstance(x, C) -/
def clsV : V → Option Value
  | .ty n => some (.type n)
  | .ref a => some (.ref a)
  | _ => none
theorem call_isinst : CallR X (.builtin "isinstance") (fun xs H Q => ∃ x c t cv b, xs = [x, c] ∧ clsV c = some cv ∧ TyOf X.K H x t ∧ PySem.W.kitOne X.K t cv = some b ∧ Q (.bl b) H) := by
  intro pins s σ H xs us Q I r h
  obtain ⟨x, c, t, cv, b, rfl, hc, ty, e, q⟩ := h
  obtain ⟨u, v, rfl, ru, rv⟩ := r.two
  have hv : v = cv := by
    cases c with
    | ty n => cases rv; exact Option.some.inj hc
    | ref a => cases rv; exact Option.some.inj hc
    | _ => cases hc
  subst hv
  exact isinst_ok I ru ty e fun tk => ⟨.bl b, H, I.tok tk, rfl, q⟩
end
end L2

end
noncomputable section
namespace L2
open PySem PySem.Spec PyProof.Rows
/-! ### small things -/
theorem PE.or {X : Cx} {e : Expr} {t u : TE} (h : PE X e t) (h' : PE X e u) : PE X e (fun σ H Q => t σ H Q ∨ u σ H Q) := by
  intro pins s σ H Q I q
  rcases q with q | q
  · exact h pins s σ H Q I q
  · exact h' pins s σ H Q I q
theorem bt_len : bootBuiltins "len" = some (.builtin "len") := by decide +kernel
theorem bt_abs : bootBuiltins "abs" = some (.builtin "abs") := by decide +kernel
theorem bt_sum : bootBuiltins "sum" = some (.builtin "sum") := by decide +kernel
theorem bt_all : bootBuiltins "all" = some (.builtin "all") := by decide +kernel
theorem bt_any : bootBuiltins "any" = some (.builtin "any") := by decide +kernel
theorem bt_max : bootBuiltins "max" = some (.builtin "max") := by decide +kernel
theorem bt_min : bootBuiltins "min" = some (.builtin "min") := by decide +kernel
theorem bt_isinstance : bootBuiltins "isinstance" = some (.builtin "isinstance") := by decide +kernel
theorem bt_list : bootBuiltins "list" = some (.type "list") := by decide +kernel
theorem bt_tuple : bootBuiltins "tuple" = some (.type "tuple") := by decide +kernel
theorem bt_int : bootBuiltins "int" = some (.type "int") := by decide +kernel
theorem bt_bool : bootBuiltins "bool" = some (.type "bool") := by decide +kernel
theorem bt_str : bootBuiltins "str" = some (.type "str") := by decide +kernel
theorem Binds.one {K : PySem.W.Frag} {fd : FuncData} {x : Str} (b : Binds K fd [x] []) (s : Shared) (v : Value) (h : K.In s.heap) : BindsTo s fd ⟨[v], []⟩ [(x, v)] := b s [v] h rfl
theorem atI_ints {ns : List Int} {i : Int} (h0 : 0 ≤ i) (h1 : i < ns.length) : atI (ns.map V.int) i = some (.int (ns.getD i.toNat 0)) := by
  have hj : i.toNat < ns.length := by omega
  have e : (ns.map V.int)[i.toNat]? = some (.int (ns.getD i.toNat 0)) := by simp [hj]
  have := atI_nat e
  rwa [Int.toNat_of_nonneg h0] at this
/-- xs[k - 1] with k = 0 the last one -/
theorem atI_back {ns : List Int} {k : Nat} (h1 : k < ns.length) : atI (ns.map V.int) ((k : Int) - 1) = some (.int (ns.getD ((k + ns.length - 1) % ns.length) 0)) := by
  unfold atI
  have hl : (ns.map V.int).length = ns.length := List.length_map ..
  rw [hl]
  cases k with
  | zero =>
    have e : ixN ns.length (((0 : Nat) : Int) - 1) = some (ns.length - 1) := by
      unfold ixN
      rw [if_neg (by decide), if_pos (by omega)]
      congr 1
      omega
    rw [e]
    have hm : (0 + ns.length - 1) % ns.length = ns.length - 1 := by rw [Nat.zero_add]; exact Nat.mod_eq_of_lt (by omega)
    rw [hm]
    show (ns.map V.int)[ns.length - 1]? = _
    simp [show ns.length - 1 < ns.length by omega]
  | succ k =>
    have e : ixN ns.length (((k + 1 : Nat) : Int) - 1) = some k := by
      unfold ixN
      rw [if_pos (by omega), if_pos (by omega)]
      congr 1
      omega
    rw [e]
    have hm : (k + 1 + ns.length - 1) % ns.length = k := by
      have : k + 1 + ns.length - 1 = k + ns.length := by omega
      rw [this, Nat.add_mod_right]; exact Nat.mod_eq_of_lt (by omega)
    rw [hm]
    show (ns.map V.int)[k]? = _
    simp [show k < ns.length by omega]
end L2

end
noncomputable section
namespace L2
open PySem PySem.Spec PyProof.Rows
/-! ### the rules with the written part K by name (a block's context must not stand in a reading) -/
section
variable {X : Cx} (K : PySem.W.Frag)
theorem ixK (h : X.K = K := by rfl) : IxR X (fun x y H Q => rIxL K x y H Q ∨ rIxT K x y H Q) := by subst h; exact ix_list.or ix_tup
theorem slK (h : X.K = K := by rfl) : SlR X (rSlL K) := by subst h; exact sl_list
theorem lenK (h : X.K = K := by rfl) : CallR X (.builtin "len") (fun xs H Q => ∃ p ys, xs = [.ref p] ∧ (SqL K H p ys ∨ SqT K H p ys) ∧ Q (.int ys.length) H) := by subst h; exact call_len_seq
theorem listK (h : X.K = K := by rfl) : CallR X (.type "list") (fun xs H Q => ∃ p ys, xs = [.ref p] ∧ (SqL K H p ys ∨ SqT K H p ys) ∧ ∀ l, H l = none → Q (.ref l) (upd H l (.lst ys))) := by subst h; exact call_list_of
theorem sumK (hc : X.calm = true) (h : X.K = K := by rfl) : CallR X (.builtin "sum") (fun xs H Q => ∃ (a : Addr) (ns : List Int), xs = [.ref a] ∧ SqL K H a (ns.map V.int) ∧ Q (.int ns.sum) H) := by subst h; exact call_sumL hc
theorem allK (hc : X.calm = true) (h : X.K = K := by rfl) : CallR X (.builtin "all") (fun xs H Q => ∃ (a : Addr) (bs : List Bool), xs = [.ref a] ∧ SqL K H a (bs.map V.bl) ∧ Q (.bl (bs.all id)) H) := by subst h; exact call_allL hc
theorem anyK (hc : X.calm = true) (h : X.K = K := by rfl) : CallR X (.builtin "any") (fun xs H Q => ∃ (a : Addr) (bs : List Bool), xs = [.ref a] ∧ SqL K H a (bs.map V.bl) ∧ Q (.bl (bs.any id)) H) := by subst h; exact call_anyL hc
theorem maxK (hc : X.calm = true) (h : X.K = K := by rfl) : CallR X (.builtin "max") (fun xs H Q => ∃ (a : Addr) (ns : List Int), xs = [.ref a] ∧ SqL K H a (ns.map V.int) ∧ ns ≠ [] ∧ ∀ M, M ∈ ns → (∀ b ∈ ns, b ≤ M) → Q (.int M) H) := by subst h; exact call_maxL hc
theorem minK (hc : X.calm = true) (h : X.K = K := by rfl) : CallR X (.builtin "min") (fun xs H Q => ∃ (a : Addr) (ns : List Int), xs = [.ref a] ∧ SqL K H a (ns.map V.int) ∧ ns ≠ [] ∧ ∀ M, M ∈ ns → (∀ b ∈ ns, M ≤ b) → Q (.int M) H) := by subst h; exact call_minL hc
theorem eqK (hu : X.A.units < cLine) (h : X.K = K := by rfl) : OpR X (compareOp .Eq) (fun x y H Q => rEq x y H Q ∨ rEqL K false x y H Q) := by subst h; exact op_eq.or (op_eqL hu)
theorem neK (hu : X.A.units < cLine) (h : X.K = K := by rfl) : OpR X (compareOp .NotEq) (fun x y H Q => rNe x y H Q ∨ rEqL K true x y H Q) := by subst h; exact op_ne.or (op_neL hu)
theorem inK (h : X.K = K := by rfl) : OpR X (compareOp .In) (rIn K false) := by subst h; exact op_in_seq
theorem notInK (h : X.K = K := by rfl) : OpR X (compareOp .NotIn) (rIn K true) := by subst h; exact op_notIn_seq
theorem isiK (h : X.K = K := by rfl) : CallR X (.builtin "isinstance") (fun xs H Q => ∃ x c t cv b, xs = [x, c] ∧ clsV c = some cv ∧ TyOf K H x t ∧ PySem.W.kitOne K t cv = some b ∧ Q (.bl b) H) := by subst h; exact call_isinst
theorem fldK {e : Expr} {f : Str} {pos : Pos} {ta : TE} (he : PE X e ta) (hb : attributeBase e f X.env (eval e X.env) = eval e X.env := by rfl) (h : X.K = K := by rfl) : PE X (.Attribute e f pos) (tFld K ta f) := by subst h; exact pe_fld he hb
theorem piL {tg l : Expr} {tl : TE} (hl : PE X l tl) (h : X.K = K := by rfl) : PI X tg l (iList K tl) := by subst h; exact pi_list hl
theorem piT {tg l : Expr} {tl : TE} (hl : PE X l tl) (h : X.K = K := by rfl) : PI X tg l (iTup K tl) := by subst h; exact pi_tup hl
theorem piZ {elts : List Expr} {kt : Nat} {pt p pos : Pos} {a b : Expr} {ta : TA} (hg : Gl X "zip") (hm : X.mg "zip" = none) (ha : PA X [a, b] ta)
    (hs : starEach [a, b] X.env = [(false, eval a X.env), (false, eval b X.env)] := by rfl) (hs2 : starEach [b] X.env = [(false, eval b X.env)] := by rfl) (h : X.K = K := by rfl) :
    PI X (.Tuple elts kt pt) (.Call (.Name "zip" p) [a, b] [] pos) (iZip K ta) := by subst h; exact pi_zip hg hm ha hs hs2
theorem pgT {es : List Expr} {k : Nat} {t : TGs} {n : Nat} {pos : Pos} (hc : X.calm = true) (h : PGs X es t)
    (hn : (assignEach es X.env).length = n := by rfl) (hst : (assignEach es X.env).findIdx? (·.1) = none := by rfl) (hk : X.K = K := by rfl) : PG X (.Tuple es k pos) (gTup K n t) := by subst hk; exact pg_tup hc h hn hst
theorem bmK {o e : Expr} {es : List Expr} {to : TE} {t : TA} {name : Str} {apos cpos : Pos} {T id : String} {r : V → List V → Hp → VK → Prop} (pa : PlainAttrs T) (slot : Slot T name id) (hty : typeOf (.builtin id) = pure (.type "method_descriptor")) (hm : MtR X id r) (ho : PE X o to) (ha : PA X (e :: es) t)
    (hbase : attributeBase o name X.env (eval o X.env) = eval o X.env := by rfl)
    (hfew : ((backTo cpos (starEach (e :: es) X.env)).all (fun x => !x.1) && (backToKw cpos (keywordEach [] X.env)).all (fun x => x.1.isSome)
      && decide ((e :: es).length + ([] : List Keyword).length + (if ([] : List Keyword).isEmpty then 0 else 1) < 30)) = true := by rfl)
    (hline : (apos.endLine == cpos.line) = true := by rfl) (hs : starEach (e :: es) X.env = (false, eval e X.env) :: starEach es X.env := by rfl) (hplain : (backTo cpos (starEach es X.env)).any (·.1) = false := by rfl) (h : X.K = K := by rfl) :
    PE X (.Call (.Attribute o name apos) (e :: es) [] cpos) (tBM K T r to t) := by subst h; exact pe_bm pa slot hty hm ho ha hbase hfew hline hs hplain
theorem bm0K {o : Expr} {to : TE} {name : Str} {apos cpos : Pos} {T id : String} {r : V → List V → Hp → VK → Prop} (pa : PlainAttrs T) (slot : Slot T name id) (hty : typeOf (.builtin id) = pure (.type "method_descriptor")) (hm : MtR X id r) (ho : PE X o to)
    (hbase : attributeBase o name X.env (eval o X.env) = eval o X.env := by rfl) (hline : (apos.endLine == cpos.line) = true := by rfl) (h : X.K = K := by rfl) : PE X (.Call (.Attribute o name apos) [] [] cpos) (tBM0 K T r to) := by subst h; exact pe_bm0 pa slot hty hm ho hbase hline
end
end L2

end
noncomputable section
namespace L2
open PySem PySem.Spec PyProof.Rows
/-! ### an argument that is no star, by its kind -/
section
variable {es : List Expr} {env : Env} {pos : Pos}
theorem se_Name {x : Str} : starEach (.Name x pos :: es) env = (false, eval (.Name x pos) env) :: starEach es env := rfl
theorem se_Constant {c j} : starEach (.Constant c j pos :: es) env = (false, eval (.Constant c j pos) env) :: starEach es env := rfl
theorem se_BinOp {a op b} : starEach (.BinOp a op b pos :: es) env = (false, eval (.BinOp a op b pos) env) :: starEach es env := rfl
theorem se_UnaryOp {op b} : starEach (.UnaryOp op b pos :: es) env = (false, eval (.UnaryOp op b pos) env) :: starEach es env := rfl
theorem se_Call {f a k} : starEach (.Call f a k pos :: es) env = (false, eval (.Call f a k pos) env) :: starEach es env := rfl
theorem se_Subscript {a b} : starEach (.Subscript a b pos :: es) env = (false, eval (.Subscript a b pos) env) :: starEach es env := rfl
theorem se_Attribute {a b} : starEach (.Attribute a b pos :: es) env = (false, eval (.Attribute a b pos) env) :: starEach es env := rfl
theorem se_List {a} : starEach (.List a pos :: es) env = (false, eval (.List a pos) env) :: starEach es env := rfl
theorem se_Tuple {a k} : starEach (.Tuple a k pos :: es) env = (false, eval (.Tuple a k pos) env) :: starEach es env := rfl
theorem se_ListComp {a b c} : starEach (.ListComp a b c pos :: es) env = (false, eval (.ListComp a b c pos) env) :: starEach es env := rfl
theorem se_IfExp {a b c} : starEach (.IfExp a b c pos :: es) env = (false, eval (.IfExp a b c pos) env) :: starEach es env := rfl
theorem se_Compare {a b c} : starEach (.Compare a b c pos :: es) env = (false, eval (.Compare a b c pos) env) :: starEach es env := rfl
theorem se_BoolOp {a b} : starEach (.BoolOp a b pos :: es) env = (false, eval (.BoolOp a b pos) env) :: starEach es env := rfl
theorem se_JoinedStr {a} : starEach (.JoinedStr a pos :: es) env = (false, eval (.JoinedStr a pos) env) :: starEach es env := rfl
end
section
variable {X : Cx}
theorem mtr_append : MtR X "list.append" rAppend := mt_append
theorem mtr_clear : MtR X "list.clear" rClear := mt_clear
theorem mtr_extend : MtR X "list.extend" rExtend := mt_extend
theorem mtr_pop : MtR X "list.pop" rPop := mt_pop
theorem mtr_reverse : MtR X "list.reverse" rReverse := mt_reverse
end
theorem big : 100000 ≤ sizeLine := by decide
/-! ### ranges from 0 -/
theorem comp_range0 {te : TE} {t : Nat} {ix : List Nat} {σ : St} {H1 : Hp} {Q : VK} {D : Addr} {n : Nat} (f : Nat → V) (hn : n ≤ sizeLine) (ht : 0 < t) (hD : H1 D = none)
    (hs : ∀ (k : Nat) (H2 : Hp) (Z : VK), k < n → Same H1 H2 → (∀ H3, Same H2 H3 → Z (f k) H3) → te ((capt t ix σ).set 0 (some (.int (k : Int)))) H2 Z)
    (hq : ∀ H', Same H1 H' → H' D = some (.lst ((List.range n).map f)) → Q (.ref D) H') :
    CompIt (Itr 0 n) (gName 0) te (capt t ix σ) H1 Q D :=
  comp_range f hn ht hD (fun k H2 Z h1 h2 h3 => by rw [Int.zero_add]; exact hs k H2 Z h1 h2 h3) hq
theorem for_range0 {n : Nat} {g : TG} {tb : TS} {D : Ends} {σ : St} {H : Hp} (Pv : Nat → St → Hp → Prop) (h0 : Pv 0 σ H)
    (hs : ∀ i σ H, i < n → Pv i σ H → g (.int (i : Int)) σ H fun σ2 H2 => tb { D with nx := Pv (i + 1), ct := Pv (i + 1), bk := D.nx } σ2 H2) (hd : ∀ σ H, Pv n σ H → D.nx σ H) :
    ∃ W : Nat → Nat → St → Hp → Prop, (∃ m, W 0 m σ H) ∧ ∀ i m σ H, W i m σ H →
      ((Itr 0 n).stop i H ∧ D.nx σ H) ∨ ((Itr 0 n).go i H ∧ ∃ N : St → Hp → Prop, (∀ σ' H', N σ' H' → ∃ m', m' < m ∧ W (i + 1) m' σ' H') ∧ ∀ x H', (Itr 0 n).yld i H x H' → g x σ H' fun σ2 H2 => tb { D with nx := N, ct := N, bk := D.nx } σ2 H2) :=
  for_range Pv h0 (fun i σ H h1 h2 => by rw [Int.zero_add]; exact hs i σ H h1 h2) hd
theorem kit_b (K : PySem.W.Frag) (a b : String) (r : Bool) (h : (if (Value.type a == Value.type b) = true then some true else if PySem.W.kitMeta b = true then Option.map (fun x => x.contains (.type b)) (fastBuiltinMro a) else none) = some r) : PySem.W.kitOne K (.type a) (.type b) = some r := h
/-! ### xs[::-1] -/
def tRev (K : PySem.W.Frag) (te : TE) : TE := fun σ H Q => te σ H fun x H1 => ∃ a xs, x = .ref a ∧ SqL K H1 a xs ∧ ∀ p, H1 p = none → Q (.ref p) (upd H1 p (.lst xs.reverse))
theorem pe_rev {X : Cx} (K : PySem.W.Frag) {e : Expr} {te : TE} {j : Nat} {p1 p2 p3 pos : Pos} (he : PE X e te) (h : X.K = K := by rfl) :
    PE X (.Subscript e (.Slice none none (some (.UnaryOp .USub (.Constant (.int 1) j p1) p3)) p2) pos) (tRev K te) := by
  subst h
  intro pins s σ H Q I hw
  refine Subscript_ (thn (he pins s σ H _ I hw) fun v s1 ⟨x, H1, I1, r1, a, xs, ex, hx, q⟩ => ?_)
  subst ex
  cases r1
  refine wpAny_Slice ?_
  rw [evalPart_none]
  refine wpAny_pure ?_
  refine wpAny_pure ?_
  rw [evalPart_some]
  refine thn (pe_un un_neg pe_int pins s1 σ H1 (fun x H' => x = .int (-1) ∧ H' = H1) I1 ⟨_, rfl, rfl, rfl⟩) fun u s2 ⟨y, H2, I2, r2, ey, eH⟩ => ?_
  subst ey eH
  obtain ⟨t, rfl⟩ := r2
  have I4 : Inv X pins σ H2 { s2 with heap := s2.heap.push { cls := .type "slice", data := .fields #[.none, .none, .int (-1) t] } } := I2.kept (t' := s2.toks) fun b ob q => Heap.get?_push_of_some _ q
  obtain ⟨its, r, ht, hz⟩ := I4.list hx
  have hlen := r.length
  show wpAny (model X.prog X.w) X.A (subscriptTail e (.Slice none none (some (.UnaryOp .USub (.Constant (.int 1) j p1) p3)) p2) (.ref a) (.ref s2.heap.objs.size)) (EP X pins σ Q) X.xe { s2 with heap := s2.heap.push { cls := .type "slice", data := .fields #[.none, .none, .int (-1) t] } }
  refine tail_any (ops := [.ref a, .ref s2.heap.objs.size]) ht.isList.typeIs slot_list_getitem.lookup ?_ (by with_unfolding_all rfl)
  refine wpAny_getItem_list_slice ht.isList (Heap.IsSliceOf.new ..) .none .none (.int (-1) t) (by simp) ?_ (by rw [List.size_toArray] <;> omega)
  rw [PySem.W.krv_pick]
  refine ⟨.ref _, _, I4.laid (t' := s2.toks) (o := .lst xs.reverse) (fun b ob q => Heap.get?_push_of_some _ q) (Nat.le_refl _) ?_, rfl, q _ (I4.hok.fresh (Nat.le_refl _))⟩
  exact ⟨by rw [List.length_reverse]; exact hz, _, 0, r.reverse, Heap.get?_push_size _ rfl⟩
end L2

end
noncomputable section
namespace L2
open PySem PySem.Spec PyProof.Rows
/-! ### sorted(zip(xs, ys)), the second ones tolls -/
theorem bt_sorted : bootBuiltins "sorted" = some (.builtin "sorted") := by decide +kernel
section
variable {X : Cx} {pins : List (Addr × Obj)} {σ : St} {H H' : Hp} {s : Shared} {h' : Heap}
/-- several new things are tracked at once -/
theorem Inv.many {t' : Nat} (I : Inv X pins σ H s) (k : ∀ b u, s.heap.get? b = some u → h'.get? b = some u) (hs : Same H H') (hn : ∀ b o, H b = none → H' b = some o → s.heap.objs.size ≤ b ∧ ObjOk X.prog X.w H' h' b o) :
    Inv X pins σ H' { s with heap := h', toks := t' } := by
  refine I.step (g' := s.gens) (d' := s.drawn) (ch := []) (fun b hb => by simp at hb) (fun b o _ _ _ e _ => k b o e) (fun b o _ _ _ e _ => ⟨o.slots, k b o e⟩) (fun b o _ e hb => ?_)
    (fun b o _ e => ⟨o, k b o e⟩) (fun b xs e => hs _ _ e) (fun b o u e => hs _ _ e) (fun b ps e => ⟨#[], by rw [hs _ _ e]; simp⟩) (fun m hm => ?_) (fun b u e => ?_) I.bare
  · cases q : H' b with
    | none => rfl
    | some u => exact absurd (Heap.lt_size e) (Nat.not_lt_of_le (hn b u hb q).1)
  · obtain ⟨o, es, ep, ho, r⟩ := hm
    exact ⟨o, es, ep, k _ o ho, r⟩
  · cases q : H b with
    | none => exact (hn b u q e).2
    | some v =>
      have := hs _ _ q
      rw [e] at this
      cases this
      exact (I.hok b u q).stay (fun c w _ z => k c w z) (fun c z => hs _ _ z) fun c xs z => hs _ _ z
end
def atPs (ps : List (Addr × Int × Int)) (b : Addr) : Option (Int × Int) := (ps.find? fun p => p.1 == b).map Prod.snd
def updPs (H : Hp) (L : Addr) (ps : List (Addr × Int × Int)) : Hp := fun b => if b = L then some (.lst (ps.map fun p => V.ref p.1)) else match atPs ps b with
  | some q => some (.tup [.int q.1, .int q.2])
  | none => H b
theorem atPs_mem {ps : List (Addr × Int × Int)} {b : Addr} {q : Int × Int} (h : atPs ps b = some q) : (b, q) ∈ ps := by
  unfold atPs at h
  obtain ⟨p, hp, e⟩ := Option.map_eq_some_iff.mp h
  have h1 := List.mem_of_find?_eq_some hp
  have h2 := List.find?_some hp
  have h2 : p.1 = b := by simpa using h2
  rw [← e, ← h2]
  exact h1
theorem atPs_of {ps : List (Addr × Int × Int)} (nd : (ps.map Prod.fst).Nodup) {p : Addr × Int × Int} (h : p ∈ ps) : atPs ps p.1 = some p.2 := by
  induction ps with
  | nil => simp at h
  | cons r ps ih =>
    rw [List.map_cons, List.nodup_cons] at nd
    unfold atPs
    rw [List.find?_cons]
    by_cases e : r.1 = p.1
    · have : (r.1 == p.1) = true := by simpa using e
      rw [this]
      rcases List.mem_cons.mp h with q | q
      · rw [q]; rfl
      · exact absurd (List.mem_map.mpr ⟨p, q, e.symm⟩) nd.1
    · have : (r.1 == p.1) = false := by simpa using e
      rw [this]
      rcases List.mem_cons.mp h with q | q
      · rw [q] at e; exact absurd rfl e
      · exact ih nd.2 q
theorem vals_refs : ∀ (ps : List (Addr × Int × Int)), Vals (ps.map fun p => V.ref p.1) (ps.map fun p => Value.ref p.1)
  | [] => .nil
  | p :: ps => .cons rfl (vals_refs ps)
def rSZ (K : PySem.W.Frag) (ta : TA) : TE := fun σ H Q => ta σ H fun vs H1 => ∃ (a b : Addr) (ns ts : List Int), vs = [.ref a, .ref b] ∧ SqL K H1 a (ns.map V.int) ∧ SqL K H1 b (ts.map V.int) ∧ ts.length = ns.length ∧ (∀ c ∈ ts, 0 ≤ c ∧ c ≤ 1000) ∧ 2 ≤ ns.length ∧ ns.length < 128 ∧
  ∀ (L : Addr) (ps : List (Addr × Int × Int)) (H' : Hp), H1 L = none → Same H1 H' → H' L = some (.lst (ps.map fun p => V.ref p.1)) → (∀ p ∈ ps, H' p.1 = some (.tup [.int p.2.1, .int p.2.2])) →
    (ps.map Prod.snd).Perm (ns.zip ts) → (ps.map Prod.snd).Pairwise (fun p q => p.1 * 1001 + p.2 ≤ q.1 * 1001 + q.2) → Q (.ref L) H'
theorem pe_sortedZip {X : Cx} (K : PySem.W.Frag) {a b : Expr} {ta : TA} {p p' pos pos' : Pos} (hc : X.calm = true) (hgS : Gl X "sorted") (hmS : X.mg "sorted" = none) (hgZ : Gl X "zip") (hmZ : X.mg "zip" = none) (ha : PA X [a, b] ta)
    (hs : starEach [a, b] X.env = [(false, eval a X.env), (false, eval b X.env)] := by rfl) (hs2 : starEach [b] X.env = [(false, eval b X.env)] := by rfl) (h : X.K = K := by rfl) :
    PE X (.Call (.Name "sorted" p) [.Call (.Name "zip" p') [a, b] [] pos'] [] pos) (rSZ K ta) := by
  subst h
  intro pins s σ H Q I h
  refine wpAny_Call_Name_kw (ld_blt I hgS hmS bt_sorted ?_)
  refine PyProof.Rows.callWith_builtin1 ?_ rfl rfl
  show wpAny _ _ (spliced [(false, eval (.Call (.Name "zip" p') [a, b] [] pos') X.env)]) _ _ s
  refine Calls.spliced_cons ?_
  refine Call_ (ld_blt I hgZ hmZ boot_zip (PyProof.Rows.callWith_type1 (thn (ha pos' pins s σ H _ I h) fun us s1 ⟨vs, H1, I1, r1, q1⟩ => ?_) (by rw [hs, hs2]) (by rw [hs2]; rfl)))
  obtain ⟨a, b, ns, ts, e, hx, hy, hl, ht, n2, n128, q⟩ := q1
  subst e
  obtain ⟨u, v, rfl, ru, rv⟩ := r1.two
  cases ru
  cases rv
  obtain ⟨its1, v1, p1, _⟩ := I1.list hx
  obtain ⟨its2, v2, p2, _⟩ := I1.list hy
  have l1 := v1.length
  have l2 := v2.length
  rw [List.length_map] at l1 l2
  refine call_zip_2 p1.isList p2.isList fun h' b1 b2 b3 b4 b5 b6 hk => ?_
  refine Calls.spliced_nil ?_
  have D := zip_apart b1 b2 b3 b4 b5 (p1.isList.at fun o e => hk _ o e) (p2.isList.at fun o e => hk _ o e) (Nat.ne_of_lt (Nat.lt_succ_self _)) (Nat.ne_of_lt (Nat.lt_succ_self _))
  refine Tim.sortedZip (s := { s1 with heap := h' }) (ns := ns) (ts := ts) (I1.ok.hd hc) D b1 b2 b3 b4 b5 (p1.isList.at fun o e => hk _ o e) (p2.isList.at fun o e => hk _ o e) (by rw [List.size_toArray]; omega) (by rw [List.size_toArray]; omega) hl
    (fun i v e => vals_int_at v1 (by simpa using e)) (fun i v e => vals_int_at v2 (by simpa using e)) ht n2 n128 fun h'' L c ps k hL hLo nd hps hperm hsort => ?_
  have sz : s1.heap.objs.size ≤ h'.objs.size := by rw [b6]; exact Nat.le_add_right _ _
  have kk : ∀ b u, s1.heap.get? b = some u → h''.get? b = some u := fun b u e => by
    have lt : b < s1.heap.objs.size := Heap.lt_size e
    exact k b u (Nat.ne_of_lt (Nat.lt_of_lt_of_le lt (Nat.le_add_right _ _))) (Nat.ne_of_lt (Nat.lt_of_lt_of_le lt (Nat.le_add_right _ _))) (Nat.ne_of_lt lt) (Nat.ne_of_lt (Nat.lt_of_lt_of_le lt (Nat.le_add_right _ _))) (hk b u e)
  have fL : H1 L = none := I1.hok.fresh (Nat.le_trans sz hL)
  have fp : ∀ p ∈ ps, H1 p.1 = none := fun p hp => I1.hok.fresh (Nat.le_trans sz (hps p hp).1)
  have sm : Same H1 (updPs H1 L ps) := fun b o e => by
    unfold updPs
    rw [if_neg (ne_of_none e fL)]
    cases z : atPs ps b with
    | none => exact e
    | some q => rw [fp _ (atPs_mem z)] at e; cases e
  have lps : ps.length = ns.length := by
    have := hperm.length_eq
    rw [List.length_map, List.length_zip] at this
    omega
  have eL : updPs H1 L ps L = some (.lst (ps.map fun p => V.ref p.1)) := if_pos rfl
  have eP : ∀ p ∈ ps, updPs H1 L ps p.1 = some (.tup [.int p.2.1, .int p.2.2]) := fun p hp => by
    unfold updPs
    rw [if_neg (hps p hp).2.1, atPs_of nd hp]
  refine ⟨.ref L, updPs H1 L ps, I1.many (t' := s1.toks) kk sm (fun b o e1 e2 => ?_), rfl, q L ps _ fL sm eL eP hperm hsort⟩
  unfold updPs at e2
  by_cases z : b = L
  · subst z
    rw [if_pos rfl] at e2
    cases e2
    refine ⟨Nat.le_trans sz hL, ?_, _, c, vals_refs ps, hLo⟩
    have := big
    rw [List.length_map]
    omega
  · rw [if_neg z] at e2
    cases y : atPs ps b with
    | none => rw [y] at e2; rw [e1] at e2; cases e2
    | some q' =>
      rw [y] at e2
      cases e2
      obtain ⟨g1, g2, t, u, g3⟩ := hps _ (atPs_mem y)
      exact ⟨Nat.le_trans sz g1, by show 2 ≤ sizeLine; decide, [.int q'.1 t, .int q'.2 u], .cons ⟨t, rfl⟩ (.cons ⟨u, rfl⟩ .nil), _, g3, rfl, _, rfl⟩
end L2

end
noncomputable section
namespace L2
open PySem PySem.Spec PyProof.Rows
/-! ### enumerate of a list -/
def Ite (K : PySem.W.Frag) (a : Addr) : It :=
  ⟨fun i H => ∃ xs x, SqL K H a xs ∧ xs[i]? = some x, fun i H v H' => ∃ T x, v = .ref T ∧ H T = none ∧ H' = upd H T (.tup [.int (i : Int), x]) ∧ ∀ xs, SqL K H a xs → xs[i]? = some x, fun i H => ∃ xs, SqL K H a xs ∧ xs.length ≤ i⟩
theorem turn_enum {P : Program} {w : World} {K : PySem.W.Frag} {elts : List Expr} {kt : Nat} {pt : Pos} (a e it : Addr) (n1 : e ≠ it) : Turn P w K (.Tuple elts kt pt) (Ite K a) [e, it] e
    (fun i h => (∃ old, IsEnum h e it i old) ∧ h.IsListIter it a i) where
  mem := by simp
  obj := fun i h st c hc => by
    obtain ⟨⟨old, he⟩, ⟨o1, e1, _, d1⟩⟩ := st
    simp only [List.mem_cons, List.not_mem_nil, or_false] at hc
    rcases hc with rfl | rfl
    · exact ⟨_, he, fun v z => by cases z⟩
    · exact ⟨_, e1, fun v z => by rw [d1] at z; cases z⟩
  keep := fun i h h' st k => by
    obtain ⟨⟨old, he⟩, h1⟩ := st
    exact ⟨⟨old, k e (by simp) _ he⟩, h1.at fun o q => k it (by simp) o q⟩
  item := by
    intro X hP hw hK hc i pins s σ H E I hf st hg
    subst hP hw hK
    obtain ⟨⟨old, he⟩, h1⟩ := st
    obtain ⟨xs, x, hq1, hx⟩ := hg
    obtain ⟨its1, r1, p1, _⟩ := I.list hq1
    obtain ⟨u1, e1, ru1⟩ := r1.get hx
    refine wpAny_pyNext_enum_item he h1 p1.isList (x := u1) (by simpa using e1) n1 fun h' b1 b3 b5 b6 hk => ?_
    refine ⟨_, rfl, wpAny_letOwnedTupleGo_enum b1 fun h'' hz'' hs'' => ?_⟩
    have zT : s.heap.objs.size ≠ e := Nat.ne_of_gt (Heap.lt_size he)
    have T2 : h''.get? s.heap.objs.size = some { cls := .type "tuple", data := .seq #[.int i s.toks, u1] } := hs''.extBut _ _ zT b5
    have kk : ∀ c o, c ∉ [e, it] → s.heap.get? c = some o → h''.get? c = some o := fun c o hc q =>
      hs''.extBut _ _ (fun q => hc (by simp [q])) (hk c o (fun q => hc (by simp [q])) (fun q => hc (by simp [q])) q)
    have I' : Inv X pins σ (upd H s.heap.objs.size (.tup [.int (i : Int), x])) { s with heap := h'', toks := s.toks + 1 } := I.turnedNew (t' := s.toks + 1) (ch := [e, it]) kk hf (Nat.le_refl _)
      ⟨by show 2 ≤ sizeLine; decide, [.int i s.toks, u1], .cons ⟨_, rfl⟩ (.cons ru1 .nil), _, T2, rfl, _, rfl⟩
    have fT : H s.heap.objs.size = none := I.hok.fresh (Nat.le_refl _)
    refine ⟨.ref s.heap.objs.size, _, I', rfl, ⟨_, x, rfl, fT, rfl, fun xs' q => by rw [I.list_inj q hq1]; exact hx⟩, ⟨⟨_, by have := hz''; rw [show ((i : Int) + 1) = ((i + 1 : Nat) : Int) by omega] at this; exact this⟩, b3.extBut hs''.extBut n1.symm⟩, fun c hc' => ?_⟩
    rw [upd_ne (fun q => ?_)]
    · exact (hf c hc').1
    · subst q
      obtain ⟨o1, g1, _⟩ := h1
      simp only [List.mem_cons, List.not_mem_nil, or_false] at hc'
      rcases hc' with q | q
      · exact absurd (Heap.lt_size he) (by rw [← q]; exact Nat.lt_irrefl _)
      · exact absurd (Heap.lt_size g1) (by rw [← q]; exact Nat.lt_irrefl _)
  done := by
    intro X hP hw hK hc i pins s σ H E I hf st hg
    subst hP hw hK
    obtain ⟨⟨old, he⟩, h1⟩ := st
    obtain ⟨xs, hq1, hend⟩ := hg
    obtain ⟨its1, r1, p1, _⟩ := I.list hq1
    have l1 := r1.length
    exact wpAny_pyNext_enum_end (I.ok.hd hc) he h1 p1.isList (by simp; omega) fun h' hk => ⟨rfl, I.turnedL (t' := s.toks) (ch := [e, it]) (fun c o hc q => hk c o (fun q => hc (by simp [q])) q) hf⟩
  self := fun _ _ _ _ _ st h => let ⟨⟨_, he⟩, _⟩ := st; wpAny_pyIter_enum he h
def iEnum (K : PySem.W.Frag) (ta : TA) : TI := fun σ H R => ta σ H fun vs H1 => ∃ a, vs = [.ref a] ∧ (∃ xs, SqL K H1 a xs) ∧ R (Ite K a) H1
theorem boot_enumerate : bootBuiltins "enumerate" = some (.type "enumerate") := by decide +kernel
theorem piE {X : Cx} (K : PySem.W.Frag) {elts : List Expr} {kt : Nat} {pt p pos : Pos} {a : Expr} {ta : TA} (hg : Gl X "enumerate") (hm : X.mg "enumerate" = none) (ha : PA X [a] ta)
    (hs : starEach [a] X.env = [(false, eval a X.env)] := by rfl) (h : X.K = K := by rfl) :
    PI X (.Tuple elts kt pt) (.Call (.Name "enumerate" p) [a] [] pos) (iEnum K ta) := by
  subst h
  intro pins s σ H R I h
  refine Call_ (ld_blt I hg hm boot_enumerate (PyProof.Rows.callWith_type1 (thn (ha pos pins s σ H _ I h) fun us s1 ⟨vs, H1, I1, r1, q1⟩ => ?_) (by rw [hs]; rfl) rfl))
  obtain ⟨a, e, ⟨xs, hx⟩, q⟩ := q1
  subst e
  obtain ⟨u, rfl, ru⟩ := r1.one
  cases ru
  obtain ⟨its1, _, p1, _⟩ := I1.list hx
  refine call_enumerate_list p1.isList fun h' b1 b4 b6 hk => ?_
  refine wpAny_pyIter_enum b1 ?_
  have I2 : Inv X pins σ H1 { s1 with heap := h' } := I1.kept (t' := s1.toks) hk
  refine ⟨_, _, _, _, H1, rfl, I2, turn_enum a (s1.heap.objs.size + 1) s1.heap.objs.size (Nat.ne_of_gt (Nat.lt_succ_self _)), ⟨⟨_, b1⟩, b4⟩, fun c hc => ?_, q⟩
  have hle : s1.heap.objs.size ≤ c := by
    simp only [List.mem_cons, List.not_mem_nil, or_false] at hc
    rcases hc with rfl | rfl
    · exact Nat.le_add_right _ _
    · exact Nat.le_refl _
  exact I1.fpOk hle (I1.hok.fresh hle)
theorem for_enum {K : PySem.W.Frag} {a : Addr} {xs : List V} {g : TG} {tb : TS} {D : Ends} {σ : St} {H : Hp} (Pv : Nat → St → Hp → Prop) (h0 : Pv 0 σ H) (hl : ∀ i σ H, Pv i σ H → SqL K H a xs)
    (hs : ∀ (i : Nat) (x : V) σ H T, xs[i]? = some x → Pv i σ H → H T = none → g (.ref T) σ (upd H T (.tup [.int (i : Int), x])) fun σ2 H2 => tb { D with nx := Pv (i + 1), ct := Pv (i + 1), bk := D.nx } σ2 H2) (hd : ∀ σ H, Pv xs.length σ H → D.nx σ H) :
    ∃ W : Nat → Nat → St → Hp → Prop, (∃ m, W 0 m σ H) ∧ ∀ i m σ H, W i m σ H →
      ((Ite K a).stop i H ∧ D.nx σ H) ∨ ((Ite K a).go i H ∧ ∃ N : St → Hp → Prop, (∀ σ' H', N σ' H' → ∃ m', m' < m ∧ W (i + 1) m' σ' H') ∧ ∀ x H', (Ite K a).yld i H x H' → g x σ H' fun σ2 H2 => tb { D with nx := N, ct := N, bk := D.nx } σ2 H2) := by
  refine ⟨fun i m σ H => m = xs.length - i ∧ i ≤ xs.length ∧ Pv i σ H, ⟨_, rfl, Nat.zero_le _, h0⟩, ?_⟩
  rintro i m σ H ⟨rfl, hi, p⟩
  have qa := hl i σ H p
  by_cases hlt : i < xs.length
  · have hx : xs[i]? = some (xs[i]'(by omega)) := by rw [List.getElem?_eq_getElem]
    refine .inr ⟨⟨xs, _, qa, hx⟩, Pv (i + 1), fun σ' H' p' => ⟨xs.length - (i + 1), by omega, rfl, hlt, p'⟩, fun v H' y => ?_⟩
    obtain ⟨T, x, e1, e2, e3, y1⟩ := y
    subst e1 e3
    exact hs i x σ H T (y1 xs qa) p e2
  · have e : i = xs.length := by omega
    subst e
    exact .inl ⟨⟨xs, qa, Nat.le_refl _⟩, hd σ H p⟩
/-! ### xs.index(x) -/
def rIndex : V → List V → Hp → VK → Prop := fun x vs H Q => ∃ (l : Addr) (ns : List Int) (i : Int) (j : Nat), x = .ref l ∧ vs = [.int i] ∧ H l = some (.lst (ns.map V.int)) ∧ ns[j]? = some i ∧ (∀ m, m < j → ns[m]? ≠ some i) ∧ Q (.int (j : Int)) H
theorem mtr_index {X : Cx} : MtR X "list.index" rIndex := by
  intro pins s σ H x vs v us Q I rx rv h
  obtain ⟨l, ns, i, j, rfl, rfl, hH, hj, hno, q⟩ := h
  cases rx
  obtain ⟨u, rfl, ru⟩ := rv.one
  obtain ⟨t, rfl⟩ := ru
  obtain ⟨z, its, n, r, hl, e⟩ := I.lstM hH
  rw [List.length_map] at z hl
  have hjl := (List.getElem?_eq_some_iff.mp hj).1
  have at_ : ∀ (m : Nat) (hm : m < its.toArray.size), ∃ t, its.toArray[m] = .int (ns.getD m 0) t := fun m hm => by
    have hm' : m < its.length := by simpa using hm
    exact vals_int_at r (v := its.toArray[m]) (i := m) (by simp [hm'])
  refine call_meets F.slot_list_index ⟨_, e, rfl⟩ F.entry_list_index (F.args_list_index_2 _ _) (MeetsSeq.list_index l its.toArray n (.int i t) (fun y => numOf y == i) (fun y hy => ?_) j (by rw [List.size_toArray]; omega) ?_ ?_ ?_) ⟨e, ?_⟩
  · obtain ⟨m, hm, rfl⟩ := Array.mem_iff_getElem.mp hy
    obtain ⟨t', e'⟩ := at_ m hm
    rw [e']
    exact MeetsSeq.EqGives.int _ _ _ _
  · have : sizeLine < 2 ^ 63 - 1 := by decide
    omega
  · obtain ⟨t', e'⟩ := at_ j (by rw [List.size_toArray]; omega)
    rw [e']
    have : ns.getD j 0 = i := by simp [List.getD, hj]
    show ((ns.getD j 0) == i) = true
    rw [this]
    exact beq_self_eq_true i
  · intro m hm hlt
    obtain ⟨t', e'⟩ := at_ m hm
    rw [e']
    have h1 := hno m hlt
    have hm' : m < ns.length := by omega
    have : ns.getD m 0 ≠ i := fun q => h1 (by simp [List.getD, List.getElem?_eq_getElem hm'] at q ⊢; exact q)
    simpa [numOf] using this
  · exact ⟨.int j, H, I.kept (t' := s.toks + 1) fun _ _ q => q, ⟨_, rfl⟩, q⟩
end L2

end
noncomputable section

set_option Elab.async false
set_option linter.all false
set_option maxRecDepth 100000
set_option maxHeartbeats 0
seal L2.PE L2.PT L2.PS L2.PSs L2.PA L2.PI L2.PG L2.PGs L2.OpR L2.UnR L2.CallR L2.IxR L2.SlR L2.MtR L2.PO L2.PSet L2.PW
namespace Ev
open PySem L2
def top (i : Nat) : Stmt := PySem.Challenge.pw_evenring_k05_answers_by_hand.main.body.getD i (.Pass ⟨0, 0, 0, 0⟩)
abbrev s_is_evened : Stmt := top 1
abbrev N_is_evened : List Str := ["houses", "carried"]
abbrev P_is_evened : List Str := ["houses", "carried"]
theorem sc_is_evened : FnScope N_is_evened P_is_evened (defScope s_is_evened) := ⟨rfl, rfl, rfl, by decide +kernel, rfl, by decide +kernel, by decide +kernel⟩
abbrev s_keep_to_tolls : Stmt := top 2
abbrev N_keep_to_tolls : List Str := ["prices", "tolls"]
abbrev P_keep_to_tolls : List Str := ["prices", "tolls"]
theorem sc_keep_to_tolls : FnScope N_keep_to_tolls P_keep_to_tolls (defScope s_keep_to_tolls) := ⟨rfl, rfl, rfl, by decide +kernel, rfl, by decide +kernel, by decide +kernel⟩
abbrev s_cost : Stmt := top 3
abbrev N_cost : List Str := ["carried", "tolls"]
abbrev P_cost : List Str := ["carried", "tolls"]
theorem sc_cost : FnScope N_cost P_cost (defScope s_cost) := ⟨rfl, rfl, rfl, by decide +kernel, rfl, by decide +kernel, by decide +kernel⟩
abbrev s_worth : Stmt := top 4
abbrev N_worth : List Str := ["houses", "prices"]
abbrev P_worth : List Str := ["houses", "prices"]
theorem sc_worth : FnScope N_worth P_worth (defScope s_worth) := ⟨rfl, rfl, rfl, by decide +kernel, rfl, by decide +kernel, by decide +kernel⟩
abbrev s_Even_init__ : Stmt := inClass (top 6) 0
abbrev N_Even_init__ : List Str := ["self", "carried", "prices"]
abbrev P_Even_init__ : List Str := ["self", "carried", "prices"]
theorem sc_Even_init__ : FnScope N_Even_init__ P_Even_init__ (defScope s_Even_init__) := ⟨rfl, rfl, rfl, by decide +kernel, rfl, by decide +kernel, by decide +kernel⟩
abbrev s_Even_evens : Stmt := inClass (top 6) 1
abbrev N_Even_evens : List Str := ["self", "ring"]
abbrev P_Even_evens : List Str := ["self", "ring"]
theorem sc_Even_evens : FnScope N_Even_evens P_Even_evens (defScope s_Even_evens) := ⟨rfl, rfl, rfl, by decide +kernel, rfl, by decide +kernel, by decide +kernel⟩
abbrev s_Even_shows : Stmt := inClass (top 6) 2
abbrev N_Even_shows : List Str := ["self", "ring", "tolls", "houses"]
abbrev P_Even_shows : List Str := ["self", "ring", "tolls"]
theorem sc_Even_shows : FnScope N_Even_shows P_Even_shows (defScope s_Even_shows) := ⟨rfl, rfl, rfl, by decide +kernel, rfl, by decide +kernel, by decide +kernel⟩
abbrev s_Uneven_init__ : Stmt := inClass (top 7) 0
abbrev N_Uneven_init__ : List Str := ["self", "total"]
abbrev P_Uneven_init__ : List Str := ["self", "total"]
theorem sc_Uneven_init__ : FnScope N_Uneven_init__ P_Uneven_init__ (defScope s_Uneven_init__) := ⟨rfl, rfl, rfl, by decide +kernel, rfl, by decide +kernel, by decide +kernel⟩
abbrev s_Uneven_shows : Stmt := inClass (top 7) 1
abbrev N_Uneven_shows : List Str := ["self", "ring", "tolls"]
abbrev P_Uneven_shows : List Str := ["self", "ring", "tolls"]
theorem sc_Uneven_shows : FnScope N_Uneven_shows P_Uneven_shows (defScope s_Uneven_shows) := ⟨rfl, rfl, rfl, by decide +kernel, rfl, by decide +kernel, by decide +kernel⟩
abbrev s_Within_init__ : Stmt := inClass (top 8) 0
abbrev N_Within_init__ : List Str := ["self", "carried"]
abbrev P_Within_init__ : List Str := ["self", "carried"]
theorem sc_Within_init__ : FnScope N_Within_init__ P_Within_init__ (defScope s_Within_init__) := ⟨rfl, rfl, rfl, by decide +kernel, rfl, by decide +kernel, by decide +kernel⟩
abbrev s_Within_shows : Stmt := inClass (top 8) 1
abbrev N_Within_shows : List Str := ["self", "ring", "most"]
abbrev P_Within_shows : List Str := ["self", "ring", "most"]
theorem sc_Within_shows : FnScope N_Within_shows P_Within_shows (defScope s_Within_shows) := ⟨rfl, rfl, rfl, by decide +kernel, rfl, by decide +kernel, by decide +kernel⟩
abbrev s_Stretch_init__ : Stmt := inClass (top 9) 0
abbrev N_Stretch_init__ : List Str := ["self", "first", "many"]
abbrev P_Stretch_init__ : List Str := ["self", "first", "many"]
theorem sc_Stretch_init__ : FnScope N_Stretch_init__ P_Stretch_init__ (defScope s_Stretch_init__) := ⟨rfl, rfl, rfl, by decide +kernel, rfl, by decide +kernel, by decide +kernel⟩
abbrev s_Stretch_shows : Stmt := inClass (top 9) 1
abbrev N_Stretch_shows : List Str := ["self", "ring", "most", "houses", "count", "twice"]
abbrev P_Stretch_shows : List Str := ["self", "ring", "most"]
theorem sc_Stretch_shows : FnScope N_Stretch_shows P_Stretch_shows (defScope s_Stretch_shows) := ⟨rfl, rfl, rfl, by decide +kernel, rfl, by decide +kernel, by decide +kernel⟩
abbrev s_is_whole_number : Stmt := top 18
abbrev N_is_whole_number : List Str := ["value"]
abbrev P_is_whole_number : List Str := ["value"]
theorem sc_is_whole_number : FnScope N_is_whole_number P_is_whole_number (defScope s_is_whole_number) := ⟨rfl, rfl, rfl, by decide +kernel, rfl, by decide +kernel, by decide +kernel⟩
abbrev s_is_house : Stmt := top 19
abbrev N_is_house : List Str := ["value"]
abbrev P_is_house : List Str := ["value"]
theorem sc_is_house : FnScope N_is_house P_is_house (defScope s_is_house) := ⟨rfl, rfl, rfl, by decide +kernel, rfl, by decide +kernel, by decide +kernel⟩
abbrev s_are_houses : Stmt := top 20
abbrev N_are_houses : List Str := ["values"]
abbrev P_are_houses : List Str := ["values"]
theorem sc_are_houses : FnScope N_are_houses P_are_houses (defScope s_are_houses) := ⟨rfl, rfl, rfl, by decide +kernel, rfl, by decide +kernel, by decide +kernel⟩
abbrev s_Ring_init__ : Stmt := inClass (top 21) 0
abbrev N_Ring_init__ : List Str := ["self", "houses", "numbers"]
abbrev P_Ring_init__ : List Str := ["self", "houses"]
theorem sc_Ring_init__ : FnScope N_Ring_init__ P_Ring_init__ (defScope s_Ring_init__) := ⟨rfl, rfl, rfl, by decide +kernel, rfl, by decide +kernel, by decide +kernel⟩
abbrev s_Ring_houses : Stmt := inClass (top 21) 1
abbrev N_Ring_houses : List Str := ["self"]
abbrev P_Ring_houses : List Str := ["self"]
theorem sc_Ring_houses : FnScope N_Ring_houses P_Ring_houses (defScope s_Ring_houses) := ⟨rfl, rfl, rfl, by decide +kernel, rfl, by decide +kernel, by decide +kernel⟩
abbrev s_Ring_whole : Stmt := inClass (top 21) 2
abbrev N_Ring_whole : List Str := ["self"]
abbrev P_Ring_whole : List Str := ["self"]
theorem sc_Ring_whole : FnScope N_Ring_whole P_Ring_whole (defScope s_Ring_whole) := ⟨rfl, rfl, rfl, by decide +kernel, rfl, by decide +kernel, by decide +kernel⟩
abbrev s_is_toll : Stmt := top 24
abbrev N_is_toll : List Str := ["value"]
abbrev P_is_toll : List Str := ["value"]
theorem sc_is_toll : FnScope N_is_toll P_is_toll (defScope s_is_toll) := ⟨rfl, rfl, rfl, by decide +kernel, rfl, by decide +kernel, by decide +kernel⟩
abbrev s_tolls_for : Stmt := top 25
abbrev N_tolls_for : List Str := ["ring", "tolls", "numbers"]
abbrev P_tolls_for : List Str := ["ring", "tolls"]
theorem sc_tolls_for : FnScope N_tolls_for P_tolls_for (defScope s_tolls_for) := ⟨rfl, rfl, rfl, by decide +kernel, rfl, by decide +kernel, by decide +kernel⟩
abbrev s_along : Stmt := top 26
abbrev N_along : List Str := ["ring", "over", "carried", "house"]
abbrev P_along : List Str := ["ring"]
theorem sc_along : FnScope N_along P_along (defScope s_along) := ⟨rfl, rfl, rfl, by decide +kernel, rfl, by decide +kernel, by decide +kernel⟩
abbrev s_lowest_middle : Stmt := top 27
abbrev N_lowest_middle : List Str := ["numbers", "tolls", "in_all", "behind", "middle", "number", "toll"]
abbrev P_lowest_middle : List Str := ["numbers", "tolls"]
theorem sc_lowest_middle : FnScope N_lowest_middle P_lowest_middle (defScope s_lowest_middle) := ⟨rfl, rfl, rfl, by decide +kernel, rfl, by decide +kernel, by decide +kernel⟩
abbrev s_least_over_last : Stmt := top 28
abbrev N_least_over_last : List Str := ["row", "tolls"]
abbrev P_least_over_last : List Str := ["row", "tolls"]
theorem sc_least_over_last : FnScope N_least_over_last P_least_over_last (defScope s_least_over_last) := ⟨rfl, rfl, rfl, by decide +kernel, rfl, by decide +kernel, by decide +kernel⟩
abbrev s_full_step : Stmt := top 29
abbrev N_full_step : List Str := ["amount", "toll"]
abbrev P_full_step : List Str := ["amount", "toll"]
theorem sc_full_step : FnScope N_full_step P_full_step (defScope s_full_step) := ⟨rfl, rfl, rfl, by decide +kernel, rfl, by decide +kernel, by decide +kernel⟩
abbrev s_steps_down : Stmt := top 30
abbrev N_steps_down : List Str := ["carried", "tolls", "steps", "left", "bridge", "toll", "back"]
abbrev P_steps_down : List Str := ["carried", "tolls"]
theorem sc_steps_down : FnScope N_steps_down P_steps_down (defScope s_steps_down) := ⟨rfl, rfl, rfl, by decide +kernel, rfl, by decide +kernel, by decide +kernel⟩
abbrev s_prices_by : Stmt := top 31
abbrev N_prices_by : List Str := ["steps", "price", "prices", "step"]
abbrev P_prices_by : List Str := ["steps"]
theorem sc_prices_by : FnScope N_prices_by P_prices_by (defScope s_prices_by) := ⟨rfl, rfl, rfl, by decide +kernel, rfl, by decide +kernel, by decide +kernel⟩
abbrev s_least : Stmt := top 32
abbrev N_least : List Str := ["ring", "tolls", "numbers", "row", "last", "carried"]
abbrev P_least : List Str := ["ring", "tolls"]
theorem sc_least : FnScope N_least P_least (defScope s_least) := ⟨rfl, rfl, rfl, by decide +kernel, rfl, by decide +kernel, by decide +kernel⟩
abbrev s_law_cell_at : Stmt := top 34
abbrev N_law_cell_at : List Str := ["_law_script", "_law_k"]
abbrev P_law_cell_at : List Str := ["_law_script", "_law_k"]
theorem sc_law_cell_at : FnScope N_law_cell_at P_law_cell_at (defScope s_law_cell_at) := ⟨rfl, rfl, rfl, by decide +kernel, rfl, by decide +kernel, by decide +kernel⟩
abbrev s_law_draw : Stmt := top 35
abbrev N_law_draw : List Str := ["_law_cell", "_law_k", "_law_many", "_law_primes"]
abbrev P_law_draw : List Str := ["_law_cell", "_law_k", "_law_many"]
theorem sc_law_draw : FnScope N_law_draw P_law_draw (defScope s_law_draw) := ⟨rfl, rfl, rfl, by decide +kernel, rfl, by decide +kernel, by decide +kernel⟩
abbrev s_law_houses : Stmt := top 36
abbrev N_law_houses : List Str := ["_law_script", "_law_first", "_law_most", "_law_carried", "_law_k"]
abbrev P_law_houses : List Str := ["_law_script", "_law_first"]
theorem sc_law_houses : FnScope N_law_houses P_law_houses (defScope s_law_houses) := ⟨rfl, rfl, rfl, by decide +kernel, rfl, by decide +kernel, by decide +kernel⟩
abbrev s_law_tolls : Stmt := top 37
abbrev N_law_tolls : List Str := ["_law_script", "_law_many", "_law_kind", "_law_found", "_law_k", "_law_cell"]
abbrev P_law_tolls : List Str := ["_law_script", "_law_many"]
theorem sc_law_tolls : FnScope N_law_tolls P_law_tolls (defScope s_law_tolls) := ⟨rfl, rfl, rfl, by decide +kernel, rfl, by decide +kernel, by decide +kernel⟩
abbrev s_law_evened : Stmt := top 39
abbrev N_law_evened : List Str := ["_law_houses_here", "_law_carried"]
abbrev P_law_evened : List Str := ["_law_houses_here", "_law_carried"]
theorem sc_law_evened : FnScope N_law_evened P_law_evened (defScope s_law_evened) := ⟨rfl, rfl, rfl, by decide +kernel, rfl, by decide +kernel, by decide +kernel⟩
abbrev s_law_cost : Stmt := top 40
abbrev N_law_cost : List Str := ["_law_carried", "_law_tolls_here"]
abbrev P_law_cost : List Str := ["_law_carried", "_law_tolls_here"]
theorem sc_law_cost : FnScope N_law_cost P_law_cost (defScope s_law_cost) := ⟨rfl, rfl, rfl, by decide +kernel, rfl, by decide +kernel, by decide +kernel⟩
abbrev s_law_priced : Stmt := top 41
abbrev N_law_priced : List Str := ["_law_houses_here", "_law_tolls_here", "_law_carried", "_law_prices", "_law_k"]
abbrev P_law_priced : List Str := ["_law_houses_here", "_law_tolls_here", "_law_carried", "_law_prices"]
theorem sc_law_priced : FnScope N_law_priced P_law_priced (defScope s_law_priced) := ⟨rfl, rfl, rfl, by decide +kernel, rfl, by decide +kernel, by decide +kernel⟩
abbrev s_law_says : Stmt := top 42
abbrev N_law_says : List Str := ["_law_told", "_law_due"]
abbrev P_law_says : List Str := ["_law_told", "_law_due"]
theorem sc_law_says : FnScope N_law_says P_law_says (defScope s_law_says) := ⟨rfl, rfl, rfl, by decide +kernel, rfl, by decide +kernel, by decide +kernel⟩
abbrev s_law_bent : Stmt := top 43
abbrev N_law_bent : List Str := ["_law_some", "_law_cell", "_law_kind", "_law_at"]
abbrev P_law_bent : List Str := ["_law_some", "_law_cell"]
theorem sc_law_bent : FnScope N_law_bent P_law_bent (defScope s_law_bent) := ⟨rfl, rfl, rfl, by decide +kernel, rfl, by decide +kernel, by decide +kernel⟩
abbrev s_law_even_right : Stmt := top 44
abbrev N_law_even_right : List Str := ["_law_houses_here", "_law_tolls_here", "_law_ring", "_law_cell", "_law_told", "_law_k", "_law_carried", "_law_prices", "_law_handed", "_law_answer", "_law_evens", "_law_due", "_law_some"]
abbrev P_law_even_right : List Str := ["_law_houses_here", "_law_tolls_here", "_law_ring", "_law_cell"]
theorem sc_law_even_right : FnScope N_law_even_right P_law_even_right (defScope s_law_even_right) := ⟨rfl, rfl, rfl, by decide +kernel, rfl, by decide +kernel, by decide +kernel⟩
abbrev s_law_bounds_right : Stmt := top 45
abbrev N_law_bounds_right : List Str := ["_law_houses_here", "_law_ring", "_law_cell", "_law_over", "_law_carried", "_law_house", "_law_most", "_law_due", "_law_handed", "_law_answer", "_law_many", "_law_first", "_law_count", "_law_inside", "_law_total", "_law_bound"]
abbrev P_law_bounds_right : List Str := ["_law_houses_here", "_law_ring", "_law_cell"]
theorem sc_law_bounds_right : FnScope N_law_bounds_right P_law_bounds_right (defScope s_law_bounds_right) := ⟨rfl, rfl, rfl, by decide +kernel, rfl, by decide +kernel, by decide +kernel⟩
abbrev s_law : Stmt := top 46
abbrev N_law : List Str := ["_law_script", "_law_houses_here", "_law_tolls_here", "_law_ring", "_law_k", "_law_cell", "_law_still", "_law_nothing", "_law_some", "_law_prices", "_law_due", "_law_total"]
abbrev P_law : List Str := ["_law_script"]
theorem sc_law : FnScope N_law P_law (defScope s_law) := ⟨rfl, rfl, rfl, by decide +kernel, rfl, by decide +kernel, by decide +kernel⟩
structure Adr where
  f_is_evened : Addr
  d_is_evened : FuncData
  f_keep_to_tolls : Addr
  d_keep_to_tolls : FuncData
  f_cost : Addr
  d_cost : FuncData
  f_worth : Addr
  d_worth : FuncData
  f_Even_init__ : Addr
  d_Even_init__ : FuncData
  f_Even_evens : Addr
  d_Even_evens : FuncData
  f_Even_shows : Addr
  d_Even_shows : FuncData
  f_Uneven_init__ : Addr
  d_Uneven_init__ : FuncData
  f_Uneven_shows : Addr
  d_Uneven_shows : FuncData
  f_Within_init__ : Addr
  d_Within_init__ : FuncData
  f_Within_shows : Addr
  d_Within_shows : FuncData
  f_Stretch_init__ : Addr
  d_Stretch_init__ : FuncData
  f_Stretch_shows : Addr
  d_Stretch_shows : FuncData
  f_is_whole_number : Addr
  d_is_whole_number : FuncData
  f_is_house : Addr
  d_is_house : FuncData
  f_are_houses : Addr
  d_are_houses : FuncData
  f_Ring_init__ : Addr
  d_Ring_init__ : FuncData
  f_Ring_houses : Addr
  d_Ring_houses : FuncData
  f_Ring_whole : Addr
  d_Ring_whole : FuncData
  f_is_toll : Addr
  d_is_toll : FuncData
  f_tolls_for : Addr
  d_tolls_for : FuncData
  f_along : Addr
  d_along : FuncData
  f_lowest_middle : Addr
  d_lowest_middle : FuncData
  f_least_over_last : Addr
  d_least_over_last : FuncData
  f_full_step : Addr
  d_full_step : FuncData
  f_steps_down : Addr
  d_steps_down : FuncData
  f_prices_by : Addr
  d_prices_by : FuncData
  f_least : Addr
  d_least : FuncData
  f_law_cell_at : Addr
  d_law_cell_at : FuncData
  f_law_draw : Addr
  d_law_draw : FuncData
  f_law_houses : Addr
  d_law_houses : FuncData
  f_law_tolls : Addr
  d_law_tolls : FuncData
  f_law_evened : Addr
  d_law_evened : FuncData
  f_law_cost : Addr
  d_law_cost : FuncData
  f_law_priced : Addr
  d_law_priced : FuncData
  f_law_says : Addr
  d_law_says : FuncData
  f_law_bent : Addr
  d_law_bent : FuncData
  f_law_even_right : Addr
  d_law_even_right : FuncData
  f_law_bounds_right : Addr
  d_law_bounds_right : FuncData
  f_law : Addr
  d_law : FuncData
  C_Even : Addr
  C_Uneven : Addr
  C_Within : Addr
  C_Stretch : Addr
  C_Ring : Addr
  v_FARTHEST_NUMBER : Tok
  v_FEWEST_HOUSES : Tok
  v_HIGHEST_TOLL : Tok
structure Txt (K : PySem.W.Frag) (mg : Str → Option Value) (t : Adr) : Prop where
  F_is_evened : Fun K "is_evened" "is_evened" s_is_evened t.f_is_evened t.d_is_evened
  B_is_evened : Binds K t.d_is_evened P_is_evened []
  g_is_evened : mg "is_evened" = some (.ref t.f_is_evened)
  F_keep_to_tolls : Fun K "keep_to_tolls" "keep_to_tolls" s_keep_to_tolls t.f_keep_to_tolls t.d_keep_to_tolls
  B_keep_to_tolls : Binds K t.d_keep_to_tolls P_keep_to_tolls []
  g_keep_to_tolls : mg "keep_to_tolls" = some (.ref t.f_keep_to_tolls)
  F_cost : Fun K "cost" "cost" s_cost t.f_cost t.d_cost
  B_cost : Binds K t.d_cost P_cost []
  g_cost : mg "cost" = some (.ref t.f_cost)
  F_worth : Fun K "worth" "worth" s_worth t.f_worth t.d_worth
  B_worth : Binds K t.d_worth P_worth []
  g_worth : mg "worth" = some (.ref t.f_worth)
  F_Even_init__ : Fun K "__init__" "Even.__init__" s_Even_init__ t.f_Even_init__ t.d_Even_init__
  B_Even_init__ : Binds K t.d_Even_init__ P_Even_init__ []
  F_Even_evens : Fun K "evens" "Even.evens" s_Even_evens t.f_Even_evens t.d_Even_evens
  B_Even_evens : Binds K t.d_Even_evens P_Even_evens []
  F_Even_shows : Fun K "shows" "Even.shows" s_Even_shows t.f_Even_shows t.d_Even_shows
  B_Even_shows : Binds K t.d_Even_shows P_Even_shows []
  F_Uneven_init__ : Fun K "__init__" "Uneven.__init__" s_Uneven_init__ t.f_Uneven_init__ t.d_Uneven_init__
  B_Uneven_init__ : Binds K t.d_Uneven_init__ P_Uneven_init__ []
  F_Uneven_shows : Fun K "shows" "Uneven.shows" s_Uneven_shows t.f_Uneven_shows t.d_Uneven_shows
  B_Uneven_shows : Binds K t.d_Uneven_shows P_Uneven_shows []
  F_Within_init__ : Fun K "__init__" "Within.__init__" s_Within_init__ t.f_Within_init__ t.d_Within_init__
  B_Within_init__ : Binds K t.d_Within_init__ P_Within_init__ []
  F_Within_shows : Fun K "shows" "Within.shows" s_Within_shows t.f_Within_shows t.d_Within_shows
  B_Within_shows : Binds K t.d_Within_shows P_Within_shows []
  F_Stretch_init__ : Fun K "__init__" "Stretch.__init__" s_Stretch_init__ t.f_Stretch_init__ t.d_Stretch_init__
  B_Stretch_init__ : Binds K t.d_Stretch_init__ P_Stretch_init__ []
  F_Stretch_shows : Fun K "shows" "Stretch.shows" s_Stretch_shows t.f_Stretch_shows t.d_Stretch_shows
  B_Stretch_shows : Binds K t.d_Stretch_shows P_Stretch_shows []
  F_is_whole_number : Fun K "is_whole_number" "is_whole_number" s_is_whole_number t.f_is_whole_number t.d_is_whole_number
  B_is_whole_number : Binds K t.d_is_whole_number P_is_whole_number []
  g_is_whole_number : mg "is_whole_number" = some (.ref t.f_is_whole_number)
  F_is_house : Fun K "is_house" "is_house" s_is_house t.f_is_house t.d_is_house
  B_is_house : Binds K t.d_is_house P_is_house []
  g_is_house : mg "is_house" = some (.ref t.f_is_house)
  F_are_houses : Fun K "are_houses" "are_houses" s_are_houses t.f_are_houses t.d_are_houses
  B_are_houses : Binds K t.d_are_houses P_are_houses []
  g_are_houses : mg "are_houses" = some (.ref t.f_are_houses)
  F_Ring_init__ : Fun K "__init__" "Ring.__init__" s_Ring_init__ t.f_Ring_init__ t.d_Ring_init__
  B_Ring_init__ : Binds K t.d_Ring_init__ P_Ring_init__ []
  F_Ring_houses : Fun K "houses" "Ring.houses" s_Ring_houses t.f_Ring_houses t.d_Ring_houses
  B_Ring_houses : Binds K t.d_Ring_houses P_Ring_houses []
  F_Ring_whole : Fun K "whole" "Ring.whole" s_Ring_whole t.f_Ring_whole t.d_Ring_whole
  B_Ring_whole : Binds K t.d_Ring_whole P_Ring_whole []
  F_is_toll : Fun K "is_toll" "is_toll" s_is_toll t.f_is_toll t.d_is_toll
  B_is_toll : Binds K t.d_is_toll P_is_toll []
  g_is_toll : mg "is_toll" = some (.ref t.f_is_toll)
  F_tolls_for : Fun K "tolls_for" "tolls_for" s_tolls_for t.f_tolls_for t.d_tolls_for
  B_tolls_for : Binds K t.d_tolls_for P_tolls_for []
  g_tolls_for : mg "tolls_for" = some (.ref t.f_tolls_for)
  F_along : Fun K "along" "along" s_along t.f_along t.d_along
  B_along : Binds K t.d_along P_along []
  g_along : mg "along" = some (.ref t.f_along)
  F_lowest_middle : Fun K "lowest_middle" "lowest_middle" s_lowest_middle t.f_lowest_middle t.d_lowest_middle
  B_lowest_middle : Binds K t.d_lowest_middle P_lowest_middle []
  g_lowest_middle : mg "lowest_middle" = some (.ref t.f_lowest_middle)
  F_least_over_last : Fun K "least_over_last" "least_over_last" s_least_over_last t.f_least_over_last t.d_least_over_last
  B_least_over_last : Binds K t.d_least_over_last P_least_over_last []
  g_least_over_last : mg "least_over_last" = some (.ref t.f_least_over_last)
  F_full_step : Fun K "full_step" "full_step" s_full_step t.f_full_step t.d_full_step
  B_full_step : Binds K t.d_full_step P_full_step []
  g_full_step : mg "full_step" = some (.ref t.f_full_step)
  F_steps_down : Fun K "steps_down" "steps_down" s_steps_down t.f_steps_down t.d_steps_down
  B_steps_down : Binds K t.d_steps_down P_steps_down []
  g_steps_down : mg "steps_down" = some (.ref t.f_steps_down)
  F_prices_by : Fun K "prices_by" "prices_by" s_prices_by t.f_prices_by t.d_prices_by
  B_prices_by : Binds K t.d_prices_by P_prices_by []
  g_prices_by : mg "prices_by" = some (.ref t.f_prices_by)
  F_least : Fun K "least" "least" s_least t.f_least t.d_least
  B_least : Binds K t.d_least P_least []
  g_least : mg "least" = some (.ref t.f_least)
  F_law_cell_at : Fun K "_law_cell_at" "_law_cell_at" s_law_cell_at t.f_law_cell_at t.d_law_cell_at
  B_law_cell_at : Binds K t.d_law_cell_at P_law_cell_at []
  g_law_cell_at : mg "_law_cell_at" = some (.ref t.f_law_cell_at)
  F_law_draw : Fun K "_law_draw" "_law_draw" s_law_draw t.f_law_draw t.d_law_draw
  B_law_draw : Binds K t.d_law_draw P_law_draw []
  g_law_draw : mg "_law_draw" = some (.ref t.f_law_draw)
  F_law_houses : Fun K "_law_houses" "_law_houses" s_law_houses t.f_law_houses t.d_law_houses
  B_law_houses : Binds K t.d_law_houses P_law_houses []
  g_law_houses : mg "_law_houses" = some (.ref t.f_law_houses)
  F_law_tolls : Fun K "_law_tolls" "_law_tolls" s_law_tolls t.f_law_tolls t.d_law_tolls
  B_law_tolls : Binds K t.d_law_tolls P_law_tolls []
  g_law_tolls : mg "_law_tolls" = some (.ref t.f_law_tolls)
  F_law_evened : Fun K "_law_evened" "_law_evened" s_law_evened t.f_law_evened t.d_law_evened
  B_law_evened : Binds K t.d_law_evened P_law_evened []
  g_law_evened : mg "_law_evened" = some (.ref t.f_law_evened)
  F_law_cost : Fun K "_law_cost" "_law_cost" s_law_cost t.f_law_cost t.d_law_cost
  B_law_cost : Binds K t.d_law_cost P_law_cost []
  g_law_cost : mg "_law_cost" = some (.ref t.f_law_cost)
  F_law_priced : Fun K "_law_priced" "_law_priced" s_law_priced t.f_law_priced t.d_law_priced
  B_law_priced : Binds K t.d_law_priced P_law_priced []
  g_law_priced : mg "_law_priced" = some (.ref t.f_law_priced)
  F_law_says : Fun K "_law_says" "_law_says" s_law_says t.f_law_says t.d_law_says
  B_law_says : Binds K t.d_law_says P_law_says []
  g_law_says : mg "_law_says" = some (.ref t.f_law_says)
  F_law_bent : Fun K "_law_bent" "_law_bent" s_law_bent t.f_law_bent t.d_law_bent
  B_law_bent : Binds K t.d_law_bent P_law_bent []
  g_law_bent : mg "_law_bent" = some (.ref t.f_law_bent)
  F_law_even_right : Fun K "_law_even_right" "_law_even_right" s_law_even_right t.f_law_even_right t.d_law_even_right
  B_law_even_right : Binds K t.d_law_even_right P_law_even_right []
  g_law_even_right : mg "_law_even_right" = some (.ref t.f_law_even_right)
  F_law_bounds_right : Fun K "_law_bounds_right" "_law_bounds_right" s_law_bounds_right t.f_law_bounds_right t.d_law_bounds_right
  B_law_bounds_right : Binds K t.d_law_bounds_right P_law_bounds_right []
  g_law_bounds_right : mg "_law_bounds_right" = some (.ref t.f_law_bounds_right)
  F_law : Fun K "law" "law" s_law t.f_law t.d_law
  B_law : Binds K t.d_law P_law []
  g_law : mg "law" = some (.ref t.f_law)
  g_Even : mg "Even" = some (.ref t.C_Even)
  cl_Even : Cls K t.C_Even
  M_Even : Mk K t.C_Even t.f_Even_init__
  m_Even_evens : Meth K t.C_Even "evens" t.f_Even_evens
  m_Even_shows : Meth K t.C_Even "shows" t.f_Even_shows
  n_Even_carried : NoAttr K t.C_Even "carried"
  n_Even_prices : NoAttr K t.C_Even "prices"
  g_Uneven : mg "Uneven" = some (.ref t.C_Uneven)
  cl_Uneven : Cls K t.C_Uneven
  M_Uneven : Mk K t.C_Uneven t.f_Uneven_init__
  m_Uneven_shows : Meth K t.C_Uneven "shows" t.f_Uneven_shows
  n_Uneven_total : NoAttr K t.C_Uneven "total"
  g_Within : mg "Within" = some (.ref t.C_Within)
  cl_Within : Cls K t.C_Within
  M_Within : Mk K t.C_Within t.f_Within_init__
  m_Within_shows : Meth K t.C_Within "shows" t.f_Within_shows
  n_Within_carried : NoAttr K t.C_Within "carried"
  g_Stretch : mg "Stretch" = some (.ref t.C_Stretch)
  cl_Stretch : Cls K t.C_Stretch
  M_Stretch : Mk K t.C_Stretch t.f_Stretch_init__
  m_Stretch_shows : Meth K t.C_Stretch "shows" t.f_Stretch_shows
  n_Stretch_first : NoAttr K t.C_Stretch "first"
  n_Stretch_many : NoAttr K t.C_Stretch "many"
  g_Ring : mg "Ring" = some (.ref t.C_Ring)
  cl_Ring : Cls K t.C_Ring
  M_Ring : Mk K t.C_Ring t.f_Ring_init__
  m_Ring_houses : Meth K t.C_Ring "houses" t.f_Ring_houses
  m_Ring_whole : Meth K t.C_Ring "whole" t.f_Ring_whole
  n_Ring_numbers : NoAttr K t.C_Ring "numbers"
  j1_Even : PySem.W.findIn K (.ref t.C_Even) "__class__" = some (some (.builtin "object.__class__"))
  j2_Even : PySem.W.mroIn K t.C_Even (.type "object") = some true
  j1_Uneven : PySem.W.findIn K (.ref t.C_Uneven) "__class__" = some (some (.builtin "object.__class__"))
  j2_Uneven : PySem.W.mroIn K t.C_Uneven (.type "object") = some true
  j3 : PySem.W.specialIn K (.builtin "object.__class__") "__get__" = some (some (.builtin "getset_descriptor.__get__"))
  j4 : PySem.W.takesIn K (.builtin "object.__class__") = some true
  i_int_int : PySem.W.kitOne K (.type "int") (.type "int") = some true
  i_int_bool : PySem.W.kitOne K (.type "int") (.type "bool") = some false
  i_list_list : PySem.W.kitOne K (.type "list") (.type "list") = some true
  i_bool_bool : PySem.W.kitOne K (.type "bool") (.type "bool") = some true
  i_Even_Uneven : PySem.W.kitOne K (.ref t.C_Even) (.ref t.C_Uneven) = some false
  i_Uneven_Uneven : PySem.W.kitOne K (.ref t.C_Uneven) (.ref t.C_Uneven) = some true
  b_abs : mg "abs" = none
  b_all : mg "all" = none
  b_bool : mg "bool" = none
  b_enumerate : mg "enumerate" = none
  b_int : mg "int" = none
  b_isinstance : mg "isinstance" = none
  b_len : mg "len" = none
  b_list : mg "list" = none
  b_max : mg "max" = none
  b_min : mg "min" = none
  b_range : mg "range" = none
  b_sorted : mg "sorted" = none
  b_sum : mg "sum" = none
  b_zip : mg "zip" = none
  g_FARTHEST_NUMBER : mg "FARTHEST_NUMBER" = some (.int 1000000 t.v_FARTHEST_NUMBER)
  g_FEWEST_HOUSES : mg "FEWEST_HOUSES" = some (.int 2 t.v_FEWEST_HOUSES)
  g_HIGHEST_TOLL : mg "HIGHEST_TOLL" = some (.int 1000 t.v_HIGHEST_TOLL)
/-! ### mirrors -/
def primes : List Int := [1000003, 1000033, 1000037, 1000039, 1000081, 1000099, 1000117, 1000121, 1000133, 1000151, 1000159, 1000171, 1000183, 1000187, 1000193, 1000199]
def drawI (c k m : Int) : Int := (c * 48271 + k * 69621) % primes.getD (k % 16).toNat 0 % m
theorem prime_pos {k : Int} : 0 < primes.getD (k % 16).toNat 0 := by
  have h0 : 0 ≤ k % 16 := Int.emod_nonneg _ (by decide)
  have h1 : k % 16 < 16 := Int.emod_lt_of_pos _ (by decide)
  generalize (k % 16) = j at h0 h1
  have : ∀ i : _root_.Fin 16, 0 < primes.getD i.val 0 := by decide
  exact this ⟨j.toNat, by omega⟩
theorem draw_lo {c k m : Int} (h : 0 < m) : 0 ≤ drawI c k m := Int.emod_nonneg _ (by omega)
theorem draw_hi {c k m : Int} (h : 0 < m) : drawI c k m < m := Int.emod_lt_of_pos _ h
/-! ### promises -/
def sp_cell_at (K : PySem.W.Frag) : Sp := fun vs H Q _ => ∃ (a : Addr) (ns : List Int) (k : Int), vs = [.ref a, .int k] ∧ SqL K H a (ns.map V.int) ∧ 0 ≤ k ∧ Q (.int (ns.getD k.toNat 0)) H
def sp_draw : Sp := fun vs H Q _ => ∃ (c k m : Int), vs = [.int c, .int k, .int m] ∧ 0 < m ∧ ∀ H', Same H H' → Q (.int (drawI c k m)) H'
section
variable {P : Program} {w : World} {K : PySem.W.Frag} {mg : Str → Option Value} {base : Heap} {t : Adr}
theorem ok_cell_at (T : Txt K mg t) : FnOk P w K mg base CX0 1 t.f_law_cell_at t.d_law_cell_at P_law_cell_at (sp_cell_at K) := by
  refine T.F_law_cell_at.ok sc_law_cell_at (fun vs H Q E h => ?_) (fun cdv A outer s H vs Q E hr h => ?_)
  · obtain ⟨a, ns, k, rfl, _⟩ := h
    rfl
  · obtain ⟨a, ns, k, rfl, hs, h0, q⟩ := h
    refine ⟨_, (pss_cons (ps_if (pt_cmpR op_lt (pv 1) (pe_callB (lenK K) (by rfl) T.b_len bt_len (pa_cons (pv 0) pa_nil se_Name)) (nomark _))
      (pss_one (ps_ret (pe_ix (ixK K) (pv 0) (pv 1) (fun _ _ => rfl))))
      pss_nil)
      (pss_one (ps_ret pe_int))), ?_⟩
    refine ⟨_, rfl, _, rfl, a, _, rfl, .inl hs, _, _, rfl, rfl, _, rfl, ?_⟩
    refine ite2 (fun hlt => ?_) (fun hge => ?_)
    · have hlt' : k < ((ns.map V.int).length : Int) := of_decide_eq_true hlt
      rw [List.length_map] at hlt'
      exact ⟨_, rfl, _, rfl, .inl ⟨a, _, k, _, rfl, rfl, hs, atI_ints h0 hlt', q⟩⟩
    · have hge' : ¬ k < ((ns.map V.int).length : Int) := fun z => hge (decide_eq_true z)
      rw [List.length_map] at hge'
      have e : ns.getD k.toNat 0 = 0 := by rw [List.getD_eq_getElem?_getD, List.getElem?_eq_none (by omega)]; rfl
      rw [e] at q
      exact q
theorem ok_draw (T : Txt K mg t) : FnOk P w K mg base CX0 1 t.f_law_draw t.d_law_draw P_law_draw sp_draw := by
  refine T.F_law_draw.ok sc_law_draw (fun vs H Q E h => ?_) (fun cdv A outer s H vs Q E hr h => ?_)
  · obtain ⟨c, k, m, rfl, _⟩ := h
    rfl
  · obtain ⟨c, k, m, rfl, hm, q⟩ := h
    refine ⟨_, (pss_cons (ps_set (i := 3) sc_law_draw.nd rfl (by first | exact Or.inl rfl | exact Or.inr rfl) (pe_tup (pa_cons pe_int (pa_cons pe_int (pa_cons pe_int (pa_cons pe_int (pa_cons pe_int (pa_cons pe_int (pa_cons pe_int (pa_cons pe_int (pa_cons pe_int (pa_cons pe_int (pa_cons pe_int (pa_cons pe_int (pa_cons pe_int (pa_cons pe_int (pa_cons pe_int (pa_cons pe_int pa_nil se_Constant) se_Constant) se_Constant) se_Constant) se_Constant) se_Constant) se_Constant) se_Constant) se_Constant) se_Constant) se_Constant) se_Constant) se_Constant) se_Constant) se_Constant) se_Constant)))
      (pss_one (ps_ret (pe_op op_mod (pe_op op_mod (pe_op (op_add.or op_cat) (pe_op (op_mul.or op_rep) (pv 0) pe_int) (pe_op (op_mul.or op_rep) (pv 1) pe_int)) (pe_ix (ixK K) (pv 3) (pe_op op_mod (pv 1) pe_int) (fun _ _ => rfl))) (pv 2))))), ?_⟩
    refine ⟨by show 16 ≤ sizeLine; decide, fun p hp => ?_⟩
    have h0 : 0 ≤ k % 16 := Int.emod_nonneg _ (by decide)
    have h1 : k % 16 < 16 := Int.emod_lt_of_pos _ (by decide)
    refine ⟨_, rfl, .inl ⟨_, _, rfl, rfl, .inr ⟨by decide, by decide⟩, ?_⟩⟩
    refine ⟨_, rfl, .inl ⟨_, _, rfl, rfl, .inr ⟨by decide, by decide⟩, ?_⟩⟩
    refine .inl ⟨_, _, rfl, rfl, ?_⟩
    refine ⟨_, rfl, _, rfl, _, _, rfl, rfl, (by show (0 : Int) < 16; decide), ?_⟩
    refine .inr ⟨p, primes.map V.int, _, _, rfl, rfl, SqT.of upd_same, atI_ints h0 h1, ?_⟩
    refine ⟨_, _, rfl, rfl, prime_pos, _, rfl, _, _, rfl, rfl, hm, ?_⟩
    exact q _ (same_upd hp)

/-! ### the ring's numbers -/
def mostI (ns : List Int) : Int := ([2, 9, 400, 499999] : List Int).getD (drawI (ns.getD 0 0) 6 4).toNat 0
def stepI (ns : List Int) (k : Nat) : Int := drawI (ns.getD k 0) ((k : Int) % 5 + 1) (2 * mostI ns + 1) - mostI ns
def carrI (ns : List Int) (first : Int) : List Int := (drawI (ns.getD 1 0) 7 3 - 1) :: first :: (List.range ns.length).map (stepI ns)
def prevI (cs : List Int) (k : Nat) : Int := cs.getD ((k + cs.length - 1) % cs.length) 0
def diffI (cs : List Int) : List Int := (List.range cs.length).map fun k => cs.getD k 0 - prevI cs k
def housesI (ns : List Int) (first : Int) : List Int := diffI (carrI ns first)
theorem most_cases (ns : List Int) : mostI ns = 2 ∨ mostI ns = 9 ∨ mostI ns = 400 ∨ mostI ns = 499999 := by
  unfold mostI
  have h0 := draw_lo (c := ns.getD 0 0) (k := 6) (m := 4) (by decide)
  have h1 := draw_hi (c := ns.getD 0 0) (k := 6) (m := 4) (by decide)
  generalize drawI (ns.getD 0 0) 6 4 = j at h0 h1
  have : ∀ i : _root_.Fin 4, ([2, 9, 400, 499999] : List Int).getD i.val 0 = 2 ∨ ([2, 9, 400, 499999] : List Int).getD i.val 0 = 9 ∨ ([2, 9, 400, 499999] : List Int).getD i.val 0 = 400 ∨ ([2, 9, 400, 499999] : List Int).getD i.val 0 = 499999 := by decide
  exact this ⟨j.toNat, by omega⟩
theorem carr_length (ns : List Int) (first : Int) : (carrI ns first).length = ns.length + 2 := by simp [carrI]
theorem diff_length (cs : List Int) : (diffI cs).length = cs.length := by simp [diffI]
theorem houses_length (ns : List Int) (first : Int) : (housesI ns first).length = ns.length + 2 := by rw [housesI, diff_length, carr_length]
def sp_houses (K : PySem.W.Frag) : Sp := fun vs H Q _ => ∃ (a : Addr) (ns : List Int) (first : Int), vs = [.ref a, .int first] ∧ SqL K H a (ns.map V.int) ∧ ns.length ≤ 63 ∧
  ∀ D H', H D = none → Same H H' → H' D = some (.lst ((housesI ns first).map V.int)) → Q (.ref D) H'
theorem ok_houses (T : Txt K mg t) : FnOk P w K mg base CX0 2 t.f_law_houses t.d_law_houses P_law_houses (sp_houses K) := by
  have G_law_cell_at := ok_cell_at (P := P) (w := w) (base := base) T
  have G_law_draw := ok_draw (P := P) (w := w) (base := base) T
  refine T.F_law_houses.ok sc_law_houses (fun vs H Q E h => ?_) (fun cdv A outer s H vs Q E hr h => ?_)
  · obtain ⟨a, ns, first, rfl, _⟩ := h
    rfl
  · obtain ⟨a, ns, first, rfl, hs, hl, q⟩ := h
    refine ⟨_, (pss_cons (ps_set (i := 2) sc_law_houses.nd rfl (by first | exact Or.inl rfl | exact Or.inr rfl) (pe_ix (ixK K) (pe_tup (pa_cons pe_int (pa_cons pe_int (pa_cons pe_int (pa_cons pe_int pa_nil se_Constant) se_Constant) se_Constant) se_Constant)) (pe_call G_law_draw (hr.mono (by decide)) rfl T.g_law_draw T.F_law_draw.kp T.B_law_draw .nil pass0 (pa_cons (pe_call G_law_cell_at (hr.mono (by decide)) rfl T.g_law_cell_at T.F_law_cell_at.kp T.B_law_cell_at .nil pass0 (pa_cons (pv 0) (pa_cons pe_int pa_nil se_Constant) se_Name)) (pa_cons pe_int (pa_cons pe_int pa_nil se_Constant) se_Constant) se_Call)) (fun _ _ => rfl)))
      (pss_cons (ps_set (i := 3) sc_law_houses.nd rfl (by first | exact Or.inl rfl | exact Or.inr rfl) (pe_lst (pa_cons (pe_op op_sub (pe_call G_law_draw (hr.mono (by decide)) rfl T.g_law_draw T.F_law_draw.kp T.B_law_draw .nil pass0 (pa_cons (pe_call G_law_cell_at (hr.mono (by decide)) rfl T.g_law_cell_at T.F_law_cell_at.kp T.B_law_cell_at .nil pass0 (pa_cons (pv 0) (pa_cons pe_int pa_nil se_Constant) se_Name)) (pa_cons pe_int (pa_cons pe_int pa_nil se_Constant) se_Constant) se_Call)) pe_int) (pa_cons (pv 1) pa_nil se_Name) se_BinOp)))
      (pss_cons (ps_for PassesOwn.never rfl (pi_range1 rfl T.b_range (pa_cons (pe_callB (lenK K) (by rfl) T.b_len bt_len (pa_cons (pv 0) pa_nil se_Name)) pa_nil se_Call)) (pg_name (i := 4) sc_law_houses.nd rfl (by first | exact Or.inl rfl | exact Or.inr rfl))
      (pss_one (ps_expr (bmK K PySem.F.plainAttrs_list PySem.F.slot_list_append PySem.F.type_list_append mtr_append (pv 3) (pa_cons (pe_op op_sub (pe_call G_law_draw (hr.mono (by decide)) rfl T.g_law_draw T.F_law_draw.kp T.B_law_draw .nil pass0 (pa_cons (pe_ix (ixK K) (pv 0) (pv 4) (fun _ _ => rfl)) (pa_cons (pe_op (op_add.or op_cat) (pe_op op_mod (pv 4) pe_int) pe_int) (pa_cons (pe_op (op_add.or op_cat) (pe_op (op_mul.or op_rep) pe_int (pv 2)) pe_int) pa_nil se_BinOp) se_BinOp) se_Subscript)) (pv 2)) pa_nil se_BinOp)))))
      (pss_one (ps_ret (pe_comp (sc := defScope s_law_houses) (XN := N_law_houses) (N' := ["_law_k", "_law_carried"]) (t := 1) (ix := [3]) rfl ⟨rfl, by decide +kernel, by decide +kernel, by decide +kernel, by decide +kernel, rfl, by decide +kernel⟩ rfl rfl (pi_range1 rfl T.b_range (pa_cons (pe_callB (lenK K) (by rfl) T.b_len bt_len (pa_cons (pv 3) pa_nil se_Name)) pa_nil se_Call)) (fun _ _ _ _ _ => (pg_name (i := 0) (show List.Nodup (["_law_k", "_law_carried"] : List Str) by decide +kernel) rfl (Or.inl rfl))) (fun _ _ _ _ _ => (pe_op op_sub (pe_ix (ixK K) (pv 1) (pv 0) (fun _ _ => rfl)) (pe_ix (ixK K) (pv 1) (pe_op op_sub (pv 0) pe_int) (fun _ _ => rfl)))))))))), ?_⟩
    -- the bound
    refine ⟨by show 4 ≤ sizeLine; decide, fun p hp => ?_⟩
    refine ⟨_, rfl, a, ns, 0, rfl, (same_upd hp).seq hs, by decide, ?_⟩
    refine ⟨_, _, _, rfl, by decide, fun H1 s1 => ?_⟩
    refine .inr ⟨p, ([2, 9, 400, 499999] : List Int).map V.int, _, _, rfl, rfl, SqT.of (s1 _ _ upd_same), atI_ints (draw_lo (by decide)) (draw_hi (by decide)), ?_⟩
    have S1 : Same H H1 := (same_upd hp).trans s1
    -- the list
    refine ⟨_, rfl, a, ns, 1, rfl, S1.seq hs, by decide, ?_⟩
    refine ⟨_, _, _, rfl, by decide, fun H2 s2 => ?_⟩
    have S2 : Same H H2 := S1.trans s2
    refine ⟨_, _, rfl, rfl, _, rfl, by show 2 ≤ sizeLine; decide, fun d hd => ?_⟩
    have hdH : H d = none := S2.free hd
    -- for k in range(len(script))
    refine ⟨_, rfl, a, _, rfl, .inl ((S2.upd hdH).seq hs), ((ns.map V.int).length : Int), rfl, by omega, by rw [List.length_map]; omega, ?_⟩
    refine for_range0 (n := ((ns.map V.int).length : Int).toNat) (fun i σ H3 => ∃ v, σ = [some (.ref a), some (.int first), some (.int (mostI ns)), some (.ref d), v] ∧ Same H H3 ∧
      H3 d = some (.lst (((drawI (ns.getD 1 0) 7 3 - 1) :: first :: (List.range i).map (stepI ns)).map V.int))) ⟨_, rfl, S2.upd hdH, upd_same⟩ ?_ ?_
    · rintro i σ H3 hi ⟨v, rfl, S3, h3⟩
      rw [List.length_map] at hi
      have hi' : i < ns.length := by omega
      have hm := most_cases ns
      refine ⟨_, rfl, .inl ⟨rfl, _, SqL.of h3⟩, ?_⟩
      refine ⟨_, rfl, _, rfl, .inl ⟨a, _, _, _, rfl, rfl, S3.seq hs, atI_ints (by omega) (by omega), ?_⟩⟩
      refine ⟨_, rfl, _, _, rfl, rfl, (by show (0 : Int) < 5; decide), .inl ⟨_, _, rfl, rfl, ?_⟩⟩
      refine ⟨_, rfl, .inl ⟨_, _, rfl, rfl, .inl ⟨by decide, by decide⟩, .inl ⟨_, _, rfl, rfl, ?_⟩⟩⟩
      refine ⟨_, _, _, rfl, by omega, fun H4 s4 => ?_⟩
      refine ⟨_, rfl, _, _, rfl, rfl, ?_⟩
      have h4 := s4 _ _ h3
      refine ⟨d, _, _, rfl, rfl, h4, ?_, ?_⟩
      · have := big; simp; omega
      · refine ⟨_, rfl, (S3.trans s4).upd hdH, ?_⟩
        rw [upd_same]
        congr 2
        rw [List.range_succ, List.map_append]
        simp [stepI]
    · rintro σ H3 ⟨v, rfl, S3, h3⟩
      rw [List.length_map] at h3
      have h3' : H3 d = some (.lst ((carrI ns first).map V.int)) := by rw [h3]; simp [carrI]
      -- the comprehension
      have hlen := carr_length ns first
      refine ⟨_, rfl, d, _, rfl, .inl (SqL.of h3'), (((carrI ns first).map V.int).length : Int), rfl, by omega, by rw [List.length_map, hlen]; omega, fun D hD => ?_⟩
      refine comp_range0 (n := (((carrI ns first).map V.int).length : Int).toNat) (fun k => .int ((carrI ns first).getD k 0 - prevI (carrI ns first) k)) (by have := big; rw [List.length_map, hlen]; simp; omega) (by decide) hD (fun k H5 Z hk S5 z => ?_) (fun H5 S5 e5 => ?_)
      · rw [List.length_map] at hk
        have hk' : k < (carrI ns first).length := by omega
        have h5 := S5 _ _ h3'
        refine ⟨_, rfl, _, rfl, .inl ⟨d, _, _, _, rfl, rfl, SqL.of h5, atI_ints (by omega) (by omega), ?_⟩⟩
        refine ⟨_, rfl, _, rfl, _, _, rfl, rfl, .inl ⟨d, _, _, _, rfl, rfl, SqL.of h5, atI_back hk', ?_⟩⟩
        exact ⟨_, _, rfl, rfl, z H5 (Same.refl _)⟩
      · refine q D H5 (S3.free hD) (S3.trans S5) ?_
        rw [e5]
        simp [housesI, diffI, List.map_map, Function.comp]
/-! ### the tolls -/
def tollRow (c : Int) : List Int := [1, drawI c 1 3, drawI c 2 4 / 3, drawI c 3 1001, 0]
def tollI (ns : List Int) (k : Nat) : Int := (tollRow (ns.getD ((k + 1) % (ns.length + 1)) 0)).getD (drawI (ns.getD 0 0) 8 5).toNat 0
def tollsI (ns : List Int) (n : Nat) : List Int := (List.range n).map (tollI ns)
theorem tollRow_range (c : Int) : ∀ x ∈ tollRow c, 0 ≤ x ∧ x ≤ 1000 := by
  have h1 := draw_lo (c := c) (k := 1) (m := 3) (by decide)
  have h2 := draw_hi (c := c) (k := 1) (m := 3) (by decide)
  have h3 := draw_lo (c := c) (k := 2) (m := 4) (by decide)
  have h4 := draw_hi (c := c) (k := 2) (m := 4) (by decide)
  have h5 := draw_lo (c := c) (k := 3) (m := 1001) (by decide)
  have h6 := draw_hi (c := c) (k := 3) (m := 1001) (by decide)
  intro x hx
  simp only [tollRow, List.mem_cons, List.not_mem_nil, or_false] at hx
  omega
theorem toll_range (ns : List Int) (k : Nat) : 0 ≤ tollI ns k ∧ tollI ns k ≤ 1000 := by
  have h0 := draw_lo (c := ns.getD 0 0) (k := 8) (m := 5) (by decide)
  have h1 := draw_hi (c := ns.getD 0 0) (k := 8) (m := 5) (by decide)
  exact tollRow_range _ _ (L2.getD_mem (show (drawI (ns.getD 0 0) 8 5).toNat < 5 by omega))
theorem tolls_length (ns : List Int) (n : Nat) : (tollsI ns n).length = n := by simp [tollsI]
theorem tolls_range {ns : List Int} {n : Nat} : ∀ x ∈ tollsI ns n, 0 ≤ x ∧ x ≤ 1000 := fun x hx => by
  obtain ⟨k, _, rfl⟩ := List.mem_map.mp hx
  exact toll_range ns k
def sp_tolls (K : PySem.W.Frag) : Sp := fun vs H Q _ => ∃ (a : Addr) (ns : List Int) (n : Nat), vs = [.ref a, .int n] ∧ SqL K H a (ns.map V.int) ∧ ns.length ≤ 63 ∧ n ≤ 1000 ∧
  ∀ D H', H D = none → Same H H' → H' D = some (.lst ((tollsI ns n).map V.int)) → Q (.ref D) H'
theorem ok_tolls (T : Txt K mg t) : FnOk P w K mg base CX0 2 t.f_law_tolls t.d_law_tolls P_law_tolls (sp_tolls K) := by
  have G_law_cell_at := ok_cell_at (P := P) (w := w) (base := base) T
  have G_law_draw := ok_draw (P := P) (w := w) (base := base) T
  refine T.F_law_tolls.ok sc_law_tolls (fun vs H Q E h => ?_) (fun cdv A outer s H vs Q E hr h => ?_)
  · obtain ⟨a, ns, n, rfl, _⟩ := h
    rfl
  · obtain ⟨a, ns, n, rfl, hs, hl, hn, q⟩ := h
    refine ⟨_, (pss_cons (ps_set (i := 2) sc_law_tolls.nd rfl (by first | exact Or.inl rfl | exact Or.inr rfl) (pe_call G_law_draw (hr.mono (by decide)) rfl T.g_law_draw T.F_law_draw.kp T.B_law_draw .nil pass0 (pa_cons (pe_call G_law_cell_at (hr.mono (by decide)) rfl T.g_law_cell_at T.F_law_cell_at.kp T.B_law_cell_at .nil pass0 (pa_cons (pv 0) (pa_cons pe_int pa_nil se_Constant) se_Name)) (pa_cons pe_int (pa_cons pe_int pa_nil se_Constant) se_Constant) se_Call)))
      (pss_cons (ps_set (i := 3) sc_law_tolls.nd rfl (by first | exact Or.inl rfl | exact Or.inr rfl) (pe_lst pa_nil))
      (pss_cons (ps_for PassesOwn.never rfl (pi_range1 rfl T.b_range (pa_cons (pv 1) pa_nil se_Name)) (pg_name (i := 4) sc_law_tolls.nd rfl (by first | exact Or.inl rfl | exact Or.inr rfl))
      (pss_cons (ps_set (i := 5) sc_law_tolls.nd rfl (by first | exact Or.inl rfl | exact Or.inr rfl) (pe_call G_law_cell_at (hr.mono (by decide)) rfl T.g_law_cell_at T.F_law_cell_at.kp T.B_law_cell_at .nil pass0 (pa_cons (pv 0) (pa_cons (pe_op op_mod (pe_op (op_add.or op_cat) (pv 4) pe_int) (pe_op (op_add.or op_cat) (pe_callB (lenK K) (by rfl) T.b_len bt_len (pa_cons (pv 0) pa_nil se_Name)) pe_int)) pa_nil se_BinOp) se_Name)))
      (pss_one (ps_expr (bmK K PySem.F.plainAttrs_list PySem.F.slot_list_append PySem.F.type_list_append mtr_append (pv 3) (pa_cons (pe_ix (ixK K) (pe_tup (pa_cons pe_int (pa_cons (pe_call G_law_draw (hr.mono (by decide)) rfl T.g_law_draw T.F_law_draw.kp T.B_law_draw .nil pass0 (pa_cons (pv 5) (pa_cons pe_int (pa_cons pe_int pa_nil se_Constant) se_Constant) se_Name)) (pa_cons (pe_op op_fdiv (pe_call G_law_draw (hr.mono (by decide)) rfl T.g_law_draw T.F_law_draw.kp T.B_law_draw .nil pass0 (pa_cons (pv 5) (pa_cons pe_int (pa_cons pe_int pa_nil se_Constant) se_Constant) se_Name)) pe_int) (pa_cons (pe_call G_law_draw (hr.mono (by decide)) rfl T.g_law_draw T.F_law_draw.kp T.B_law_draw .nil pass0 (pa_cons (pv 5) (pa_cons pe_int (pa_cons pe_int pa_nil se_Constant) se_Constant) se_Name)) (pa_cons pe_int pa_nil se_Constant) se_Call) se_BinOp) se_Call) se_Constant)) (pv 2) (fun _ _ => rfl)) pa_nil se_Subscript))))))
      (pss_one (ps_ret (pv 3)))))), ?_⟩
    refine ⟨_, rfl, a, ns, 0, rfl, hs, by decide, ?_⟩
    refine ⟨_, _, _, rfl, by decide, fun H1 s1 => ?_⟩
    refine ⟨Nat.zero_le _, fun d hd => ?_⟩
    have hdH : H d = none := s1.free hd
    refine ⟨_, rfl, (n : Int), rfl, by omega, by omega, ?_⟩
    refine for_range0 (n := (n : Int).toNat) (fun i σ H3 => ∃ v u, σ = [some (.ref a), some (.int n), some (.int (drawI (ns.getD 0 0) 8 5)), some (.ref d), v, u] ∧ Same H H3 ∧ H3 d = some (.lst ((tollsI ns i).map V.int))) ⟨_, _, rfl, s1.upd hdH, upd_same⟩ ?_ ?_
    · rintro i σ H3 hi ⟨v, u, rfl, S3, h3⟩
      have hc : ((i : Int) + 1) % ((ns.map V.int).length + 1) = (((i + 1) % (ns.length + 1) : Nat) : Int) := by rw [List.length_map, Int.natCast_emod]; rfl
      refine ⟨_, rfl, _, rfl, .inl ⟨_, _, rfl, rfl, ?_⟩⟩
      refine ⟨_, rfl, a, _, rfl, .inl (S3.seq hs), .inl ⟨_, _, rfl, rfl, ?_⟩⟩
      refine ⟨_, _, rfl, rfl, by omega, ?_⟩
      refine ⟨a, ns, _, rfl, S3.seq hs, by omega, ?_⟩
      rw [hc, Int.toNat_natCast]
      -- append
      refine ⟨_, rfl, .inl ⟨rfl, _, SqL.of h3⟩, ?_⟩
      refine ⟨_, rfl, _, _, _, rfl, by decide, fun H4 s4 => ?_⟩
      refine ⟨_, rfl, _, _, _, rfl, by decide, fun H5 s5 => ?_⟩
      refine ⟨_, _, rfl, rfl, ⟨by decide, by decide⟩, ?_⟩
      refine ⟨_, rfl, _, _, _, rfl, by decide, fun H6 s6 => ?_⟩
      refine ⟨by show 5 ≤ sizeLine; decide, fun p hp => ?_⟩
      refine ⟨_, rfl, .inr ⟨p, (tollRow (ns.getD ((i + 1) % (ns.length + 1)) 0)).map V.int, _, _, rfl, rfl, SqT.of upd_same, atI_ints (draw_lo (by decide)) (draw_hi (by decide)), ?_⟩⟩
      have S6 : Same H3 H6 := (s4.trans s5).trans s6
      have h6 : H6 d = some (.lst ((tollsI ns i).map V.int)) := S6 _ _ h3
      have h7 : (upd H6 p (.tup ((tollRow (ns.getD ((i + 1) % (ns.length + 1)) 0)).map V.int))) d = some (.lst ((tollsI ns i).map V.int)) := by rw [upd_ne (ne_of_none h6 hp)]; exact h6
      refine ⟨d, _, _, rfl, rfl, h7, ?_, ?_⟩
      · have := big; rw [List.length_map, tolls_length]; omega
      · refine ⟨_, _, rfl, ((S3.trans S6).upd (S3.free (S6.free hp))).upd hdH, ?_⟩
        rw [upd_same]
        congr 2
        simp [tollsI, List.range_succ, tollI]
    · rintro σ H3 ⟨v, u, rfl, S3, h3⟩
      rw [Int.toNat_natCast] at h3
      exact ⟨_, rfl, q d H3 hdH S3 h3⟩
/-! ### tests -/
theorem t_eq {i j : Int} : (decide (V.int i = V.int j) = true) ↔ i = j := by
  rw [decide_eq_true_iff]; exact ⟨fun e => by injection e, fun e => by rw [e]⟩
theorem t_ne {i j : Int} : ((!decide (V.int i = V.int j)) = true) ↔ i ≠ j := by
  rw [Bool.not_eq_true', decide_eq_false_iff_not]; exact ⟨fun h e => h (by rw [e]), fun h e => h (by injection e)⟩
theorem d_int {i j : Int} : decide (V.int i = V.int j) = decide (i = j) := by
  rw [Bool.eq_iff_iff, t_eq, decide_eq_true_iff]
/-! ### a carrying that evens -/
def absI (i : Int) : Int := if i < 0 then -i else i
def evenB (hs cs : List Int) : Bool := decide (diffI cs = hs)
theorem diff_get {cs : List Int} {k : Nat} (h : k < cs.length) : (diffI cs).getD k 0 = cs.getD k 0 - prevI cs k := by
  simp [diffI, h]
theorem evenB_all {hs cs : List Int} (h : cs.length = hs.length) : ((List.range hs.length).map fun k => decide (V.int (cs.getD k 0 - prevI cs k) = V.int (hs.getD k 0))).all id = evenB hs cs := by
  rw [Bool.eq_iff_iff, List.all_eq_true]
  unfold evenB
  rw [decide_eq_true_iff]
  constructor
  · intro q
    refine List.ext_getElem (by rw [diff_length, h]) fun k h1 h2 => ?_
    have := q (decide (V.int (cs.getD k 0 - prevI cs k) = V.int (hs.getD k 0))) (List.mem_map.mpr ⟨k, List.mem_range.mpr h2, rfl⟩)
    have e := t_eq.mp this
    have e2 := diff_get (cs := cs) (k := k) (by omega)
    rw [List.getD_eq_getElem?_getD, List.getElem?_eq_getElem h1, Option.getD_some] at e2
    rw [List.getD_eq_getElem?_getD (l := hs), List.getElem?_eq_getElem h2, Option.getD_some] at e
    rw [e2, e]
  · intro q b hb
    obtain ⟨k, hk, rfl⟩ := List.mem_map.mp hb
    have hk' := List.mem_range.mp hk
    show decide _ = true
    rw [t_eq, ← q, diff_get (by omega)]
theorem evenB_len {hs cs : List Int} (h : cs.length ≠ hs.length) : evenB hs cs = false := by
  unfold evenB
  rw [decide_eq_false_iff_not]
  intro e
  rw [← e, diff_length] at h
  exact h rfl
def sp_is_evened (K : PySem.W.Frag) : Sp := fun vs H Q _ => ∃ (a b : Addr) (hs cs : List Int), vs = [.ref a, .ref b] ∧ SqL K H a (hs.map V.int) ∧ SqL K H b (cs.map V.int) ∧ hs.length ≤ 1000 ∧ ∀ H', Same H H' → Q (.bl (evenB hs cs)) H'
theorem ok_is_evened (T : Txt K mg t) : FnOk P w K mg base CX0 1 t.f_is_evened t.d_is_evened P_is_evened (sp_is_evened K) := by
  refine T.F_is_evened.ok sc_is_evened (fun vs H Q E h => ?_) (fun cdv A outer s H vs Q E hr h => ?_)
  · obtain ⟨a, b, hs, cs, rfl, _⟩ := h
    rfl
  · obtain ⟨a, b, hs, cs, rfl, hh, hc, hl, q⟩ := h
    refine ⟨_, (pss_cons (ps_if (pt_cmpR (neK K hr.units0) (pe_callB (lenK K) (by rfl) T.b_len bt_len (pa_cons (pv 1) pa_nil se_Name)) (pe_callB (lenK K) (by rfl) T.b_len bt_len (pa_cons (pv 0) pa_nil se_Name)) (nomark _))
      (pss_one (ps_ret pe_bl))
      pss_nil)
      (pss_one (ps_ret (pe_callB (allK K rfl) (by rfl) T.b_all bt_all (pa_cons (pe_comp (sc := defScope s_is_evened) (XN := N_is_evened) (N' := ["k", "houses", "carried"]) (t := 1) (ix := [0, 1]) rfl ⟨rfl, by decide +kernel, by decide +kernel, by decide +kernel, by decide +kernel, rfl, by decide +kernel⟩ rfl rfl (pi_range1 rfl T.b_range (pa_cons (pe_callB (lenK K) (by rfl) T.b_len bt_len (pa_cons (pv 0) pa_nil se_Name)) pa_nil se_Call)) (fun _ _ _ _ _ => (pg_name (i := 0) (show List.Nodup (["k", "houses", "carried"] : List Str) by decide +kernel) rfl (Or.inl rfl))) (fun _ _ _ _ _ => (pe_cmpR (eqK K hr.units0) (pe_op op_sub (pe_ix (ixK K) (pv 2) (pv 0) (fun _ _ => rfl)) (pe_ix (ixK K) (pv 2) (pe_op op_sub (pv 0) pe_int) (fun _ _ => rfl))) (pe_ix (ixK K) (pv 1) (pv 0) (fun _ _ => rfl)) (nomark _)))) pa_nil se_ListComp))))), ?_⟩
    refine ⟨_, rfl, b, _, rfl, .inl hc, _, rfl, a, _, rfl, .inl hh, .inl ⟨rfl, _, rfl, ?_⟩⟩
    refine ite2 (fun h => ?_) (fun h => ?_)
    · rw [t_ne, List.length_map, List.length_map] at h
      have := q H (Same.refl _)
      rw [evenB_len (by omega)] at this
      exact this
    · rw [t_ne, List.length_map, List.length_map] at h
      have hlen : cs.length = hs.length := by omega
      refine ⟨_, rfl, a, _, rfl, .inl hh, ((hs.map V.int).length : Int), rfl, by omega, by rw [List.length_map]; omega, fun D hD => ?_⟩
      refine comp_range0 (t := 1) (n := ((hs.map V.int).length : Int).toNat) (fun k => .bl (decide (V.int (cs.getD k 0 - prevI cs k) = V.int (hs.getD k 0)))) (by have := big; rw [List.length_map]; omega) (by decide) hD (fun k H5 Z hk S5 z => ?_) (fun H5 S5 e5 => ?_)
      · rw [List.length_map, Int.toNat_natCast] at hk
        refine ⟨_, rfl, _, rfl, .inl ⟨b, _, _, _, rfl, rfl, S5.seq hc, atI_ints (by omega) (by omega), ?_⟩⟩
        refine ⟨_, rfl, _, rfl, _, _, rfl, rfl, .inl ⟨b, _, _, _, rfl, rfl, S5.seq hc, atI_back (by omega), ?_⟩⟩
        refine ⟨_, _, rfl, rfl, ?_⟩
        refine ⟨_, rfl, _, rfl, .inl ⟨a, _, _, _, rfl, rfl, S5.seq hh, atI_ints (by omega) (by omega), ?_⟩⟩
        exact .inl ⟨rfl, z H5 (Same.refl _)⟩
      · rw [List.length_map, Int.toNat_natCast] at e5
        refine ⟨D, (List.range hs.length).map fun k => decide (V.int (cs.getD k 0 - prevI cs k) = V.int (hs.getD k 0)), rfl, SqL.of (by rw [e5, List.map_map]; rfl), ?_⟩
        have := q H5 S5
        rw [← evenB_all hlen] at this
        exact this

/-! ### sums over two lists -/
def Sm (x : Int) : Prop := -(2 ^ 64) < x ∧ x < 2 ^ 64
theorem map_int_get {ts : List Int} {k : Nat} {x : V} (h : (ts.map V.int)[k]? = some x) : ∃ i, ts[k]? = some i ∧ x = .int i := by
  rw [List.getElem?_map] at h
  cases e : ts[k]? with
  | none => rw [e] at h; cases h
  | some i => rw [e] at h; exact ⟨i, rfl, (Option.some.inj h).symm⟩
theorem mem_of_get {ts : List Int} {k : Nat} {i : Int} (h : ts[k]? = some i) : i ∈ ts := List.mem_of_getElem? h
def v2 (g : Int → Int → Int) : V → V → V
  | .int i, .int j => .int (g i j)
  | _, _ => .non
theorem zip_v2 (g : Int → Int → Int) : ∀ ts cs : List Int, List.zipWith (v2 g) (ts.map V.int) (cs.map V.int) = (List.zipWith g ts cs).map V.int
  | [], _ => by simp
  | _ :: _, [] => by simp
  | t :: ts, c :: cs => by simp [v2, zip_v2 g ts cs]
def costI (ts cs : List Int) : Int := (List.zipWith (fun t c => t * absI c) ts cs).sum
def worthI (hs ps : List Int) : Int := (List.zipWith (fun p h => p * h) ps hs).sum
def keepB (ps ts : List Int) : Bool := (List.range ps.length).all fun k => decide (absI (ps.getD k 0 - prevI ps k) ≤ prevI ts k)
def sp_cost (K : PySem.W.Frag) : Sp := fun vs H Q _ => ∃ (a b : Addr) (cs ts : List Int), vs = [.ref a, .ref b] ∧ SqL K H a (cs.map V.int) ∧ SqL K H b (ts.map V.int) ∧ ts.length ≤ 1000 ∧ (∀ x ∈ ts, Sm x) ∧ ∀ H', Same H H' → Q (.int (costI ts cs)) H'
def sp_worth (K : PySem.W.Frag) : Sp := fun vs H Q _ => ∃ (a b : Addr) (hs ps : List Int), vs = [.ref a, .ref b] ∧ SqL K H a (hs.map V.int) ∧ SqL K H b (ps.map V.int) ∧ ps.length ≤ 1000 ∧ (∀ x ∈ hs, Sm x) ∧ ∀ H', Same H H' → Q (.int (worthI hs ps)) H'
def sp_keep (K : PySem.W.Frag) : Sp := fun vs H Q _ => ∃ (a b : Addr) (ps ts : List Int), vs = [.ref a, .ref b] ∧ SqL K H a (ps.map V.int) ∧ SqL K H b (ts.map V.int) ∧ ps.length ≤ 1000 ∧ ts.length = ps.length ∧ ∀ H', Same H H' → Q (.bl (keepB ps ts)) H'
theorem ok_cost (T : Txt K mg t) : FnOk P w K mg base CX0 1 t.f_cost t.d_cost P_cost (sp_cost K) := by
  refine T.F_cost.ok sc_cost (fun vs H Q E h => ?_) (fun cdv A outer s H vs Q E hr h => ?_)
  · obtain ⟨a, b, cs, ts, rfl, _⟩ := h
    rfl
  · obtain ⟨a, b, cs, ts, rfl, hc, ht, hl, hb, q⟩ := h
    refine ⟨_, (pss_one (ps_ret (pe_callB (sumK K rfl) (by rfl) T.b_sum bt_sum (pa_cons (pe_comp (sc := defScope s_cost) (XN := N_cost) (N' := ["toll", "amount"]) (t := 2) (ix := []) rfl ⟨rfl, by decide +kernel, by decide +kernel, by decide +kernel, by decide +kernel, rfl, by decide +kernel⟩ rfl rfl (piZ K rfl T.b_zip (pa_cons (pv 1) (pa_cons (pv 0) pa_nil se_Name) se_Name)) (fun _ _ _ _ _ => (pgT K (n := 2) rfl (pgs_cons (pg_name (i := 0) (show List.Nodup (["toll", "amount"] : List Str) by decide +kernel) rfl (Or.inl rfl)) (pgs_cons (pg_name (i := 1) (show List.Nodup (["toll", "amount"] : List Str) by decide +kernel) rfl (Or.inl rfl)) pgs_nil)))) (fun _ _ _ _ _ => (pe_op (op_mul.or op_rep) (pv 0) (pe_callB call_abs (by rfl) T.b_abs bt_abs (pa_cons (pv 1) pa_nil se_Name))))) pa_nil se_ListComp)))), ?_⟩
    refine ⟨_, rfl, _, rfl, b, a, rfl, ⟨_, ht⟩, ⟨_, hc⟩, fun D hD => ?_⟩
    refine comp_zip (t := 2) (v2 fun t c => t * absI c) (by have := big; rw [List.length_map]; omega) (by decide) hD ht hc (fun k x y H5 Z hx hy S5 z => ?_) (fun H5 S5 e5 => ?_)
    · obtain ⟨i, ei, rfl⟩ := map_int_get hx
      obtain ⟨j, ej, rfl⟩ := map_int_get hy
      refine ⟨_, rfl, _, rfl, _, rfl, .inl ⟨_, _, rfl, rfl, .inl (hb i (mem_of_get ei)), z H5 (Same.refl _)⟩⟩
    · rw [zip_v2] at e5
      exact ⟨D, _, rfl, SqL.of e5, q H5 S5⟩
theorem ok_worth (T : Txt K mg t) : FnOk P w K mg base CX0 1 t.f_worth t.d_worth P_worth (sp_worth K) := by
  refine T.F_worth.ok sc_worth (fun vs H Q E h => ?_) (fun cdv A outer s H vs Q E hr h => ?_)
  · obtain ⟨a, b, hs, ps, rfl, _⟩ := h
    rfl
  · obtain ⟨a, b, hs, ps, rfl, hh, hp, hl, hb, q⟩ := h
    refine ⟨_, (pss_one (ps_ret (pe_callB (sumK K rfl) (by rfl) T.b_sum bt_sum (pa_cons (pe_comp (sc := defScope s_worth) (XN := N_worth) (N' := ["price", "number"]) (t := 2) (ix := []) rfl ⟨rfl, by decide +kernel, by decide +kernel, by decide +kernel, by decide +kernel, rfl, by decide +kernel⟩ rfl rfl (piZ K rfl T.b_zip (pa_cons (pv 1) (pa_cons (pv 0) pa_nil se_Name) se_Name)) (fun _ _ _ _ _ => (pgT K (n := 2) rfl (pgs_cons (pg_name (i := 0) (show List.Nodup (["price", "number"] : List Str) by decide +kernel) rfl (Or.inl rfl)) (pgs_cons (pg_name (i := 1) (show List.Nodup (["price", "number"] : List Str) by decide +kernel) rfl (Or.inl rfl)) pgs_nil)))) (fun _ _ _ _ _ => (pe_op (op_mul.or op_rep) (pv 0) (pv 1)))) pa_nil se_ListComp)))), ?_⟩
    refine ⟨_, rfl, _, rfl, b, a, rfl, ⟨_, hp⟩, ⟨_, hh⟩, fun D hD => ?_⟩
    refine comp_zip (t := 2) (v2 fun t c => t * c) (by have := big; rw [List.length_map]; omega) (by decide) hD hp hh (fun k x y H5 Z hx hy S5 z => ?_) (fun H5 S5 e5 => ?_)
    · obtain ⟨i, ei, rfl⟩ := map_int_get hx
      obtain ⟨j, ej, rfl⟩ := map_int_get hy
      refine ⟨_, rfl, _, rfl, .inl ⟨_, _, rfl, rfl, .inr (hb j (mem_of_get ej)), z H5 (Same.refl _)⟩⟩
    · rw [zip_v2] at e5
      exact ⟨D, _, rfl, SqL.of e5, q H5 S5⟩
theorem ok_keep (T : Txt K mg t) : FnOk P w K mg base CX0 1 t.f_keep_to_tolls t.d_keep_to_tolls P_keep_to_tolls (sp_keep K) := by
  refine T.F_keep_to_tolls.ok sc_keep_to_tolls (fun vs H Q E h => ?_) (fun cdv A outer s H vs Q E hr h => ?_)
  · obtain ⟨a, b, ps, ts, rfl, _⟩ := h
    rfl
  · obtain ⟨a, b, ps, ts, rfl, hp, ht, hl, hlen, q⟩ := h
    refine ⟨_, (pss_one (ps_ret (pe_callB (allK K rfl) (by rfl) T.b_all bt_all (pa_cons (pe_comp (sc := defScope s_keep_to_tolls) (XN := N_keep_to_tolls) (N' := ["k", "tolls", "prices"]) (t := 1) (ix := [1, 0]) rfl ⟨rfl, by decide +kernel, by decide +kernel, by decide +kernel, by decide +kernel, rfl, by decide +kernel⟩ rfl rfl (pi_range1 rfl T.b_range (pa_cons (pe_callB (lenK K) (by rfl) T.b_len bt_len (pa_cons (pv 0) pa_nil se_Name)) pa_nil se_Call)) (fun _ _ _ _ _ => (pg_name (i := 0) (show List.Nodup (["k", "tolls", "prices"] : List Str) by decide +kernel) rfl (Or.inl rfl))) (fun _ _ _ _ _ => (pe_cmpR op_le (pe_callB call_abs (by rfl) T.b_abs bt_abs (pa_cons (pe_op op_sub (pe_ix (ixK K) (pv 2) (pv 0) (fun _ _ => rfl)) (pe_ix (ixK K) (pv 2) (pe_op op_sub (pv 0) pe_int) (fun _ _ => rfl))) pa_nil se_BinOp)) (pe_ix (ixK K) (pv 1) (pe_op op_sub (pv 0) pe_int) (fun _ _ => rfl)) (nomark _)))) pa_nil se_ListComp)))), ?_⟩
    refine ⟨_, rfl, a, _, rfl, .inl hp, ((ps.map V.int).length : Int), rfl, by omega, by rw [List.length_map]; omega, fun D hD => ?_⟩
    refine comp_range0 (t := 1) (n := ((ps.map V.int).length : Int).toNat) (fun k => .bl (decide (absI (ps.getD k 0 - prevI ps k) ≤ prevI ts k))) (by have := big; rw [List.length_map]; omega) (by decide) hD (fun k H5 Z hk S5 z => ?_) (fun H5 S5 e5 => ?_)
    · rw [List.length_map, Int.toNat_natCast] at hk
      refine ⟨_, rfl, _, rfl, .inl ⟨a, _, _, _, rfl, rfl, S5.seq hp, atI_ints (by omega) (by omega), ?_⟩⟩
      refine ⟨_, rfl, _, rfl, _, _, rfl, rfl, .inl ⟨a, _, _, _, rfl, rfl, S5.seq hp, atI_back (by omega), ?_⟩⟩
      refine ⟨_, _, rfl, rfl, _, rfl, ?_⟩
      refine ⟨_, rfl, _, rfl, _, _, rfl, rfl, .inl ⟨b, _, _, _, rfl, rfl, S5.seq ht, atI_back (by omega), ?_⟩⟩
      exact ⟨_, _, rfl, rfl, z H5 (Same.refl _)⟩
    · rw [List.length_map, Int.toNat_natCast] at e5
      refine ⟨D, (List.range ps.length).map fun k => decide (absI (ps.getD k 0 - prevI ps k) ≤ prevI ts k), rfl, SqL.of (by rw [e5, List.map_map]; rfl), ?_⟩
      have := q H5 S5
      rw [List.all_map]
      exact this
/-! ### houses -/
def houseB (i : Int) : Bool := decide (absI i ≤ 1000000)
def sp_whole1 : Sp := fun vs H Q _ => ∃ i : Int, vs = [.int i] ∧ Q (.bl true) H
def sp_house1 : Sp := fun vs H Q _ => ∃ i : Int, vs = [.int i] ∧ Q (.bl (houseB i)) H
def sp_houses1 (K : PySem.W.Frag) : Sp := fun vs H Q _ => ∃ (a : Addr) (ns : List Int), vs = [.ref a] ∧ SqL K H a (ns.map V.int) ∧ ns.length ≤ 1000 ∧ ∀ H', Same H H' → Q (.bl (ns.all houseB)) H'
theorem ok_whole1 (T : Txt K mg t) : FnOk P w K mg base CX0 1 t.f_is_whole_number t.d_is_whole_number P_is_whole_number sp_whole1 := by
  refine T.F_is_whole_number.ok sc_is_whole_number (fun vs H Q E h => ?_) (fun cdv A outer s H vs Q E hr h => ?_)
  · obtain ⟨i, rfl, _⟩ := h
    rfl
  · obtain ⟨i, rfl, q⟩ := h
    refine ⟨_, (pss_one (ps_ret (pe_and (pe_callB (isiK K) (by rfl) T.b_isinstance bt_isinstance (pa_cons (pv 0) (pa_cons (pe_bltn (v := .ty "int") rfl T.b_int bt_int rfl) pa_nil se_Name) se_Name)) (pe_one (pe_not (pe_callB (isiK K) (by rfl) T.b_isinstance bt_isinstance (pa_cons (pv 0) (pa_cons (pe_bltn (v := .ty "bool") rfl T.b_bool bt_bool rfl) pa_nil se_Name) se_Name))))))), ?_⟩
    refine ⟨_, rfl, _, _, _, _, true, rfl, rfl, TyOf.int i, T.i_int_int, _, rfl, iteT ?_⟩
    exact ⟨_, rfl, _, _, _, _, false, rfl, rfl, TyOf.int i, T.i_int_bool, _, rfl, q⟩
theorem ok_house1 (T : Txt K mg t) : FnOk P w K mg base CX0 2 t.f_is_house t.d_is_house P_is_house sp_house1 := by
  have G_is_whole_number := ok_whole1 (P := P) (w := w) (base := base) T
  refine T.F_is_house.ok sc_is_house (fun vs H Q E h => ?_) (fun cdv A outer s H vs Q E hr h => ?_)
  · obtain ⟨i, rfl, _⟩ := h
    rfl
  · obtain ⟨i, rfl, q⟩ := h
    refine ⟨_, (pss_one (ps_ret (pe_and (pe_call G_is_whole_number (hr.mono (by decide)) rfl T.g_is_whole_number T.F_is_whole_number.kp T.B_is_whole_number .nil pass0 (pa_cons (pv 0) pa_nil se_Name)) (pe_one (pe_cmpR op_le (pe_callB call_abs (by rfl) T.b_abs bt_abs (pa_cons (pv 0) pa_nil se_Name)) (pe_glob (v := .int 1000000) rfl T.g_FARTHEST_NUMBER ⟨_, rfl⟩) (nomark _)))))), ?_⟩
    refine ⟨_, rfl, i, rfl, _, rfl, iteT ?_⟩
    exact ⟨_, rfl, _, rfl, _, _, rfl, rfl, q⟩
theorem ok_houses1 (T : Txt K mg t) : FnOk P w K mg base CX0 3 t.f_are_houses t.d_are_houses P_are_houses (sp_houses1 K) := by
  have G_is_house := ok_house1 (P := P) (w := w) (base := base) T
  refine T.F_are_houses.ok sc_are_houses (fun vs H Q E h => ?_) (fun cdv A outer s H vs Q E hr h => ?_)
  · obtain ⟨a, ns, rfl, _⟩ := h
    rfl
  · obtain ⟨a, ns, rfl, ha, hl, q⟩ := h
    refine ⟨_, (pss_one (ps_ret (pe_callB (allK K rfl) (by rfl) T.b_all bt_all (pa_cons (pe_comp (sc := defScope s_are_houses) (XN := N_are_houses) (N' := ["value"]) (t := 1) (ix := []) rfl ⟨rfl, by decide +kernel, by decide +kernel, by decide +kernel, by decide +kernel, rfl, by decide +kernel⟩ rfl rfl (piL K (pv 0)) (fun _ _ _ _ _ => (pg_name (i := 0) (show List.Nodup (["value"] : List Str) by decide +kernel) rfl (Or.inl rfl))) (fun _ _ _ _ _ => (pe_call G_is_house (hr.mono (by decide)) rfl T.g_is_house T.F_is_house.kp T.B_is_house .nil pass0 (pa_cons (pv 0) pa_nil se_Name)))) pa_nil se_ListComp)))), ?_⟩
    refine ⟨_, rfl, a, rfl, ⟨_, ha⟩, fun D hD => ?_⟩
    refine comp_list (t := 1) (fun x => match x with | .int i => .bl (houseB i) | _ => .non) (by have := big; rw [List.length_map]; omega) (by decide) hD ha (fun k x H5 Z hx S5 z => ?_) (fun H5 S5 e5 => ?_)
    · obtain ⟨i, ei, rfl⟩ := map_int_get hx
      exact ⟨_, rfl, i, rfl, z H5 (Same.refl _)⟩
    · refine ⟨D, ns.map houseB, rfl, SqL.of (by rw [e5, List.map_map, List.map_map]; rfl), ?_⟩
      have := q H5 S5
      rw [List.all_map]
      exact this

/-! ### Ring -/
theorem t_lt {i j : Int} : (decide (i < j) = true) ↔ i < j := decide_eq_true_iff
theorem t_le {i j : Int} : (decide (i ≤ j) = true) ↔ i ≤ j := decide_eq_true_iff
/-- all but p is as it was -/
def But (p : Addr) (H H' : Hp) : Prop := ∀ b o, H b = some o → b ≠ p → H' b = some o
def ringF (l : Addr) : List (Str × V) := [("numbers", .ref l)]
structure RingAt (C : Addr) (H : Hp) (p l : Addr) (hs : List Int) : Prop where
  ob : ∃ dx, H p = some (.ins C dx (ringF l))
  li : H l = some (.lst (hs.map V.int))
theorem RingAt.same {C : Addr} {H H' : Hp} {p l : Addr} {hs : List Int} (r : RingAt C H p l hs) (s : Same H H') : RingAt C H' p l hs := ⟨let ⟨dx, e⟩ := r.ob; ⟨dx, s _ _ e⟩, s _ _ r.li⟩
def sp_Ring_init (C : Addr) : Sp := fun vs H Q _ => ∃ (p a dx : Addr) (ns : List Int), vs = [.ref p, .ref a] ∧ H p = some (.ins C dx []) ∧ H a = some (.lst (ns.map V.int)) ∧ 2 ≤ ns.length ∧ ns.length ≤ 1000 ∧ ns.all houseB = true ∧
  ∀ l H', H l = none → But p H H' → RingAt C H' p l ns → Q .non H'
def sp_Ring_houses (C : Addr) : Sp := fun vs H Q _ => ∃ (p l : Addr) (hs : List Int), vs = [.ref p] ∧ RingAt C H p l hs ∧ ∀ D H', H D = none → Same H H' → H' D = some (.lst (hs.map V.int)) → Q (.ref D) H'
def sp_Ring_whole (C : Addr) : Sp := fun vs H Q _ => ∃ (p l : Addr) (hs : List Int), vs = [.ref p] ∧ RingAt C H p l hs ∧ Q (.int hs.sum) H
theorem ok_Ring_init (T : Txt K mg t) : FnOk P w K mg base CX0 4 t.f_Ring_init__ t.d_Ring_init__ P_Ring_init__ (sp_Ring_init t.C_Ring) := by
  have G_are_houses := ok_houses1 (P := P) (w := w) (base := base) T
  refine T.F_Ring_init__.ok sc_Ring_init__ (fun vs H Q E h => ?_) (fun cdv A outer s H vs Q E hr h => ?_)
  · obtain ⟨p, a, dx, ns, rfl, _⟩ := h
    rfl
  · obtain ⟨p, a, dx, ns, rfl, hp, ha, h2, hl, hb, q⟩ := h
    refine ⟨_, (pss_cons (ps_if (pt_not (pt_val (pe_callB (isiK K) (by rfl) T.b_isinstance bt_isinstance (pa_cons (pv 1) (pa_cons (pe_bltn (v := .ty "list") rfl T.b_list bt_list rfl) pa_nil se_Name) se_Name))))
      (pss_one ps_never)
      pss_nil)
      (pss_cons (ps_set (i := 2) sc_Ring_init__.nd rfl (by first | exact Or.inl rfl | exact Or.inr rfl) (pe_callTy (listK K) (by rfl) T.b_list bt_list (pa_cons (pv 1) pa_nil se_Name)))
      (pss_cons (ps_if (pt_cmpR op_lt (pe_callB (lenK K) (by rfl) T.b_len bt_len (pa_cons (pv 2) pa_nil se_Name)) (pe_glob (v := .int 2) rfl T.g_FEWEST_HOUSES ⟨_, rfl⟩) (nomark _))
      (pss_one ps_never)
      pss_nil)
      (pss_cons (ps_if (pt_not (pt_val (pe_call G_are_houses (hr.mono (by decide)) rfl T.g_are_houses T.F_are_houses.kp T.B_are_houses .nil pass0 (pa_cons (pv 2) pa_nil se_Name))))
      (pss_one ps_never)
      pss_nil)
      (pss_one (ps_fld (pv 0) (pv 2) rfl)))))), ?_⟩
    refine ⟨_, rfl, _, _, _, _, true, rfl, rfl, TyOf.lst ha, T.i_list_list, _, rfl, iteF ?_⟩
    refine ⟨_, rfl, a, _, rfl, .inl (SqL.of ha), fun l hlf => ?_⟩
    refine ⟨_, rfl, l, _, rfl, .inl (SqL.of upd_same), _, _, rfl, rfl, _, rfl, ?_⟩
    refine ite2 (fun h => ?_) (fun h => ?_)
    · rw [t_lt, List.length_map] at h
      omega
    refine ⟨_, rfl, l, ns, rfl, SqL.of upd_same, hl, fun H2 s2 => ?_⟩
    rw [hb]
    refine ⟨_, rfl, iteF ?_⟩
    have npl : p ≠ l := ne_of_none hp hlf
    have e2 : H2 p = some (.ins t.C_Ring dx []) := s2 _ _ (by rw [upd_ne npl]; exact hp)
    have e3 : H2 l = some (.lst (ns.map V.int)) := s2 _ _ upd_same
    refine ⟨_, rfl, _, rfl, p, t.C_Ring, dx, [], rfl, e2, T.cl_Ring, T.n_Ring_numbers, by decide, ?_⟩
    refine q l _ hlf (fun b o e hb => ?_) ⟨⟨dx, upd_same⟩, by rw [upd_ne npl.symm]; exact e3⟩
    rw [upd_ne hb]
    exact s2 _ _ (by rw [upd_ne (ne_of_none e hlf)]; exact e)
theorem ok_Ring_houses (T : Txt K mg t) : FnOk P w K mg base CX0 1 t.f_Ring_houses t.d_Ring_houses P_Ring_houses (sp_Ring_houses t.C_Ring) := by
  refine T.F_Ring_houses.ok sc_Ring_houses (fun vs H Q E h => ?_) (fun cdv A outer s H vs Q E hr h => ?_)
  · obtain ⟨p, l, hs, rfl, _⟩ := h
    rfl
  · obtain ⟨p, l, hs, rfl, ⟨⟨dx, hp⟩, hl⟩, q⟩ := h
    refine ⟨_, (pss_one (ps_ret (pe_callTy (listK K) (by rfl) T.b_list bt_list (pa_cons (fldK K (pv 0)) pa_nil se_Attribute)))), ?_⟩
    exact ⟨_, rfl, p, t.C_Ring, dx, _, _, rfl, hp, T.cl_Ring, T.n_Ring_numbers, rfl, l, _, rfl, .inl (SqL.of hl), fun D hD => q D _ hD (same_upd hD) upd_same⟩
theorem ok_Ring_whole (T : Txt K mg t) : FnOk P w K mg base CX0 1 t.f_Ring_whole t.d_Ring_whole P_Ring_whole (sp_Ring_whole t.C_Ring) := by
  refine T.F_Ring_whole.ok sc_Ring_whole (fun vs H Q E h => ?_) (fun cdv A outer s H vs Q E hr h => ?_)
  · obtain ⟨p, l, hs, rfl, _⟩ := h
    rfl
  · obtain ⟨p, l, hs, rfl, ⟨⟨dx, hp⟩, hl⟩, q⟩ := h
    refine ⟨_, (pss_one (ps_ret (pe_callB (sumK K rfl) (by rfl) T.b_sum bt_sum (pa_cons (fldK K (pv 0)) pa_nil se_Attribute)))), ?_⟩
    exact ⟨_, rfl, p, t.C_Ring, dx, _, _, rfl, hp, T.cl_Ring, T.n_Ring_numbers, rfl, l, hs, rfl, SqL.of hl, q⟩

/-! ### Even -/
def evF (c q : Addr) : List (Str × V) := [("carried", .ref c), ("prices", .ref q)]
structure EvenAt (C : Addr) (H : Hp) (p c q : Addr) (cs ps : List Int) : Prop where
  ob : ∃ dx, H p = some (.ins C dx (evF c q))
  ca : H c = some (.lst (cs.map V.int))
  pr : H q = some (.lst (ps.map V.int))
theorem EvenAt.same {C : Addr} {H H' : Hp} {p c q : Addr} {cs ps : List Int} (r : EvenAt C H p c q cs ps) (s : Same H H') : EvenAt C H' p c q cs ps := ⟨let ⟨dx, e⟩ := r.ob; ⟨dx, s _ _ e⟩, s _ _ r.ca, s _ _ r.pr⟩
theorem ne_cp : ¬ (("carried" : Str) = "prices") := by decide +kernel
theorem put_ev (c q : Addr) : putF "prices" (.ref q) (putF "carried" (.ref c) []) = evF c q := by
  show (if ("carried" : Str) = "prices" then _ else (("carried" : Str), V.ref c) :: putF "prices" (V.ref q) []) = _
  rw [if_neg ne_cp]
  rfl
theorem look_c (c q : Addr) : (evF c q).lookup ("carried" : Str) = some (.ref c) := by rfl
theorem look_p (c q : Addr) : (evF c q).lookup ("prices" : Str) = some (.ref q) := by rfl
def sp_Even_init (K : PySem.W.Frag) (C : Addr) : Sp := fun vs H Q _ => ∃ (p a b dx : Addr) (cs ps : List Int), vs = [.ref p, .ref a, .ref b] ∧ H p = some (.ins C dx []) ∧ SqL K H a (cs.map V.int) ∧ SqL K H b (ps.map V.int) ∧
  ∀ c q H', H c = none → H q = none → c ≠ q → But p H H' → EvenAt C H' p c q cs ps → Q .non H'
theorem SqL.upd {K : PySem.W.Frag} {H : Hp} {a p : Addr} {o : HO} {xs : List V} (h : SqL K H a xs) (hp : H p = none ∨ ∃ C dx fs, H p = some (.ins C dx fs)) : SqL K (L2.upd H p o) a xs := by
  rcases h with (h | ⟨ob, h⟩) | h
  · refine .inl (.inl ?_)
    rw [upd_ne]
    · exact h
    · rintro rfl; rcases hp with e | ⟨C, dx, fs, e⟩ <;> rw [h] at e <;> cases e
  · refine .inl (.inr ⟨ob, ?_⟩)
    rw [upd_ne]
    · exact h
    · rintro rfl; rcases hp with e | ⟨C, dx, fs, e⟩ <;> rw [h] at e <;> cases e
  · exact .inr h
theorem ok_Even_init (T : Txt K mg t) : FnOk P w K mg base CX0 1 t.f_Even_init__ t.d_Even_init__ P_Even_init__ (sp_Even_init K t.C_Even) := by
  refine T.F_Even_init__.ok sc_Even_init__ (fun vs H Q E h => ?_) (fun cdv A outer s H vs Q E hr h => ?_)
  · obtain ⟨p, a, b, dx, cs, ps, rfl, _⟩ := h
    rfl
  · obtain ⟨p, a, b, dx, cs, ps, rfl, hp, ha, hb, q⟩ := h
    refine ⟨_, (pss_cons (ps_fld (pv 0) (pe_callTy (listK K) (by rfl) T.b_list bt_list (pa_cons (pv 1) pa_nil se_Name)) rfl)
      (pss_one (ps_fld (pv 0) (pe_callTy (listK K) (by rfl) T.b_list bt_list (pa_cons (pv 2) pa_nil se_Name)) rfl))), ?_⟩
    refine ⟨_, rfl, a, _, rfl, .inl ha, fun c hc => ?_⟩
    have npc : p ≠ c := ne_of_none hp hc
    refine ⟨_, rfl, p, t.C_Even, dx, [], rfl, (by rw [upd_ne npc]; exact hp), T.cl_Even, T.n_Even_carried, by decide, ?_⟩
    have hb2 : SqL K (upd (upd H c (.lst (cs.map V.int))) p (.ins t.C_Even dx (putF "carried" (.ref c) []))) b (ps.map V.int) := by
      refine SqL.upd (SqL.upd hb (.inl hc)) (.inr ⟨t.C_Even, dx, [], ?_⟩)
      rw [upd_ne npc]; exact hp
    refine ⟨_, rfl, b, _, rfl, .inl hb2, fun q' hq' => ?_⟩
    have npq : p ≠ q' := by
      rintro rfl
      rw [upd_same] at hq'; cases hq'
    have ncq : c ≠ q' := by
      rintro rfl
      rw [upd_ne npc.symm, upd_same] at hq'; cases hq'
    have hqH : H q' = none := by
      rw [upd_ne npq.symm, upd_ne ncq.symm] at hq'; exact hq'
    refine ⟨_, rfl, p, t.C_Even, dx, putF "carried" (.ref c) [], rfl, (by rw [upd_ne npq, upd_same]), T.cl_Even, T.n_Even_prices, by show 1 < 1000; decide, ?_⟩
    rw [put_ev]
    refine q c q' _ hc hqH ncq (fun x o e hx => ?_) ⟨⟨dx, upd_same⟩, ?_, ?_⟩
    · rw [upd_ne hx, upd_ne (ne_of_none e hqH), upd_ne hx, upd_ne (ne_of_none e hc)]
      exact e
    · rw [upd_ne npc.symm, upd_ne ncq, upd_ne npc.symm, upd_same]
    · rw [upd_ne npq.symm, upd_same]
def sp_Even_evens (C R : Addr) : Sp := fun vs H Q _ => ∃ (p c q r l : Addr) (cs ps hs : List Int), vs = [.ref p, .ref r] ∧ EvenAt C H p c q cs ps ∧ RingAt R H r l hs ∧ hs.length ≤ 1000 ∧ ∀ H', Same H H' → Q (.bl (evenB hs cs)) H'
theorem ok_Even_evens (T : Txt K mg t) : FnOk P w K mg base CX0 2 t.f_Even_evens t.d_Even_evens P_Even_evens (sp_Even_evens t.C_Even t.C_Ring) := by
  have G_is_evened := ok_is_evened (P := P) (w := w) (base := base) T
  have G_Ring_houses := ok_Ring_houses (P := P) (w := w) (base := base) T
  refine T.F_Even_evens.ok sc_Even_evens (fun vs H Q E h => ?_) (fun cdv A outer s H vs Q E hr h => ?_)
  · obtain ⟨p, c, q, r, l, cs, ps, hs, rfl, _⟩ := h
    rfl
  · obtain ⟨p, c, q, r, l, cs, ps, hs, rfl, EA, RA, hl, k⟩ := h
    obtain ⟨⟨dr, er⟩, el⟩ := id RA
    refine ⟨_, (pss_one (ps_ret (pe_call G_is_evened (hr.mono (by decide)) rfl T.g_is_evened T.F_is_evened.kp T.B_is_evened .nil pass0 (pa_cons (pe_meth0 (pv 1) T.cl_Ring T.m_Ring_houses G_Ring_houses (hr.mono (by decide)) T.B_Ring_houses .nil pass0) (pa_cons (fldK K (pv 0)) pa_nil se_Attribute) se_Call)))), ?_⟩
    refine ⟨_, rfl, r, dr, _, rfl, er, rfl, r, l, hs, rfl, RA, fun D H1 hD s1 e1 => ?_⟩
    obtain ⟨⟨dx, ep⟩, ec, eq⟩ := EA.same s1
    refine ⟨_, rfl, p, t.C_Even, dx, _, _, rfl, ep, T.cl_Even, T.n_Even_carried, look_c _ _, ?_⟩
    exact ⟨D, c, hs, cs, rfl, SqL.of e1, SqL.of ec, hl, fun H2 s2 => k H2 (s1.trans s2)⟩
def showsB (hs ts cs ps : List Int) : Bool := decide (ps.length = hs.length) && decide (ts.length = hs.length) && evenB hs cs && keepB ps ts && decide (worthI hs ps = costI ts cs)
def sp_Even_shows (K : PySem.W.Frag) (C R : Addr) : Sp := fun vs H Q _ => ∃ (p c q r l a : Addr) (cs ps hs ts : List Int), vs = [.ref p, .ref r, .ref a] ∧ EvenAt C H p c q cs ps ∧ RingAt R H r l hs ∧ SqL K H a (ts.map V.int) ∧ hs.length ≤ 1000 ∧ (∀ x ∈ hs, Sm x) ∧ (∀ x ∈ ts, Sm x) ∧
  ∀ H', Same H H' → Q (.bl (showsB hs ts cs ps)) H'
theorem ok_Even_shows (T : Txt K mg t) : FnOk P w K mg base CX0 3 t.f_Even_shows t.d_Even_shows P_Even_shows (sp_Even_shows K t.C_Even t.C_Ring) := by
  have G_Ring_houses := ok_Ring_houses (P := P) (w := w) (base := base) T
  have G_Even_evens := ok_Even_evens (P := P) (w := w) (base := base) T
  have G_keep_to_tolls := ok_keep (P := P) (w := w) (base := base) T
  have G_worth := ok_worth (P := P) (w := w) (base := base) T
  have G_cost := ok_cost (P := P) (w := w) (base := base) T
  refine T.F_Even_shows.ok sc_Even_shows (fun vs H Q E h => ?_) (fun cdv A outer s H vs Q E hr h => ?_)
  · obtain ⟨p, c, q, r, l, a, cs, ps, hs, ts, rfl, _⟩ := h
    rfl
  · obtain ⟨p, c, q, r, l, a, cs, ps, hs, ts, rfl, EA, RA, ha, hl, hh, ht, k⟩ := h
    obtain ⟨⟨dr, er⟩, el⟩ := id RA
    refine ⟨_, (pss_cons (ps_set (i := 3) sc_Even_shows.nd rfl (by first | exact Or.inl rfl | exact Or.inr rfl) (pe_meth0 (pv 1) T.cl_Ring T.m_Ring_houses G_Ring_houses (hr.mono (by decide)) T.B_Ring_houses .nil pass0))
      (pss_cons (ps_if (PW.pt (pw_or (pt_cmpR (neK K hr.units0) (pe_callB (lenK K) (by rfl) T.b_len bt_len (pa_cons (fldK K (pv 0)) pa_nil se_Attribute)) (pe_callB (lenK K) (by rfl) T.b_len bt_len (pa_cons (pv 3) pa_nil se_Name)) (nomark _)) (pw_or1 (pt_cmpR (neK K hr.units0) (pe_callB (lenK K) (by rfl) T.b_len bt_len (pa_cons (pv 2) pa_nil se_Name)) (pe_callB (lenK K) (by rfl) T.b_len bt_len (pa_cons (pv 3) pa_nil se_Name)) (nomark _)))))
      (pss_one (ps_ret pe_bl))
      pss_nil)
      (pss_cons (ps_if (PW.pt (pw_or (pt_not (pt_val (pe_meth (pv 0) T.cl_Even T.m_Even_evens G_Even_evens (hr.mono (by decide)) T.B_Even_evens .nil pass0 (pa_cons (pv 1) pa_nil se_Name)))) (pw_or1 (pt_not (pt_val (pe_call G_keep_to_tolls (hr.mono (by decide)) rfl T.g_keep_to_tolls T.F_keep_to_tolls.kp T.B_keep_to_tolls .nil pass0 (pa_cons (fldK K (pv 0)) (pa_cons (pv 2) pa_nil se_Name) se_Attribute)))))))
      (pss_one (ps_ret pe_bl))
      pss_nil)
      (pss_one (ps_ret (pe_cmpR (eqK K hr.units0) (pe_call G_worth (hr.mono (by decide)) rfl T.g_worth T.F_worth.kp T.B_worth .nil pass0 (pa_cons (pv 3) (pa_cons (fldK K (pv 0)) pa_nil se_Attribute) se_Name)) (pe_call G_cost (hr.mono (by decide)) rfl T.g_cost T.F_cost.kp T.B_cost .nil pass0 (pa_cons (fldK K (pv 0)) (pa_cons (pv 2) pa_nil se_Name) se_Attribute)) (nomark _))))))), ?_⟩
    refine ⟨_, rfl, r, dr, _, rfl, er, rfl, r, l, hs, rfl, RA, fun D H1 hD s1 e1 => ?_⟩
    have EA1 := EA.same s1
    have RA1 := RA.same s1
    have ha1 := s1.seq ha
    obtain ⟨⟨dx, ep⟩, ec, eq⟩ := id EA1
    -- len(self.prices) != len(houses)
    refine ⟨_, rfl, p, t.C_Even, dx, _, _, rfl, ep, T.cl_Even, T.n_Even_prices, look_p _ _, q, _, rfl, .inl (SqL.of eq), ?_⟩
    refine ⟨_, rfl, D, _, rfl, .inl (SqL.of e1), .inl ⟨rfl, _, rfl, ?_⟩⟩
    have no : (decide (ps.length = hs.length) && decide (ts.length = hs.length) && evenB hs cs && keepB ps ts && decide (worthI hs ps = costI ts cs)) = false → ∀ H', Same H H' → Q (.bl false) H' := fun e H' s' => by
      have := k H' s'
      unfold showsB at this
      rw [e] at this
      exact this
    by_cases h1 : ps.length = hs.length
    case neg =>
      refine (if_pos (t_ne.mpr (by rw [List.length_map, List.length_map]; omega))).mpr (iteT ?_)
      exact no (by simp [h1]) H1 s1
    refine (if_neg (fun z => t_ne.mp z (by rw [List.length_map, List.length_map]; omega))).mpr ?_
    refine ⟨_, rfl, a, _, rfl, .inl ha1, _, rfl, D, _, rfl, .inl (SqL.of e1), .inl ⟨rfl, _, rfl, ?_⟩⟩
    by_cases h2 : ts.length = hs.length
    case neg =>
      refine (if_pos (t_ne.mpr (by rw [List.length_map, List.length_map]; omega))).mpr ?_
      exact no (by simp [h2]) H1 s1
    refine (if_neg (fun z => t_ne.mp z (by rw [List.length_map, List.length_map]; omega))).mpr ?_
    -- not self.evens(ring) or not keep_to_tolls(..)
    refine ⟨_, rfl, p, dx, _, rfl, ep, rfl, _, rfl, p, c, q, r, l, cs, ps, hs, rfl, EA1, RA1, hl, fun H2 s2 => ⟨_, rfl, ?_⟩⟩
    have S2 := s1.trans s2
    cases h3 : evenB hs cs
    · refine iteT (iteT ?_)
      exact no (by simp [h3]) H2 S2
    refine iteF ?_
    obtain ⟨⟨dx2, ep2⟩, ec2, eq2⟩ := EA1.same s2
    refine ⟨_, rfl, p, t.C_Even, dx2, _, _, rfl, ep2, T.cl_Even, T.n_Even_prices, look_p _ _, _, rfl, ?_⟩
    refine ⟨q, a, ps, ts, rfl, SqL.of eq2, s2.seq ha1, by omega, by omega, fun H3 s3 => ⟨_, rfl, ?_⟩⟩
    cases h4 : keepB ps ts
    · refine iteT ?_
      exact no (by simp [h4]) H3 (S2.trans s3)
    refine iteF ?_
    obtain ⟨⟨dx3, ep3⟩, ec3, eq3⟩ := (EA1.same s2).same s3
    have e3 : H3 D = some (.lst (hs.map V.int)) := s3 _ _ (s2 _ _ e1)
    refine ⟨_, rfl, _, rfl, p, t.C_Even, dx3, _, _, rfl, ep3, T.cl_Even, T.n_Even_prices, look_p _ _, ?_⟩
    refine ⟨D, q, hs, ps, rfl, SqL.of e3, SqL.of eq3, by omega, hh, fun H4 s4 => ?_⟩
    obtain ⟨⟨dx4, ep4⟩, ec4, eq4⟩ := ((EA1.same s2).same s3).same s4
    refine ⟨_, rfl, p, t.C_Even, dx4, _, _, rfl, ep4, T.cl_Even, T.n_Even_carried, look_c _ _, _, rfl, ?_⟩
    refine ⟨c, a, cs, ts, rfl, SqL.of ec4, ((s2.trans s3).trans s4).seq ha1, by omega, ht, fun H5 s5 => ?_⟩
    refine .inl ⟨rfl, ?_⟩
    have := k H5 (((S2.trans s3).trans s4).trans s5)
    unfold showsB at this
    rw [h3, h4, decide_eq_true h1, decide_eq_true h2] at this
    rw [d_int]
    simpa using this

/-! ### Uneven, Within, Stretch -/
def unF (z : Int) : List (Str × V) := [("total", .int z)]
structure UnAt (C : Addr) (H : Hp) (p : Addr) (z : Int) : Prop where
  ob : ∃ dx, H p = some (.ins C dx (unF z))
theorem UnAt.same {C : Addr} {H H' : Hp} {p : Addr} {z : Int} (r : UnAt C H p z) (s : Same H H') : UnAt C H' p z := ⟨let ⟨dx, e⟩ := r.ob; ⟨dx, s _ _ e⟩⟩
def sp_Un_init (C : Addr) : Sp := fun vs H Q _ => ∃ (p dx : Addr) (z : Int), vs = [.ref p, .int z] ∧ H p = some (.ins C dx []) ∧ ∀ H', But p H H' → UnAt C H' p z → Q .non H'
theorem ok_Un_init (T : Txt K mg t) : FnOk P w K mg base CX0 1 t.f_Uneven_init__ t.d_Uneven_init__ P_Uneven_init__ (sp_Un_init t.C_Uneven) := by
  refine T.F_Uneven_init__.ok sc_Uneven_init__ (fun vs H Q E h => ?_) (fun cdv A outer s H vs Q E hr h => ?_)
  · obtain ⟨p, dx, z, rfl, _⟩ := h
    rfl
  · obtain ⟨p, dx, z, rfl, hp, q⟩ := h
    refine ⟨_, (pss_one (ps_fld (pv 0) (pv 1) rfl)), ?_⟩
    refine ⟨_, rfl, _, rfl, p, t.C_Uneven, dx, [], rfl, hp, T.cl_Uneven, T.n_Uneven_total, by decide, ?_⟩
    exact q _ (fun b o e hb => by rw [upd_ne hb]; exact e) ⟨⟨dx, upd_same⟩⟩
def unB (hs : List Int) (z : Int) : Bool := decide (z ≠ 0) && decide (z = hs.sum)
def sp_Un_shows (C R : Addr) : Sp := fun vs H Q _ => ∃ (p r l : Addr) (a : V) (z : Int) (hs : List Int), vs = [.ref p, .ref r, a] ∧ UnAt C H p z ∧ RingAt R H r l hs ∧ Q (.bl (unB hs z)) H
theorem ok_Un_shows (T : Txt K mg t) : FnOk P w K mg base CX0 2 t.f_Uneven_shows t.d_Uneven_shows P_Uneven_shows (sp_Un_shows t.C_Uneven t.C_Ring) := by
  have G_Ring_whole := ok_Ring_whole (P := P) (w := w) (base := base) T
  refine T.F_Uneven_shows.ok sc_Uneven_shows (fun vs H Q E h => ?_) (fun cdv A outer s H vs Q E hr h => ?_)
  · obtain ⟨p, r, l, a, z, hs, rfl, _⟩ := h
    rfl
  · obtain ⟨p, r, l, a, z, hs, rfl, ⟨dx, hp⟩, RA, q⟩ := h
    obtain ⟨⟨dr, er⟩, el⟩ := id RA
    refine ⟨_, (pss_one (ps_ret (pe_and (pe_cmpR (neK K hr.units0) (fldK K (pv 0)) pe_int (nomark _)) (pe_one (pe_cmpR (eqK K hr.units0) (fldK K (pv 0)) (pe_meth0 (pv 1) T.cl_Ring T.m_Ring_whole G_Ring_whole (hr.mono (by decide)) T.B_Ring_whole .nil pass0) (nomark _)))))), ?_⟩
    refine ⟨_, rfl, p, t.C_Uneven, dx, _, _, rfl, hp, T.cl_Uneven, T.n_Uneven_total, rfl, .inl ⟨rfl, _, rfl, ?_⟩⟩
    by_cases hz : z = 0
    · refine (if_neg (fun e => t_ne.mp e hz)).mpr ?_
      unfold unB at q
      rw [decide_eq_false (fun e : z ≠ 0 => e hz), Bool.false_and] at q
      exact q
    · refine (if_pos (t_ne.mpr hz)).mpr ?_
      refine ⟨_, rfl, p, t.C_Uneven, dx, _, _, rfl, hp, T.cl_Uneven, T.n_Uneven_total, rfl, _, rfl, r, dr, _, rfl, er, rfl, r, l, hs, rfl, RA, .inl ⟨rfl, ?_⟩⟩
      unfold unB at q
      rw [decide_eq_true hz, Bool.true_and] at q
      rw [d_int]
      exact q
def wiF (c : Addr) : List (Str × V) := [("carried", .ref c)]
structure WiAt (C : Addr) (H : Hp) (p c : Addr) (cs : List Int) : Prop where
  ob : ∃ dx, H p = some (.ins C dx (wiF c))
  ca : H c = some (.lst (cs.map V.int))
theorem WiAt.same {C : Addr} {H H' : Hp} {p c : Addr} {cs : List Int} (r : WiAt C H p c cs) (s : Same H H') : WiAt C H' p c cs := ⟨let ⟨dx, e⟩ := r.ob; ⟨dx, s _ _ e⟩, s _ _ r.ca⟩
def sp_Wi_init (K : PySem.W.Frag) (C : Addr) : Sp := fun vs H Q _ => ∃ (p a dx : Addr) (cs : List Int), vs = [.ref p, .ref a] ∧ H p = some (.ins C dx []) ∧ SqL K H a (cs.map V.int) ∧ ∀ c H', H c = none → But p H H' → WiAt C H' p c cs → Q .non H'
theorem ok_Wi_init (T : Txt K mg t) : FnOk P w K mg base CX0 1 t.f_Within_init__ t.d_Within_init__ P_Within_init__ (sp_Wi_init K t.C_Within) := by
  refine T.F_Within_init__.ok sc_Within_init__ (fun vs H Q E h => ?_) (fun cdv A outer s H vs Q E hr h => ?_)
  · obtain ⟨p, a, dx, cs, rfl, _⟩ := h
    rfl
  · obtain ⟨p, a, dx, cs, rfl, hp, ha, q⟩ := h
    refine ⟨_, (pss_one (ps_fld (pv 0) (pe_callTy (listK K) (by rfl) T.b_list bt_list (pa_cons (pv 1) pa_nil se_Name)) rfl)), ?_⟩
    refine ⟨_, rfl, a, _, rfl, .inl ha, fun c hc => ?_⟩
    have npc : p ≠ c := ne_of_none hp hc
    refine ⟨_, rfl, p, t.C_Within, dx, [], rfl, (by rw [upd_ne npc]; exact hp), T.cl_Within, T.n_Within_carried, by decide, ?_⟩
    exact q c _ hc (fun b o e hb => by rw [upd_ne hb, upd_ne (ne_of_none e hc)]; exact e) ⟨⟨dx, upd_same⟩, by rw [upd_ne npc.symm, upd_same]⟩
def wiB (hs cs : List Int) (most : Int) : Bool := evenB hs cs && cs.all fun c => decide (absI c ≤ most)
def sp_Wi_shows (C R : Addr) : Sp := fun vs H Q _ => ∃ (p c r l : Addr) (cs hs : List Int) (most : Int), vs = [.ref p, .ref r, .int most] ∧ WiAt C H p c cs ∧ RingAt R H r l hs ∧ hs.length ≤ 1000 ∧ cs.length ≤ 1000 ∧ ∀ H', Same H H' → Q (.bl (wiB hs cs most)) H'
theorem ok_Wi_shows (T : Txt K mg t) : FnOk P w K mg base CX0 2 t.f_Within_shows t.d_Within_shows P_Within_shows (sp_Wi_shows t.C_Within t.C_Ring) := by
  have G_is_evened := ok_is_evened (P := P) (w := w) (base := base) T
  have G_Ring_houses := ok_Ring_houses (P := P) (w := w) (base := base) T
  refine T.F_Within_shows.ok sc_Within_shows (fun vs H Q E h => ?_) (fun cdv A outer s H vs Q E hr h => ?_)
  · obtain ⟨p, c, r, l, cs, hs, most, rfl, _⟩ := h
    rfl
  · obtain ⟨p, c, r, l, cs, hs, most, rfl, WA, RA, hl, hcl, k⟩ := h
    obtain ⟨⟨dr, er⟩, el⟩ := id RA
    refine ⟨_, (pss_one (ps_ret (pe_and (pe_call G_is_evened (hr.mono (by decide)) rfl T.g_is_evened T.F_is_evened.kp T.B_is_evened .nil pass0 (pa_cons (pe_meth0 (pv 1) T.cl_Ring T.m_Ring_houses G_Ring_houses (hr.mono (by decide)) T.B_Ring_houses .nil pass0) (pa_cons (fldK K (pv 0)) pa_nil se_Attribute) se_Call)) (pe_one (pe_callB (allK K rfl) (by rfl) T.b_all bt_all (pa_cons (pe_comp (sc := defScope s_Within_shows) (XN := N_Within_shows) (N' := ["amount", "most"]) (t := 1) (ix := [2]) rfl ⟨rfl, by decide +kernel, by decide +kernel, by decide +kernel, by decide +kernel, rfl, by decide +kernel⟩ rfl rfl (piL K (fldK K (pv 0))) (fun _ _ _ _ _ => (pg_name (i := 0) (show List.Nodup (["amount", "most"] : List Str) by decide +kernel) rfl (Or.inl rfl))) (fun _ _ _ _ _ => (pe_cmpR op_le (pe_callB call_abs (by rfl) T.b_abs bt_abs (pa_cons (pv 0) pa_nil se_Name)) (pv 1) (nomark _)))) pa_nil se_ListComp)))))), ?_⟩
    refine ⟨_, rfl, r, dr, _, rfl, er, rfl, r, l, hs, rfl, RA, fun D H1 hD s1 e1 => ?_⟩
    obtain ⟨⟨dx, ep⟩, ec⟩ := WA.same s1
    refine ⟨_, rfl, p, t.C_Within, dx, _, _, rfl, ep, T.cl_Within, T.n_Within_carried, rfl, ?_⟩
    refine ⟨D, c, hs, cs, rfl, SqL.of e1, SqL.of ec, hl, fun H2 s2 => ⟨_, rfl, ?_⟩⟩
    cases h3 : evenB hs cs
    · refine iteF ?_
      have := k H2 (s1.trans s2)
      unfold wiB at this
      rw [h3] at this
      exact this
    refine iteT ?_
    obtain ⟨⟨dx2, ep2⟩, ec2⟩ := (WA.same s1).same s2
    refine ⟨_, rfl, p, t.C_Within, dx2, _, _, rfl, ep2, T.cl_Within, T.n_Within_carried, rfl, c, rfl, ⟨_, SqL.of ec2⟩, fun D2 hD2 => ?_⟩
    refine comp_list (t := 1) (fun x => match x with | .int i => .bl (decide (absI i ≤ most)) | _ => .non) (by have := big; rw [List.length_map]; omega) (by decide) hD2 (SqL.of ec2) (fun k' x H5 Z hx S5 z => ?_) (fun H5 S5 e5 => ?_)
    · obtain ⟨i, ei, rfl⟩ := map_int_get hx
      exact ⟨_, rfl, _, rfl, _, rfl, _, _, rfl, rfl, z H5 (Same.refl _)⟩
    · refine ⟨D2, cs.map fun i => decide (absI i ≤ most), rfl, SqL.of (by rw [e5, List.map_map, List.map_map]; rfl), ?_⟩
      have := k H5 ((s1.trans s2).trans S5)
      unfold wiB at this
      rw [h3, Bool.true_and] at this
      rw [List.all_map]
      exact this
def stF (f m : Int) : List (Str × V) := [("first", .int f), ("many", .int m)]
structure StAt (C : Addr) (H : Hp) (p : Addr) (f m : Int) : Prop where
  ob : ∃ dx, H p = some (.ins C dx (stF f m))
theorem StAt.same {C : Addr} {H H' : Hp} {p : Addr} {f m : Int} (r : StAt C H p f m) (s : Same H H') : StAt C H' p f m := ⟨let ⟨dx, e⟩ := r.ob; ⟨dx, s _ _ e⟩⟩
theorem ne_fm : ¬ (("first" : Str) = "many") := by decide +kernel
theorem put_st (f m : Int) : putF "many" (.int m) (putF "first" (.int f) []) = stF f m := by
  show (if ("first" : Str) = "many" then _ else (("first" : Str), V.int f) :: putF "many" (V.int m) []) = _
  rw [if_neg ne_fm]
  rfl
theorem look_f (f m : Int) : (stF f m).lookup ("first" : Str) = some (.int f) := by rfl
theorem look_m (f m : Int) : (stF f m).lookup ("many" : Str) = some (.int m) := by rfl
def sp_St_init (C : Addr) : Sp := fun vs H Q _ => ∃ (p dx : Addr) (f m : Int), vs = [.ref p, .int f, .int m] ∧ H p = some (.ins C dx []) ∧ ∀ H', But p H H' → StAt C H' p f m → Q .non H'
theorem ok_St_init (T : Txt K mg t) : FnOk P w K mg base CX0 1 t.f_Stretch_init__ t.d_Stretch_init__ P_Stretch_init__ (sp_St_init t.C_Stretch) := by
  refine T.F_Stretch_init__.ok sc_Stretch_init__ (fun vs H Q E h => ?_) (fun cdv A outer s H vs Q E hr h => ?_)
  · obtain ⟨p, dx, f, m, rfl, _⟩ := h
    rfl
  · obtain ⟨p, dx, f, m, rfl, hp, q⟩ := h
    refine ⟨_, (pss_cons (ps_fld (pv 0) (pv 1) rfl)
      (pss_one (ps_fld (pv 0) (pv 2) rfl))), ?_⟩
    refine ⟨_, rfl, _, rfl, p, t.C_Stretch, dx, [], rfl, hp, T.cl_Stretch, T.n_Stretch_first, by decide, ?_⟩
    refine ⟨_, rfl, _, rfl, p, t.C_Stretch, dx, putF "first" (.int f) [], rfl, upd_same, T.cl_Stretch, T.n_Stretch_many, by show 1 < 1000; decide, ?_⟩
    rw [put_st]
    exact q _ (fun b o e hb => by rw [upd_ne hb, upd_ne hb]; exact e) ⟨⟨dx, upd_same⟩⟩
/-- so many houses from that one on, around the ring -/
def cutI (hs : List Int) (f m : Nat) : List Int := ((hs ++ hs).drop f).take m
def stB (hs : List Int) (f m most : Int) : Bool := decide (hs.sum = 0) && (decide (0 ≤ f) && decide (f < hs.length)) && (decide (0 ≤ m) && decide (m < hs.length)) && decide (2 * most < absI (cutI hs f.toNat m.toNat).sum)
def sp_St_shows (C R : Addr) : Sp := fun vs H Q _ => ∃ (p r l : Addr) (hs : List Int) (f m most : Int), vs = [.ref p, .ref r, .int most] ∧ StAt C H p f m ∧ RingAt R H r l hs ∧ hs.length ≤ 1000 ∧ ∀ H', Same H H' → Q (.bl (stB hs f m most)) H'
theorem cut_int {hs : List Int} {f m : Int} (h0 : 0 ≤ f) (h1 : 0 ≤ m) (h2 : f < hs.length) (h3 : m < hs.length) : cutV ((hs.map V.int) ++ (hs.map V.int)) (some f) (some (f + m)) = (cutI hs f.toNat m.toNat).map V.int := by
  unfold cutV cutI
  rw [← List.map_append, List.length_map, List.length_append]
  obtain ⟨a, rfl⟩ := Int.eq_ofNat_of_zero_le h0
  obtain ⟨b, rfl⟩ := Int.eq_ofNat_of_zero_le h1
  have e1 : HT.sIx (hs.length + hs.length) 0 (some (a : Int)) = a := by rw [HT.sIx_nat]; omega
  have e2 : HT.sIx (hs.length + hs.length) (hs.length + hs.length) (some ((a : Int) + (b : Int))) = a + b := by
    have : ((a : Int) + (b : Int)) = ((a + b : Nat) : Int) := by omega
    rw [this, HT.sIx_nat]; omega
  rw [e1, e2, Int.toNat_natCast, Int.toNat_natCast, List.map_take, List.map_drop]
  congr 1
  omega
theorem ok_St_shows (T : Txt K mg t) : FnOk P w K mg base CX0 2 t.f_Stretch_shows t.d_Stretch_shows P_Stretch_shows (sp_St_shows t.C_Stretch t.C_Ring) := by
  have G_Ring_houses := ok_Ring_houses (P := P) (w := w) (base := base) T
  have G_Ring_whole := ok_Ring_whole (P := P) (w := w) (base := base) T
  refine T.F_Stretch_shows.ok sc_Stretch_shows (fun vs H Q E h => ?_) (fun cdv A outer s H vs Q E hr h => ?_)
  · obtain ⟨p, r, l, hs, f, m, most, rfl, _⟩ := h
    rfl
  · obtain ⟨p, r, l, hs, f, m, most, rfl, SA, RA, hl, k⟩ := h
    obtain ⟨⟨dr, er⟩, el⟩ := id RA
    refine ⟨_, (pss_cons (ps_set (i := 3) sc_Stretch_shows.nd rfl (by first | exact Or.inl rfl | exact Or.inr rfl) (pe_meth0 (pv 1) T.cl_Ring T.m_Ring_houses G_Ring_houses (hr.mono (by decide)) T.B_Ring_houses .nil pass0))
      (pss_cons (ps_set (i := 4) sc_Stretch_shows.nd rfl (by first | exact Or.inl rfl | exact Or.inr rfl) (pe_callB (lenK K) (by rfl) T.b_len bt_len (pa_cons (pv 3) pa_nil se_Name)))
      (pss_cons (ps_if (pt_cmpR (neK K hr.units0) (pe_meth0 (pv 1) T.cl_Ring T.m_Ring_whole G_Ring_whole (hr.mono (by decide)) T.B_Ring_whole .nil pass0) pe_int (nomark _))
      (pss_one (ps_ret pe_bl))
      pss_nil)
      (pss_cons (ps_if (PW.pt (pw_or (pt_not (pt_chain op_le op_lt pe_int (fldK K (pv 0)) (pv 4))) (pw_or1 (pt_not (pt_chain op_le op_lt pe_int (fldK K (pv 0)) (pv 4))))))
      (pss_one (ps_ret pe_bl))
      pss_nil)
      (pss_cons (ps_set (i := 5) sc_Stretch_shows.nd rfl (by first | exact Or.inl rfl | exact Or.inr rfl) (pe_op (op_add.or op_cat) (pv 3) (pv 3)))
      (pss_one (ps_ret (pe_cmpR op_gt (pe_callB call_abs (by rfl) T.b_abs bt_abs (pa_cons (pe_callB (sumK K rfl) (by rfl) T.b_sum bt_sum (pa_cons (pe_slice (slK K) (pv 5) (po_some (fldK K (pv 0))) (po_some (pe_op (op_add.or op_cat) (fldK K (pv 0)) (fldK K (pv 0))))) pa_nil se_Subscript)) pa_nil se_Call)) (pe_op (op_mul.or op_rep) pe_int (pv 2)) (nomark _))))))))), ?_⟩
    refine ⟨_, rfl, r, dr, _, rfl, er, rfl, r, l, hs, rfl, RA, fun D H1 hD s1 e1 => ?_⟩
    have RA1 := RA.same s1
    obtain ⟨⟨dr1, er1⟩, el1⟩ := id RA1
    obtain ⟨dx, ep⟩ := SA.same s1
    have no : stB hs f m most = false → ∀ H', Same H H' → Q (.bl false) H' := fun e H' s' => by
      have := k H' s'
      rw [e] at this
      exact this
    refine ⟨_, rfl, D, _, rfl, .inl (SqL.of e1), ?_⟩
    refine ⟨_, rfl, r, dr1, _, rfl, er1, rfl, r, l, hs, rfl, RA1, .inl ⟨rfl, _, rfl, ?_⟩⟩
    by_cases h1 : hs.sum = 0
    case neg =>
      refine (if_pos (t_ne.mpr h1)).mpr ?_
      exact no (by simp [stB, h1]) H1 s1
    refine (if_neg (fun z => t_ne.mp z h1)).mpr ?_
    have hlen : ((hs.map V.int).length : Int) = (hs.length : Int) := by rw [List.length_map]
    -- not 0 <= self.first < count
    refine ⟨_, rfl, p, t.C_Stretch, dx, _, _, rfl, ep, T.cl_Stretch, T.n_Stretch_first, look_f _ _, _, _, rfl, rfl, _, rfl, ?_⟩
    by_cases f0 : 0 ≤ f
    case neg =>
      refine (if_neg (fun z => f0 (t_le.mp z))).mpr ⟨_, rfl, iteT (iteT ?_)⟩
      exact no (by simp [stB, f0]) H1 s1
    refine (if_pos (t_le.mpr f0)).mpr ⟨_, rfl, _, _, rfl, rfl, _, rfl, ?_⟩
    by_cases f1 : f < hs.length
    case neg =>
      refine (if_pos (by rw [Bool.not_eq_true', decide_eq_false_iff_not, hlen]; exact f1)).mpr (iteT ?_)
      exact no (by simp [stB, f1]) H1 s1
    refine (if_neg (by rw [Bool.not_eq_true', decide_eq_false_iff_not, hlen]; omega)).mpr ?_
    refine ⟨_, rfl, p, t.C_Stretch, dx, _, _, rfl, ep, T.cl_Stretch, T.n_Stretch_many, look_m _ _, _, _, rfl, rfl, _, rfl, ?_⟩
    by_cases m0 : 0 ≤ m
    case neg =>
      refine (if_neg (fun z => m0 (t_le.mp z))).mpr ⟨_, rfl, iteT ?_⟩
      exact no (by simp [stB, m0]) H1 s1
    refine (if_pos (t_le.mpr m0)).mpr ⟨_, rfl, _, _, rfl, rfl, _, rfl, ?_⟩
    by_cases m1 : m < hs.length
    case neg =>
      refine (if_pos (by rw [Bool.not_eq_true', decide_eq_false_iff_not, hlen]; exact m1)).mpr ?_
      exact no (by simp [stB, m1]) H1 s1
    refine (if_neg (by rw [Bool.not_eq_true', decide_eq_false_iff_not, hlen]; omega)).mpr ?_
    -- twice = houses + houses
    refine ⟨_, rfl, _, rfl, .inr ⟨D, D, _, _, rfl, rfl, e1, e1, by have := big; rw [List.length_map]; omega, fun d2 hd2 => ?_⟩⟩
    have npd : p ≠ d2 := ne_of_none ep hd2
    have ep2 : (upd H1 d2 (.lst (hs.map V.int ++ hs.map V.int))) p = some (.ins t.C_Stretch dx (stF f m)) := by rw [upd_ne npd]; exact ep
    refine ⟨_, rfl, _, rfl, p, t.C_Stretch, dx, _, _, rfl, ep2, T.cl_Stretch, T.n_Stretch_first, look_f _ _, _, rfl, ?_⟩
    refine ⟨_, rfl, p, t.C_Stretch, dx, _, _, rfl, ep2, T.cl_Stretch, T.n_Stretch_first, look_f _ _, ?_⟩
    refine ⟨_, rfl, p, t.C_Stretch, dx, _, _, rfl, ep2, T.cl_Stretch, T.n_Stretch_many, look_m _ _, .inl ⟨_, _, rfl, rfl, _, rfl, ?_⟩⟩
    refine ⟨d2, _, rfl, SqL.of upd_same, fun d3 hd3 => ?_⟩
    refine ⟨d3, cutI hs f.toNat m.toNat, rfl, SqL.of (by rw [upd_same, cut_int f0 m0 f1 m1]), _, rfl, ?_⟩
    refine ⟨_, rfl, .inl ⟨_, _, rfl, rfl, .inl ⟨by decide, by decide⟩, ?_⟩⟩
    refine ⟨_, _, rfl, rfl, ?_⟩
    have hb : stB hs f m most = decide (2 * most < absI (cutI hs f.toNat m.toNat).sum) := by
      unfold stB
      rw [decide_eq_true h1, decide_eq_true f0, decide_eq_true f1, decide_eq_true m0, decide_eq_true m1]
      simp
    rw [hb] at k
    exact k _ ((s1.upd (s1.free hd2)).upd (s1.free ((same_upd hd2).free hd3)))

/-! ### the law's own reckoning -/
def pricedB (hs ts cs ps : List Int) : Bool := keepB ps ts && decide (worthI hs ps = costI ts cs)
def sp_law_evened (K : PySem.W.Frag) : Sp := fun vs H Q _ => ∃ (a b : Addr) (hs cs : List Int), vs = [.ref a, .ref b] ∧ SqL K H a (hs.map V.int) ∧ SqL K H b (cs.map V.int) ∧ cs.length ≤ 1000 ∧ ∀ H', Same H H' → Q (.bl (evenB hs cs)) H'
theorem ok_law_evened (T : Txt K mg t) : FnOk P w K mg base CX0 1 t.f_law_evened t.d_law_evened P_law_evened (sp_law_evened K) := by
  refine T.F_law_evened.ok sc_law_evened (fun vs H Q E h => ?_) (fun cdv A outer s H vs Q E hr h => ?_)
  · obtain ⟨a, b, hs, cs, rfl, _⟩ := h
    rfl
  · obtain ⟨a, b, hs, cs, rfl, hh, hc, hl, q⟩ := h
    refine ⟨_, (pss_one (ps_ret (pe_cmpR (eqK K hr.units0) (pe_comp (sc := defScope s_law_evened) (XN := N_law_evened) (N' := ["_law_k", "_law_carried"]) (t := 1) (ix := [1]) rfl ⟨rfl, by decide +kernel, by decide +kernel, by decide +kernel, by decide +kernel, rfl, by decide +kernel⟩ rfl rfl (pi_range1 rfl T.b_range (pa_cons (pe_callB (lenK K) (by rfl) T.b_len bt_len (pa_cons (pv 1) pa_nil se_Name)) pa_nil se_Call)) (fun _ _ _ _ _ => (pg_name (i := 0) (show List.Nodup (["_law_k", "_law_carried"] : List Str) by decide +kernel) rfl (Or.inl rfl))) (fun _ _ _ _ _ => (pe_op op_sub (pe_ix (ixK K) (pv 1) (pv 0) (fun _ _ => rfl)) (pe_ix (ixK K) (pv 1) (pe_op op_sub (pv 0) pe_int) (fun _ _ => rfl))))) (pv 0) (nomark _)))), ?_⟩
    refine ⟨_, rfl, b, _, rfl, .inl hc, ((cs.map V.int).length : Int), rfl, by omega, by rw [List.length_map]; omega, fun D hD => ?_⟩
    refine comp_range0 (t := 1) (n := ((cs.map V.int).length : Int).toNat) (fun k => .int (cs.getD k 0 - prevI cs k)) (by have := big; rw [List.length_map]; omega) (by decide) hD (fun k H5 Z hk S5 z => ?_) (fun H5 S5 e5 => ?_)
    · rw [List.length_map, Int.toNat_natCast] at hk
      refine ⟨_, rfl, _, rfl, .inl ⟨b, _, _, _, rfl, rfl, S5.seq hc, atI_ints (by omega) (by omega), ?_⟩⟩
      refine ⟨_, rfl, _, rfl, _, _, rfl, rfl, .inl ⟨b, _, _, _, rfl, rfl, S5.seq hc, atI_back (by omega), ?_⟩⟩
      exact ⟨_, _, rfl, rfl, z H5 (Same.refl _)⟩
    · rw [List.length_map, Int.toNat_natCast] at e5
      have e6 : H5 D = some (.lst ((diffI cs).map V.int)) := by rw [e5, diffI, List.map_map]; rfl
      refine ⟨_, rfl, .inr ⟨D, a, _, _, rfl, rfl, SqL.of e6, S5.seq hh, by simp [flatV], by simp [flatV], ?_⟩⟩
      rw [Bool.false_xor, eqVs_ints]
      exact q H5 S5
theorem ok_law_cost (T : Txt K mg t) : FnOk P w K mg base CX0 1 t.f_law_cost t.d_law_cost P_law_cost (sp_cost K) := by
  refine T.F_law_cost.ok sc_law_cost (fun vs H Q E h => ?_) (fun cdv A outer s H vs Q E hr h => ?_)
  · obtain ⟨a, b, cs, ts, rfl, _⟩ := h
    rfl
  · obtain ⟨a, b, cs, ts, rfl, hc, ht, hl, hb, q⟩ := h
    refine ⟨_, (pss_one (ps_ret (pe_callB (sumK K rfl) (by rfl) T.b_sum bt_sum (pa_cons (pe_comp (sc := defScope s_law_cost) (XN := N_law_cost) (N' := ["_law_toll", "_law_one"]) (t := 2) (ix := []) rfl ⟨rfl, by decide +kernel, by decide +kernel, by decide +kernel, by decide +kernel, rfl, by decide +kernel⟩ rfl rfl (piZ K rfl T.b_zip (pa_cons (pv 1) (pa_cons (pv 0) pa_nil se_Name) se_Name)) (fun _ _ _ _ _ => (pgT K (n := 2) rfl (pgs_cons (pg_name (i := 0) (show List.Nodup (["_law_toll", "_law_one"] : List Str) by decide +kernel) rfl (Or.inl rfl)) (pgs_cons (pg_name (i := 1) (show List.Nodup (["_law_toll", "_law_one"] : List Str) by decide +kernel) rfl (Or.inl rfl)) pgs_nil)))) (fun _ _ _ _ _ => (pe_op (op_mul.or op_rep) (pv 0) (pe_callB call_abs (by rfl) T.b_abs bt_abs (pa_cons (pv 1) pa_nil se_Name))))) pa_nil se_ListComp)))), ?_⟩
    refine ⟨_, rfl, _, rfl, b, a, rfl, ⟨_, ht⟩, ⟨_, hc⟩, fun D hD => ?_⟩
    refine comp_zip (t := 2) (v2 fun t c => t * absI c) (by have := big; rw [List.length_map]; omega) (by decide) hD ht hc (fun k x y H5 Z hx hy S5 z => ?_) (fun H5 S5 e5 => ?_)
    · obtain ⟨i, ei, rfl⟩ := map_int_get hx
      obtain ⟨j, ej, rfl⟩ := map_int_get hy
      refine ⟨_, rfl, _, rfl, _, rfl, .inl ⟨_, _, rfl, rfl, .inl (hb i (mem_of_get ei)), z H5 (Same.refl _)⟩⟩
    · rw [zip_v2] at e5
      exact ⟨D, _, rfl, SqL.of e5, q H5 S5⟩
def sp_priced (K : PySem.W.Frag) : Sp := fun vs H Q _ => ∃ (a b c d : Addr) (hs ts cs ps : List Int), vs = [.ref a, .ref b, .ref c, .ref d] ∧ SqL K H a (hs.map V.int) ∧ SqL K H b (ts.map V.int) ∧ SqL K H c (cs.map V.int) ∧ SqL K H d (ps.map V.int) ∧
  ps.length ≤ 1000 ∧ ts.length = ps.length ∧ (∀ x ∈ hs, Sm x) ∧ (∀ x ∈ ts, Sm x) ∧ ∀ H', Same H H' → Q (.bl (pricedB hs ts cs ps)) H'
theorem ok_priced (T : Txt K mg t) : FnOk P w K mg base CX0 2 t.f_law_priced t.d_law_priced P_law_priced (sp_priced K) := by
  have G_law_cost := ok_law_cost (P := P) (w := w) (base := base) T
  refine T.F_law_priced.ok sc_law_priced (fun vs H Q E h => ?_) (fun cdv A outer s H vs Q E hr h => ?_)
  · obtain ⟨a, b, c, d, hs, ts, cs, ps, rfl, _⟩ := h
    rfl
  · obtain ⟨a, b, c, d, hs, ts, cs, ps, rfl, ha, hb, hc, hd, hl, hlen, hh, ht, q⟩ := h
    refine ⟨_, (pss_cons (ps_for PassesOwn.never rfl (pi_range1 rfl T.b_range (pa_cons (pe_callB (lenK K) (by rfl) T.b_len bt_len (pa_cons (pv 3) pa_nil se_Name)) pa_nil se_Call)) (pg_name (i := 4) sc_law_priced.nd rfl (by first | exact Or.inl rfl | exact Or.inr rfl))
      (pss_one (ps_if (pt_cmpR op_gt (pe_callB call_abs (by rfl) T.b_abs bt_abs (pa_cons (pe_op op_sub (pe_ix (ixK K) (pv 3) (pv 4) (fun _ _ => rfl)) (pe_ix (ixK K) (pv 3) (pe_op op_sub (pv 4) pe_int) (fun _ _ => rfl))) pa_nil se_BinOp)) (pe_ix (ixK K) (pv 1) (pe_op op_sub (pv 4) pe_int) (fun _ _ => rfl)) (nomark _))
      (pss_one (ps_ret pe_bl))
      pss_nil)))
      (pss_one (ps_ret (pe_cmpR (eqK K hr.units0) (pe_callB (sumK K rfl) (by rfl) T.b_sum bt_sum (pa_cons (pe_comp (sc := defScope s_law_priced) (XN := N_law_priced) (N' := ["_law_price", "_law_house"]) (t := 2) (ix := []) rfl ⟨rfl, by decide +kernel, by decide +kernel, by decide +kernel, by decide +kernel, rfl, by decide +kernel⟩ rfl rfl (piZ K rfl T.b_zip (pa_cons (pv 3) (pa_cons (pv 0) pa_nil se_Name) se_Name)) (fun _ _ _ _ _ => (pgT K (n := 2) rfl (pgs_cons (pg_name (i := 0) (show List.Nodup (["_law_price", "_law_house"] : List Str) by decide +kernel) rfl (Or.inl rfl)) (pgs_cons (pg_name (i := 1) (show List.Nodup (["_law_price", "_law_house"] : List Str) by decide +kernel) rfl (Or.inl rfl)) pgs_nil)))) (fun _ _ _ _ _ => (pe_op (op_mul.or op_rep) (pv 0) (pv 1)))) pa_nil se_ListComp)) (pe_call G_law_cost (hr.mono (by decide)) rfl T.g_law_cost T.F_law_cost.kp T.B_law_cost .nil pass0 (pa_cons (pv 2) (pa_cons (pv 1) pa_nil se_Name) se_Name)) (nomark _))))), ?_⟩
    refine ⟨_, rfl, d, _, rfl, .inl hd, ((ps.map V.int).length : Int), rfl, by omega, by rw [List.length_map]; omega, ?_⟩
    refine for_range0 (n := ((ps.map V.int).length : Int).toNat) (fun i σ H3 => ∃ v, σ = [some (.ref a), some (.ref b), some (.ref c), some (.ref d), v] ∧ Same H H3 ∧ (List.range i).all (fun k => decide (absI (ps.getD k 0 - prevI ps k) ≤ prevI ts k)) = true) ⟨_, rfl, Same.refl _, rfl⟩ ?_ ?_
    · rintro i σ H3 hi ⟨v, rfl, S3, h3⟩
      rw [List.length_map, Int.toNat_natCast] at hi
      refine ⟨_, rfl, _, rfl, .inl ⟨d, _, _, _, rfl, rfl, S3.seq hd, atI_ints (by omega) (by omega), ?_⟩⟩
      refine ⟨_, rfl, _, rfl, _, _, rfl, rfl, .inl ⟨d, _, _, _, rfl, rfl, S3.seq hd, atI_back (by omega), ?_⟩⟩
      refine ⟨_, _, rfl, rfl, _, rfl, ?_⟩
      refine ⟨_, rfl, _, rfl, _, _, rfl, rfl, .inl ⟨b, _, _, _, rfl, rfl, S3.seq hb, atI_back (by omega), ?_⟩⟩
      refine ⟨_, _, rfl, rfl, _, rfl, ?_⟩
      refine ite2 (fun h => ?_) (fun h => ?_)
      · have h' := of_decide_eq_true h
        have := q H3 S3
        have e : pricedB hs ts cs ps = false := by
          unfold pricedB keepB
          rw [Bool.and_eq_false_iff]
          refine .inl ?_
          rw [List.all_eq_false]
          refine ⟨i, List.mem_range.mpr hi, ?_⟩
          rw [Bool.not_eq_true, decide_eq_false_iff_not]
          have h2 : prevI ts i < absI (ps.getD i 0 - prevI ps i) := h'
          omega
        rw [e] at this
        exact this
      · refine ⟨_, rfl, S3, ?_⟩
        rw [List.range_succ, List.all_append, h3]
        have h2 : ¬ prevI ts i < absI (ps.getD i 0 - prevI ps i) := fun z => h (decide_eq_true z)
        rw [Bool.true_and]
        show (decide (absI (ps.getD i 0 - prevI ps i) ≤ prevI ts i) && true) = true
        rw [Bool.and_true, decide_eq_true_iff]
        omega
    · rintro σ H3 ⟨v, rfl, S3, h3⟩
      rw [List.length_map, Int.toNat_natCast] at h3
      refine ⟨_, rfl, _, rfl, d, a, rfl, ⟨_, S3.seq hd⟩, ⟨_, S3.seq ha⟩, fun D hD => ?_⟩
      refine comp_zip (t := 2) (v2 fun t c => t * c) (by have := big; rw [List.length_map]; omega) (by decide) hD (S3.seq hd) (S3.seq ha) (fun k x y H5 Z hx hy S5 z => ?_) (fun H5 S5 e5 => ?_)
      · obtain ⟨i, ei, rfl⟩ := map_int_get hx
        obtain ⟨j, ej, rfl⟩ := map_int_get hy
        refine ⟨_, rfl, _, rfl, .inl ⟨_, _, rfl, rfl, .inr (hh j (mem_of_get ej)), z H5 (Same.refl _)⟩⟩
      · rw [zip_v2] at e5
        refine ⟨D, _, rfl, SqL.of e5, ?_⟩
        refine ⟨_, rfl, _, rfl, c, b, cs, ts, rfl, (S3.trans S5).seq hc, (S3.trans S5).seq hb, by omega, ht, fun H6 s6 => .inl ⟨rfl, ?_⟩⟩
        have := q H6 ((S3.trans S5).trans s6)
        unfold pricedB keepB at this
        rw [h3, Bool.true_and] at this
        rw [d_int]
        exact this
def sp_says : Sp := fun vs H Q _ => ∃ a b : Bool, vs = [.bl a, .bl b] ∧ Q (.bl (a == b)) H
theorem ok_says (T : Txt K mg t) : FnOk P w K mg base CX0 1 t.f_law_says t.d_law_says P_law_says sp_says := by
  refine T.F_law_says.ok sc_law_says (fun vs H Q E h => ?_) (fun cdv A outer s H vs Q E hr h => ?_)
  · obtain ⟨a, b, rfl, _⟩ := h
    rfl
  · obtain ⟨a, b, rfl, q⟩ := h
    refine ⟨_, (pss_one (ps_ret (pe_and (pe_callB (isiK K) (by rfl) T.b_isinstance bt_isinstance (pa_cons (pv 0) (pa_cons (pe_bltn (v := .ty "bool") rfl T.b_bool bt_bool rfl) pa_nil se_Name) se_Name)) (pe_one (pe_cmpR (eqK K hr.units0) (pv 0) (pv 1) (nomark _)))))), ?_⟩
    refine ⟨_, rfl, _, _, _, _, true, rfl, rfl, TyOf.bl a, T.i_bool_bool, _, rfl, iteT ?_⟩
    refine ⟨_, rfl, _, rfl, .inl ⟨rfl, ?_⟩⟩
    rw [dec_bl]
    exact q

/-! ### numbers with something changed -/
theorem cut_lo (xs : List Int) (a : Nat) : cutV (xs.map V.int) none (some (a : Int)) = (xs.take a).map V.int := by
  unfold cutV
  rw [HT.sIx_none, HT.sIx_nat, List.length_map, List.drop_zero, Nat.sub_zero, ← List.map_take]
  congr 1
  rcases Nat.le_total a xs.length with h | h
  · rw [Nat.min_eq_left h]
  · rw [Nat.min_eq_right h, List.take_of_length_le h, List.take_of_length_le (Nat.le_refl _)]
theorem cut_hi (xs : List Int) (a : Nat) : cutV (xs.map V.int) (some (a : Int)) none = (xs.drop a).map V.int := by
  unfold cutV
  rw [HT.sIx_none, HT.sIx_nat, List.length_map, ← List.map_drop, ← List.map_take]
  congr 1
  rcases Nat.le_total a xs.length with h | h
  · rw [Nat.min_eq_left h, List.take_of_length_le (by rw [List.length_drop]; exact Nat.le_refl _)]
  · rw [Nat.min_eq_right h, List.drop_of_length_le h, List.drop_of_length_le (Nat.le_refl _), List.take_nil]
theorem cut_last (xs : List Int) : cutV (xs.map V.int) (some (-1)) none = (xs.drop (xs.length - 1)).map V.int := by
  unfold cutV
  have e : HT.sIx (xs.map V.int).length 0 (some (-1)) = xs.length - 1 := by
    rw [List.length_map]; unfold HT.sIx; simp; omega
  rw [HT.sIx_none, e, List.length_map, ← List.map_drop, ← List.map_take]
  congr 1
  rw [List.take_of_length_le (by rw [List.length_drop]; omega)]
def bentI (xs : List Int) (c : Int) : List Int :=
  let k := drawI c 1 7
  let a := (drawI c 2 xs.length).toNat
  if k = 1 then xs.map (· + 1) else if k = 2 then xs.take a ++ [xs.getD a 0 + drawI c 3 3 - 1] ++ xs.drop (a + 1) else if k = 3 then xs.take a ++ xs.drop (a + 1)
  else if k = 4 then xs ++ xs.drop (xs.length - 1) else if k = 5 then xs.drop 1 ++ xs.take 1 else if k = 6 then xs.map (fun x => -x) else xs
theorem bent_len (xs : List Int) (c : Int) (h : xs ≠ []) : xs.length - 1 ≤ (bentI xs c).length ∧ (bentI xs c).length ≤ xs.length + 1 := by
  have hp : 0 < xs.length := List.length_pos_iff.mpr h
  have h0 := draw_lo (c := c) (k := 2) (m := xs.length) (by omega)
  have h1 := draw_hi (c := c) (k := 2) (m := xs.length) (by omega)
  unfold bentI
  dsimp only
  repeat' split
  all_goals first
    | omega
    | (simp only [List.length_map, List.length_append, List.length_take, List.length_drop, List.length_singleton]; omega)
def sp_bent : Sp := fun vs H Q _ => ∃ (a : Addr) (xs : List Int) (c : Int), vs = [.ref a, .int c] ∧ H a = some (.lst (xs.map V.int)) ∧ xs ≠ [] ∧ xs.length ≤ 900 ∧ ∀ D H', H D = none → Same H H' → H' D = some (.lst ((bentI xs c).map V.int)) → Q (.ref D) H'
theorem ok_bent (T : Txt K mg t) : FnOk P w K mg base CX0 2 t.f_law_bent t.d_law_bent P_law_bent sp_bent := by
  have G_law_draw := ok_draw (P := P) (w := w) (base := base) T
  refine T.F_law_bent.ok sc_law_bent (fun vs H Q E h => ?_) (fun cdv A outer s H vs Q E hr h => ?_)
  · obtain ⟨a, xs, c, rfl, _⟩ := h
    rfl
  · obtain ⟨a, xs, c, rfl, ha, hne, hl, q⟩ := h
    have hp : 0 < xs.length := List.length_pos_iff.mpr hne
    refine ⟨_, (pss_cons (ps_par (i := 2) (j := 3) rfl sc_law_bent.nd rfl rfl (by decide) rfl rfl (pa_cons (pe_call G_law_draw (hr.mono (by decide)) rfl T.g_law_draw T.F_law_draw.kp T.B_law_draw .nil pass0 (pa_cons (pv 1) (pa_cons pe_int (pa_cons pe_int pa_nil se_Constant) se_Constant) se_Name)) (pa_cons (pe_call G_law_draw (hr.mono (by decide)) rfl T.g_law_draw T.F_law_draw.kp T.B_law_draw .nil pass0 (pa_cons (pv 1) (pa_cons pe_int (pa_cons (pe_callB (lenK K) (by rfl) T.b_len bt_len (pa_cons (pv 0) pa_nil se_Name)) pa_nil se_Call) se_Constant) se_Name)) pa_nil se_Call) se_Call) (by with_unfolding_all rfl))
      (pss_cons (ps_if (pt_cmpR (eqK K hr.units0) (pv 2) pe_int (nomark _))
      (pss_one (ps_ret (pe_comp (sc := defScope s_law_bent) (XN := N_law_bent) (N' := ["_law_one"]) (t := 1) (ix := []) rfl ⟨rfl, by decide +kernel, by decide +kernel, by decide +kernel, by decide +kernel, rfl, by decide +kernel⟩ rfl rfl (piL K (pv 0)) (fun _ _ _ _ _ => (pg_name (i := 0) (show List.Nodup (["_law_one"] : List Str) by decide +kernel) rfl (Or.inl rfl))) (fun _ _ _ _ _ => (pe_op (op_add.or op_cat) (pv 0) pe_int)))))
      pss_nil)
      (pss_cons (ps_if (pt_cmpR (eqK K hr.units0) (pv 2) pe_int (nomark _))
      (pss_one (ps_ret (pe_op (op_add.or op_cat) (pe_op (op_add.or op_cat) (pe_slice (slK K) (pv 0) po_none (po_some (pv 3))) (pe_lst (pa_cons (pe_op op_sub (pe_op (op_add.or op_cat) (pe_ix (ixK K) (pv 0) (pv 3) (fun _ _ => rfl)) (pe_call G_law_draw (hr.mono (by decide)) rfl T.g_law_draw T.F_law_draw.kp T.B_law_draw .nil pass0 (pa_cons (pv 1) (pa_cons pe_int (pa_cons pe_int pa_nil se_Constant) se_Constant) se_Name))) pe_int) pa_nil se_BinOp))) (pe_slice (slK K) (pv 0) (po_some (pe_op (op_add.or op_cat) (pv 3) pe_int)) po_none))))
      pss_nil)
      (pss_cons (ps_if (pt_cmpR (eqK K hr.units0) (pv 2) pe_int (nomark _))
      (pss_one (ps_ret (pe_op (op_add.or op_cat) (pe_slice (slK K) (pv 0) po_none (po_some (pv 3))) (pe_slice (slK K) (pv 0) (po_some (pe_op (op_add.or op_cat) (pv 3) pe_int)) po_none))))
      pss_nil)
      (pss_cons (ps_if (pt_cmpR (eqK K hr.units0) (pv 2) pe_int (nomark _))
      (pss_one (ps_ret (pe_op (op_add.or op_cat) (pv 0) (pe_slice (slK K) (pv 0) (po_some (pe_un un_neg pe_int)) po_none))))
      pss_nil)
      (pss_cons (ps_if (pt_cmpR (eqK K hr.units0) (pv 2) pe_int (nomark _))
      (pss_one (ps_ret (pe_op (op_add.or op_cat) (pe_slice (slK K) (pv 0) (po_some pe_int) po_none) (pe_slice (slK K) (pv 0) po_none (po_some pe_int)))))
      pss_nil)
      (pss_cons (ps_if (pt_cmpR (eqK K hr.units0) (pv 2) pe_int (nomark _))
      (pss_one (ps_ret (pe_comp (sc := defScope s_law_bent) (XN := N_law_bent) (N' := ["_law_one"]) (t := 1) (ix := []) rfl ⟨rfl, by decide +kernel, by decide +kernel, by decide +kernel, by decide +kernel, rfl, by decide +kernel⟩ rfl rfl (piL K (pv 0)) (fun _ _ _ _ _ => (pg_name (i := 0) (show List.Nodup (["_law_one"] : List Str) by decide +kernel) rfl (Or.inl rfl))) (fun _ _ _ _ _ => (pe_un un_neg (pv 0))))))
      pss_nil)
      (pss_one (ps_ret (pe_callTy (listK K) (by rfl) T.b_list bt_list (pa_cons (pv 0) pa_nil se_Name))))))))))), ?_⟩
    refine ⟨_, rfl, _, _, _, rfl, by decide, fun H1 s1 => ?_⟩
    have a1 := s1 _ _ ha
    refine ⟨_, rfl, _, rfl, a, _, rfl, .inl (SqL.of a1), ?_⟩
    rw [List.length_map]
    refine ⟨_, _, _, rfl, by omega, fun H2 s2 => ?_⟩
    refine ⟨_, _, rfl, ?_⟩
    have a2 := s2 _ _ a1
    have S2 := s1.trans s2
    have h0 := draw_lo (c := c) (k := 2) (m := xs.length) (by omega)
    have h1 := draw_hi (c := c) (k := 2) (m := xs.length) (by omega)
    have eb : bentI xs c = _ := rfl
    unfold bentI at q
    dsimp only at q
    generalize hk : drawI c 1 7 = k at q ⊢
    generalize hat : drawI c 2 xs.length = at' at q h0 h1 ⊢
    obtain ⟨an, rfl⟩ := Int.eq_ofNat_of_zero_le h0
    rw [Int.toNat_natCast] at q
    -- 1
    refine ⟨_, rfl, .inl ⟨rfl, _, rfl, ?_⟩⟩
    by_cases k1 : k = 1
    · refine (if_pos (t_eq.mpr k1)).mpr ?_
      rw [if_pos k1] at q
      refine ⟨_, rfl, a, rfl, ⟨_, SqL.of a2⟩, fun D hD => ?_⟩
      refine comp_list (t := 1) (fun x => match x with | .int i => .int (i + 1) | _ => .non) (by have := big; rw [List.length_map]; omega) (by decide) hD (SqL.of a2) (fun k' x H5 Z hx S5 z => ?_) (fun H5 S5 e5 => ?_)
      · obtain ⟨i, ei, rfl⟩ := map_int_get hx
        exact ⟨_, rfl, .inl ⟨_, _, rfl, rfl, z H5 (Same.refl _)⟩⟩
      · exact q D H5 (S2.free hD) (S2.trans S5) (by rw [e5, List.map_map, List.map_map]; rfl)
    refine (if_neg (fun z => k1 (t_eq.mp z))).mpr ?_
    rw [if_neg k1] at q
    -- 2
    refine ⟨_, rfl, .inl ⟨rfl, _, rfl, ?_⟩⟩
    by_cases k2 : k = 2
    · refine (if_pos (t_eq.mpr k2)).mpr ?_
      rw [if_pos k2] at q
      refine ⟨_, rfl, _, rfl, _, rfl, a, _, rfl, SqL.of a2, fun d1 hd1 => ?_⟩
      rw [cut_lo]
      have a3 : (upd H2 d1 (.lst ((xs.take an).map V.int))) a = some (.lst (xs.map V.int)) := by rw [upd_ne (ne_of_none a2 hd1)]; exact a2
      refine ⟨_, rfl, _, rfl, .inl ⟨a, _, _, _, rfl, rfl, SqL.of a3, atI_ints (by omega) h1, ?_⟩⟩
      refine ⟨_, rfl, _, _, _, rfl, by decide, fun H3 s3 => .inl ⟨_, _, rfl, rfl, ?_⟩⟩
      refine ⟨_, _, rfl, rfl, by show 1 ≤ sizeLine; decide, fun d2 hd2 => ?_⟩
      have e1 : H3 d1 = some (.lst ((xs.take an).map V.int)) := s3 _ _ upd_same
      have n12 : d1 ≠ d2 := ne_of_none e1 hd2
      refine .inr ⟨d1, d2, (xs.take an).map V.int, ([xs.getD an 0 + drawI c 3 3 - 1] : List Int).map V.int, rfl, rfl, by rw [upd_ne n12]; exact e1, upd_same, ?_, fun d3 hd3 => ?_⟩
      · have := big
        simp only [List.length_map, List.length_take, List.length_singleton]
        omega
      have S3 : Same H H3 := (S2.upd (S2.free hd1)).trans s3
      have S3b : Same H (upd (upd H3 d2 (.lst (([xs.getD an 0 + drawI c 3 3 - 1] : List Int).map V.int))) d3 (.lst ((xs.take an).map V.int ++ ([xs.getD an 0 + drawI c 3 3 - 1] : List Int).map V.int))) :=
        (S3.upd (S3.free hd2)).upd ((S3.upd (S3.free hd2)).free hd3)
      refine ⟨_, rfl, _, rfl, .inl ⟨_, _, rfl, rfl, _, rfl, a, _, rfl, SqL.of (S3b _ _ ha), fun d4 hd4 => ?_⟩⟩
      have ec : ((an : Int) + 1) = ((an + 1 : Nat) : Int) := by omega
      rw [ec, cut_hi]
      have n34 : d3 ≠ d4 := by
        rintro rfl
        rw [upd_same] at hd4; cases hd4
      refine .inr ⟨d3, d4, _, _, rfl, rfl, by rw [upd_ne n34, upd_same], upd_same, ?_, fun d5 hd5 => ?_⟩
      · have := big
        simp only [List.length_map, List.length_append, List.length_take, List.length_drop, List.length_singleton]
        omega
      refine q d5 _ ((S3b.upd (S3b.free hd4)).free hd5) ((S3b.upd (S3b.free hd4)).upd ((S3b.upd (S3b.free hd4)).free hd5)) ?_
      rw [upd_same, List.map_append, List.map_append]
    refine (if_neg (fun z => k2 (t_eq.mp z))).mpr ?_
    rw [if_neg k2] at q
    -- 3
    refine ⟨_, rfl, .inl ⟨rfl, _, rfl, ?_⟩⟩
    by_cases k3 : k = 3
    · refine (if_pos (t_eq.mpr k3)).mpr ?_
      rw [if_pos k3] at q
      refine ⟨_, rfl, _, rfl, _, rfl, a, _, rfl, SqL.of a2, fun d1 hd1 => ?_⟩
      rw [cut_lo]
      have S3 : Same H (upd H2 d1 (.lst ((xs.take an).map V.int))) := S2.upd (S2.free hd1)
      refine ⟨_, rfl, _, rfl, .inl ⟨_, _, rfl, rfl, _, rfl, a, _, rfl, SqL.of (S3 _ _ ha), fun d4 hd4 => ?_⟩⟩
      have ec : ((an : Int) + 1) = ((an + 1 : Nat) : Int) := by omega
      rw [ec, cut_hi]
      have n14 : d1 ≠ d4 := by
        rintro rfl
        rw [upd_same] at hd4; cases hd4
      refine .inr ⟨d1, d4, _, _, rfl, rfl, by rw [upd_ne n14, upd_same], upd_same, ?_, fun d5 hd5 => ?_⟩
      · have := big
        simp only [List.length_map, List.length_take, List.length_drop]
        omega
      refine q d5 _ ((S3.upd (S3.free hd4)).free hd5) ((S3.upd (S3.free hd4)).upd ((S3.upd (S3.free hd4)).free hd5)) ?_
      rw [upd_same, List.map_append]
    refine (if_neg (fun z => k3 (t_eq.mp z))).mpr ?_
    rw [if_neg k3] at q
    -- 4
    refine ⟨_, rfl, .inl ⟨rfl, _, rfl, ?_⟩⟩
    by_cases k4 : k = 4
    · refine (if_pos (t_eq.mpr k4)).mpr ?_
      rw [if_pos k4] at q
      refine ⟨_, rfl, _, rfl, _, rfl, _, rfl, a, _, rfl, SqL.of a2, fun d4 hd4 => ?_⟩
      rw [cut_last]
      have S3 : Same H (upd H2 d4 (.lst ((xs.drop (xs.length - 1)).map V.int))) := S2.upd (S2.free hd4)
      refine .inr ⟨a, d4, _, _, rfl, rfl, S3 _ _ ha, upd_same, ?_, fun d5 hd5 => ?_⟩
      · have := big
        simp only [List.length_map, List.length_drop]
        omega
      refine q d5 _ (S3.free hd5) (S3.upd (S3.free hd5)) ?_
      rw [upd_same, List.map_append]
    refine (if_neg (fun z => k4 (t_eq.mp z))).mpr ?_
    rw [if_neg k4] at q
    -- 5
    refine ⟨_, rfl, .inl ⟨rfl, _, rfl, ?_⟩⟩
    by_cases k5 : k = 5
    · refine (if_pos (t_eq.mpr k5)).mpr ?_
      rw [if_pos k5] at q
      refine ⟨_, rfl, _, rfl, a, _, rfl, SqL.of a2, fun d1 hd1 => ?_⟩
      rw [show (1 : Int) = ((1 : Nat) : Int) from rfl, cut_hi]
      have S3 : Same H (upd H2 d1 (.lst ((xs.drop 1).map V.int))) := S2.upd (S2.free hd1)
      refine ⟨_, rfl, _, rfl, a, _, rfl, SqL.of (S3 _ _ ha), fun d4 hd4 => ?_⟩
      rw [cut_lo]
      have n14 : d1 ≠ d4 := by
        rintro rfl
        rw [upd_same] at hd4; cases hd4
      refine .inr ⟨d1, d4, _, _, rfl, rfl, by rw [upd_ne n14, upd_same], upd_same, ?_, fun d5 hd5 => ?_⟩
      · have := big
        simp only [List.length_map, List.length_take, List.length_drop]
        omega
      refine q d5 _ ((S3.upd (S3.free hd4)).free hd5) ((S3.upd (S3.free hd4)).upd ((S3.upd (S3.free hd4)).free hd5)) ?_
      rw [upd_same, List.map_append]
    refine (if_neg (fun z => k5 (t_eq.mp z))).mpr ?_
    rw [if_neg k5] at q
    -- 6
    refine ⟨_, rfl, .inl ⟨rfl, _, rfl, ?_⟩⟩
    by_cases k6 : k = 6
    · refine (if_pos (t_eq.mpr k6)).mpr ?_
      rw [if_pos k6] at q
      refine ⟨_, rfl, a, rfl, ⟨_, SqL.of a2⟩, fun D hD => ?_⟩
      refine comp_list (t := 1) (fun x => match x with | .int i => .int (-i) | _ => .non) (by have := big; rw [List.length_map]; omega) (by decide) hD (SqL.of a2) (fun k' x H5 Z hx S5 z => ?_) (fun H5 S5 e5 => ?_)
      · obtain ⟨i, ei, rfl⟩ := map_int_get hx
        exact ⟨_, rfl, _, rfl, z H5 (Same.refl _)⟩
      · exact q D H5 (S2.free hD) (S2.trans S5) (by rw [e5, List.map_map, List.map_map]; rfl)
    refine (if_neg (fun z => k6 (t_eq.mp z))).mpr ?_
    rw [if_neg k6] at q
    exact ⟨_, rfl, a, _, rfl, .inl (SqL.of a2), fun D hD => q D _ (S2.free hD) (S2.upd (S2.free hD)) upd_same⟩

/-! ### bounds by hand -/
theorem cyc_get {hs : List Int} {f m : Nat} (hf : f < hs.length) (hm : m < hs.length) : (List.range m).map (fun k => hs.getD ((f + k) % hs.length) 0) = cutI hs f m := by
  unfold cutI
  refine List.ext_getElem ?_ fun k h1 h2 => ?_
  · simp; omega
  · simp at h1
    rw [List.getElem_map, List.getElem_range, List.getElem_take, List.getElem_drop]
    by_cases h : f + k < hs.length
    · rw [Nat.mod_eq_of_lt h, List.getElem_append_left h]
      simp [List.getD, h]
    · have e : (f + k) % hs.length = f + k - hs.length := by
        rw [Nat.mod_eq_sub_mod (by omega), Nat.mod_eq_of_lt (by omega)]
      rw [e, List.getElem_append_right (by omega)]
      have h3 : f + k - hs.length < hs.length := by omega
      simp [List.getD, h3]
def cycI (hs : List Int) (f : Int) (m : Nat) : List Int := (List.range m).map fun (k : Nat) => hs.getD ((f + (k : Int)) % (hs.length : Int)).toNat 0
theorem cyc_cut {hs : List Int} {f m : Int} (h0 : 0 ≤ f) (h1 : f < hs.length) (h2 : 0 ≤ m) (h3 : m < hs.length) : cycI hs f m.toNat = cutI hs f.toNat m.toNat := by
  obtain ⟨a, rfl⟩ := Int.eq_ofNat_of_zero_le h0
  obtain ⟨b, rfl⟩ := Int.eq_ofNat_of_zero_le h2
  rw [Int.toNat_natCast, Int.toNat_natCast, ← cyc_get (by omega) (by omega)]
  unfold cycI
  refine List.map_congr_left fun k _ => ?_
  have : ((a : Int) + (k : Int)) % (hs.length : Int) = (((a + k) % hs.length : Nat) : Int) := by rw [Int.natCast_emod]; rfl
  rw [this, Int.toNat_natCast]
theorem absI_nn (i : Int) : 0 ≤ absI i := by unfold absI; split <;> omega
def insideB (hs : List Int) (f m : Int) : Bool := (decide (0 ≤ f) && decide (f < hs.length)) && ((decide (0 < m) && decide (m < hs.length)) && decide (hs.sum = 0))
theorem st_due {hs : List Int} {f m b : Int} (hb : 0 ≤ b) : stB hs f m b = (insideB hs f m && decide (2 * b < absI (cycI hs f (if m > 0 then m else 0).toNat).sum)) := by
  unfold stB insideB
  by_cases f0 : 0 ≤ f <;> by_cases f1 : f < hs.length <;> simp only [f0, f1, decide_true, decide_false, Bool.true_and, Bool.false_and, Bool.and_false]
  by_cases m1 : m < hs.length
  · by_cases m0 : 0 < m
    · have e := cyc_cut f0 f1 (show 0 ≤ m by omega) m1
      rw [if_pos m0, e]
      simp [m0, m1, show 0 ≤ m by omega]
    · by_cases mz : 0 ≤ m
      · have : m = 0 := by omega
        subst this
        have e0 : absI (cutI hs f.toNat (0 : Int).toNat).sum = 0 := by simp [cutI, absI]
        rw [e0]
        simp
        omega
      · simp [mz, show ¬ 0 < m by omega]
  · simp [m1]
/-- name = e, where the value is known whatever is wanted behind -/
theorem tAsg_by {te : TE} {i : Nat} {D : Ends} {σ : St} {H : Hp} (x : V) (h : ∀ Z : VK, (∀ H', Same H H' → Z x H') → te σ H Z) (rest : ∀ H', Same H H' → D.nx (σ.set i (some x)) H') : tAsg te (gName i) D σ H := h _ rest
theorem tSeqAsg_by {te : TE} {u : TS} {i : Nat} {D : Ends} {σ : St} {H : Hp} (x : V) (h : ∀ Z : VK, (∀ H', Same H H' → Z x H') → te σ H Z) (rest : ∀ H', Same H H' → u D (σ.set i (some x)) H') : tSeq (tAsg te (gName i)) u D σ H := h _ rest
theorem made_same {H H8 : Hp} {x dx : Addr} {o u : HO} (hx : H x = none) (hdx : H dx = none) (bt : But x (upd (upd H dx o) x u) H8) : Same H H8 := fun b v e =>
  bt b v (by rw [upd_ne (ne_of_none e hx), upd_ne (ne_of_none e hdx)]; exact e) (ne_of_none e hx)
theorem made_free {H : Hp} {x dx c : Addr} {o u : HO} (h : (upd (upd H dx o) x u) c = none) : H c = none := by
  have h1 : c ≠ x := by rintro rfl; rw [upd_same] at h; cases h
  rw [upd_ne h1] at h
  have h2 : c ≠ dx := by rintro rfl; rw [upd_same] at h; cases h
  rw [upd_ne h2] at h
  exact h
theorem max_uniq {ns : List Int} {M N : Int} (h1 : M ∈ ns) (h2 : ∀ b ∈ ns, b ≤ M) (h3 : N ∈ ns) (h4 : ∀ b ∈ ns, b ≤ N) : N = M := Int.le_antisymm (h2 _ h3) (h4 _ h1)
def sp_bounds (R : Addr) : Sp := fun vs H Q _ => ∃ (a r l : Addr) (hs : List Int) (c : Int), vs = [.ref a, .ref r, .int c] ∧ H a = some (.lst (hs.map V.int)) ∧ RingAt R H r l hs ∧ 2 ≤ hs.length ∧ hs.length ≤ 100 ∧ ∀ H', Same H H' → Q (.bl true) H'
theorem ok_bounds (T : Txt K mg t) : FnOk P w K mg base CX0 3 t.f_law_bounds_right t.d_law_bounds_right P_law_bounds_right (sp_bounds t.C_Ring) := by
  have G_law_draw := ok_draw (P := P) (w := w) (base := base) T
  have G_law_bent := ok_bent (P := P) (w := w) (base := base) T
  have G_law_evened := ok_law_evened (P := P) (w := w) (base := base) T
  have G_law_says := ok_says (P := P) (w := w) (base := base) T
  have G_Within_init__ := ok_Wi_init (P := P) (w := w) (base := base) T
  have G_Within_shows := ok_Wi_shows (P := P) (w := w) (base := base) T
  have G_Stretch_init__ := ok_St_init (P := P) (w := w) (base := base) T
  have G_Stretch_shows := ok_St_shows (P := P) (w := w) (base := base) T
  refine T.F_law_bounds_right.ok sc_law_bounds_right (fun vs H Q E h => ?_) (fun cdv A outer s H vs Q E hr h => ?_)
  · obtain ⟨a, r, l, hs, c, rfl, _⟩ := h
    rfl
  · obtain ⟨a, r, l, hs, c, rfl, ha, RA, h2, hl, q⟩ := h
    refine ⟨_, (pss_cons (ps_par (i := 3) (j := 4) rfl sc_law_bounds_right.nd rfl rfl (by decide) rfl rfl (pa_cons (pe_op op_sub (pe_call G_law_draw (hr.mono (by decide)) rfl T.g_law_draw T.F_law_draw.kp T.B_law_draw .nil pass0 (pa_cons (pv 2) (pa_cons pe_int (pa_cons pe_int pa_nil se_Constant) se_Constant) se_Name)) pe_int) (pa_cons (pe_lst pa_nil) pa_nil se_List) se_BinOp) (by with_unfolding_all rfl))
      (pss_cons (ps_for PassesOwn.never rfl (piL K (pv 0)) (pg_name (i := 5) sc_law_bounds_right.nd rfl (by first | exact Or.inl rfl | exact Or.inr rfl))
      (pss_cons (ps_set (i := 3) sc_law_bounds_right.nd rfl (by first | exact Or.inl rfl | exact Or.inr rfl) (pe_op (op_add.or op_cat) (pv 3) (pv 5)))
      (pss_one (ps_expr (bmK K PySem.F.plainAttrs_list PySem.F.slot_list_append PySem.F.type_list_append mtr_append (pv 4) (pa_cons (pv 3) pa_nil se_Name))))))
      (pss_cons (ps_set (i := 4) sc_law_bounds_right.nd rfl (by first | exact Or.inl rfl | exact Or.inr rfl) (pe_call G_law_bent (hr.mono (by decide)) rfl T.g_law_bent T.F_law_bent.kp T.B_law_bent .nil pass0 (pa_cons (pv 4) (pa_cons (pv 2) pa_nil se_Name) se_Name)))
      (pss_cons (ps_set (i := 6) sc_law_bounds_right.nd rfl (by first | exact Or.inl rfl | exact Or.inr rfl) (pe_callB (call_max2 rfl) (by rfl) T.b_max bt_max (pa_cons pe_int (pa_cons (pe_op op_sub (pe_op (op_add.or op_cat) (pe_callB (maxK K rfl) (by rfl) T.b_max bt_max (pa_cons (pe_comp (sc := defScope s_law_bounds_right) (XN := N_law_bounds_right) (N' := ["_law_one"]) (t := 1) (ix := []) rfl ⟨rfl, by decide +kernel, by decide +kernel, by decide +kernel, by decide +kernel, rfl, by decide +kernel⟩ rfl rfl (piL K (pv 4)) (fun _ _ _ _ _ => (pg_name (i := 0) (show List.Nodup (["_law_one"] : List Str) by decide +kernel) rfl (Or.inl rfl))) (fun _ _ _ _ _ => (pe_callB call_abs (by rfl) T.b_abs bt_abs (pa_cons (pv 0) pa_nil se_Name)))) pa_nil se_ListComp)) (pe_call G_law_draw (hr.mono (by decide)) rfl T.g_law_draw T.F_law_draw.kp T.B_law_draw .nil pass0 (pa_cons (pv 2) (pa_cons pe_int (pa_cons pe_int pa_nil se_Constant) se_Constant) se_Name))) pe_int) pa_nil se_BinOp) se_Constant)))
      (pss_cons (ps_set (i := 7) sc_law_bounds_right.nd rfl (by first | exact Or.inl rfl | exact Or.inr rfl) (pe_and (pe_cmpR (eqK K hr.units0) (pe_callB (lenK K) (by rfl) T.b_len bt_len (pa_cons (pv 4) pa_nil se_Name)) (pe_callB (lenK K) (by rfl) T.b_len bt_len (pa_cons (pv 0) pa_nil se_Name)) (nomark _)) (pe_one (pe_call G_law_evened (hr.mono (by decide)) rfl T.g_law_evened T.F_law_evened.kp T.B_law_evened .nil pass0 (pa_cons (pv 0) (pa_cons (pv 4) pa_nil se_Name) se_Name)))))
      (pss_cons (ps_set (i := 7) sc_law_bounds_right.nd rfl (by first | exact Or.inl rfl | exact Or.inr rfl) (pe_and (pv 7) (pe_one (pe_cmpR op_le (pe_callB (maxK K rfl) (by rfl) T.b_max bt_max (pa_cons (pe_comp (sc := defScope s_law_bounds_right) (XN := N_law_bounds_right) (N' := ["_law_one"]) (t := 1) (ix := []) rfl ⟨rfl, by decide +kernel, by decide +kernel, by decide +kernel, by decide +kernel, rfl, by decide +kernel⟩ rfl rfl (piL K (pv 4)) (fun _ _ _ _ _ => (pg_name (i := 0) (show List.Nodup (["_law_one"] : List Str) by decide +kernel) rfl (Or.inl rfl))) (fun _ _ _ _ _ => (pe_callB call_abs (by rfl) T.b_abs bt_abs (pa_cons (pv 0) pa_nil se_Name)))) pa_nil se_ListComp)) (pv 6) (nomark _)))))
      (pss_cons (ps_set (i := 8) sc_law_bounds_right.nd rfl (by first | exact Or.inl rfl | exact Or.inr rfl) (pe_callTy (listK K) (by rfl) T.b_list bt_list (pa_cons (pv 4) pa_nil se_Name)))
      (pss_cons (ps_set (i := 9) sc_law_bounds_right.nd rfl (by first | exact Or.inl rfl | exact Or.inr rfl) (pe_make T.M_Within G_Within_init__ (hr.mono (by decide)) rfl T.g_Within T.B_Within_init__ .nil pass0 (pa_cons (pv 8) pa_nil se_Name)))
      (pss_cons (ps_expr (bmK K PySem.F.plainAttrs_list PySem.F.slot_list_append PySem.F.type_list_append mtr_append (pv 8) (pa_cons pe_int pa_nil se_Constant)))
      (pss_cons (ps_if (PW.pt (pw_or (pt_cmpR (neK K hr.units0) (fldK K (pv 9)) (pv 4) (nomark _)) (pw_or1 (pt_not (pt_val (pe_call G_law_says (hr.mono (by decide)) rfl T.g_law_says T.F_law_says.kp T.B_law_says .nil pass0 (pa_cons (PE.or (pe_meth (pv 9) T.cl_Within T.m_Within_shows G_Within_shows (hr.mono (by decide)) T.B_Within_shows .nil pass0 (pa_cons (pv 1) (pa_cons (pv 6) pa_nil se_Name) se_Name)) (pe_meth (pv 9) T.cl_Stretch T.m_Stretch_shows G_Stretch_shows (hr.mono (by decide)) T.B_Stretch_shows .nil pass0 (pa_cons (pv 1) (pa_cons (pv 6) pa_nil se_Name) se_Name))) (pa_cons (pv 7) pa_nil se_Name) se_Call)))))))
      (pss_one (ps_ret pe_bl))
      pss_nil)
      (pss_cons (ps_set (i := 10) sc_law_bounds_right.nd rfl (by first | exact Or.inl rfl | exact Or.inr rfl) (pe_callB (lenK K) (by rfl) T.b_len bt_len (pa_cons (pv 0) pa_nil se_Name)))
      (pss_cons (ps_asg (pe_tup (pa_cons (pe_op op_sub (pe_call G_law_draw (hr.mono (by decide)) rfl T.g_law_draw T.F_law_draw.kp T.B_law_draw .nil pass0 (pa_cons (pv 2) (pa_cons pe_int (pa_cons (pe_op (op_add.or op_cat) (pv 10) pe_int) pa_nil se_BinOp) se_Constant) se_Name)) pe_int) (pa_cons (pe_op op_sub (pe_call G_law_draw (hr.mono (by decide)) rfl T.g_law_draw T.F_law_draw.kp T.B_law_draw .nil pass0 (pa_cons (pv 2) (pa_cons pe_int (pa_cons (pe_op (op_add.or op_cat) (pv 10) pe_int) pa_nil se_BinOp) se_Constant) se_Name)) pe_int) pa_nil se_BinOp) se_BinOp)) (pgT K (n := 2) rfl (pgs_cons (pg_name (i := 11) sc_law_bounds_right.nd rfl (by first | exact Or.inl rfl | exact Or.inr rfl)) (pgs_cons (pg_name (i := 12) sc_law_bounds_right.nd rfl (by first | exact Or.inl rfl | exact Or.inr rfl)) pgs_nil))))
      (pss_cons (ps_set (i := 13) sc_law_bounds_right.nd rfl (by first | exact Or.inl rfl | exact Or.inr rfl) (pe_and (pe_chain op_le op_lt pe_int (pv 11) (pv 10)) (pe_and (pe_chain op_lt op_lt pe_int (pv 12) (pv 10)) (pe_one (pe_cmpR (eqK K hr.units0) (pe_callB (sumK K rfl) (by rfl) T.b_sum bt_sum (pa_cons (pv 0) pa_nil se_Name)) pe_int (nomark _))))))
      (pss_cons (ps_set (i := 14) sc_law_bounds_right.nd rfl (by first | exact Or.inl rfl | exact Or.inr rfl) (pe_callB call_abs (by rfl) T.b_abs bt_abs (pa_cons (pe_callB (sumK K rfl) (by rfl) T.b_sum bt_sum (pa_cons (pe_comp (sc := defScope s_law_bounds_right) (XN := N_law_bounds_right) (N' := ["_law_k", "_law_houses_here", "_law_many", "_law_first"]) (t := 1) (ix := [0, 10, 11]) rfl ⟨rfl, by decide +kernel, by decide +kernel, by decide +kernel, by decide +kernel, rfl, by decide +kernel⟩ rfl rfl (pi_range1 rfl T.b_range (pa_cons (pe_callB (call_max2 rfl) (by rfl) T.b_max bt_max (pa_cons pe_int (pa_cons (pv 12) pa_nil se_Name) se_Constant)) pa_nil se_Call)) (fun _ _ _ _ _ => (pg_name (i := 0) (show List.Nodup (["_law_k", "_law_houses_here", "_law_many", "_law_first"] : List Str) by decide +kernel) rfl (Or.inl rfl))) (fun _ _ _ _ _ => (pe_ix (ixK K) (pv 1) (pe_op op_mod (pe_op (op_add.or op_cat) (pv 3) (pv 0)) (pv 2)) (fun _ _ => rfl)))) pa_nil se_ListComp)) pa_nil se_Call)))
      (pss_cons (ps_set (i := 9) sc_law_bounds_right.nd rfl (by first | exact Or.inl rfl | exact Or.inr rfl) (pe_make T.M_Stretch G_Stretch_init__ (hr.mono (by decide)) rfl T.g_Stretch T.B_Stretch_init__ .nil pass0 (pa_cons (pv 11) (pa_cons (pv 12) pa_nil se_Name) se_Name)))
      (pss_cons (ps_for PassesOwn.never rfl (piT K (pe_tup (pa_cons pe_int (pa_cons (pe_op op_fdiv (pv 14) pe_int) (pa_cons (pe_callB (call_max2 rfl) (by rfl) T.b_max bt_max (pa_cons pe_int (pa_cons (pe_op op_fdiv (pe_op op_sub (pv 14) pe_int) pe_int) pa_nil se_BinOp) se_Constant)) (pa_cons (pe_call G_law_draw (hr.mono (by decide)) rfl T.g_law_draw T.F_law_draw.kp T.B_law_draw .nil pass0 (pa_cons (pv 2) (pa_cons pe_int (pa_cons pe_int pa_nil se_Constant) se_Constant) se_Name)) pa_nil se_Call) se_Call) se_BinOp) se_Constant))) (pg_name (i := 15) sc_law_bounds_right.nd rfl (by first | exact Or.inl rfl | exact Or.inr rfl))
      (pss_one (ps_if (pt_not (pt_val (pe_call G_law_says (hr.mono (by decide)) rfl T.g_law_says T.F_law_says.kp T.B_law_says .nil pass0 (pa_cons (PE.or (pe_meth (pv 9) T.cl_Within T.m_Within_shows G_Within_shows (hr.mono (by decide)) T.B_Within_shows .nil pass0 (pa_cons (pv 1) (pa_cons (pv 15) pa_nil se_Name) se_Name)) (pe_meth (pv 9) T.cl_Stretch T.m_Stretch_shows G_Stretch_shows (hr.mono (by decide)) T.B_Stretch_shows .nil pass0 (pa_cons (pv 1) (pa_cons (pv 15) pa_nil se_Name) se_Name))) (pa_cons (pe_and (pv 13) (pe_one (pe_cmpR op_gt (pv 14) (pe_op (op_mul.or op_rep) pe_int (pv 15)) (nomark _)))) pa_nil se_BoolOp) se_Call))))
      (pss_one (ps_ret pe_bl))
      pss_nil)))
      (pss_one (ps_ret (pe_and (pe_cmpR (eqK K hr.units0) (fldK K (pv 9)) (pv 11) (nomark _)) (pe_one (pe_cmpR (eqK K hr.units0) (fldK K (pv 9)) (pv 12) (nomark _)))))))))))))))))))))), ?_⟩
    refine ⟨_, rfl, _, _, _, rfl, by decide, fun H1 s1 => ?_⟩
    refine ⟨_, _, rfl, rfl, Nat.zero_le _, fun d hd => ⟨_, _, rfl, ?_⟩⟩
    have S1 : Same H (upd H1 d (.lst [])) := s1.upd (s1.free hd)
    have dH : H d = none := s1.free hd
    -- for house in houses
    refine ⟨_, rfl, a, rfl, ⟨_, SqL.of (S1 _ _ ha)⟩, ?_⟩
    refine for_list (xs := hs.map V.int) (fun i σ H3 => ∃ (cs0 : List Int) (ov : Int) (v : Option V), σ = [some (.ref a), some (.ref r), some (.int c), some (.int ov), some (.ref d), v, none, none, none, none, none, none, none, none, none, none] ∧ Same H H3 ∧ cs0.length = i ∧ H3 d = some (.lst (cs0.map V.int)))
      ⟨[], _, _, rfl, S1, rfl, upd_same⟩ (fun i σ H3 _ ⟨_, _, _, _, S3, _⟩ => SqL.of (S3 _ _ ha)) ?_ ?_
    · rintro i x σ H3 hx ⟨cs0, ov, v, rfl, S3, hc, h3⟩
      obtain ⟨h, eh, rfl⟩ := map_int_get hx
      have hi : i < hs.length := (List.getElem?_eq_some_iff.mp eh).1
      refine ⟨_, rfl, _, rfl, .inl ⟨_, _, rfl, rfl, ?_⟩⟩
      refine ⟨_, rfl, .inl ⟨rfl, _, SqL.of h3⟩, _, rfl, d, _, _, rfl, rfl, h3, by have := big; rw [List.length_map]; omega, ?_⟩
      exact ⟨cs0 ++ [ov + h], _, _, rfl, S3.upd dH, by simp [hc], by rw [upd_same]; simp⟩
    · rintro σ H3 ⟨cs0, ov, v, rfl, S3, hc, h3⟩
      rw [List.length_map] at hc
      have hne0 : cs0 ≠ [] := by intro e; rw [e] at hc; simp at hc; omega
      -- carried = bent(carried, cell)
      refine ⟨_, rfl, _, rfl, d, cs0, c, rfl, h3, hne0, by omega, fun D4 H4 hD4 s4 e4 => ?_⟩
      have S4 := S3.trans s4
      have bl := bent_len cs0 c hne0
      generalize hcs : bentI cs0 c = cs at e4 bl
      have hne : cs ≠ [] := by intro e; rw [e] at bl; simp at bl; omega
      have hcsl : cs.length ≤ 101 := by omega
      -- most
      have hM : ∃ M, M ∈ cs.map absI ∧ ∀ b ∈ cs.map absI, b ≤ M := by
        have hne' : cs.map absI ≠ [] := by simpa using hne
        refine ⟨(cs.map absI).max hne', List.max_mem _, fun b hb => List.le_max_of_mem hb⟩
      obtain ⟨M, hM1, hM2⟩ := hM
      generalize hmo : (if M + drawI c 5 3 - 1 > 0 then M + drawI c 5 3 - 1 else 0) = most
      dsimp only [gName]
      refine tSeqAsg_by (i := 6) (.int most) (fun Z z => ?_) (fun H6 s6 => ?_)
      · refine ⟨_, rfl, D4, rfl, ⟨_, SqL.of e4⟩, fun D5 hD5 => ?_⟩
        refine comp_list (t := 1) (fun x => match x with | .int i => .int (absI i) | _ => .non) (by have := big; rw [List.length_map]; omega) (by decide) hD5 (SqL.of e4) (fun k' x H5 Z hx S5 z => ?_) (fun H5 S5 e5 => ?_)
        · obtain ⟨i, ei, rfl⟩ := map_int_get hx
          exact ⟨_, rfl, _, rfl, z H5 (Same.refl _)⟩
        · refine ⟨D5, cs.map absI, rfl, SqL.of (by rw [e5, List.map_map, List.map_map]; rfl), by simpa using hne, fun N hN1 hN2 => ?_⟩
          obtain rfl := max_uniq hM1 hM2 hN1 hN2
          refine ⟨_, rfl, _, _, _, rfl, by decide, fun H6 s6 => .inl ⟨_, _, rfl, rfl, _, _, rfl, rfl, _, _, rfl, ?_⟩⟩
          rw [hmo]
          exact z H6 (S5.trans s6)
      have S6 := S4.trans s6
      have e6 := s6 _ _ e4
      -- due
      refine tSeqAsg_by (i := 7) (.bl (evenB hs cs)) (fun Z z => ?_) (fun H7 s7 => ?_)
      · refine ⟨_, rfl, D4, _, rfl, .inl (SqL.of e6), _, rfl, a, _, rfl, .inl (SqL.of (S6 _ _ ha)), .inl ⟨rfl, _, rfl, ?_⟩⟩
        rw [List.length_map, List.length_map]
        by_cases hlen : cs.length = hs.length
        · refine (if_pos (t_eq.mpr (by omega))).mpr ?_
          exact ⟨_, rfl, _, rfl, a, D4, hs, cs, rfl, SqL.of (S6 _ _ ha), SqL.of e6, by omega, z⟩
        · refine (if_neg (fun y => hlen (by have := t_eq.mp y; omega))).mpr ?_
          have := z H6 (Same.refl _)
          rw [evenB_len hlen] at this
          exact this
      have S7 := S6.trans s7
      have e7 := s7 _ _ e6
      refine tSeqAsg_by (i := 7) (.bl (evenB hs cs && decide (M ≤ most))) (fun Z z => ?_) (fun H8 s8 => ?_)
      · refine ⟨_, rfl, _, rfl, ?_⟩
        cases hev : evenB hs cs
        · rw [hev] at z
          exact iteF (z H7 (Same.refl _))
        rw [hev, Bool.true_and] at z
        refine iteT ?_
        refine ⟨_, rfl, D4, rfl, ⟨_, SqL.of e7⟩, fun D5 hD5 => ?_⟩
        refine comp_list (t := 1) (fun x => match x with | .int i => .int (absI i) | _ => .non) (by have := big; rw [List.length_map]; omega) (by decide) hD5 (SqL.of e7) (fun k' x H5 Z hx S5 z => ?_) (fun H5 S5 e5 => ?_)
        · obtain ⟨i, ei, rfl⟩ := map_int_get hx
          exact ⟨_, rfl, _, rfl, z H5 (Same.refl _)⟩
        · refine ⟨D5, cs.map absI, rfl, SqL.of (by rw [e5, List.map_map, List.map_map]; rfl), by simpa using hne, fun N hN1 hN2 => ?_⟩
          obtain rfl := max_uniq hM1 hM2 hN1 hN2
          exact ⟨_, rfl, _, _, rfl, rfl, z H5 S5⟩
      have S8 := S7.trans s8
      have e8 := s8 _ _ e7
      have hdue : wiB hs cs most = (evenB hs cs && decide (M ≤ most)) := by
        unfold wiB
        congr 1
        rw [Bool.eq_iff_iff, List.all_eq_true, decide_eq_true_iff]
        constructor
        · intro y
          obtain ⟨c0, h0, rfl⟩ := List.mem_map.mp hM1
          exact of_decide_eq_true (y c0 h0)
        · intro y c0 h0
          have := hM2 _ (List.mem_map.mpr ⟨c0, h0, rfl⟩)
          exact decide_eq_true (by omega)
      -- handed = list(carried); answer = Within(handed); handed.append(0)
      refine ⟨_, rfl, D4, _, rfl, .inl (SqL.of e8), fun d5 hd5 => ?_⟩
      refine ⟨_, rfl, fun x dx hx hdx nex => ⟨x, d5, dx, cs, rfl, upd_same, ?_, fun cc H9 hcc bt WA => ⟨rfl, ?_⟩⟩⟩
      · refine SqL.of ?_
        rw [upd_ne (fun y => ?_), upd_ne (fun y => ?_), upd_same]
        · rw [← y, upd_same] at hdx; cases hdx
        · rw [← y, upd_same] at hx; cases hx
      have S9' := made_same hx hdx bt
      have f5 := made_free hcc
      have S8b : Same H8 (upd H8 d5 (.lst (cs.map V.int))) := same_upd hd5
      have S9 : Same H H9 := (S8.trans S8b).trans S9'
      have e9 : H9 d5 = some (.lst (cs.map V.int)) := S9' _ _ upd_same
      have f5H : H d5 = none := S8.free hd5
      refine ⟨_, rfl, .inl ⟨rfl, _, SqL.of e9⟩, d5, _, _, rfl, rfl, e9, by have := big; rw [List.length_map]; omega, ?_⟩
      have n5 : cc ≠ d5 := by
        rintro rfl
        rw [upd_same] at f5; cases f5
      have nx5 : x ≠ d5 := by
        rintro rfl
        rw [upd_same] at hx; cases hx
      have WA' : WiAt t.C_Within (upd H9 d5 (.lst (cs.map V.int ++ [.int 0]))) x cc cs := ⟨let ⟨dy, e⟩ := WA.ob; ⟨dy, by rw [upd_ne nx5]; exact e⟩, by rw [upd_ne n5]; exact WA.ca⟩
      have S10 : Same H (upd H9 d5 (.lst (cs.map V.int ++ [.int 0]))) := S9.upd f5H
      have nD : D4 ≠ d5 := ne_of_none e8 hd5
      have e10 : (upd H9 d5 (.lst (cs.map V.int ++ [.int 0]))) D4 = some (.lst (cs.map V.int)) := by
        rw [upd_ne nD]; exact S9' _ _ (S8b _ _ e8)
      generalize (upd H9 d5 (.lst (cs.map V.int ++ [.int 0]))) = H10 at WA' S10 e10 ⊢
      obtain ⟨⟨dy, ex⟩, ecc⟩ := id WA'
      refine ⟨_, rfl, x, t.C_Within, dy, _, _, rfl, ex, T.cl_Within, T.n_Within_carried, rfl, _, rfl, .inr ⟨cc, D4, _, _, rfl, rfl, SqL.of ecc, SqL.of e10, by simp [flatV], by simp [flatV], _, rfl, ?_⟩⟩
      rw [eqVs_ints, decide_eq_true rfl]
      refine iteF ?_
      refine .inl ⟨_, rfl, x, dy, _, rfl, ex, rfl, _, rfl, _, rfl, x, cc, r, l, cs, hs, most, rfl, WA', RA.same S10, by omega, by omega, fun H11 s11 => ?_⟩
      refine ⟨_, rfl, _, _, rfl, _, rfl, ?_⟩
      rw [hdue, beq_self_eq_true]
      refine iteF ?_
      have S11 := S10.trans s11
      -- many = len(houses)
      refine ⟨_, rfl, a, _, rfl, .inl (SqL.of (S11 _ _ ha)), ?_⟩
      rw [List.length_map]
      refine ⟨_, rfl, _, rfl, .inl ⟨_, _, rfl, rfl, _, _, _, rfl, by omega, fun H12 s12 => ?_⟩⟩
      refine ⟨_, _, rfl, rfl, _, rfl, _, rfl, .inl ⟨_, _, rfl, rfl, _, _, _, rfl, by omega, fun H13 s13 => ?_⟩⟩
      refine ⟨_, _, rfl, rfl, by show 2 ≤ sizeLine; decide, fun tp htp => ?_⟩
      refine ⟨tp, _, rfl, SqT.of upd_same, rfl, _, _, rfl, _, _, rfl, rfl, ?_⟩
      dsimp only
      have S13 := (S11.trans s12).trans s13
      have S14 := S13.upd (o := .tup [V.int (drawI c 6 (↑hs.length + 3) - 1), V.int (drawI c 7 (↑hs.length + 3) - 1)]) (S13.free htp)
      have fm1 : drawI c 6 (↑hs.length + 3) - 1 < ↑hs.length + 3 := by
        have := draw_hi (c := c) (k := 6) (m := ↑hs.length + 3) (by omega)
        omega
      have fm2 : drawI c 7 (↑hs.length + 3) - 1 < ↑hs.length + 3 := by
        have := draw_hi (c := c) (k := 7) (m := ↑hs.length + 3) (by omega)
        omega
      generalize drawI c 6 (↑hs.length + 3) - 1 = f at S14 fm1 ⊢
      generalize drawI c 7 (↑hs.length + 3) - 1 = m at S14 fm2 ⊢
      generalize (upd H13 tp (.tup [V.int f, V.int m])) = H14 at S14 ⊢
      refine tSeqAsg_by (i := 13) (.bl (insideB hs f m)) (fun Z z => ?_) (fun H15 s15 => ?_)
      · have no : insideB hs f m = false → Z (.bl false) H14 := fun e => by
          have := z H14 (Same.refl _)
          rw [e] at this
          exact this
        refine ⟨_, rfl, _, _, rfl, rfl, _, rfl, ?_⟩
        by_cases f0 : 0 ≤ f
        case neg =>
          exact (if_neg (fun y => f0 (t_le.mp y))).mpr ⟨_, rfl, iteF (no (by simp [insideB, f0]))⟩
        refine (if_pos (t_le.mpr f0)).mpr ⟨_, rfl, _, _, rfl, rfl, _, rfl, ?_⟩
        by_cases f1 : f < hs.length
        case neg =>
          exact (if_neg (fun y => f1 (t_lt.mp y))).mpr (no (by simp [insideB, f1]))
        refine (if_pos (t_lt.mpr f1)).mpr ⟨_, rfl, _, _, rfl, rfl, _, rfl, ?_⟩
        by_cases m0 : 0 < m
        case neg =>
          exact (if_neg (fun y => m0 (t_lt.mp y))).mpr ⟨_, rfl, iteF (no (by simp [insideB, m0]))⟩
        refine (if_pos (t_lt.mpr m0)).mpr ⟨_, rfl, _, _, rfl, rfl, _, rfl, ?_⟩
        by_cases m1 : m < hs.length
        case neg =>
          exact (if_neg (fun y => m1 (t_lt.mp y))).mpr (no (by simp [insideB, m1]))
        refine (if_pos (t_lt.mpr m1)).mpr ⟨_, rfl, a, hs, rfl, SqL.of (S14 _ _ ha), .inl ⟨rfl, ?_⟩⟩
        have := z H14 (Same.refl _)
        unfold insideB at this
        rw [decide_eq_true f0, decide_eq_true f1, decide_eq_true m0, decide_eq_true m1] at this
        rw [d_int]
        simpa using this
      have S15 := S14.trans s15
      -- total
      generalize htot : absI (cycI hs f (if m > 0 then m else 0).toNat).sum = tot
      refine tSeqAsg_by (i := 14) (.int tot) (fun Z z => ?_) (fun H16 s16 => ?_)
      · refine ⟨_, rfl, _, _, rfl, _, rfl, ?_, ?_, fun D5 hD5 => ?_⟩
        · split <;> omega
        · split <;> omega
        refine comp_range0 (t := 1) (n := (if m > 0 then m else 0).toNat) (fun k => .int (hs.getD ((f + (k : Int)) % (hs.length : Int)).toNat 0)) (by have := big; split <;> omega) (by decide) hD5 (fun k H5 Z hk S5 z => ?_) (fun H5 S5 e5 => ?_)
        · have p0 : 0 ≤ (f + (k : Int)) % (hs.length : Int) := Int.emod_nonneg _ (by omega)
          have p1 : (f + (k : Int)) % (hs.length : Int) < (hs.length : Int) := Int.emod_lt_of_pos _ (by omega)
          refine ⟨_, rfl, _, rfl, _, rfl, .inl ⟨_, _, rfl, rfl, _, rfl, _, _, rfl, rfl, by omega, ?_⟩⟩
          exact .inl ⟨a, _, _, _, rfl, rfl, SqL.of (S5 _ _ (S15 _ _ ha)), atI_ints p0 p1, z H5 (Same.refl _)⟩
        · refine ⟨D5, cycI hs f (if m > 0 then m else 0).toNat, rfl, SqL.of (by rw [e5, cycI, List.map_map]; rfl), _, rfl, ?_⟩
          have := z H5 S5
          rw [← htot] at this
          exact this
      have S16 := S15.trans s16
      have tnn : 0 ≤ tot := by rw [← htot]; exact absI_nn _
      -- answer = Stretch(first, count)
      refine ⟨_, rfl, _, rfl, fun x2 dx2 hx2 hdx2 nex2 => ⟨x2, dx2, f, m, rfl, upd_same, fun H17 bt2 SA => ⟨rfl, ?_⟩⟩⟩
      have S17 := S16.trans (made_same hx2 hdx2 bt2)
      -- for bound in (..)
      refine ⟨_, rfl, _, _, rfl, rfl, ⟨by decide, by decide⟩, ?_⟩
      refine ⟨_, rfl, _, _, rfl, rfl, _, _, rfl, rfl, ⟨by decide, by decide⟩, _, _, rfl, ?_⟩
      refine ⟨_, rfl, _, _, _, rfl, by decide, fun H18 s18 => ⟨by show 4 ≤ sizeLine; decide, fun tb htb => ?_⟩⟩
      have d8 := draw_lo (c := c) (k := 8) (m := 50) (by decide)
      have hbs : ∀ b ∈ ([0, tot / 2, if (tot - 1) / 2 > 0 then (tot - 1) / 2 else 0, drawI c 8 50] : List Int), 0 ≤ b := by
        intro b hb
        simp only [List.mem_cons, List.not_mem_nil, or_false] at hb
        rcases hb with rfl | rfl | rfl | rfl
        · omega
        · omega
        · split <;> omega
        · exact d8
      have S18 := S17.trans s18
      have SA18 := SA.same s18
      refine ⟨tb, rfl, ⟨_, SqT.of upd_same⟩, ?_⟩
      refine for_tup (xs := ([0, tot / 2, if (tot - 1) / 2 > 0 then (tot - 1) / 2 else 0, drawI c 8 50] : List Int).map V.int)
        (fun i σ H19 => ∃ u, σ = [some (.ref a), some (.ref r), some (.int c), some (.int ov), some (.ref D4), v, some (.int most), some (.bl (evenB hs cs && decide (M ≤ most))), some (.ref d5), some (.ref x2), some (.int ↑hs.length), some (.int f), some (.int m), some (.bl (insideB hs f m)), some (.int tot), u] ∧
          Same (upd H18 tb (.tup (([0, tot / 2, if (tot - 1) / 2 > 0 then (tot - 1) / 2 else 0, drawI c 8 50] : List Int).map V.int))) H19)
        ⟨_, rfl, Same.refl _⟩ (fun i σ H19 _ ⟨_, _, S19⟩ => SqT.of (S19 _ _ upd_same)) ?_ ?_
      · rintro i y σ H19 hy ⟨u, rfl, S19⟩
        obtain ⟨b, eb, rfl⟩ := map_int_get hy
        have hb := hbs b (mem_of_get eb)
        have SS : Same H H19 := (S18.upd (S18.free htb)).trans S19
        have SAb := (SA18.same (same_upd htb)).same S19
        obtain ⟨dz, ez⟩ := id SAb
        refine .inr ⟨_, rfl, x2, dz, _, rfl, ez, rfl, _, rfl, _, rfl, x2, r, l, hs, f, m, b, rfl, SAb, RA.same SS, by omega, fun H20 s20 => ?_⟩
        refine ⟨_, rfl, _, rfl, ?_⟩
        have sd := st_due (hs := hs) (f := f) (m := m) (b := b) hb
        rw [htot] at sd
        cases hin : insideB hs f m
        · refine iteF ⟨_, _, rfl, _, rfl, ?_⟩
          rw [sd, hin]
          exact iteF ⟨_, rfl, S19.trans s20⟩
        · refine iteT ⟨_, rfl, _, rfl, .inl ⟨_, _, rfl, rfl, .inl ⟨by decide, by decide⟩, _, _, rfl, rfl, _, _, rfl, _, rfl, ?_⟩⟩
          rw [sd, hin, Bool.true_and, beq_self_eq_true]
          exact iteF ⟨_, rfl, S19.trans s20⟩
      · rintro σ H19 ⟨u, rfl, S19⟩
        have SS : Same H H19 := (S18.upd (S18.free htb)).trans S19
        obtain ⟨dz, ez⟩ := (SA18.same (same_upd htb)).same S19
        refine ⟨_, rfl, x2, t.C_Stretch, dz, _, _, rfl, ez, T.cl_Stretch, T.n_Stretch_first, look_f _ _, _, rfl, .inl ⟨rfl, _, rfl, (if_pos (t_eq.mpr rfl)).mpr ?_⟩⟩
        refine ⟨_, rfl, x2, t.C_Stretch, dz, _, _, rfl, ez, T.cl_Stretch, T.n_Stretch_many, look_m _ _, _, rfl, .inl ⟨rfl, ?_⟩⟩
        rw [d_int, decide_eq_true rfl]
        exact q H19 SS

/-! ### what least promises -/
def Small (hs : List Int) : Prop := ∀ x ∈ hs, -1000000 ≤ x ∧ x ≤ 1000000
def Toll (ts : List Int) : Prop := ∀ x ∈ ts, 0 ≤ x ∧ x ≤ 1000
theorem Small.sm {hs : List Int} (h : Small hs) : ∀ x ∈ hs, Sm x := fun x hx => by have := h x hx; unfold Sm; omega
theorem Toll.sm {hs : List Int} (h : Toll hs) : ∀ x ∈ hs, Sm x := fun x hx => by have := h x hx; unfold Sm; omega
structure Best (hs ts cs ps : List Int) : Prop where
  lc : cs.length = hs.length
  lp : ps.length = hs.length
  ev : evenB hs cs = true
  kp : keepB ps ts = true
  eq : worthI hs ps = costI ts cs
def sp_least (CE CU R : Addr) : Sp := fun vs H Q _ => ∃ (r l a : Addr) (hs ts : List Int), vs = [.ref r, .ref a] ∧ RingAt R H r l hs ∧ H a = some (.lst (ts.map V.int)) ∧ 2 ≤ hs.length ∧ hs.length ≤ 100 ∧ ts.length = hs.length ∧ Small hs ∧ Toll ts ∧
  (hs.sum ≠ 0 → ∀ p H', H p = none → Same H H' → UnAt CU H' p hs.sum → Q (.ref p) H') ∧
  (hs.sum = 0 → ∀ p c q cs ps H', H p = none → H c = none → H q = none → c ≠ q → Same H H' → EvenAt CE H' p c q cs ps → Best hs ts cs ps → Q (.ref p) H')
abbrev leastK : Nat := 6

/-! ### running sums -/
def runI : Int → List Int → List Int
  | _, [] => []
  | s, x :: xs => (s + x) :: runI (s + x) xs
theorem run_length : ∀ (s : Int) (xs : List Int), (runI s xs).length = xs.length
  | _, [] => rfl
  | s, x :: xs => by simp [runI, run_length (s + x) xs]
theorem run_snoc : ∀ (s : Int) (xs : List Int) (y : Int), runI s (xs ++ [y]) = runI s xs ++ [s + xs.sum + y]
  | s, [], y => by simp [runI]
  | s, x :: xs, y => by
    rw [List.cons_append, runI, runI, run_snoc, List.sum_cons, List.cons_append]
    congr 3
    omega
theorem run_last : ∀ (s : Int) (xs : List Int), xs ≠ [] → (runI s xs).getD (xs.length - 1) 0 = s + xs.sum
  | _, [], h => absurd rfl h
  | s, [x], _ => by simp [runI]
  | s, x :: y :: xs, _ => by
    have h := run_last (s + x) (y :: xs) (by simp)
    rw [List.sum_cons]
    simp only [runI, List.length_cons, Nat.add_sub_cancel, List.getD_cons_succ] at h ⊢
    rw [h]
    omega
theorem take_sum_diff (cs : List Int) : ∀ m, m ≤ cs.length → (((List.range m).map fun k => cs.getD k 0 - prevI cs k)).sum = if m = 0 then 0 else cs.getD (m - 1) 0 - cs.getD (cs.length - 1) 0
  | 0, _ => by simp
  | m + 1, h => by
    rw [List.range_succ, List.map_append, List.sum_append, take_sum_diff cs m (by omega), if_neg (show ¬ (m + 1 = 0) by omega)]
    simp only [List.map_cons, List.map_nil, List.sum_cons, List.sum_nil, Nat.add_sub_cancel]
    by_cases hm : m = 0
    · subst hm
      rw [if_pos rfl]
      have : prevI cs 0 = cs.getD (cs.length - 1) 0 := by
        unfold prevI
        rw [Nat.zero_add, Nat.mod_eq_of_lt (by omega)]
      rw [this]; omega
    · rw [if_neg hm]
      have : prevI cs m = cs.getD (m - 1) 0 := by
        unfold prevI
        have e : m + cs.length - 1 = (m - 1) + cs.length := by omega
        rw [e, Nat.add_mod_right, Nat.mod_eq_of_lt (by omega)]
      rw [this]; omega
theorem diff_sum (cs : List Int) : (diffI cs).sum = 0 := by
  unfold diffI
  rw [take_sum_diff cs _ (Nat.le_refl _)]
  by_cases h : cs.length = 0
  · rw [if_pos h]
  · rw [if_neg h]; omega
theorem houses_sum (ns : List Int) (f : Int) : (housesI ns f).sum = 0 := diff_sum _

/-! ### prices bound what carrying costs -/
theorem rsum_le {f g : Nat → Int} : ∀ n, (∀ k, k < n → f k ≤ g k) → ((List.range n).map f).sum ≤ ((List.range n).map g).sum
  | 0, _ => by simp
  | n + 1, h => by
    rw [List.range_succ, List.map_append, List.map_append, List.sum_append, List.sum_append]
    have h1 := rsum_le n fun k hk => h k (by omega)
    have h2 := h n (by omega)
    simp
    omega
theorem rsum_sub {f g : Nat → Int} : ∀ n, ((List.range n).map fun k => f k - g k).sum = ((List.range n).map f).sum - ((List.range n).map g).sum
  | 0 => by simp
  | n + 1 => by
    rw [List.range_succ, List.map_append, List.map_append, List.map_append, List.sum_append, List.sum_append, List.sum_append, rsum_sub n]
    simp
    omega
theorem rsum_eq {f g : Nat → Int} (n : Nat) (h : ∀ k, k < n → f k = g k) : ((List.range n).map f).sum = ((List.range n).map g).sum := by
  rw [List.map_congr_left fun k hk => h k (List.mem_range.mp hk)]
theorem rsum_prev (f : Nat → Int) : ∀ n, ((List.range n).map fun k => f ((k + n - 1) % n)).sum = ((List.range n).map f).sum
  | 0 => by simp
  | n + 1 => by
    rw [List.range_succ_eq_map, List.map_cons, List.sum_cons, List.map_map, ← List.range_succ_eq_map, List.range_succ, List.map_append, List.sum_append]
    have e0 : (0 + (n + 1) - 1) % (n + 1) = n := by rw [Nat.mod_eq_of_lt (by omega)]; omega
    have e1 : ((List.range n).map ((fun k => f ((k + (n + 1) - 1) % (n + 1))) ∘ Nat.succ)).sum = ((List.range n).map f).sum := by
      refine rsum_eq n fun k hk => ?_
      show f ((k + 1 + (n + 1) - 1) % (n + 1)) = f k
      have : k + 1 + (n + 1) - 1 = k + (n + 1) := by omega
      rw [this, Nat.add_mod_right, Nat.mod_eq_of_lt (by omega)]
    rw [e0, e1]
    simp
    omega
theorem zip_range (g : Int → Int → Int) {xs ys : List Int} {n : Nat} (hx : xs.length = n) (hy : ys.length = n) : List.zipWith g xs ys = (List.range n).map fun k => g (xs.getD k 0) (ys.getD k 0) := by
  refine List.ext_getElem (by simp; omega) fun k h1 h2 => ?_
  simp at h1 h2
  simp [List.getD, List.getElem?_eq_getElem (show k < xs.length by omega), List.getElem?_eq_getElem (show k < ys.length by omega)]
theorem weak_at {x c T : Int} (h : absI x ≤ T) : -x * c ≤ T * absI c := by
  unfold absI at h ⊢
  by_cases hc : c < 0
  · rw [if_pos hc]
    have h1 : x ≤ T := by split at h <;> omega
    have h2 := Int.mul_le_mul_of_nonneg_right h1 (show 0 ≤ -c by omega)
    rw [Int.neg_mul, ← Int.mul_neg]
    exact h2
  · rw [if_neg hc]
    have h1 : -x ≤ T := by split at h <;> omega
    exact Int.mul_le_mul_of_nonneg_right h1 (by omega)
theorem dual {hs ts cs ps : List Int} (lc : cs.length = hs.length) (lp : ps.length = hs.length) (lt : ts.length = hs.length) (ev : evenB hs cs = true) (kp : keepB ps ts = true) : worthI hs ps ≤ costI ts cs := by
  have eh : diffI cs = hs := of_decide_eq_true ev
  unfold keepB at kp
  rw [List.all_eq_true] at kp
  generalize hn : hs.length = n at lc lp lt
  have eW : worthI hs ps = ((List.range n).map fun k => ps.getD k 0 * cs.getD k 0 - ps.getD k 0 * prevI cs k).sum := by
    unfold worthI
    rw [zip_range _ lp hn]
    refine rsum_eq n fun k hk => ?_
    rw [← eh, diff_get (by omega), Int.mul_sub]
  have e1 : ((List.range n).map fun k => ps.getD k 0 * cs.getD k 0).sum = ((List.range n).map fun k => prevI ps k * prevI cs k).sum := by
    rw [← rsum_prev (fun k => ps.getD k 0 * cs.getD k 0) n]
    refine rsum_eq n fun k hk => ?_
    unfold prevI
    rw [lp, lc]
  have eC : costI ts cs = ((List.range n).map fun k => prevI ts k * absI (prevI cs k)).sum := by
    unfold costI
    rw [zip_range _ lt lc, ← rsum_prev (fun k => ts.getD k 0 * absI (cs.getD k 0)) n]
    refine rsum_eq n fun k hk => ?_
    unfold prevI
    rw [lt, lc]
  rw [eW, rsum_sub, e1, ← rsum_sub, eC]
  refine rsum_le n fun k hk => ?_
  have hk' := of_decide_eq_true (kp k (List.mem_range.mpr (by omega)))
  have := weak_at (c := prevI cs k) hk'
  have e2 : prevI ps k * prevI cs k - ps.getD k 0 * prevI cs k = -(ps.getD k 0 - prevI ps k) * prevI cs k := by
    rw [Int.neg_sub, Int.sub_mul]
  rw [e2]
  exact this

/-! ### a carrying from its first number on -/
theorem run_get : ∀ (hs : List Int) (o : Int) (k : Nat), k < hs.length → (runI o hs).getD k 0 = o + (hs.take (k + 1)).sum
  | [], _, _, h => by simp at h
  | x :: xs, o, 0, _ => by simp [runI]
  | x :: xs, o, k + 1, h => by
    have := run_get xs (o + x) k (by simpa using h)
    simp only [runI, List.getD_cons_succ, List.take_succ_cons, List.sum_cons] at this ⊢
    rw [this]
    omega
theorem run_diff {hs : List Int} (o : Int) (h : hs.sum = 0) (hn : 0 < hs.length) : diffI (runI o hs) = hs := by
  have hl := run_length o hs
  refine List.ext_getElem (by rw [diff_length, hl]) fun k h1 h2 => ?_
  have hg : (diffI (runI o hs))[k] = (diffI (runI o hs)).getD k 0 := by simp [List.getD, List.getElem?_eq_getElem h1]
  rw [hg, diff_get (by omega), run_get hs o k h2]
  have e : hs.take (k + 1) = hs.take k ++ [hs[k]] := by rw [List.take_succ, List.getElem?_eq_getElem h2]; rfl
  rw [e, List.sum_append]
  have : prevI (runI o hs) k = o + (hs.take k).sum := by
    unfold prevI
    rw [hl]
    by_cases z : k = 0
    · subst z
      rw [Nat.zero_add, Nat.mod_eq_of_lt (by omega), run_get hs o _ (by omega)]
      have : hs.length - 1 + 1 = hs.length := by omega
      rw [this, List.take_length, h]
      simp
    · have e : k + hs.length - 1 = (k - 1) + hs.length := by omega
      rw [e, Nat.add_mod_right, Nat.mod_eq_of_lt (by omega), run_get hs o _ (by omega)]
      have : k - 1 + 1 = k := by omega
      rw [this]
  rw [this]
  simp
  omega

/-! ### the middle of weighted numbers -/
theorem perm_sum {α : Type} {f : α → Int} {l m : List α} (h : l.Perm m) : (l.map f).sum = (m.map f).sum := by
  induction h with
  | nil => rfl
  | cons x _ ih => simp only [List.map_cons, List.sum_cons, ih]
  | swap x y l => simp only [List.map_cons, List.sum_cons]; omega
  | trans _ _ h1 h2 => exact h1.trans h2
def wlt (ps : List (Int × Int)) (x : Int) : Int := (ps.map fun p => if p.1 < x then p.2 else 0).sum
def wle (ps : List (Int × Int)) (x : Int) : Int := (ps.map fun p => if p.1 ≤ x then p.2 else 0).sum
def wAll (ps : List (Int × Int)) : Int := (ps.map Prod.snd).sum
theorem wlt_cons (p : Int × Int) (ps : List (Int × Int)) (x : Int) : wlt (p :: ps) x = (if p.1 < x then p.2 else 0) + wlt ps x := by simp [wlt]
theorem wle_cons (p : Int × Int) (ps : List (Int × Int)) (x : Int) : wle (p :: ps) x = (if p.1 ≤ x then p.2 else 0) + wle ps x := by simp [wle]
theorem wAll_cons (p : Int × Int) (ps : List (Int × Int)) : wAll (p :: ps) = p.2 + wAll ps := by simp [wAll]
theorem wlt_app (ps qs : List (Int × Int)) (x : Int) : wlt (ps ++ qs) x = wlt ps x + wlt qs x := by simp [wlt]
theorem wle_app (ps qs : List (Int × Int)) (x : Int) : wle (ps ++ qs) x = wle ps x + wle qs x := by simp [wle]
theorem wAll_app (ps qs : List (Int × Int)) : wAll (ps ++ qs) = wAll ps + wAll qs := by simp [wAll]
theorem wlt_all : ∀ {ps : List (Int × Int)} {x : Int}, (∀ p ∈ ps, 0 ≤ p.2) → wlt ps x ≤ wAll ps
  | [], _, _ => by simp [wlt, wAll]
  | p :: ps, x, h => by
    have := wlt_all (x := x) fun q hq => h q (List.mem_cons_of_mem p hq)
    have hp := h p (List.mem_cons_self ..)
    rw [wlt_cons, wAll_cons]
    split <;> omega
theorem wlt_none : ∀ {ps : List (Int × Int)} {x : Int}, (∀ p ∈ ps, x ≤ p.1) → wlt ps x = 0
  | [], _, _ => rfl
  | p :: ps, x, h => by
    have := wlt_none fun q hq => h q (List.mem_cons_of_mem p hq)
    have hp := h p (List.mem_cons_self ..)
    rw [wlt_cons, this, if_neg (by omega)]
    rfl
theorem wle_whole : ∀ {ps : List (Int × Int)} {x : Int}, (∀ p ∈ ps, p.1 ≤ x) → wle ps x = wAll ps
  | [], _, _ => rfl
  | p :: ps, x, h => by
    have := wle_whole fun q hq => h q (List.mem_cons_of_mem p hq)
    have hp := h p (List.mem_cons_self ..)
    rw [wle_cons, wAll_cons, this, if_pos hp]
theorem wle_nn : ∀ {ps : List (Int × Int)} {x : Int}, (∀ p ∈ ps, 0 ≤ p.2) → 0 ≤ wle ps x
  | [], _, _ => by simp [wle]
  | p :: ps, x, h => by
    have := wle_nn (x := x) fun q hq => h q (List.mem_cons_of_mem p hq)
    have hp := h p (List.mem_cons_self ..)
    rw [wle_cons]
    split <;> omega
def midF (S : Int) : List (Int × Int) → Int → Int → Int
  | [], _, m => m
  | p :: ps, b, m => midF S ps (b + p.2) (if 2 * b < S then p.1 else m)
theorem mid_stay (S : Int) : ∀ (ps : List (Int × Int)) (b m : Int), (∀ p ∈ ps, 0 ≤ p.2) → ¬ 2 * b < S → midF S ps b m = m
  | [], _, _, _, _ => rfl
  | p :: ps, b, m, h, hb => by
    have hp := h p (List.mem_cons_self ..)
    rw [midF, if_neg hb]
    exact mid_stay S ps _ m (fun q hq => h q (List.mem_cons_of_mem p hq)) (by omega)
theorem mid_ok (S : Int) : ∀ (ps pre : List (Int × Int)) (m : Int), ps.Pairwise (fun p q => p.1 ≤ q.1) → (∀ p ∈ pre, ∀ q ∈ ps, p.1 ≤ q.1) → (∀ p ∈ pre, 0 ≤ p.2) → (∀ p ∈ ps, 0 ≤ p.2) → S = wAll pre + wAll ps → 0 < S → 2 * wAll pre < S →
    2 * wlt (pre ++ ps) (midF S ps (wAll pre) m) < S ∧ S ≤ 2 * wle (pre ++ ps) (midF S ps (wAll pre) m)
  | [], pre, m, _, _, _, _, hS, h0, hb => by
    have : wAll ([] : List (Int × Int)) = 0 := rfl
    omega
  | p :: ps, pre, m, so, hx, h1, h2, hS, h0, hb => by
    have hp := h2 p (List.mem_cons_self ..)
    have h2' : ∀ q ∈ ps, 0 ≤ q.2 := fun q hq => h2 q (List.mem_cons_of_mem p hq)
    rw [wAll_cons] at hS
    rw [midF, if_pos hb]
    have so' := List.pairwise_cons.mp so
    have e1 : wAll (pre ++ [p]) = wAll pre + p.2 := by rw [wAll_app, wAll_cons]; simp [wAll]
    by_cases g : 2 * (wAll pre + p.2) < S
    · have := mid_ok S ps (pre ++ [p]) p.1 so'.2 (fun q hq r hr => by
        rcases List.mem_append.mp hq with e | e
        · exact hx q e r (List.mem_cons_of_mem p hr)
        · rw [List.mem_singleton.mp e]; exact so'.1 r hr) (fun q hq => by
        rcases List.mem_append.mp hq with e | e
        · exact h1 q e
        · rw [List.mem_singleton.mp e]; exact hp) h2' (by omega) h0 (by omega)
      rw [e1, List.append_assoc] at this
      exact this
    · rw [mid_stay S ps _ _ h2' g]
      rw [wlt_app, wlt_cons, wle_app, wle_cons, if_neg (show ¬ p.1 < p.1 by omega), if_pos (Int.le_refl _)]
      have a1 := wlt_all (ps := pre) (x := p.1) h1
      have a2 := wlt_none (ps := ps) (x := p.1) so'.1
      have a3 := wle_whole (ps := pre) (x := p.1) fun q hq => hx q hq p (List.mem_cons_self ..)
      have a4 := wle_nn (ps := ps) (x := p.1) h2'
      omega
/-- less than half lies below it, at least half up to it -/
def Mid (ps : List (Int × Int)) (x : Int) : Prop := 2 * wlt ps x < wAll ps ∧ wAll ps ≤ 2 * wle ps x
theorem mid_of {qs ps : List (Int × Int)} (hp : qs.Perm ps) (so : qs.Pairwise (fun p q => p.1 ≤ q.1)) (h : ∀ p ∈ ps, 0 ≤ p.2) (hS : 0 < wAll ps) : Mid ps (midF (wAll ps) qs 0 0) := by
  have e : wAll qs = wAll ps := perm_sum hp
  have := mid_ok (wAll ps) qs [] 0 so (by simp) (by simp) (fun p q => h p (hp.mem_iff.mp q)) (by simp [wAll] at e ⊢; omega) hS (by simp [wAll] at hS ⊢; exact hS)
  simp only [List.nil_append, show wAll ([] : List (Int × Int)) = 0 from rfl] at this
  have e1 : ∀ x, wlt qs x = wlt ps x := fun x => perm_sum hp
  have e2 : ∀ x, wle qs x = wle ps x := fun x => perm_sum hp
  rw [e1, e2] at this
  exact this
theorem mid_zero {qs ps : List (Int × Int)} (hp : qs.Perm ps) (h : ∀ p ∈ ps, 0 ≤ p.2) (hS : wAll ps = 0) : midF (wAll ps) qs 0 0 = 0 := mid_stay _ _ _ _ (fun p q => h p (hp.mem_iff.mp q)) (by omega)
/-! ### steps down -/
def sgI (c t : Int) : Int := if 0 < c then t else if c < 0 then -t else 0
def backI (t l : Int) : Int := max (-t) (min t l)
def stepsF : List (Int × Int) → Int → List Int
  | [], _ => []
  | p :: r, l => if p.1 = 0 then (-(backI p.2 l)) :: stepsF r (l - backI p.2 l) else sgI p.1 p.2 :: stepsF r l
def leftF : List (Int × Int) → Int → Int
  | [], l => l
  | p :: r, l => if p.1 = 0 then leftF r (l - backI p.2 l) else leftF r l
def wz (r : List (Int × Int)) : Int := (r.map fun p => if p.1 = 0 then p.2 else 0).sum
def sgS (r : List (Int × Int)) : Int := (r.map fun p => sgI p.1 p.2).sum
theorem steps_len : ∀ (r : List (Int × Int)) (l : Int), (stepsF r l).length = r.length
  | [], _ => rfl
  | p :: r, l => by
    unfold stepsF
    split <;> simp [steps_len r]
theorem steps_sum : ∀ (r : List (Int × Int)) (l : Int), (stepsF r l).sum = sgS r + leftF r l - l
  | [], l => by simp [stepsF, sgS, leftF]
  | p :: r, l => by
    have e : sgS (p :: r) = sgI p.1 p.2 + sgS r := by simp [sgS]
    rw [e]
    unfold stepsF leftF
    by_cases h : p.1 = 0
    · rw [if_pos h, if_pos h, List.sum_cons, steps_sum r]
      have : sgI p.1 p.2 = 0 := by rw [h]; rfl
      omega
    · rw [if_neg h, if_neg h, List.sum_cons, steps_sum r]
      omega
theorem wz_nn : ∀ {r : List (Int × Int)}, (∀ p ∈ r, 0 ≤ p.2) → 0 ≤ wz r
  | [], _ => by simp [wz]
  | p :: r, h => by
    have := wz_nn fun q hq => h q (List.mem_cons_of_mem p hq)
    have hp := h p (List.mem_cons_self ..)
    have e : wz (p :: r) = (if p.1 = 0 then p.2 else 0) + wz r := by simp [wz]
    rw [e]
    split <;> omega
theorem left_zero : ∀ (r : List (Int × Int)) (l : Int), (∀ p ∈ r, 0 ≤ p.2) → -wz r ≤ l → l ≤ wz r → leftF r l = 0
  | [], l, _, h1, h2 => by
    simp [wz] at h1 h2
    unfold leftF
    omega
  | p :: r, l, h, h1, h2 => by
    have e : wz (p :: r) = (if p.1 = 0 then p.2 else 0) + wz r := by simp [wz]
    have hr := fun q hq => h q (List.mem_cons_of_mem p hq)
    have hp := h p (List.mem_cons_self ..)
    have nn := wz_nn hr
    rw [e] at h1 h2
    unfold leftF
    by_cases g : p.1 = 0
    · rw [if_pos g] at h1 h2 ⊢
      refine left_zero r _ hr ?_ ?_
      · unfold backI; omega
      · unfold backI; omega
    · rw [if_neg g] at h1 h2 ⊢
      exact left_zero r l hr (by omega) (by omega)
theorem steps_at : ∀ (r : List (Int × Int)) (l : Int), (∀ p ∈ r, 0 ≤ p.2) → ∀ (k : Nat) (p : Int × Int), r[k]? = some p → -p.2 ≤ (stepsF r l).getD k 0 ∧ (stepsF r l).getD k 0 ≤ p.2 ∧ (stepsF r l).getD k 0 * p.1 = p.2 * absI p.1
  | [], _, _, _, _, e => by simp at e
  | q :: r, l, h, 0, p, e => by
    simp at e
    subst e
    have hp := h q (List.mem_cons_self ..)
    unfold stepsF
    by_cases g : q.1 = 0
    · rw [if_pos g]
      simp only [List.getD_cons_zero]
      refine ⟨by unfold backI; omega, by unfold backI; omega, ?_⟩
      rw [g]
      simp [absI]
    · rw [if_neg g]
      simp only [List.getD_cons_zero]
      unfold sgI absI
      by_cases g1 : 0 < q.1
      · rw [if_pos g1, if_neg (by omega)]
        exact ⟨by omega, by omega, rfl⟩
      · rw [if_neg g1, if_pos (by omega), if_pos (by omega)]
        exact ⟨by omega, by omega, by rw [Int.neg_mul, Int.mul_neg]⟩
  | q :: r, l, h, k + 1, p, e => by
    have hr := fun x hx => h x (List.mem_cons_of_mem q hx)
    unfold stepsF
    by_cases g : q.1 = 0
    · rw [if_pos g]
      simp only [List.getD_cons_succ]
      exact steps_at r _ hr k p (by simpa using e)
    · rw [if_neg g]
      simp only [List.getD_cons_succ]
      exact steps_at r _ hr k p (by simpa using e)
/-! ### prices -/
def priceF : Int → List Int → List Int
  | _, [] => []
  | p, s :: ss => p :: priceF (p - s) ss
theorem price_len : ∀ (p : Int) (ss : List Int), (priceF p ss).length = ss.length
  | _, [] => rfl
  | p, s :: ss => by simp [priceF, price_len _ ss]
theorem price_get : ∀ (p : Int) (ss : List Int) (k : Nat), k < ss.length → (priceF p ss).getD k 0 = p - (ss.take k).sum
  | _, [], _, h => by simp at h
  | p, s :: ss, 0, _ => by simp [priceF]
  | p, s :: ss, k + 1, h => by
    have := price_get (p - s) ss k (by simpa using h)
    simp only [priceF, List.getD_cons_succ, List.take_succ_cons, List.sum_cons] at this ⊢
    rw [this]
    omega
theorem take_snocD {ss : List Int} {k : Nat} (h : k < ss.length) : (ss.take (k + 1)).sum = (ss.take k).sum + ss.getD k 0 := by
  rw [List.take_succ, List.getElem?_eq_getElem h, List.sum_append]
  simp [List.getD, List.getElem?_eq_getElem h]
theorem price_prev {ss : List Int} (h0 : ss.sum = 0) {k : Nat} (h : k < ss.length) : (priceF 0 ss).getD k 0 - prevI (priceF 0 ss) k = -prevI ss k := by
  unfold prevI
  rw [price_len, price_get 0 ss k h]
  by_cases z : k = 0
  · subst z
    rw [Nat.zero_add, Nat.mod_eq_of_lt (by omega), price_get 0 ss _ (by omega)]
    have := take_snocD (ss := ss) (k := ss.length - 1) (by omega)
    rw [show ss.length - 1 + 1 = ss.length by omega, List.take_length, h0] at this
    rw [List.take_zero, List.sum_nil]
    omega
  · have e : k + ss.length - 1 = (k - 1) + ss.length := by omega
    rw [e, Nat.add_mod_right, Nat.mod_eq_of_lt (by omega), price_get 0 ss _ (by omega)]
    have := take_snocD (ss := ss) (k := k - 1) (by omega)
    rw [show k - 1 + 1 = k by omega] at this
    omega
theorem run_shift : ∀ (o x : Int) (hs : List Int), runI (o + x) hs = (runI o hs).map (· + x)
  | _, _, [] => rfl
  | o, x, h :: hs => by
    have := run_shift (o + h) x hs
    simp only [runI, List.map_cons]
    rw [← this]
    congr 1
    · omega
    · congr 1; omega
theorem sg_split : ∀ (rs ts : List Int) (x : Int), sgS ((rs.map (· + x)).zip ts) = wlt ((rs.map (-·)).zip ts) x + wle ((rs.map (-·)).zip ts) x - wAll ((rs.map (-·)).zip ts)
  | [], _, _ => by simp [sgS, wlt, wle, wAll]
  | _ :: _, [], _ => by simp [sgS, wlt, wle, wAll]
  | r :: rs, t :: ts, x => by
    have := sg_split rs ts x
    simp only [List.map_cons, List.zip_cons_cons]
    rw [wlt_cons, wle_cons, wAll_cons]
    have e : sgS ((r + x, t) :: (rs.map (· + x)).zip ts) = sgI (r + x) t + sgS ((rs.map (· + x)).zip ts) := by simp [sgS]
    rw [e, this]
    unfold sgI
    dsimp only
    by_cases a : 0 < r + x
    · rw [if_pos a, if_pos (by omega), if_pos (by omega)]; omega
    · by_cases b : r + x < 0
      · rw [if_neg a, if_pos b, if_neg (by omega), if_neg (by omega)]; omega
      · rw [if_neg a, if_neg b, if_neg (by omega), if_pos (by omega)]; omega
theorem wz_split : ∀ (rs ts : List Int) (x : Int), wz ((rs.map (· + x)).zip ts) = wle ((rs.map (-·)).zip ts) x - wlt ((rs.map (-·)).zip ts) x
  | [], _, _ => by simp [wz, wlt, wle]
  | _ :: _, [], _ => by simp [wz, wlt, wle]
  | r :: rs, t :: ts, x => by
    have := wz_split rs ts x
    simp only [List.map_cons, List.zip_cons_cons]
    rw [wlt_cons, wle_cons]
    have e : wz ((r + x, t) :: (rs.map (· + x)).zip ts) = (if r + x = 0 then t else 0) + wz ((rs.map (· + x)).zip ts) := by simp [wz]
    rw [e, this]
    dsimp only
    by_cases a : r + x = 0
    · rw [if_pos a, if_pos (by omega), if_neg (by omega)]; omega
    · by_cases b : r + x < 0
      · rw [if_neg a, if_neg (by omega), if_neg (by omega)]; omega
      · rw [if_neg a, if_pos (by omega), if_pos (by omega)]; omega
theorem zip_nn {ms ts : List Int} (ht : ∀ c ∈ ts, 0 ≤ c ∧ c ≤ 1000) : ∀ p ∈ ms.zip ts, 0 ≤ p.2 := fun p hp => (ht p.2 (List.of_mem_zip hp).2).1
/-- what least tells is least -/
theorem best_of {hs ts : List Int} {x : Int} (h2 : 0 < hs.length) (lt : ts.length = hs.length) (hz : hs.sum = 0) (ht : Toll ts) (m1 : 2 * wlt (((runI 0 hs).map (-·)).zip ts) x ≤ wAll (((runI 0 hs).map (-·)).zip ts)) (m2 : wAll (((runI 0 hs).map (-·)).zip ts) ≤ 2 * wle (((runI 0 hs).map (-·)).zip ts) x) :
    Best hs ts ((runI 0 hs).map (· + x)) (priceF 0 (stepsF (((runI 0 hs).map (· + x)).zip ts) (sgS (((runI 0 hs).map (· + x)).zip ts)))) := by
  have e0 : (runI 0 hs).map (· + x) = runI x hs := by rw [← run_shift]; congr 1; omega
  have zl : ∀ p ∈ ((runI 0 hs).map (· + x)).zip ts, 0 ≤ p.2 := zip_nn ht
  have L := left_zero _ (sgS (((runI 0 hs).map (· + x)).zip ts)) zl (by rw [sg_split, wz_split]; omega) (by rw [sg_split, wz_split]; omega)
  have S0 : (stepsF (((runI 0 hs).map (· + x)).zip ts) (sgS (((runI 0 hs).map (· + x)).zip ts))).sum = 0 := by rw [steps_sum, L]; omega
  have SA := steps_at (((runI 0 hs).map (· + x)).zip ts) (sgS (((runI 0 hs).map (· + x)).zip ts)) zl
  have SL := steps_len (((runI 0 hs).map (· + x)).zip ts) (sgS (((runI 0 hs).map (· + x)).zip ts))
  rw [e0] at S0 SA SL ⊢
  generalize stepsF ((runI x hs).zip ts) (sgS ((runI x hs).zip ts)) = ss at S0 SA SL
  have lr := run_length x hs
  have hsl : ss.length = hs.length := by rw [SL, List.length_zip]; omega
  have at_ : ∀ k, k < hs.length → -(ts.getD k 0) ≤ ss.getD k 0 ∧ ss.getD k 0 ≤ ts.getD k 0 ∧ ss.getD k 0 * (runI x hs).getD k 0 = ts.getD k 0 * absI ((runI x hs).getD k 0) := fun k hk => by
    have := SA k ((runI x hs).getD k 0, ts.getD k 0) (by
      rw [List.getElem?_zip_eq_some]
      exact ⟨by simp [List.getD, List.getElem?_eq_getElem (show k < (runI x hs).length by omega)], by simp [List.getD, List.getElem?_eq_getElem (show k < ts.length by omega)]⟩)
    exact this
  have ev : evenB hs (runI x hs) = true := decide_eq_true (run_diff x hz h2)
  have eh : diffI (runI x hs) = hs := of_decide_eq_true ev
  have lp : (priceF 0 ss).length = hs.length := by rw [price_len, hsl]
  refine ⟨lr, lp, ev, ?_, ?_⟩
  · unfold keepB
    rw [List.all_eq_true]
    intro k hk
    have hk := List.mem_range.mp hk
    rw [price_len, hsl] at hk
    rw [price_prev S0 (by omega)]
    have pk : (k + hs.length - 1) % hs.length < hs.length := Nat.mod_lt _ h2
    have := at_ _ pk
    unfold prevI
    rw [hsl, lt]
    apply decide_eq_true
    unfold absI
    split <;> omega
  · generalize hn : hs.length = n at *
    have eW : worthI hs (priceF 0 ss) = ((List.range n).map fun k => (priceF 0 ss).getD k 0 * (runI x hs).getD k 0 - (priceF 0 ss).getD k 0 * prevI (runI x hs) k).sum := by
      unfold worthI
      rw [zip_range _ lp hn]
      refine rsum_eq n fun k hk => ?_
      have := diff_get (cs := runI x hs) (k := k) (by omega)
      rw [eh] at this
      rw [this, Int.mul_sub]
    have e1 : ((List.range n).map fun k => (priceF 0 ss).getD k 0 * (runI x hs).getD k 0).sum = ((List.range n).map fun k => prevI (priceF 0 ss) k * prevI (runI x hs) k).sum := by
      rw [← rsum_prev (fun k => (priceF 0 ss).getD k 0 * (runI x hs).getD k 0) n]
      refine rsum_eq n fun k hk => ?_
      unfold prevI
      rw [lp, lr]
    have eC : costI ts (runI x hs) = ((List.range n).map fun k => prevI ts k * absI (prevI (runI x hs) k)).sum := by
      unfold costI
      rw [zip_range _ lt lr, ← rsum_prev (fun k => ts.getD k 0 * absI ((runI x hs).getD k 0)) n]
      refine rsum_eq n fun k hk => ?_
      unfold prevI
      rw [lt, lr]
    rw [eW, rsum_sub, e1, ← rsum_sub, eC]
    refine rsum_eq n fun k hk => ?_
    have pp := price_prev S0 (k := k) (by omega)
    have pk : (k + n - 1) % n < n := Nat.mod_lt _ h2
    have := (at_ _ pk).2.2
    have e2 : prevI (priceF 0 ss) k * prevI (runI x hs) k - (priceF 0 ss).getD k 0 * prevI (runI x hs) k = prevI ss k * prevI (runI x hs) k := by
      rw [← Int.sub_mul]
      congr 1
      omega
    rw [e2]
    unfold prevI
    rw [hsl, lr, lt]
    exact this

/-! ### along -/
def sp_along (R : Addr) : Sp := fun vs H Q _ => ∃ (r l : Addr) (hs : List Int), vs = [.ref r] ∧ RingAt R H r l hs ∧ 2 ≤ hs.length ∧ hs.length ≤ 400 ∧ Small hs ∧ hs.sum = 0 ∧ ∀ D H', H D = none → Same H H' → H' D = some (.lst ((runI 0 hs).map V.int)) → Q (.ref D) H'
theorem ok_along (T : Txt K mg t) : FnOk P w K mg base CX0 2 t.f_along t.d_along P_along (sp_along t.C_Ring) := by
  have G_Ring_houses := ok_Ring_houses (P := P) (w := w) (base := base) T
  have G_Ring_whole := ok_Ring_whole (P := P) (w := w) (base := base) T
  refine T.F_along.ok sc_along (fun vs H Q E h => ?_) (fun cdv A outer s H vs Q E hr h => ?_)
  · obtain ⟨r, l, hs, rfl, _⟩ := h
    rfl
  · obtain ⟨r, l, hs, rfl, RA, h2, hl, hsm, hz, q⟩ := h
    obtain ⟨⟨dr, er⟩, el⟩ := id RA
    refine ⟨_, (pss_cons (ps_if (pt_cmpR (neK K hr.units0) (pe_meth0 (pv 0) T.cl_Ring T.m_Ring_whole G_Ring_whole (hr.mono (by decide)) T.B_Ring_whole .nil pass0) pe_int (nomark _))
      (pss_one ps_never)
      pss_nil)
      (pss_cons (ps_set (i := 1) sc_along.nd rfl (by first | exact Or.inl rfl | exact Or.inr rfl) pe_int)
      (pss_cons (ps_set (i := 2) sc_along.nd rfl (by first | exact Or.inl rfl | exact Or.inr rfl) (pe_lst pa_nil))
      (pss_cons (ps_for PassesOwn.never rfl (piL K (pe_meth0 (pv 0) T.cl_Ring T.m_Ring_houses G_Ring_houses (hr.mono (by decide)) T.B_Ring_houses .nil pass0)) (pg_name (i := 3) sc_along.nd rfl (by first | exact Or.inl rfl | exact Or.inr rfl))
      (pss_cons (ps_set (i := 1) sc_along.nd rfl (by first | exact Or.inl rfl | exact Or.inr rfl) (pe_op (op_add.or op_cat) (pv 1) (pv 3)))
      (pss_one (ps_expr (bmK K PySem.F.plainAttrs_list PySem.F.slot_list_append PySem.F.type_list_append mtr_append (pv 2) (pa_cons (pv 1) pa_nil se_Name))))))
      (pss_one (ps_ret (pv 2))))))), ?_⟩
    refine ⟨_, rfl, r, dr, _, rfl, er, rfl, r, l, hs, rfl, RA, ?_⟩
    refine .inl ⟨rfl, _, rfl, ?_⟩
    refine (if_neg (fun z => t_ne.mp z hz)).mpr ?_
    refine ⟨Nat.zero_le _, fun g hg => ?_⟩
    have er1 : upd H g (.lst []) r = _ := (same_upd hg) _ _ er
    refine ⟨_, rfl, r, dr, _, rfl, er1, rfl, r, l, hs, rfl, RA.same (same_upd hg), fun D H1 hD s1 e1 => ?_⟩
    have S1 : Same H H1 := (same_upd hg).trans s1
    refine ⟨D, rfl, ⟨_, SqL.of e1⟩, ?_⟩
    have ngD : D ≠ g := by
      rintro rfl
      rw [upd_same] at hD
      cases hD
    refine for_list (xs := hs.map V.int) (fun i σ H5 => ∃ v, σ = [some (.ref r), some (.int (hs.take i).sum), some (.ref g), v] ∧ Same H H5 ∧ H5 D = some (.lst (hs.map V.int)) ∧ H5 g = some (.lst ((runI 0 (hs.take i)).map V.int))) ⟨none, rfl, S1, e1, s1 _ _ upd_same⟩ ?_ ?_ ?_
    · rintro i σ H5 hi ⟨v7, rfl, S5, e5, e6⟩
      exact SqL.of e5
    · rintro i x σ H5 hx ⟨v7, rfl, S5, e5, e6⟩
      obtain ⟨h, eh, rfl⟩ := map_int_get hx
      have et : hs.take (i + 1) = hs.take i ++ [h] := by rw [List.take_succ, eh]; rfl
      have hli : (hs.take i).length ≤ 400 := by rw [List.length_take]; omega
      refine ⟨_, rfl, _, rfl, .inl ⟨_, _, rfl, rfl, ?_⟩⟩
      refine ⟨_, rfl, .inl ⟨rfl, _, SqL.of e6⟩, _, rfl, g, _, _, rfl, rfl, e6, by have := big; rw [List.length_map, run_length]; omega, ?_⟩
      refine ⟨some (.int h), ?_, S5.upd hg, ?_, ?_⟩
      · rw [et, List.sum_append, List.sum_cons, List.sum_nil, Int.add_zero]; rfl
      · rw [upd_ne ngD]; exact e5
      · rw [upd_same, et, run_snoc, List.map_append, Int.zero_add]; rfl
    · rintro σ H5 ⟨v7, rfl, S5, e5, e6⟩
      rw [List.length_map, List.take_length] at e6
      exact ⟨_, rfl, q g H5 hg S5 e6⟩

/-! ### tolls, the middle, steps, prices -/
theorem steps_snoc : ∀ (r : List (Int × Int)) (p : Int × Int) (l : Int), stepsF (r ++ [p]) l = stepsF r l ++ [if p.1 = 0 then -(backI p.2 (leftF r l)) else sgI p.1 p.2]
  | [], p, l => by
    simp only [List.nil_append, stepsF, leftF]
    split <;> rfl
  | q :: r, p, l => by
    simp only [List.cons_append, stepsF, leftF]
    by_cases h : q.1 = 0
    · simp only [if_pos h, steps_snoc r, List.cons_append]
    · simp only [if_neg h, steps_snoc r, List.cons_append]
theorem left_snoc : ∀ (r : List (Int × Int)) (p : Int × Int) (l : Int), leftF (r ++ [p]) l = if p.1 = 0 then leftF r l - backI p.2 (leftF r l) else leftF r l
  | [], p, l => by
    simp only [List.nil_append, leftF]
  | q :: r, p, l => by
    simp only [List.cons_append, leftF]
    by_cases h : q.1 = 0
    · simp only [if_pos h, left_snoc r]
    · simp only [if_neg h, left_snoc r]
theorem sg_zip : ∀ (cs ts : List Int), (List.zipWith sgI cs ts) = (cs.zip ts).map fun p => sgI p.1 p.2
  | [], _ => by simp
  | _ :: _, [] => by simp
  | c :: cs, t :: ts => by simp [sg_zip cs ts]
theorem ixN_nat {n k : Nat} (h : k < n) : ixN n (k : Int) = some k := by
  unfold ixN
  rw [if_pos (by omega), if_pos (by omega)]
  congr 1
theorem back_eq (t l : Int) : (if (if l < t then l else t) > -t then (if l < t then l else t) else -t) = backI t l := by
  unfold backI
  split <;> split <;> omega
theorem set_mid {A B : List Int} {i : Nat} {x : Int} (hA : A.length = i) (hB : i < B.length) : ((A ++ B.drop i).map V.int).set i (.int x) = (A ++ [x] ++ B.drop (i + 1)).map V.int := by
  subst hA
  rw [List.drop_eq_getElem_cons hB, List.map_append, List.set_append_right _ _ (by rw [List.length_map]; exact Nat.le_refl _), List.length_map, Nat.sub_self, List.map_cons, List.set_cons_zero]
  simp only [List.map_append, List.map_cons, List.map_nil, List.append_assoc, List.singleton_append]
def sp_toll1 : Sp := fun vs H Q _ => ∃ i : Int, vs = [.int i] ∧ 0 ≤ i ∧ i ≤ 1000 ∧ Q (.bl true) H
theorem ok_is_toll (T : Txt K mg t) : FnOk P w K mg base CX0 2 t.f_is_toll t.d_is_toll P_is_toll sp_toll1 := by
  have G_is_whole_number := ok_whole1 (P := P) (w := w) (base := base) T
  refine T.F_is_toll.ok sc_is_toll (fun vs H Q E h => ?_) (fun cdv A outer s H vs Q E hr h => ?_)
  · obtain ⟨i, rfl, _⟩ := h
    rfl
  · obtain ⟨i, rfl, h0, h1, q⟩ := h
    refine ⟨_, (pss_one (ps_ret (pe_and (pe_call G_is_whole_number (hr.mono (by decide)) rfl T.g_is_whole_number T.F_is_whole_number.kp T.B_is_whole_number .nil pass0 (pa_cons (pv 0) pa_nil se_Name)) (pe_one (pe_chain op_le op_le pe_int (pv 0) (pe_glob (v := .int 1000) rfl T.g_HIGHEST_TOLL ⟨_, rfl⟩)))))), ?_⟩
    refine ⟨_, rfl, i, rfl, _, rfl, iteT ?_⟩
    refine ⟨_, rfl, _, _, rfl, rfl, _, rfl, ?_⟩
    refine (if_pos (t_le.mpr h0)).mpr ?_
    refine ⟨_, _, rfl, rfl, ?_⟩
    have e : decide (i ≤ 1000) = true := t_le.mpr h1
    show Q (.bl (decide (i ≤ 1000))) H
    rw [e]
    exact q
def sp_tolls_for (R : Addr) : Sp := fun vs H Q _ => ∃ (r l a : Addr) (hs ts : List Int), vs = [.ref r, .ref a] ∧ RingAt R H r l hs ∧ H a = some (.lst (ts.map V.int)) ∧ ts.length = hs.length ∧ hs.length ≤ 1000 ∧ Toll ts ∧
  ∀ D H', H D = none → Same H H' → H' D = some (.lst (ts.map V.int)) → Q (.ref D) H'
theorem ok_tolls_for (T : Txt K mg t) : FnOk P w K mg base CX0 3 t.f_tolls_for t.d_tolls_for P_tolls_for (sp_tolls_for t.C_Ring) := by
  have G_is_toll := ok_is_toll (P := P) (w := w) (base := base) T
  have G_Ring_houses := ok_Ring_houses (P := P) (w := w) (base := base) T
  refine T.F_tolls_for.ok sc_tolls_for (fun vs H Q E h => ?_) (fun cdv A outer s H vs Q E hr h => ?_)
  · obtain ⟨r, l, a, hs, ts, rfl, _⟩ := h
    rfl
  · obtain ⟨r, l, a, hs, ts, rfl, RA, ha, lt, hl, ht, q⟩ := h
    obtain ⟨⟨dr, er⟩, el⟩ := id RA
    refine ⟨_, (pss_cons (ps_if (pt_not (pt_val (pe_callB (isiK K) (by rfl) T.b_isinstance bt_isinstance (pa_cons (pv 1) (pa_cons (pe_bltn (v := .ty "list") rfl T.b_list bt_list rfl) pa_nil se_Name) se_Name))))
      (pss_one ps_never)
      pss_nil)
      (pss_cons (ps_set (i := 2) sc_tolls_for.nd rfl (by first | exact Or.inl rfl | exact Or.inr rfl) (pe_callTy (listK K) (by rfl) T.b_list bt_list (pa_cons (pv 1) pa_nil se_Name)))
      (pss_cons (ps_if (pt_cmpR (neK K hr.units0) (pe_callB (lenK K) (by rfl) T.b_len bt_len (pa_cons (pv 2) pa_nil se_Name)) (pe_callB (lenK K) (by rfl) T.b_len bt_len (pa_cons (pe_meth0 (pv 0) T.cl_Ring T.m_Ring_houses G_Ring_houses (hr.mono (by decide)) T.B_Ring_houses .nil pass0) pa_nil se_Call)) (nomark _))
      (pss_one ps_never)
      pss_nil)
      (pss_cons (ps_if (pt_not (pt_val (pe_callB (allK K rfl) (by rfl) T.b_all bt_all (pa_cons (pe_comp (sc := defScope s_tolls_for) (XN := N_tolls_for) (N' := ["number"]) (t := 1) (ix := []) rfl ⟨rfl, by decide +kernel, by decide +kernel, by decide +kernel, by decide +kernel, rfl, by decide +kernel⟩ rfl rfl (piL K (pv 2)) (fun _ _ _ _ _ => (pg_name (i := 0) (show List.Nodup (["number"] : List Str) by decide +kernel) rfl (Or.inl rfl))) (fun _ _ _ _ _ => (pe_call G_is_toll (hr.mono (by decide)) rfl T.g_is_toll T.F_is_toll.kp T.B_is_toll .nil pass0 (pa_cons (pv 0) pa_nil se_Name)))) pa_nil se_ListComp))))
      (pss_one ps_never)
      pss_nil)
      (pss_one (ps_ret (pv 2))))))), ?_⟩
    refine ⟨_, rfl, _, _, _, _, true, rfl, rfl, TyOf.lst ha, T.i_list_list, _, rfl, iteF ?_⟩
    refine ⟨_, rfl, a, _, rfl, .inl (SqL.of ha), fun d hd => ?_⟩
    have hd1 : Same H (upd H d (.lst (ts.map V.int))) := same_upd hd
    refine ⟨_, rfl, d, _, rfl, .inl (SqL.of upd_same), ?_⟩
    refine ⟨_, rfl, r, dr, _, rfl, hd1 _ _ er, rfl, r, l, hs, rfl, RA.same hd1, fun D H1 hD s1 e1 => ?_⟩
    refine ⟨D, _, rfl, .inl (SqL.of e1), .inl ⟨rfl, _, rfl, ?_⟩⟩
    refine (if_neg (fun z => t_ne.mp z (by rw [List.length_map, List.length_map]; omega))).mpr ?_
    have ed := s1 _ _ (upd_same (H := H) (a := d) (o := .lst (ts.map V.int)))
    refine ⟨_, rfl, d, rfl, ⟨_, SqL.of ed⟩, fun C hC => ?_⟩
    refine comp_list (t := 1) (fun _ => .bl true) (by have := big; rw [List.length_map]; omega) (by decide) hC (SqL.of ed) (fun k x H5 Z hx S5 z => ?_) (fun H5 S5 e5 => ?_)
    · obtain ⟨i, ei, rfl⟩ := map_int_get hx
      have := ht i (mem_of_get ei)
      exact ⟨_, rfl, i, rfl, this.1, this.2, z H5 (Same.refl _)⟩
    · refine ⟨C, ts.map (fun _ => true), rfl, SqL.of (by rw [e5, List.map_map, List.map_map]; rfl), ?_⟩
      have e : (ts.map fun _ => true).all id = true := by
        rw [List.all_map, List.all_eq_true]
        intro x _
        rfl
      rw [e]
      refine ⟨_, rfl, iteF ?_⟩
      have S := (hd1.trans s1).trans S5
      exact ⟨_, rfl, q d H5 hd S (S5 _ _ ed)⟩
def sp_lowest (K : PySem.W.Frag) : Sp := fun vs H Q _ => ∃ (a b : Addr) (ns ts : List Int), vs = [.ref a, .ref b] ∧ H a = some (.lst (ns.map V.int)) ∧ H b = some (.lst (ts.map V.int)) ∧ ts.length = ns.length ∧ 2 ≤ ns.length ∧ ns.length ≤ 100 ∧ Toll ts ∧
  ∀ x H', Same H H' → (wAll (ns.zip ts) = 0 → x = 0) → (0 < wAll (ns.zip ts) → Mid (ns.zip ts) x) → Q (.int x) H'
theorem ok_lowest (T : Txt K mg t) : FnOk P w K mg base CX0 1 t.f_lowest_middle t.d_lowest_middle P_lowest_middle (sp_lowest K) := by
  refine T.F_lowest_middle.ok sc_lowest_middle (fun vs H Q E h => ?_) (fun cdv A outer s H vs Q E hr h => ?_)
  · obtain ⟨a, b, ns, ts, rfl, _⟩ := h
    rfl
  · obtain ⟨a, b, ns, ts, rfl, ha, hb, lt, h2, h100, ht, q⟩ := h
    refine ⟨_, (pss_cons (ps_set (i := 2) sc_lowest_middle.nd rfl (by first | exact Or.inl rfl | exact Or.inr rfl) (pe_callB (sumK K rfl) (by rfl) T.b_sum bt_sum (pa_cons (pv 1) pa_nil se_Name)))
      (pss_cons (ps_set (i := 3) sc_lowest_middle.nd rfl (by first | exact Or.inl rfl | exact Or.inr rfl) pe_int)
      (pss_cons (ps_set (i := 4) sc_lowest_middle.nd rfl (by first | exact Or.inl rfl | exact Or.inr rfl) pe_int)
      (pss_cons (ps_for PassesOwn.never rfl (piL K (pe_sortedZip K rfl rfl T.b_sorted rfl T.b_zip (pa_cons (pv 0) (pa_cons (pv 1) pa_nil se_Name) se_Name))) (pgT K (n := 2) rfl (pgs_cons (pg_name (i := 5) sc_lowest_middle.nd rfl (by first | exact Or.inl rfl | exact Or.inr rfl)) (pgs_cons (pg_name (i := 6) sc_lowest_middle.nd rfl (by first | exact Or.inl rfl | exact Or.inr rfl)) pgs_nil)))
      (pss_cons (ps_if (pt_cmpR op_lt (pe_op (op_mul.or op_rep) pe_int (pv 3)) (pv 2) (nomark _))
      (pss_one (ps_set (i := 4) sc_lowest_middle.nd rfl (by first | exact Or.inl rfl | exact Or.inr rfl) (pv 5)))
      pss_nil)
      (pss_one (ps_set (i := 3) sc_lowest_middle.nd rfl (by first | exact Or.inl rfl | exact Or.inr rfl) (pe_op (op_add.or op_cat) (pv 3) (pv 6))))))
      (pss_one (ps_ret (pv 4))))))), ?_⟩
    refine ⟨_, rfl, b, ts, rfl, SqL.of hb, ?_⟩
    have ew : wAll (ns.zip ts) = ts.sum := by
      unfold wAll
      rw [List.map_snd_zip (by omega)]
    refine ⟨_, rfl, _, rfl, a, b, ns, ts, rfl, SqL.of ha, SqL.of hb, lt, ht, h2, by omega, fun L ps H' hL sm eL eP hperm hsort => ?_⟩
    refine ⟨L, rfl, ⟨_, SqL.of eL⟩, ?_⟩
    have hmem : ∀ p ∈ ps, 0 ≤ p.2.2 ∧ p.2.2 ≤ 1000 := fun p hp => ht _ (List.of_mem_zip (hperm.mem_iff.mp (List.mem_map.mpr ⟨p, hp, rfl⟩))).2
    have hso : (ps.map Prod.snd).Pairwise (fun p q => p.1 ≤ q.1) := by
      refine List.Pairwise.imp_of_mem (fun {x y} hx hy hxy => ?_) hsort
      obtain ⟨p, hp, rfl⟩ := List.mem_map.mp hx
      obtain ⟨p', hp', rfl⟩ := List.mem_map.mp hy
      have := hmem p hp
      have := hmem p' hp'
      omega
    refine for_list (xs := ps.map fun p => V.ref p.1) (fun i σ H5 => ∃ v5 v6 b' m, σ = [some (.ref a), some (.ref b), some (.int ts.sum), some (.int b'), some (.int m), v5, v6] ∧ Same H' H5 ∧ midF ts.sum ((ps.map Prod.snd).drop i) b' m = midF ts.sum (ps.map Prod.snd) 0 0) ⟨none, none, 0, 0, rfl, Same.refl _, rfl⟩ ?_ ?_ ?_
    · rintro i σ H5 hi ⟨v5, v6, b', m, rfl, S5, e5⟩
      exact SqL.of (S5 _ _ eL)
    · rintro i x σ H5 hx ⟨v5, v6, b', m, rfl, S5, e5⟩
      rw [List.getElem?_map] at hx
      obtain ⟨p, ep, rfl⟩ := Option.map_eq_some_iff.mp hx
      have hp : p ∈ ps := List.mem_of_getElem? ep
      have hil := (List.getElem?_eq_some_iff.mp ep).1
      have ed : (ps.map Prod.snd).drop i = p.2 :: (ps.map Prod.snd).drop (i + 1) := by
        rw [List.drop_eq_getElem_cons (by rw [List.length_map]; exact hil)]
        congr 1
        rw [List.getElem_map]
        rw [List.getElem?_eq_getElem hil] at ep
        cases ep
        rfl
      rw [ed, midF] at e5
      refine ⟨p.1, [.int p.2.1, .int p.2.2], rfl, SqT.of (S5 _ _ (eP p hp)), rfl, _, _, rfl, _, _, rfl, rfl, ?_⟩
      refine ⟨_, rfl, .inl ⟨_, _, rfl, rfl, .inl ⟨by decide, by decide⟩, _, rfl, _, _, rfl, rfl, _, rfl, ?_⟩⟩
      refine ite2 (fun z => ?_) (fun z => ?_)
      · have z : 2 * b' < ts.sum := t_lt.mp z
        rw [if_pos z] at e5
        exact ⟨_, rfl, _, rfl, _, rfl, .inl ⟨_, _, rfl, rfl, _, _, _, _, rfl, S5, e5⟩⟩
      · have z : ¬ 2 * b' < ts.sum := fun y => z (t_lt.mpr y)
        rw [if_neg z] at e5
        exact ⟨_, rfl, _, rfl, .inl ⟨_, _, rfl, rfl, _, _, _, _, rfl, S5, e5⟩⟩
    · rintro σ H5 ⟨v5, v6, b', m, rfl, S5, e5⟩
      rw [List.length_map, List.drop_of_length_le (by rw [List.length_map]; exact Nat.le_refl _), midF, ← ew] at e5
      have zn : ∀ p ∈ ns.zip ts, 0 ≤ p.2 := zip_nn ht
      refine ⟨_, rfl, q m H5 (sm.trans S5) (fun hS => ?_) fun hS => ?_⟩
      · rw [e5]
        exact mid_zero hperm zn hS
      · rw [e5]
        exact mid_of hperm hso zn hS
def sp_lol (K : PySem.W.Frag) : Sp := fun vs H Q _ => ∃ (a b : Addr) (ns ts : List Int), vs = [.ref a, .ref b] ∧ H a = some (.lst (ns.map V.int)) ∧ H b = some (.lst (ts.map V.int)) ∧ ts.length = ns.length ∧ 2 ≤ ns.length ∧ ns.length ≤ 100 ∧ Toll ts ∧
  ∀ x H', Same H H' → (wAll ((ns.map (-·)).zip ts) = 0 → x = 0) → (0 < wAll ((ns.map (-·)).zip ts) → Mid ((ns.map (-·)).zip ts) x) → Q (.int x) H'
theorem ok_lol (T : Txt K mg t) : FnOk P w K mg base CX0 2 t.f_least_over_last t.d_least_over_last P_least_over_last (sp_lol K) := by
  have G_lowest_middle := ok_lowest (P := P) (w := w) (base := base) T
  refine T.F_least_over_last.ok sc_least_over_last (fun vs H Q E h => ?_) (fun cdv A outer s H vs Q E hr h => ?_)
  · obtain ⟨a, b, ns, ts, rfl, _⟩ := h
    rfl
  · obtain ⟨a, b, ns, ts, rfl, ha, hb, lt, h2, h100, ht, q⟩ := h
    refine ⟨_, (pss_one (ps_ret (pe_call G_lowest_middle (hr.mono (by decide)) rfl T.g_lowest_middle T.F_lowest_middle.kp T.B_lowest_middle .nil pass0 (pa_cons (pe_comp (sc := defScope s_least_over_last) (XN := N_least_over_last) (N' := ["amount"]) (t := 1) (ix := []) rfl ⟨rfl, by decide +kernel, by decide +kernel, by decide +kernel, by decide +kernel, rfl, by decide +kernel⟩ rfl rfl (piL K (pv 0)) (fun _ _ _ _ _ => (pg_name (i := 0) (show List.Nodup (["amount"] : List Str) by decide +kernel) rfl (Or.inl rfl))) (fun _ _ _ _ _ => (pe_un un_neg (pv 0)))) (pa_cons (pv 1) pa_nil se_Name) se_ListComp)))), ?_⟩
    refine ⟨_, rfl, a, rfl, ⟨_, SqL.of ha⟩, fun C hC => ?_⟩
    refine comp_list (t := 1) (fun x => match x with | .int i => .int (-i) | _ => .non) (by have := big; rw [List.length_map]; omega) (by decide) hC (SqL.of ha) (fun k x H5 Z hx S5 z => ?_) (fun H5 S5 e5 => ?_)
    · obtain ⟨i, ei, rfl⟩ := map_int_get hx
      exact ⟨_, rfl, _, rfl, z H5 (Same.refl _)⟩
    · refine ⟨_, rfl, C, b, ns.map (-·), ts, rfl, by rw [e5, List.map_map, List.map_map]; rfl, S5 _ _ hb, by rw [List.length_map]; exact lt, by rw [List.length_map]; exact h2, by rw [List.length_map]; exact h100, ht, fun x H' s' m1 m2 => ?_⟩
      exact q x H' (S5.trans s') m1 m2
def sp_full : Sp := fun vs H Q _ => ∃ (c t : Int), vs = [.int c, .int t] ∧ Q (.int (sgI c t)) H
theorem ok_full (T : Txt K mg t) : FnOk P w K mg base CX0 1 t.f_full_step t.d_full_step P_full_step sp_full := by
  refine T.F_full_step.ok sc_full_step (fun vs H Q E h => ?_) (fun cdv A outer s H vs Q E hr h => ?_)
  · obtain ⟨c, t, rfl, _⟩ := h
    rfl
  · obtain ⟨c, t', rfl, q⟩ := h
    refine ⟨_, (pss_cons (ps_if (pt_cmpR op_gt (pv 0) pe_int (nomark _))
      (pss_one (ps_ret (pv 1)))
      pss_nil)
      (pss_cons (ps_if (pt_cmpR op_lt (pv 0) pe_int (nomark _))
      (pss_one (ps_ret (pe_un un_neg (pv 1))))
      pss_nil)
      (pss_one (ps_ret pe_int)))), ?_⟩
    unfold sgI at q
    refine ⟨_, rfl, _, _, rfl, rfl, _, rfl, ?_⟩
    refine ite2 (fun z => ?_) (fun z => ?_)
    · have z : 0 < c := t_lt.mp z
      rw [if_pos z] at q
      exact ⟨_, rfl, q⟩
    · have z : ¬ 0 < c := fun y => z (t_lt.mpr y)
      rw [if_neg z] at q
      refine ⟨_, rfl, _, _, rfl, rfl, _, rfl, ?_⟩
      refine ite2 (fun y => ?_) (fun y => ?_)
      · have y : c < 0 := t_lt.mp y
        rw [if_pos y] at q
        exact ⟨_, rfl, _, rfl, q⟩
      · have y : ¬ c < 0 := fun x => y (t_lt.mpr x)
        rw [if_neg y] at q
        exact q
def sp_steps (K : PySem.W.Frag) : Sp := fun vs H Q _ => ∃ (a b : Addr) (cs ts : List Int), vs = [.ref a, .ref b] ∧ H a = some (.lst (cs.map V.int)) ∧ H b = some (.lst (ts.map V.int)) ∧ ts.length = cs.length ∧ cs.length ≤ 100 ∧
  ∀ D H', H D = none → Same H H' → H' D = some (.lst ((stepsF (cs.zip ts) (sgS (cs.zip ts))).map V.int)) → Q (.ref D) H'
theorem ok_steps (T : Txt K mg t) : FnOk P w K mg base CX0 2 t.f_steps_down t.d_steps_down P_steps_down (sp_steps K) := by
  have G_full_step := ok_full (P := P) (w := w) (base := base) T
  refine T.F_steps_down.ok sc_steps_down (fun vs H Q E h => ?_) (fun cdv A outer s H vs Q E hr h => ?_)
  · obtain ⟨a, b, cs, ts, rfl, _⟩ := h
    rfl
  · obtain ⟨a, b, cs, ts, rfl, ha, hb, lt, h100, q⟩ := h
    refine ⟨_, (pss_cons (ps_setComp (i := 2) (sc := defScope s_steps_down) (XN := N_steps_down) (N' := ["amount", "toll"]) (t := 2) (ix := []) rfl ⟨rfl, by decide +kernel, by decide +kernel, by decide +kernel, by decide +kernel, rfl, by decide +kernel⟩ rfl rfl sc_steps_down.nd rfl rfl (piZ K rfl T.b_zip (pa_cons (pv 0) (pa_cons (pv 1) pa_nil se_Name) se_Name)) (fun _ _ _ _ _ => (pgT K (n := 2) rfl (pgs_cons (pg_name (i := 0) (show List.Nodup (["amount", "toll"] : List Str) by decide +kernel) rfl (Or.inl rfl)) (pgs_cons (pg_name (i := 1) (show List.Nodup (["amount", "toll"] : List Str) by decide +kernel) rfl (Or.inl rfl)) pgs_nil)))) (fun _ _ _ _ _ => (pe_call G_full_step (hr.mono (by decide)) rfl T.g_full_step T.F_full_step.kp T.B_full_step .nil pass0 (pa_cons (pv 0) (pa_cons (pv 1) pa_nil se_Name) se_Name))) (by with_unfolding_all rfl))
      (pss_cons (ps_set (i := 3) sc_steps_down.nd rfl (by first | exact Or.inl rfl | exact Or.inr rfl) (pe_callB (sumK K rfl) (by rfl) T.b_sum bt_sum (pa_cons (pv 2) pa_nil se_Name)))
      (pss_cons (ps_for PassesOwn.never rfl (piE K rfl T.b_enumerate (pa_cons (pv 1) pa_nil se_Name)) (pgT K (n := 2) rfl (pgs_cons (pg_name (i := 4) sc_steps_down.nd rfl (by first | exact Or.inl rfl | exact Or.inr rfl)) (pgs_cons (pg_name (i := 5) sc_steps_down.nd rfl (by first | exact Or.inl rfl | exact Or.inr rfl)) pgs_nil)))
      (pss_one (ps_if (pt_cmpR (eqK K hr.units0) (pe_ix (ixK K) (pv 0) (pv 4) (fun _ _ => rfl)) pe_int (nomark _))
      (pss_cons (ps_set (i := 6) sc_steps_down.nd rfl (by first | exact Or.inl rfl | exact Or.inr rfl) (pe_callB (call_max2 rfl) (by rfl) T.b_max bt_max (pa_cons (pe_un un_neg (pv 5)) (pa_cons (pe_callB (call_min2 rfl) (by rfl) T.b_min bt_min (pa_cons (pv 5) (pa_cons (pv 3) pa_nil se_Name) se_Name)) pa_nil se_Call) se_UnaryOp)))
      (pss_cons (ps_asg (pe_un un_neg (pv 6)) (pg_sub (pv 2) (pv 4) set_list))
      (pss_one (ps_set (i := 3) sc_steps_down.nd rfl (by first | exact Or.inl rfl | exact Or.inr rfl) (pe_op op_sub (pv 3) (pv 6))))))
      pss_nil)))
      (pss_one (ps_ret (pv 2)))))), ?_⟩
    refine ⟨_, rfl, _, rfl, a, b, rfl, ⟨_, SqL.of ha⟩, ⟨_, SqL.of hb⟩, fun C hC => ?_⟩
    refine comp_zip (t := 2) (v2 sgI) (by have := big; rw [List.length_map]; omega) (by decide) hC (SqL.of ha) (SqL.of hb) (fun k x y H5 Z hx hy S5 z => ?_) (fun H5 S5 e5 => ?_)
    · obtain ⟨i, ei, rfl⟩ := map_int_get hx
      obtain ⟨j, ej, rfl⟩ := map_int_get hy
      exact ⟨_, rfl, _, rfl, i, j, rfl, z H5 (Same.refl _)⟩
    · rw [zip_v2] at e5
      refine ⟨_, rfl, C, _, rfl, SqL.of e5, ?_⟩
      refine ⟨_, rfl, b, rfl, ⟨_, SqL.of (S5 _ _ hb)⟩, ?_⟩
      have lz : (List.zipWith sgI cs ts).length = ts.length := by rw [List.length_zipWith]; omega
      have lzz : (cs.zip ts).length = ts.length := by rw [List.length_zip]; omega
      have eS : (List.zipWith sgI cs ts).sum = sgS (cs.zip ts) := by rw [sg_zip]; rfl
      refine for_enum (xs := ts.map V.int) (fun i σ H6 => ∃ v4 v5 v6, σ = [some (.ref a), some (.ref b), some (.ref C), some (.int (leftF ((cs.zip ts).take i) (sgS (cs.zip ts)))), v4, v5, v6] ∧ Same H H6 ∧
        H6 C = some (.lst ((stepsF ((cs.zip ts).take i) (sgS (cs.zip ts)) ++ (List.zipWith sgI cs ts).drop i).map V.int))) ⟨none, none, none, by rw [eS]; rfl, S5, by rw [e5]; rfl⟩ ?_ ?_ ?_
      · rintro i σ H6 ⟨v4, v5, v6, rfl, S6, e6⟩
        exact SqL.of (S6 _ _ hb)
      · rintro i x σ H6 T' hx ⟨v4, v5, v6, rfl, S6, e6⟩ hT
        obtain ⟨t', et, rfl⟩ := map_int_get hx
        have hil := (List.getElem?_eq_some_iff.mp et).1
        have hil' : i < cs.length := by omega
        have eC : (cs.zip ts)[i]? = some (cs[i], t') := by
          rw [List.getElem?_zip_eq_some]
          exact ⟨List.getElem?_eq_getElem hil', et⟩
        have etk : (cs.zip ts).take (i + 1) = (cs.zip ts).take i ++ [(cs[i], t')] := by rw [List.take_succ, eC]; rfl
        have eg : cs.getD i 0 = cs[i] := by simp [List.getD, List.getElem?_eq_getElem hil']
        have S7 : Same H (upd H6 T' (.tup [.int (i : Int), .int t'])) := S6.upd (S6.free hT)
        have nCT : C ≠ T' := ne_of_none e6 hT
        have e7 : upd H6 T' (.tup [.int (i : Int), .int t']) C = _ := (upd_ne nCT).trans e6
        have hsl : (stepsF ((cs.zip ts).take i) (sgS (cs.zip ts))).length = i := by rw [steps_len, List.length_take]; omega
        refine ⟨T', [.int (i : Int), .int t'], rfl, SqT.of upd_same, rfl, _, _, rfl, _, _, rfl, rfl, ?_⟩
        refine ⟨_, rfl, _, rfl, .inl ⟨a, _, _, _, rfl, rfl, SqL.of (S7 _ _ ha), atI_ints (by omega) (by omega), ?_⟩⟩
        refine .inl ⟨rfl, _, rfl, ?_⟩
        rw [Int.toNat_natCast, eg]
        refine ite2 (fun z => ?_) (fun z => ?_)
        · have z : cs[i] = 0 := t_eq.mp z
          refine ⟨_, rfl, _, rfl, _, rfl, _, rfl, _, _, rfl, _, _, rfl, ?_⟩
          rw [back_eq]
          refine ⟨_, rfl, _, rfl, _, rfl, _, rfl, C, _, _, i, rfl, rfl, e7, ixN_nat (by rw [List.length_map, List.length_append, hsl, List.length_drop]; omega), ?_⟩
          refine ⟨_, rfl, _, rfl, _, _, rfl, rfl, some (.int (i : Int)), some (.int t'), some (.int (backI t' (leftF ((cs.zip ts).take i) (sgS (cs.zip ts))))), ?_, S7.upd hC, ?_⟩
          · rw [etk, left_snoc, if_pos z]; rfl
          · rw [upd_same, set_mid hsl (by omega), etk, steps_snoc, if_pos z]
        · have z : ¬ cs[i] = 0 := fun y => z (t_eq.mpr y)
          refine ⟨some (.int (i : Int)), some (.int t'), v6, ?_, S7, ?_⟩
          · rw [etk, left_snoc, if_neg z]; rfl
          · rw [e7, etk, steps_snoc, if_neg z]
            have eB : (List.zipWith sgI cs ts).drop i = sgI cs[i] t' :: (List.zipWith sgI cs ts).drop (i + 1) := by
              rw [List.drop_eq_getElem_cons (by omega)]
              congr 1
              rw [List.getElem_zipWith]
              rw [List.getElem?_eq_getElem hil] at et
              cases et
              rfl
            rw [eB]
            simp
      · rintro σ H6 ⟨v4, v5, v6, rfl, S6, e6⟩
        rw [List.length_map, List.take_of_length_le (by omega), List.drop_of_length_le (by omega), List.append_nil] at e6
        exact ⟨_, rfl, q C H6 hC S6 e6⟩
def sp_prices (K : PySem.W.Frag) : Sp := fun vs H Q _ => ∃ (a : Addr) (ss : List Int), vs = [.ref a] ∧ H a = some (.lst (ss.map V.int)) ∧ ss.length ≤ 100 ∧ ∀ D H', H D = none → Same H H' → H' D = some (.lst ((priceF 0 ss).map V.int)) → Q (.ref D) H'
theorem ok_prices (T : Txt K mg t) : FnOk P w K mg base CX0 1 t.f_prices_by t.d_prices_by P_prices_by (sp_prices K) := by
  refine T.F_prices_by.ok sc_prices_by (fun vs H Q E h => ?_) (fun cdv A outer s H vs Q E hr h => ?_)
  · obtain ⟨a, ss, rfl, _⟩ := h
    rfl
  · obtain ⟨a, ss, rfl, ha, h100, q⟩ := h
    refine ⟨_, (pss_cons (ps_set (i := 1) sc_prices_by.nd rfl (by first | exact Or.inl rfl | exact Or.inr rfl) pe_int)
      (pss_cons (ps_set (i := 2) sc_prices_by.nd rfl (by first | exact Or.inl rfl | exact Or.inr rfl) (pe_lst pa_nil))
      (pss_cons (ps_for PassesOwn.never rfl (piL K (pv 0)) (pg_name (i := 3) sc_prices_by.nd rfl (by first | exact Or.inl rfl | exact Or.inr rfl))
      (pss_cons (ps_expr (bmK K PySem.F.plainAttrs_list PySem.F.slot_list_append PySem.F.type_list_append mtr_append (pv 2) (pa_cons (pv 1) pa_nil se_Name)))
      (pss_one (ps_set (i := 1) sc_prices_by.nd rfl (by first | exact Or.inl rfl | exact Or.inr rfl) (pe_op op_sub (pv 1) (pv 3))))))
      (pss_one (ps_ret (pv 2)))))), ?_⟩
    refine ⟨Nat.zero_le _, fun g hg => ?_⟩
    have ea := (same_upd (o := .lst []) hg) _ _ ha
    refine ⟨_, rfl, a, rfl, ⟨_, SqL.of ea⟩, ?_⟩
    have nag : a ≠ g := ne_of_none ha hg
    refine for_list (xs := ss.map V.int) (fun i σ H5 => ∃ v, σ = [some (.ref a), some (.int (-(ss.take i).sum)), some (.ref g), v] ∧ Same H H5 ∧ H5 g = some (.lst (((priceF 0 ss).take i).map V.int))) ⟨none, rfl, same_upd hg, upd_same⟩ ?_ ?_ ?_
    · rintro i σ H5 hi ⟨v7, rfl, S5, e6⟩
      exact SqL.of (S5 _ _ ha)
    · rintro i x σ H5 hx ⟨v7, rfl, S5, e6⟩
      obtain ⟨h, eh, rfl⟩ := map_int_get hx
      have hil := (List.getElem?_eq_some_iff.mp eh).1
      have et : ss.take (i + 1) = ss.take i ++ [h] := by rw [List.take_succ, eh]; rfl
      have ep : (priceF 0 ss).take (i + 1) = (priceF 0 ss).take i ++ [-(ss.take i).sum] := by
        have e2 := price_get 0 ss i hil
        have hl := price_len 0 ss
        rw [List.getD_eq_getElem?_getD, List.getElem?_eq_getElem (by omega), Option.getD_some] at e2
        rw [List.take_succ, List.getElem?_eq_getElem (by omega), e2, Int.zero_sub]
        rfl
      refine ⟨_, rfl, .inl ⟨rfl, _, SqL.of e6⟩, _, rfl, g, _, _, rfl, rfl, e6, by have := big; rw [List.length_map, List.length_take, price_len]; omega, ?_⟩
      refine ⟨_, rfl, _, rfl, _, _, rfl, rfl, some (.int h), ?_, S5.upd hg, ?_⟩
      · rw [et, List.sum_append, List.sum_cons, List.sum_nil, Int.add_zero]
        have : -((ss.take i).sum + h) = -(ss.take i).sum - h := by omega
        rw [this]
        rfl
      · rw [upd_same, ep, List.map_append]; rfl
    · rintro σ H5 ⟨v7, rfl, S5, e6⟩
      rw [List.length_map, List.take_of_length_le (by rw [price_len]; exact Nat.le_refl _)] at e6
      exact ⟨_, rfl, q g H5 hg S5 e6⟩

theorem wAll_nn : ∀ {ps : List (Int × Int)}, (∀ p ∈ ps, 0 ≤ p.2) → 0 ≤ wAll ps
  | [], _ => by simp [wAll]
  | p :: ps, h => by
    have := wAll_nn fun q hq => h q (List.mem_cons_of_mem p hq)
    have hp := h p (List.mem_cons_self ..)
    rw [wAll_cons]
    omega
theorem mid_weak {ps : List (Int × Int)} {x : Int} (zn : ∀ p ∈ ps, 0 ≤ p.2) (h : 0 < wAll ps → Mid ps x) : 2 * wlt ps x ≤ wAll ps ∧ wAll ps ≤ 2 * wle ps x := by
  have a := wAll_nn zn
  by_cases g : 0 < wAll ps
  · have := h g
    unfold Mid at this
    omega
  · have b := wlt_all (x := x) zn
    have c := wle_nn (x := x) zn
    have d := wle_nn (x := x - 1) zn
    omega
theorem ok_least (T : Txt K mg t) : FnOk P w K mg base CX0 leastK t.f_least t.d_least P_least (sp_least t.C_Even t.C_Uneven t.C_Ring) := by
  have G_tolls_for := ok_tolls_for (P := P) (w := w) (base := base) T
  have G_Ring_whole := ok_Ring_whole (P := P) (w := w) (base := base) T
  have G_Uneven_init__ := ok_Un_init (P := P) (w := w) (base := base) T
  have G_along := ok_along (P := P) (w := w) (base := base) T
  have G_least_over_last := ok_lol (P := P) (w := w) (base := base) T
  have G_steps_down := ok_steps (P := P) (w := w) (base := base) T
  have G_prices_by := ok_prices (P := P) (w := w) (base := base) T
  have G_Even_init__ := ok_Even_init (P := P) (w := w) (base := base) T
  refine T.F_least.ok sc_least (fun vs H Q E h => ?_) (fun cdv A outer s H vs Q E hr h => ?_)
  · obtain ⟨r, l, a, hs, ts, rfl, _⟩ := h
    rfl
  · obtain ⟨r, l, a, hs, ts, rfl, RA, ha, h2, h100, lt, hsm, ht, q1, q2⟩ := h
    obtain ⟨⟨dr, er⟩, el⟩ := id RA
    refine ⟨_, (pss_cons (ps_set (i := 2) sc_least.nd rfl (by first | exact Or.inl rfl | exact Or.inr rfl) (pe_call G_tolls_for (hr.mono (by decide)) rfl T.g_tolls_for T.F_tolls_for.kp T.B_tolls_for .nil pass0 (pa_cons (pv 0) (pa_cons (pv 1) pa_nil se_Name) se_Name)))
      (pss_cons (ps_if (pt_cmpR (neK K hr.units0) (pe_meth0 (pv 0) T.cl_Ring T.m_Ring_whole G_Ring_whole (hr.mono (by decide)) T.B_Ring_whole .nil pass0) pe_int (nomark _))
      (pss_one (ps_ret (pe_make T.M_Uneven G_Uneven_init__ (hr.mono (by decide)) rfl T.g_Uneven T.B_Uneven_init__ .nil pass0 (pa_cons (pe_meth0 (pv 0) T.cl_Ring T.m_Ring_whole G_Ring_whole (hr.mono (by decide)) T.B_Ring_whole .nil pass0) pa_nil se_Call))))
      pss_nil)
      (pss_cons (ps_set (i := 3) sc_least.nd rfl (by first | exact Or.inl rfl | exact Or.inr rfl) (pe_call G_along (hr.mono (by decide)) rfl T.g_along T.F_along.kp T.B_along .nil pass0 (pa_cons (pv 0) pa_nil se_Name)))
      (pss_cons (ps_set (i := 4) sc_least.nd rfl (by first | exact Or.inl rfl | exact Or.inr rfl) (pe_call G_least_over_last (hr.mono (by decide)) rfl T.g_least_over_last T.F_least_over_last.kp T.B_least_over_last .nil pass0 (pa_cons (pv 3) (pa_cons (pv 2) pa_nil se_Name) se_Name)))
      (pss_cons (ps_setComp (i := 5) (sc := defScope s_least) (XN := N_least) (N' := ["amount", "last"]) (t := 1) (ix := [4]) rfl ⟨rfl, by decide +kernel, by decide +kernel, by decide +kernel, by decide +kernel, rfl, by decide +kernel⟩ rfl rfl sc_least.nd rfl rfl (piL K (pv 3)) (fun _ _ _ _ _ => (pg_name (i := 0) (show List.Nodup (["amount", "last"] : List Str) by decide +kernel) rfl (Or.inl rfl))) (fun _ _ _ _ _ => (pe_op (op_add.or op_cat) (pv 0) (pv 1))) (by with_unfolding_all rfl))
      (pss_one (ps_ret (pe_make T.M_Even G_Even_init__ (hr.mono (by decide)) rfl T.g_Even T.B_Even_init__ .nil pass0 (pa_cons (pv 5) (pa_cons (pe_call G_prices_by (hr.mono (by decide)) rfl T.g_prices_by T.F_prices_by.kp T.B_prices_by .nil pass0 (pa_cons (pe_call G_steps_down (hr.mono (by decide)) rfl T.g_steps_down T.F_steps_down.kp T.B_steps_down .nil pass0 (pa_cons (pv 5) (pa_cons (pv 2) pa_nil se_Name) se_Name)) pa_nil se_Call)) pa_nil se_Call) se_Name))))))))), ?_⟩
    refine ⟨_, rfl, _, rfl, r, l, a, hs, ts, rfl, RA, ha, lt, by omega, ht, fun D H1 hD s1 e1 => ?_⟩
    have RA1 := RA.same s1
    refine ⟨_, rfl, r, dr, _, rfl, s1 _ _ er, rfl, r, l, hs, rfl, RA1, ?_⟩
    refine .inl ⟨rfl, _, rfl, ?_⟩
    refine ite2 (fun z => ?_) (fun z => ?_)
    · have z : hs.sum ≠ 0 := t_ne.mp z
      refine ⟨_, rfl, r, dr, _, rfl, s1 _ _ er, rfl, r, l, hs, rfl, RA1, ?_⟩
      intro x dx hx hdx nex
      refine ⟨x, dx, _, rfl, upd_same, fun H4 bt UA => ⟨rfl, ?_⟩⟩
      exact q1 z x H4 (s1.free hx) (s1.trans (made_same hx hdx bt)) UA
    · have z : hs.sum = 0 := Classical.byContradiction fun y => z (t_ne.mpr y)
      refine ⟨_, rfl, r, l, hs, rfl, RA1, h2, by omega, hsm, z, fun R H2 hR s2 e2 => ?_⟩
      have hrl := run_length 0 hs
      refine ⟨_, rfl, _, rfl, R, D, runI 0 hs, ts, rfl, e2, s2 _ _ e1, by omega, by omega, by omega, ht, fun x H3 s3 m1 m2 => ?_⟩
      have e3 := s3 _ _ e2
      have eD3 := s3 _ _ (s2 _ _ e1)
      have S3 : Same H H3 := (s1.trans s2).trans s3
      refine ⟨_, rfl, R, rfl, ⟨_, SqL.of e3⟩, fun C hC => ?_⟩
      refine comp_list (t := 1) (fun v => match v with | .int b => .int (b + x) | _ => .non) (by have := big; rw [List.length_map]; omega) (by decide) hC (SqL.of e3) (fun k v H5 Z hx S5 y => ?_) (fun H5 S5 e5 => ?_)
      · obtain ⟨i, ei, rfl⟩ := map_int_get hx
        exact ⟨_, rfl, _, rfl, .inl ⟨_, _, rfl, rfl, y H5 (Same.refl _)⟩⟩
      · have e5 : H5 C = some (.lst (((runI 0 hs).map (· + x)).map V.int)) := by rw [e5, List.map_map, List.map_map]; rfl
        have lcs : ((runI 0 hs).map (· + x)).length = hs.length := by rw [List.length_map]; exact hrl
        have lss := steps_len (((runI 0 hs).map (· + x)).zip ts) (sgS (((runI 0 hs).map (· + x)).zip ts))
        refine ⟨_, rfl, _, rfl, _, rfl, C, D, (runI 0 hs).map (· + x), ts, rfl, e5, S5 _ _ eD3, by omega, by omega, fun F H6 hF s6 e6 => ?_⟩
        refine ⟨F, _, rfl, e6, by rw [lss, List.length_zip]; omega, fun G H7 hG s7 e7 => ?_⟩
        have e57 := s7 _ _ (s6 _ _ e5)
        have S7 : Same H H7 := ((S3.trans S5).trans s6).trans s7
        intro p dx hp hdx nex
        refine ⟨p, C, G, dx, (runI 0 hs).map (· + x), _, rfl, upd_same, SqL.of (by rw [upd_ne (ne_of_none e57 hp), upd_ne (ne_of_none e57 hdx)]; exact e57), SqL.of (by rw [upd_ne (ne_of_none e7 hp), upd_ne (ne_of_none e7 hdx)]; exact e7), fun c g H8 hc hg ncg bt EA => ⟨rfl, ?_⟩⟩
        have w := mid_weak (zip_nn ht) m2
        exact q2 z p c g _ _ H8 (S7.free hp) (S7.free (made_free hc)) (S7.free (made_free hg)) ncg (S7.trans (made_same hp hdx bt)) EA (best_of (by omega) lt z ht w.1 w.2)


end
end Ev


end
noncomputable section

set_option Elab.async false
set_option linter.all false
set_option maxRecDepth 100000
set_option maxHeartbeats 0
seal L2.PE L2.PT L2.PS L2.PSs L2.PA L2.PI L2.PG L2.PGs L2.OpR L2.UnR L2.CallR L2.IxR L2.SlR L2.MtR L2.PO L2.PSet L2.PW
namespace Ev
open PySem L2
section
variable {P : Program} {w : World} {K : PySem.W.Frag} {mg : Str → Option Value} {base : Heap} {t : Adr}
/-- two statements, by what holds between them -/
theorem tSeq_mid {t u : TS} {D : Ends} {σ : St} {H : Hp} (mid : St → Hp → Prop) (h1 : ∀ N : St → Hp → Prop, (∀ σ' H', mid σ' H' → N σ' H') → t { D with nx := N } σ H) (h2 : ∀ σ' H', mid σ' H' → u D σ' H') : tSeq t u D σ H := h1 _ h2
theorem cut_init (xs : List Int) (h : xs ≠ []) : cutV (xs.map V.int) none (some (-1)) = (xs.take (xs.length - 1)).map V.int := by
  unfold cutV
  have hp : 0 < xs.length := List.length_pos_iff.mpr h
  have e : HT.sIx (xs.map V.int).length (xs.map V.int).length (some (-1)) = xs.length - 1 := by
    rw [List.length_map]; unfold HT.sIx; simp; omega
  rw [HT.sIx_none, e, List.drop_zero, Nat.sub_zero, List.map_take]
theorem shows_len {hs ts cs ps : List Int} (h : ts.length ≠ hs.length) : showsB hs ts cs ps = false := by
  unfold showsB
  rw [decide_eq_false h]
  simp
def sp_even_right (R : Addr) : Sp := fun vs H Q _ => ∃ (a b r l : Addr) (hs ts : List Int) (c : Int), vs = [.ref a, .ref b, .ref r, .int c] ∧ H a = some (.lst (hs.map V.int)) ∧ H b = some (.lst (ts.map V.int)) ∧ RingAt R H r l hs ∧ 2 ≤ hs.length ∧ hs.length ≤ 100 ∧ ts.length = hs.length ∧ Small hs ∧ Toll ts ∧
  ∀ H', Same H H' → Q (.bl true) H'
theorem ok_even_right (T : Txt K mg t) : FnOk P w K mg base CX0 (leastK + 1) t.f_law_even_right t.d_law_even_right P_law_even_right (sp_even_right t.C_Ring) := by
  have G_least := ok_least (P := P) (w := w) (base := base) T
  have G_law_bent := ok_bent (P := P) (w := w) (base := base) T
  have G_law_evened := ok_law_evened (P := P) (w := w) (base := base) T
  have G_law_priced := ok_priced (P := P) (w := w) (base := base) T
  have G_law_says := ok_says (P := P) (w := w) (base := base) T
  have G_Even_init__ := ok_Even_init (P := P) (w := w) (base := base) T
  have G_Even_evens := ok_Even_evens (P := P) (w := w) (base := base) T
  have G_Even_shows := ok_Even_shows (P := P) (w := w) (base := base) T
  refine T.F_law_even_right.ok sc_law_even_right (fun vs H Q E h => ?_) (fun cdv A outer s H vs Q E hr h => ?_)
  · obtain ⟨a, b, r, l, hs, ts, c, rfl, _⟩ := h
    rfl
  · obtain ⟨a, b, r, l, hs, ts, c, rfl, ha, hb, RA, h2, hl, hlt, hsm, htl, q⟩ := h
    refine ⟨_, (pss_cons (ps_set (i := 4) sc_law_even_right.nd rfl (by first | exact Or.inl rfl | exact Or.inr rfl) (pe_call G_least (hr.mono (by decide)) rfl T.g_least T.F_least.kp T.B_least .nil pass0 (pa_cons (pv 2) (pa_cons (pv 1) pa_nil se_Name) se_Name)))
      (pss_cons (ps_if (pt_val (pe_callB (isiK K) (by rfl) T.b_isinstance bt_isinstance (pa_cons (pv 4) (pa_cons (pe_glob (v := .ref _) rfl T.g_Uneven rfl) pa_nil se_Name) se_Name)))
      (pss_one (ps_set (i := 4) sc_law_even_right.nd rfl (by first | exact Or.inl rfl | exact Or.inr rfl) (pe_make T.M_Even G_Even_init__ (hr.mono (by decide)) rfl T.g_Even T.B_Even_init__ .nil pass0 (pa_cons (pe_op (op_mul.or op_rep) (pe_lst (pa_cons pe_int pa_nil se_Constant)) (pe_callB (lenK K) (by rfl) T.b_len bt_len (pa_cons (pv 0) pa_nil se_Name))) (pa_cons (pe_op (op_mul.or op_rep) (pe_lst (pa_cons pe_int pa_nil se_Constant)) (pe_callB (lenK K) (by rfl) T.b_len bt_len (pa_cons (pv 0) pa_nil se_Name))) pa_nil se_BinOp) se_BinOp))))
      pss_nil)
      (pss_cons (ps_for PassesOwn.never rfl (pi_range1 rfl T.b_range (pa_cons pe_int pa_nil se_Constant)) (pg_name (i := 5) sc_law_even_right.nd rfl (by first | exact Or.inl rfl | exact Or.inr rfl))
      (pss_cons (ps_set (i := 6) sc_law_even_right.nd rfl (by first | exact Or.inl rfl | exact Or.inr rfl) (pe_ifExp (pt_cmpR (neK K hr.units0) (pv 5) pe_int (nomark _)) (pe_call G_law_bent (hr.mono (by decide)) rfl T.g_law_bent T.F_law_bent.kp T.B_law_bent .nil pass0 (pa_cons (fldK K (pv 4)) (pa_cons (pe_op (op_add.or op_cat) (pv 3) (pv 5)) pa_nil se_BinOp) se_Attribute)) (pe_callTy (listK K) (by rfl) T.b_list bt_list (pa_cons (fldK K (pv 4)) pa_nil se_Attribute))))
      (pss_cons (ps_set (i := 7) sc_law_even_right.nd rfl (by first | exact Or.inl rfl | exact Or.inr rfl) (pe_ifExp (pt_cmpR (neK K hr.units0) (pv 5) pe_int (nomark _)) (pe_call G_law_bent (hr.mono (by decide)) rfl T.g_law_bent T.F_law_bent.kp T.B_law_bent .nil pass0 (pa_cons (fldK K (pv 4)) (pa_cons (pe_op (op_add.or op_cat) (pv 3) (pe_op (op_mul.or op_rep) pe_int (pv 5))) pa_nil se_BinOp) se_Attribute)) (pe_callTy (listK K) (by rfl) T.b_list bt_list (pa_cons (fldK K (pv 4)) pa_nil se_Attribute))))
      (pss_cons (ps_set (i := 8) sc_law_even_right.nd rfl (by first | exact Or.inl rfl | exact Or.inr rfl) (pe_lst (pa_cons (pe_callTy (listK K) (by rfl) T.b_list bt_list (pa_cons (pv 6) pa_nil se_Name)) (pa_cons (pe_callTy (listK K) (by rfl) T.b_list bt_list (pa_cons (pv 7) pa_nil se_Name)) pa_nil se_Call) se_Call)))
      (pss_cons (ps_set (i := 9) sc_law_even_right.nd rfl (by first | exact Or.inl rfl | exact Or.inr rfl) (pe_make T.M_Even G_Even_init__ (hr.mono (by decide)) rfl T.g_Even T.B_Even_init__ .nil pass0 (pa_cons (pe_ix (ixK K) (pv 8) pe_int (fun _ _ => rfl)) (pa_cons (pe_ix (ixK K) (pv 8) pe_int (fun _ _ => rfl)) pa_nil se_Subscript) se_Subscript)))
      (pss_cons (ps_expr (bmK K PySem.F.plainAttrs_list PySem.F.slot_list_append PySem.F.type_list_append mtr_append (pe_ix (ixK K) (pv 8) pe_int (fun _ _ => rfl)) (pa_cons pe_int pa_nil se_Constant)))
      (pss_cons (ps_expr (bm0K K PySem.F.plainAttrs_list PySem.F.slot_list_clear PySem.F.type_list_clear mtr_clear (pe_ix (ixK K) (pv 8) pe_int (fun _ _ => rfl))))
      (pss_cons (ps_if (PW.pt (pw_or (pt_cmpR (neK K hr.units0) (fldK K (pv 9)) (pv 6) (nomark _)) (pw_or1 (pt_cmpR (neK K hr.units0) (fldK K (pv 9)) (pv 7) (nomark _)))))
      (pss_one (ps_ret pe_bl))
      pss_nil)
      (pss_cons (ps_set (i := 10) sc_law_even_right.nd rfl (by first | exact Or.inl rfl | exact Or.inr rfl) (pe_and (pe_cmpR (eqK K hr.units0) (pe_callB (lenK K) (by rfl) T.b_len bt_len (pa_cons (pv 6) pa_nil se_Name)) (pe_callB (lenK K) (by rfl) T.b_len bt_len (pa_cons (pv 0) pa_nil se_Name)) (nomark _)) (pe_one (pe_call G_law_evened (hr.mono (by decide)) rfl T.g_law_evened T.F_law_evened.kp T.B_law_evened .nil pass0 (pa_cons (pv 0) (pa_cons (pv 6) pa_nil se_Name) se_Name)))))
      (pss_cons (ps_set (i := 11) sc_law_even_right.nd rfl (by first | exact Or.inl rfl | exact Or.inr rfl) (pe_and (pv 10) (pe_one (pe_cmpR (eqK K hr.units0) (pe_callB (lenK K) (by rfl) T.b_len bt_len (pa_cons (pv 7) pa_nil se_Name)) (pe_callB (lenK K) (by rfl) T.b_len bt_len (pa_cons (pv 0) pa_nil se_Name)) (nomark _)))))
      (pss_cons (ps_if (pt_val (pv 11))
      (pss_one (ps_set (i := 11) sc_law_even_right.nd rfl (by first | exact Or.inl rfl | exact Or.inr rfl) (pe_call G_law_priced (hr.mono (by decide)) rfl T.g_law_priced T.F_law_priced.kp T.B_law_priced .nil pass0 (pa_cons (pv 0) (pa_cons (pv 1) (pa_cons (pv 6) (pa_cons (pv 7) pa_nil se_Name) se_Name) se_Name) se_Name))))
      pss_nil)
      (pss_cons (ps_if (PW.pt (pw_or (pt_not (pt_val (pe_call G_law_says (hr.mono (by decide)) rfl T.g_law_says T.F_law_says.kp T.B_law_says .nil pass0 (pa_cons (pe_meth (pv 9) T.cl_Even T.m_Even_evens G_Even_evens (hr.mono (by decide)) T.B_Even_evens .nil pass0 (pa_cons (pv 2) pa_nil se_Name)) (pa_cons (pv 10) pa_nil se_Name) se_Call)))) (pw_or1 (pt_not (pt_val (pe_call G_law_says (hr.mono (by decide)) rfl T.g_law_says T.F_law_says.kp T.B_law_says .nil pass0 (pa_cons (pe_meth (pv 9) T.cl_Even T.m_Even_shows G_Even_shows (hr.mono (by decide)) T.B_Even_shows .nil pass0 (pa_cons (pv 2) (pa_cons (pv 1) pa_nil se_Name) se_Name)) (pa_cons (pv 11) pa_nil se_Name) se_Call)))))))
      (pss_one (ps_ret pe_bl))
      pss_nil)
      (pss_one (ps_for PassesOwn.never rfl (piT K (pe_tup (pa_cons (pe_slice (slK K) (pv 1) po_none (po_some (pe_un un_neg pe_int))) (pa_cons (pe_op (op_add.or op_cat) (pv 1) (pe_lst (pa_cons pe_int pa_nil se_Constant))) (pa_cons (pe_lst pa_nil) pa_nil se_List) se_BinOp) se_Subscript))) (pg_name (i := 12) sc_law_even_right.nd rfl (by first | exact Or.inl rfl | exact Or.inr rfl))
      (pss_one (ps_if (pt_not (pt_val (pe_call G_law_says (hr.mono (by decide)) rfl T.g_law_says T.F_law_says.kp T.B_law_says .nil pass0 (pa_cons (pe_meth (pv 9) T.cl_Even T.m_Even_shows G_Even_shows (hr.mono (by decide)) T.B_Even_shows .nil pass0 (pa_cons (pv 2) (pa_cons (pv 12) pa_nil se_Name) se_Name)) (pa_cons pe_bl pa_nil se_Constant) se_Call))))
      (pss_one (ps_ret pe_bl))
      pss_nil))))))))))))))))
      (pss_one (ps_ret pe_bl))))), ?_⟩
    -- told = least(ring, tolls)
    refine tSeq_mid (fun σ' H' => ∃ p, σ' = [some (.ref a), some (.ref b), some (.ref r), some (.int c), some (.ref p), none, none, none, none, none, none, none, none] ∧ Same H H' ∧
      (UnAt t.C_Uneven H' p hs.sum ∨ ∃ cc qq cs ps, EvenAt t.C_Even H' p cc qq cs ps ∧ cs.length = hs.length ∧ ps.length = hs.length)) (fun N hN => ?_) ?_
    · refine ⟨_, rfl, _, rfl, r, l, b, hs, ts, rfl, RA, hb, h2, hl, hlt, hsm, htl, fun _ p H1 hp s1 U => ?_, fun _ p cc qq cs ps H1 hp hcc hqq nq s1 EA B => ?_⟩
      · exact hN _ _ ⟨p, rfl, s1, .inl U⟩
      · exact hN _ _ ⟨p, rfl, s1, .inr ⟨cc, qq, cs, ps, EA, B.lc, B.lp⟩⟩
    rintro σ1 H1 ⟨p, rfl, S1, told⟩
    -- if isinstance(told, Uneven): told = Even([0] * n, [0] * n)
    refine tSeq_mid (fun σ' H' => ∃ p cc qq cs ps, σ' = [some (.ref a), some (.ref b), some (.ref r), some (.int c), some (.ref p), none, none, none, none, none, none, none, none] ∧ Same H H' ∧
      EvenAt t.C_Even H' p cc qq cs ps ∧ cs.length = hs.length ∧ ps.length = hs.length) (fun N hN => ?_) ?_
    · rcases told with U | ⟨cc, qq, cs, ps, EA, lc, lp⟩
      · obtain ⟨dx, ep⟩ := id U
        refine ⟨_, rfl, _, _, _, _, true, rfl, rfl, TyOf.ins ep T.cl_Uneven T.j1_Uneven T.j3 T.j4 T.j2_Uneven, T.i_Uneven_Uneven, _, rfl, iteT ?_⟩
        refine ⟨by show 1 ≤ sizeLine; decide, fun z1 hz1 => ?_⟩
        have T1 := S1.upd (o := .lst [V.int 0]) (S1.free hz1)
        refine ⟨_, rfl, a, _, rfl, .inl (SqL.of (T1 _ _ ha)), .inr ⟨z1, _, _, rfl, rfl, upd_same, by rw [List.length_map]; omega, by rw [List.length_map]; omega, by have := big; rw [List.length_map]; simp; omega, fun z2 hz2 => ?_⟩⟩
        have T2 := T1.upd (o := .lst (List.replicate (((hs.map V.int).length : Int)).toNat [V.int 0]).flatten) (T1.free hz2)
        refine ⟨by show 1 ≤ sizeLine; decide, fun z3 hz3 => ?_⟩
        have T3 := T2.upd (o := .lst [V.int 0]) (T2.free hz3)
        refine ⟨_, rfl, a, _, rfl, .inl (SqL.of (T3 _ _ ha)), .inr ⟨z3, _, _, rfl, rfl, upd_same, by rw [List.length_map]; omega, by rw [List.length_map]; omega, by have := big; rw [List.length_map]; simp; omega, fun z4 hz4 => ?_⟩⟩
        have T4 := T3.upd (o := .lst (List.replicate (((hs.map V.int).length : Int)).toNat [V.int 0]).flatten) (T3.free hz4)
        have n23 : z2 ≠ z3 := by
          rintro rfl
          rw [upd_same] at hz3; cases hz3
        have n24 : z2 ≠ z4 := by
          rintro rfl
          rw [upd_ne n23, upd_same] at hz4; cases hz4
        have zeros : (List.replicate (((hs.map V.int).length : Int)).toNat [V.int 0]).flatten = (List.replicate hs.length (0 : Int)).map V.int := by
          rw [List.length_map, Int.toNat_natCast]
          generalize hs.length = n
          induction n with
          | zero => rfl
          | succ n ih => rw [List.replicate_succ, List.flatten_cons, ih, List.replicate_succ]; rfl
        rw [zeros] at hz4 hz3 T4 T3 T2 ⊢
        refine fun x dx2 hx hdx nex => ⟨x, z2, z4, dx2, List.replicate hs.length 0, List.replicate hs.length 0, rfl, upd_same, SqL.of ?_, SqL.of ?_, fun cc qq H2 hcc hqq nq bt EA => ⟨rfl, ?_⟩⟩
        · have e : (upd (upd (upd (upd H1 z1 (.lst [V.int 0])) z2 (.lst ((List.replicate hs.length (0 : Int)).map V.int))) z3 (.lst [V.int 0])) z4 (.lst ((List.replicate hs.length (0 : Int)).map V.int))) z2 = some (.lst ((List.replicate hs.length (0 : Int)).map V.int)) := by
            rw [upd_ne n24]; exact (same_upd hz3) _ _ upd_same
          rw [upd_ne (ne_of_none e hx), upd_ne (ne_of_none e hdx)]; exact e
        · rw [upd_ne (ne_of_none upd_same hx), upd_ne (ne_of_none upd_same hdx), upd_same]
        · exact hN _ _ ⟨x, cc, qq, _, _, rfl, T4.trans (made_same hx hdx bt), EA, by simp, by simp⟩
      · obtain ⟨dx, ep⟩ := EA.ob
        refine ⟨_, rfl, _, _, _, _, false, rfl, rfl, TyOf.ins ep T.cl_Even T.j1_Even T.j3 T.j4 T.j2_Even, T.i_Even_Uneven, _, rfl, iteF ?_⟩
        exact hN _ _ ⟨p, cc, qq, cs, ps, rfl, S1, EA, lc, lp⟩
    clear told S1
    rintro σ2 H2 ⟨p, cc, qq, cs, ps, rfl, S2, EA, lc, lp⟩
    have hcs : cs ≠ [] := by rintro rfl; simp at lc; omega
    have hps : ps ≠ [] := by rintro rfl; simp at lp; omega
    -- for k in range(4)
    refine ⟨4, rfl, by decide, by decide, ?_⟩
    refine for_range0 (n := 4) (fun i σ H3 => ∃ v5 v6 v7 v8 v9 v10 v11 v12, σ = [some (.ref a), some (.ref b), some (.ref r), some (.int c), some (.ref p), v5, v6, v7, v8, v9, v10, v11, v12] ∧ Same H2 H3) ⟨_, _, _, _, _, _, _, _, rfl, Same.refl _⟩ ?_ ?_
    · rintro i σ H3 hi ⟨v5, v6, v7, v8, v9, v10, v11, v12, rfl, S3⟩
      have S03 := S2.trans S3
      have EA3 := EA.same S3
      obtain ⟨⟨dp, ep⟩, ec, eq⟩ := id EA3
      dsimp only [gName]
      refine tSeq_mid (fun σ' H' => ∃ (d1 : Addr) (cs1 : List Int), σ' = [some (.ref a), some (.ref b), some (.ref r), some (.int c), some (.ref p), some (.int i), some (.ref d1), v7, v8, v9, v10, v11, v12] ∧ Same H3 H' ∧ H' d1 = some (.lst (cs1.map V.int)) ∧ cs1.length ≤ 101) (fun N hN => ?_) ?_
      · refine ⟨_, rfl, .inl ⟨rfl, _, rfl, ite2 (fun h => ?_) (fun h => ?_)⟩⟩
        · refine ⟨_, rfl, p, t.C_Even, dp, _, _, rfl, ep, T.cl_Even, T.n_Even_carried, look_c _ _, _, rfl, _, rfl, .inl ⟨_, _, rfl, rfl, cc, cs, _, rfl, ec, hcs, by omega, fun D H4 hD s4 e4 => ?_⟩⟩
          have := bent_len cs (c + (i : Int)) hcs
          exact hN _ _ ⟨D, _, rfl, s4, e4, by omega⟩
        · refine ⟨_, rfl, p, t.C_Even, dp, _, _, rfl, ep, T.cl_Even, T.n_Even_carried, look_c _ _, cc, _, rfl, .inl (SqL.of ec), fun l' hl' => ?_⟩
          exact hN _ _ ⟨l', cs, rfl, same_upd hl', upd_same, by omega⟩
      rintro σ4 H4 ⟨d1, cs1, rfl, S4, e1, l1⟩
      obtain ⟨⟨dp4, ep4⟩, ec4, eq4⟩ := EA3.same S4
      refine tSeq_mid (fun σ' H' => ∃ (d2 : Addr) (ps1 : List Int), σ' = [some (.ref a), some (.ref b), some (.ref r), some (.int c), some (.ref p), some (.int i), some (.ref d1), some (.ref d2), v8, v9, v10, v11, v12] ∧ Same H4 H' ∧ H' d2 = some (.lst (ps1.map V.int)) ∧ ps1.length ≤ 101) (fun N hN => ?_) ?_
      · refine ⟨_, rfl, .inl ⟨rfl, _, rfl, ite2 (fun h => ?_) (fun h => ?_)⟩⟩
        · refine ⟨_, rfl, p, t.C_Even, dp4, _, _, rfl, ep4, T.cl_Even, T.n_Even_prices, look_p _ _, _, rfl, _, rfl, .inl ⟨_, _, rfl, rfl, .inl ⟨by decide, by decide⟩, .inl ⟨_, _, rfl, rfl, qq, ps, _, rfl, eq4, hps, by omega, fun D H5 hD s5 e5 => ?_⟩⟩⟩
          have := bent_len ps (c + 31 * (i : Int)) hps
          exact hN _ _ ⟨D, _, rfl, s5, e5, by omega⟩
        · refine ⟨_, rfl, p, t.C_Even, dp4, _, _, rfl, ep4, T.cl_Even, T.n_Even_prices, look_p _ _, qq, _, rfl, .inl (SqL.of eq4), fun l' hl' => ?_⟩
          exact hN _ _ ⟨l', ps, rfl, same_upd hl', upd_same, by omega⟩
      rintro σ5 H5 ⟨d2, ps1, rfl, S5, e2, l2⟩
      have e1' := S5 _ _ e1
      -- handed, answer
      refine ⟨_, rfl, d1, _, rfl, .inl (SqL.of e1'), fun g1 hg1 => ?_⟩
      have e2' : (upd H5 g1 (.lst (cs1.map V.int))) d2 = some (.lst (ps1.map V.int)) := (same_upd hg1) _ _ e2
      refine ⟨_, rfl, d2, _, rfl, .inl (SqL.of e2'), fun g2 hg2 => ⟨by show 2 ≤ sizeLine; decide, fun g3 hg3 => ?_⟩⟩
      have f1 : (upd (upd H5 g1 (.lst (cs1.map V.int))) g2 (.lst (ps1.map V.int))) g1 = some (.lst (cs1.map V.int)) := (same_upd hg2) _ _ upd_same
      have f2 : (upd (upd H5 g1 (.lst (cs1.map V.int))) g2 (.lst (ps1.map V.int))) g2 = some (.lst (ps1.map V.int)) := upd_same
      have S6 : Same H5 (upd (upd H5 g1 (.lst (cs1.map V.int))) g2 (.lst (ps1.map V.int))) := (same_upd hg1).upd ((same_upd hg1).free hg2)
      have hg1' : H5 g1 = none := hg1
      have hg2' : H5 g2 = none := (same_upd hg1).free hg2
      generalize (upd (upd H5 g1 (.lst (cs1.map V.int))) g2 (.lst (ps1.map V.int))) = H6 at f1 f2 S6 hg3 ⊢
      have S7 : Same H6 (upd H6 g3 (.lst [.ref g1, .ref g2])) := same_upd hg3
      refine ⟨_, rfl, .inl ⟨g3, _, _, _, rfl, rfl, SqL.of upd_same, rfl, ?_⟩⟩
      refine ⟨_, rfl, .inl ⟨g3, _, _, _, rfl, rfl, SqL.of upd_same, rfl, ?_⟩⟩
      have f3 : (upd H6 g3 (.lst [.ref g1, .ref g2])) g3 = some (.lst [.ref g1, .ref g2]) := upd_same
      have f1' := S7 _ _ f1
      have f2' := S7 _ _ f2
      have S67 := S6.trans S7
      generalize (upd H6 g3 (.lst [.ref g1, .ref g2])) = H7 at f3 f1' f2' S67 S7 ⊢
      refine fun x dx hx hdx nex => ⟨x, g1, g2, dx, cs1, ps1, rfl, upd_same, SqL.of ?_, SqL.of ?_, fun c2 q2 H8 hc2 hq2 nq2 bt EB => ⟨rfl, ?_⟩⟩
      · rw [upd_ne (ne_of_none f1' hx), upd_ne (ne_of_none f1' hdx)]; exact f1'
      · rw [upd_ne (ne_of_none f2' hx), upd_ne (ne_of_none f2' hdx)]; exact f2'
      have S8 := made_same hx hdx bt
      have hc2' := made_free hc2
      have hq2' := made_free hq2
      have h1 := S8 _ _ f1'
      have h2' := S8 _ _ f2'
      have h3 := S8 _ _ f3
      have n12 : g1 ≠ g2 := by
        rintro rfl
        rw [upd_same] at hg2; cases hg2
      -- handed[0].append(0); handed[1].clear()
      refine ⟨_, rfl, .inl ⟨g3, _, _, _, rfl, rfl, SqL.of h3, rfl, .inl ⟨rfl, _, SqL.of h1⟩, ?_⟩⟩
      refine ⟨g1, _, _, rfl, rfl, h1, by have := big; rw [List.length_map]; omega, ?_⟩
      have n13 : g3 ≠ g1 := (ne_of_none f1 hg3).symm
      have h3a : (upd H8 g1 (.lst (cs1.map V.int ++ [.int 0]))) g3 = some (.lst [.ref g1, .ref g2]) := by rw [upd_ne n13]; exact h3
      have h2a : (upd H8 g1 (.lst (cs1.map V.int ++ [.int 0]))) g2 = some (.lst (ps1.map V.int)) := by rw [upd_ne n12.symm]; exact h2'
      refine ⟨_, rfl, .inl ⟨g3, _, _, _, rfl, rfl, SqL.of h3a, rfl, .inl ⟨rfl, _, SqL.of h2a⟩, g2, _, rfl, rfl, h2a, ?_⟩⟩
      have S58 : Same H5 H8 := S67.trans S8
      have S59 : Same H5 (upd (upd H8 g1 (.lst (cs1.map V.int ++ [.int 0]))) g2 (.lst [])) := (S58.upd hg1').upd hg2'
      have EB' : EvenAt t.C_Even (upd (upd H8 g1 (.lst (cs1.map V.int ++ [.int 0]))) g2 (.lst [])) x c2 q2 cs1 ps1 := by
        have a1 := ne_of_none f1' hx
        have a2 := ne_of_none f2' hx
        have b1 := ne_of_none f1' hc2'
        have b2 := ne_of_none f2' hc2'
        have d1' := ne_of_none f1' hq2'
        have d2' := ne_of_none f2' hq2'
        refine ⟨let ⟨dy, e⟩ := EB.ob; ⟨dy, ?_⟩, ?_, ?_⟩
        · rw [upd_ne a2.symm, upd_ne a1.symm]; exact e
        · rw [upd_ne b2.symm, upd_ne b1.symm]; exact EB.ca
        · rw [upd_ne d2'.symm, upd_ne d1'.symm]; exact EB.pr
      generalize (upd (upd H8 g1 (.lst (cs1.map V.int ++ [.int 0]))) g2 (.lst [])) = H9 at S59 EB' ⊢
      have S09 : Same H H9 := ((S03.trans S4).trans S5).trans S59
      have RA9 := RA.same S09
      have e1n := S59 _ _ e1'
      have e2n := S59 _ _ e2
      obtain ⟨⟨dy, ex⟩, exc, exp⟩ := id EB'
      -- answer.carried != carried or answer.prices != prices
      refine ⟨_, rfl, x, t.C_Even, dy, _, _, rfl, ex, T.cl_Even, T.n_Even_carried, look_c _ _, _, rfl, .inr ⟨c2, d1, _, _, rfl, rfl, SqL.of exc, SqL.of e1n, by simp [flatV], by simp [flatV], _, rfl, ?_⟩⟩
      rw [eqVs_ints, decide_eq_true rfl]
      refine iteF ?_
      refine ⟨_, rfl, x, t.C_Even, dy, _, _, rfl, ex, T.cl_Even, T.n_Even_prices, look_p _ _, _, rfl, .inr ⟨q2, d2, _, _, rfl, rfl, SqL.of exp, SqL.of e2n, by simp [flatV], by simp [flatV], _, rfl, ?_⟩⟩
      rw [eqVs_ints, decide_eq_true rfl]
      refine iteF ?_
      -- evens
      dsimp only [tNext]
      refine tSeqAsg_by (i := 10) (.bl (evenB hs cs1)) (fun Z z => ?_) (fun H10 s10 => ?_)
      · refine ⟨_, rfl, d1, _, rfl, .inl (SqL.of e1n), _, rfl, a, _, rfl, .inl (SqL.of (S09 _ _ ha)), .inl ⟨rfl, _, rfl, ?_⟩⟩
        rw [List.length_map, List.length_map]
        by_cases hlen : cs1.length = hs.length
        · refine (if_pos (t_eq.mpr (by omega))).mpr ?_
          exact ⟨_, rfl, _, rfl, a, d1, hs, cs1, rfl, SqL.of (S09 _ _ ha), SqL.of e1n, by omega, z⟩
        · refine (if_neg (fun y => hlen (by have := t_eq.mp y; omega))).mpr ?_
          have := z H9 (Same.refl _)
          rw [evenB_len hlen] at this
          exact this
      have S010 := S09.trans s10
      refine tSeqAsg_by (i := 11) (.bl (evenB hs cs1 && decide (ps1.length = hs.length))) (fun Z z => ?_) (fun H11 s11 => ?_)
      · refine ⟨_, rfl, _, rfl, ?_⟩
        cases hev : evenB hs cs1
        · rw [hev] at z
          exact iteF (z H10 (Same.refl _))
        rw [hev, Bool.true_and] at z
        refine iteT ⟨_, rfl, d2, _, rfl, .inl (SqL.of (s10 _ _ e2n)), _, rfl, a, _, rfl, .inl (SqL.of (S010 _ _ ha)), .inl ⟨rfl, ?_⟩⟩
        rw [List.length_map, List.length_map, d_int]
        have := z H10 (Same.refl _)
        rw [show decide ((ps1.length : Int) = (hs.length : Int)) = decide (ps1.length = hs.length) by rw [Bool.eq_iff_iff, decide_eq_true_iff, decide_eq_true_iff]; omega]
        exact this
      have S911 := s10.trans s11
      have S011 := S09.trans S911
      have due_eq : showsB hs ts cs1 ps1 = ((evenB hs cs1 && decide (ps1.length = hs.length)) && pricedB hs ts cs1 ps1) := by
        unfold showsB pricedB
        rw [decide_eq_true hlt]
        cases evenB hs cs1 <;> cases keepB ps1 ts <;> cases decide (ps1.length = hs.length) <;> cases decide (worthI hs ps1 = costI ts cs1) <;> rfl
      refine tSeq_mid (fun σ' H' => ∃ u8 u9, σ' = [some (.ref a), some (.ref b), some (.ref r), some (.int c), some (.ref p), some (.int i), some (.ref d1), some (.ref d2), u8, some (.ref x), u9, some (.bl (showsB hs ts cs1 ps1)), v12] ∧ u9 = some (.bl (evenB hs cs1)) ∧ Same H11 H') (fun N hN => ?_) ?_
      · refine ⟨_, rfl, _, rfl, ?_⟩
        cases hd : (evenB hs cs1 && decide (ps1.length = hs.length))
        · rw [hd, Bool.false_and] at due_eq
          refine iteF (hN _ _ ⟨some (.ref g3), some (.bl (evenB hs cs1)), ?_, rfl, Same.refl _⟩)
          rw [due_eq]
          rfl
        · rw [hd, Bool.true_and] at due_eq
          have hpl : ps1.length = hs.length := of_decide_eq_true (Bool.and_eq_true_iff.mp hd).2
          refine iteT ⟨_, rfl, _, rfl, _, rfl, _, rfl, a, b, d1, d2, hs, ts, cs1, ps1, rfl, SqL.of (S011 _ _ ha), SqL.of (S011 _ _ hb), SqL.of (S911 _ _ e1n), SqL.of (S911 _ _ e2n), by omega, by omega, hsm.sm, htl.sm, fun H12 s12 => ?_⟩
          refine hN _ _ ⟨some (.ref g3), some (.bl (evenB hs cs1)), ?_, rfl, s12⟩
          rw [due_eq]
          rfl
      rintro σ12 H12 ⟨u8, u9, rfl, rfl, s12⟩
      have S912 := S911.trans s12
      have S012 := S09.trans S912
      have EB12 := EB'.same S912
      obtain ⟨dz, ez⟩ := EB12.ob
      -- the answer's own words
      refine ⟨_, rfl, x, dz, _, rfl, ez, rfl, _, rfl, x, c2, q2, r, l, cs1, ps1, hs, rfl, EB12, RA.same S012, by omega, fun H13 s13 => ?_⟩
      refine ⟨_, rfl, _, _, rfl, _, rfl, ?_⟩
      rw [beq_self_eq_true]
      refine iteF ?_
      have EB13 := EB12.same s13
      obtain ⟨dz2, ez2⟩ := EB13.ob
      have S013 := S012.trans s13
      refine ⟨_, rfl, x, dz2, _, rfl, ez2, rfl, _, rfl, _, rfl, x, c2, q2, r, l, b, cs1, ps1, hs, ts, rfl, EB13, RA.same S013, SqL.of (S013 _ _ hb), by omega, hsm.sm, htl.sm, fun H14 s14 => ?_⟩
      refine ⟨_, rfl, _, _, rfl, _, rfl, ?_⟩
      rw [beq_self_eq_true]
      refine iteF ?_
      have S014 := S013.trans s14
      have EB14 := EB13.same s14
      have hb14 := S014 _ _ hb
      have hts : ts ≠ [] := by rintro rfl; simp at hlt; omega
      refine ⟨_, rfl, _, rfl, _, rfl, b, _, rfl, SqL.of hb14, fun t1 ht1 => ?_⟩
      rw [cut_init ts hts]
      have A1 : Same H14 (upd H14 t1 (.lst ((ts.take (ts.length - 1)).map V.int))) := same_upd ht1
      refine ⟨_, rfl, by show 1 ≤ sizeLine; decide, fun z hz => .inr ⟨b, z, ts.map V.int, ([0] : List Int).map V.int, rfl, rfl, ?_, upd_same, by have := big; rw [List.length_map, List.length_map]; simp; omega, fun t2 ht2 => ?_⟩⟩
      · exact (same_upd hz) _ _ (A1 _ _ hb14)
      have A2 := A1.upd (o := .lst [V.int 0]) (A1.free hz)
      have A3 := A2.upd (o := .lst (ts.map V.int ++ ([0] : List Int).map V.int)) (A2.free ht2)
      have k1 : (upd (upd (upd H14 t1 (.lst ((ts.take (ts.length - 1)).map V.int))) z (.lst [V.int 0])) t2 (.lst (ts.map V.int ++ ([0] : List Int).map V.int))) t1 = some (.lst ((ts.take (ts.length - 1)).map V.int)) :=
        (same_upd ht2) _ _ ((same_upd hz) _ _ upd_same)
      have k2 : (upd (upd (upd H14 t1 (.lst ((ts.take (ts.length - 1)).map V.int))) z (.lst [V.int 0])) t2 (.lst (ts.map V.int ++ ([0] : List Int).map V.int))) t2 = some (.lst ((ts ++ [0]).map V.int)) := by rw [upd_same, List.map_append]
      refine ⟨Nat.zero_le _, fun t3 ht3 => ⟨by show 3 ≤ sizeLine; decide, fun tp htp => ?_⟩⟩
      have A4 := A3.upd (o := .lst []) (A3.free ht3)
      have k1' := (same_upd (o := .lst []) ht3) _ _ k1
      have k2' := (same_upd (o := .lst []) ht3) _ _ k2
      generalize hG : (upd (upd (upd (upd H14 t1 (.lst ((ts.take (ts.length - 1)).map V.int))) z (.lst [V.int 0])) t2 (.lst (ts.map V.int ++ ([0] : List Int).map V.int))) t3 (.lst [])) = H15 at A4 k1' k2' htp ⊢
      have k3' : H15 t3 = some (.lst (([] : List Int).map V.int)) := by rw [← hG]; exact upd_same
      refine ⟨tp, rfl, ⟨_, SqT.of upd_same⟩, ?_⟩
      have B1 : Same H15 (upd H15 tp (.tup [.ref t1, .ref t2, .ref t3])) := same_upd htp
      have bp : (upd H15 tp (.tup [.ref t1, .ref t2, .ref t3])) tp = some (.tup [.ref t1, .ref t2, .ref t3]) := upd_same
      generalize (upd H15 tp (.tup [.ref t1, .ref t2, .ref t3])) = H16 at B1 bp ⊢
      have S016 := (S014.trans A4).trans B1
      have EB16 := (EB14.same A4).same B1
      have S216 : Same H2 H16 := ((((((S3.trans S4).trans S5).trans S59).trans S912).trans (s13.trans s14)).trans A4).trans B1
      refine for_tup (xs := [.ref t1, .ref t2, .ref t3]) (fun j σ H17 => ∃ u12, σ = [some (.ref a), some (.ref b), some (.ref r), some (.int c), some (.ref p), some (.int i), some (.ref d1), some (.ref d2), u8, some (.ref x), some (.bl (evenB hs cs1)), some (.bl (showsB hs ts cs1 ps1)), u12] ∧ Same H16 H17)
        ⟨_, rfl, Same.refl _⟩ (fun j σ H17 _ ⟨_, _, S17⟩ => SqT.of (S17 _ _ bp)) ?_ ?_
      · rintro j y σ H17 hy ⟨u12, rfl, S17⟩
        have hy' : ∃ tt ts', y = .ref tt ∧ H16 tt = some (.lst (List.map V.int ts')) ∧ ts'.length ≠ hs.length ∧ ∀ w ∈ ts', Sm w := by
          match j, hy with
          | 0, hy =>
            refine ⟨t1, _, (Option.some.inj hy).symm, B1 _ _ k1', ?_, fun w hw => htl.sm w (List.mem_of_mem_take hw)⟩
            rw [List.length_take]; omega
          | 1, hy =>
            refine ⟨t2, _, (Option.some.inj hy).symm, B1 _ _ k2', ?_, fun w hw => ?_⟩
            · simp; omega
            · rcases List.mem_append.mp hw with e | e
              · exact htl.sm w e
              · have : w = 0 := by simpa using e
                subst this
                unfold Sm; omega
          | 2, hy => exact ⟨t3, [], (Option.some.inj hy).symm, B1 _ _ k3', by simp; omega, fun w hw => by cases hw⟩
          | j + 3, hy => simp at hy
        obtain ⟨tt, ts', rfl, et, nl, sm'⟩ := hy'
        have EB17 := EB16.same S17
        obtain ⟨dz3, ez3⟩ := EB17.ob
        refine ⟨_, rfl, x, dz3, _, rfl, ez3, rfl, _, rfl, _, rfl, x, c2, q2, r, l, tt, cs1, ps1, hs, ts', rfl, EB17, RA.same (S016.trans S17), SqL.of (S17 _ _ et), by omega, hsm.sm, sm', fun H18 s18 => ?_⟩
        refine ⟨_, _, rfl, _, rfl, ?_⟩
        rw [shows_len nl]
        exact iteF ⟨_, rfl, S17.trans s18⟩
      · rintro σ H17 ⟨u12, rfl, S17⟩
        exact ⟨_, _, _, _, _, _, _, _, rfl, S216.trans S17⟩
    · rintro σ H3 ⟨v5, v6, v7, v8, v9, v10, v11, v12, rfl, S3⟩
      exact q H3 (S2.trans S3)

end
end Ev


end
noncomputable section

set_option Elab.async false
set_option linter.all false
set_option maxRecDepth 100000
set_option maxHeartbeats 0
seal L2.PE L2.PT L2.PS L2.PSs L2.PA L2.PI L2.PG L2.PGs L2.OpR L2.UnR L2.CallR L2.IxR L2.SlR L2.MtR L2.PO L2.PSet L2.PW
namespace Ev
open PySem L2
section
variable {P : Program} {w : World} {K : PySem.W.Frag} {mg : Str → Option Value} {base : Heap} {t : Adr}
def sp_law (K : PySem.W.Frag) : Sp := fun vs H Q _ => ∃ (a : Addr) (ns : List Int), vs = [.ref a] ∧ SqL K H a (ns.map V.int) ∧ ns.length ≤ 63 ∧ ∀ H', Q (.bl true) H'
abbrev lawK : Nat := 8

/-! ### the ring's numbers lie within the bounds -/
theorem step_range (ns : List Int) (k : Nat) : -499999 ≤ stepI ns k ∧ stepI ns k ≤ 499999 := by
  have hm := most_cases ns
  have h0 := draw_lo (c := ns.getD k 0) (k := (k : Int) % 5 + 1) (m := 2 * mostI ns + 1) (by omega)
  have h1 := draw_hi (c := ns.getD k 0) (k := (k : Int) % 5 + 1) (m := 2 * mostI ns + 1) (by omega)
  unfold stepI
  omega
theorem carr_range {ns : List Int} {first : Int} (hf : -10 ≤ first ∧ first ≤ 10) : ∀ x ∈ carrI ns first, -499999 ≤ x ∧ x ≤ 499999 := by
  have h0 := draw_lo (c := ns.getD 1 0) (k := 7) (m := 3) (by decide)
  have h1 := draw_hi (c := ns.getD 1 0) (k := 7) (m := 3) (by decide)
  intro x hx
  unfold carrI at hx
  rcases List.mem_cons.mp hx with rfl | hx
  · omega
  rcases List.mem_cons.mp hx with rfl | hx
  · omega
  obtain ⟨k, _, rfl⟩ := List.mem_map.mp hx
  exact step_range ns k
theorem prev_mem {cs : List Int} {k : Nat} (h : k < cs.length) : prevI cs k ∈ cs := L2.getD_mem (Nat.mod_lt _ (by omega))
theorem houses_small {ns : List Int} {first : Int} (hf : -10 ≤ first ∧ first ≤ 10) : ∀ x ∈ housesI ns first, -999998 ≤ x ∧ x ≤ 999998 := by
  intro x hx
  unfold housesI diffI at hx
  obtain ⟨k, hk, rfl⟩ := List.mem_map.mp hx
  have hk' := List.mem_range.mp hk
  have a := carr_range hf _ (L2.getD_mem hk')
  have b := carr_range hf _ (prev_mem hk')
  omega
theorem house0 {ns : List Int} {first : Int} (hf : -10 ≤ first ∧ first ≤ 10) : -500000 ≤ (housesI ns first).getD 0 0 ∧ (housesI ns first).getD 0 0 ≤ 500000 := by
  have h0 := draw_lo (c := ns.getD 1 0) (k := 7) (m := 3) (by decide)
  have h1 := draw_hi (c := ns.getD 1 0) (k := 7) (m := 3) (by decide)
  have hl := carr_length ns first
  have e : (housesI ns first).getD 0 0 = (carrI ns first).getD 0 0 - prevI (carrI ns first) 0 := diff_get (by omega)
  have e0 : (carrI ns first).getD 0 0 = drawI (ns.getD 1 0) 7 3 - 1 := rfl
  have b := carr_range hf _ (prev_mem (cs := carrI ns first) (k := 0) (by omega))
  rw [e, e0]
  omega
def modRow : List Int := [-1, 0, 1, -500, 777]
def modI (ns : List Int) : Int := modRow.getD (drawI (ns.getD 2 0) 1 5).toNat 0
theorem mod_range (ns : List Int) : -500 ≤ modI ns ∧ modI ns ≤ 777 := by
  have h0 := draw_lo (c := ns.getD 2 0) (k := 1) (m := 5) (by decide)
  have h1 := draw_hi (c := ns.getD 2 0) (k := 1) (m := 5) (by decide)
  have : ∀ x ∈ modRow, -500 ≤ x ∧ x ≤ 777 := by decide
  exact this _ (L2.getD_mem (show (drawI (ns.getD 2 0) 1 5).toNat < 5 by omega))
def modH (ns : List Int) (first : Int) : List Int := if drawI (ns.getD 1 0) 9 5 = 0 then (housesI ns first).set 0 ((housesI ns first).getD 0 0 + modI ns) else housesI ns first
theorem modH_length (ns : List Int) (first : Int) : (modH ns first).length = ns.length + 2 := by
  unfold modH
  split
  · rw [List.length_set, houses_length]
  · exact houses_length ns first
theorem modH_small {ns : List Int} {first : Int} (hf : -10 ≤ first ∧ first ≤ 10) : Small (modH ns first) := by
  intro x hx
  have h0 := house0 (ns := ns) hf
  have h1 := mod_range ns
  unfold modH at hx
  split at hx
  · rcases List.mem_or_eq_of_mem_set hx with e | e
    · have := houses_small hf x e; omega
    · omega
  · have := houses_small hf x hx; omega
theorem Small.houses {hs : List Int} (h : Small hs) : hs.all houseB = true := by
  rw [List.all_eq_true]
  intro x hx
  have := h x hx
  unfold houseB absI
  rw [decide_eq_true_iff]
  split <;> omega

theorem ok_law (T : Txt K mg t) : FnOk P w K mg base CX0 lawK t.f_law t.d_law P_law (sp_law K) := by
  have G_law_cell_at := ok_cell_at (P := P) (w := w) (base := base) T
  have G_law_draw := ok_draw (P := P) (w := w) (base := base) T
  have G_law_houses := ok_houses (P := P) (w := w) (base := base) T
  have G_law_tolls := ok_tolls (P := P) (w := w) (base := base) T
  have G_law_says := ok_says (P := P) (w := w) (base := base) T
  have G_law_even_right := ok_even_right (P := P) (w := w) (base := base) T
  have G_law_bounds_right := ok_bounds (P := P) (w := w) (base := base) T
  have G_Ring_init__ := ok_Ring_init (P := P) (w := w) (base := base) T
  have G_Ring_houses := ok_Ring_houses (P := P) (w := w) (base := base) T
  have G_Even_init__ := ok_Even_init (P := P) (w := w) (base := base) T
  have G_Even_shows := ok_Even_shows (P := P) (w := w) (base := base) T
  have G_Uneven_init__ := ok_Un_init (P := P) (w := w) (base := base) T
  have G_Uneven_shows := ok_Un_shows (P := P) (w := w) (base := base) T
  refine T.F_law.ok sc_law (fun vs H Q E h => ?_) (fun cdv A outer s H vs Q E hr h => ?_)
  · obtain ⟨a, ns, rfl, _⟩ := h
    rfl
  · obtain ⟨a, ns, rfl, hs, hl, q⟩ := h
    refine ⟨_, (pss_cons (ps_set (i := 1) sc_law.nd rfl (by first | exact Or.inl rfl | exact Or.inr rfl) (pe_call G_law_houses (hr.mono (by decide)) rfl T.g_law_houses T.F_law_houses.kp T.B_law_houses .nil pass0 (pa_cons (pv 0) (pa_cons pe_int pa_nil se_Constant) se_Name)))
      (pss_cons (ps_if (pt_cmpR (eqK K hr.units0) (pe_call G_law_draw (hr.mono (by decide)) rfl T.g_law_draw T.F_law_draw.kp T.B_law_draw .nil pass0 (pa_cons (pe_call G_law_cell_at (hr.mono (by decide)) rfl T.g_law_cell_at T.F_law_cell_at.kp T.B_law_cell_at .nil pass0 (pa_cons (pv 0) (pa_cons pe_int pa_nil se_Constant) se_Name)) (pa_cons pe_int (pa_cons pe_int pa_nil se_Constant) se_Constant) se_Call)) pe_int (nomark _))
      (pss_one (ps_asg (pe_op (op_add.or op_cat) (pe_ix (ixK K) (pv 1) pe_int (fun _ _ => rfl)) (pe_ix (ixK K) (pe_tup (pa_cons (pe_un un_neg pe_int) (pa_cons pe_int (pa_cons pe_int (pa_cons (pe_un un_neg pe_int) (pa_cons pe_int pa_nil se_Constant) se_UnaryOp) se_Constant) se_Constant) se_UnaryOp)) (pe_call G_law_draw (hr.mono (by decide)) rfl T.g_law_draw T.F_law_draw.kp T.B_law_draw .nil pass0 (pa_cons (pe_call G_law_cell_at (hr.mono (by decide)) rfl T.g_law_cell_at T.F_law_cell_at.kp T.B_law_cell_at .nil pass0 (pa_cons (pv 0) (pa_cons pe_int pa_nil se_Constant) se_Name)) (pa_cons pe_int (pa_cons pe_int pa_nil se_Constant) se_Constant) se_Call)) (fun _ _ => rfl))) (pg_sub (pv 1) pe_int set_list)))
      pss_nil)
      (pss_cons (ps_set (i := 2) sc_law.nd rfl (by first | exact Or.inl rfl | exact Or.inr rfl) (pe_call G_law_tolls (hr.mono (by decide)) rfl T.g_law_tolls T.F_law_tolls.kp T.B_law_tolls .nil pass0 (pa_cons (pv 0) (pa_cons (pe_callB (lenK K) (by rfl) T.b_len bt_len (pa_cons (pv 1) pa_nil se_Name)) pa_nil se_Call) se_Name)))
      (pss_cons (ps_set (i := 3) sc_law.nd rfl (by first | exact Or.inl rfl | exact Or.inr rfl) (pe_make T.M_Ring G_Ring_init__ (hr.mono (by decide)) rfl T.g_Ring T.B_Ring_init__ .nil pass0 (pa_cons (pv 1) pa_nil se_Name)))
      (pss_cons (ps_for PassesOwn.never rfl (pi_range1 rfl T.b_range (pa_cons pe_int pa_nil se_Constant)) (pg_name (i := 4) sc_law.nd rfl (by first | exact Or.inl rfl | exact Or.inr rfl))
      (pss_cons (ps_set (i := 5) sc_law.nd rfl (by first | exact Or.inl rfl | exact Or.inr rfl) (pe_op (op_add.or op_cat) (pe_op (op_add.or op_cat) (pe_call G_law_cell_at (hr.mono (by decide)) rfl T.g_law_cell_at T.F_law_cell_at.kp T.B_law_cell_at .nil pass0 (pa_cons (pv 0) (pa_cons (pv 4) pa_nil se_Name) se_Name)) (pe_op (op_mul.or op_rep) pe_int (pv 4))) (pe_op (op_mul.or op_rep) pe_int (pe_call G_law_cell_at (hr.mono (by decide)) rfl T.g_law_cell_at T.F_law_cell_at.kp T.B_law_cell_at .nil pass0 (pa_cons (pv 0) (pa_cons (pe_op (op_add.or op_cat) (pv 4) pe_int) pa_nil se_BinOp) se_Name)))))
      (pss_one (ps_if (PW.pt (pw_or (pt_not (pt_val (pe_call G_law_even_right (hr.mono (by decide)) rfl T.g_law_even_right T.F_law_even_right.kp T.B_law_even_right .nil pass0 (pa_cons (pv 1) (pa_cons (pv 2) (pa_cons (pv 3) (pa_cons (pv 5) pa_nil se_Name) se_Name) se_Name) se_Name)))) (pw_or1 (pt_not (pt_val (pe_call G_law_bounds_right (hr.mono (by decide)) rfl T.g_law_bounds_right T.F_law_bounds_right.kp T.B_law_bounds_right .nil pass0 (pa_cons (pv 1) (pa_cons (pv 3) (pa_cons (pv 5) pa_nil se_Name) se_Name) se_Name)))))))
      (pss_one (ps_ret pe_bl))
      pss_nil))))
      (pss_cons (ps_par (i := 6) (j := 7) rfl sc_law.nd rfl rfl (by decide) rfl rfl (pa_cons (pe_make T.M_Ring G_Ring_init__ (hr.mono (by decide)) rfl T.g_Ring T.B_Ring_init__ .nil pass0 (pa_cons (pe_lst (pa_cons pe_int (pa_cons pe_int (pa_cons pe_int pa_nil se_Constant) se_Constant) se_Constant)) pa_nil se_List)) (pa_cons (pe_lst (pa_cons pe_int (pa_cons pe_int (pa_cons pe_int pa_nil se_Constant) se_Constant) se_Constant)) pa_nil se_List) se_Call) (by with_unfolding_all rfl))
      (pss_cons (ps_set (i := 8) sc_law.nd rfl (by first | exact Or.inl rfl | exact Or.inr rfl) (pe_lst (pa_cons (pe_tup (pa_cons (pe_lst (pa_cons pe_int (pa_cons pe_int (pa_cons pe_int pa_nil se_Constant) se_Constant) se_Constant)) (pa_cons pe_bl pa_nil se_Constant) se_List)) (pa_cons (pe_tup (pa_cons (pe_lst (pa_cons pe_int (pa_cons pe_int (pa_cons pe_int pa_nil se_Constant) se_Constant) se_Constant)) (pa_cons pe_bl pa_nil se_Constant) se_List)) (pa_cons (pe_tup (pa_cons (pe_lst (pa_cons pe_int (pa_cons pe_int (pa_cons pe_int pa_nil se_Constant) se_Constant) se_Constant)) (pa_cons pe_bl pa_nil se_Constant) se_List)) (pa_cons (pe_tup (pa_cons (pe_lst (pa_cons pe_int (pa_cons pe_int (pa_cons pe_int pa_nil se_Constant) se_Constant) se_Constant)) (pa_cons pe_bl pa_nil se_Constant) se_List)) (pa_cons (pe_tup (pa_cons (pe_lst (pa_cons pe_int (pa_cons pe_int (pa_cons pe_int pa_nil se_Constant) se_Constant) se_Constant)) (pa_cons pe_bl pa_nil se_Constant) se_List)) pa_nil se_Tuple) se_Tuple) se_Tuple) se_Tuple) se_Tuple)))
      (pss_cons (ps_for PassesOwn.never rfl (piL K (pv 8)) (pgT K (n := 2) rfl (pgs_cons (pg_name (i := 9) sc_law.nd rfl (by first | exact Or.inl rfl | exact Or.inr rfl)) (pgs_cons (pg_name (i := 10) sc_law.nd rfl (by first | exact Or.inl rfl | exact Or.inr rfl)) pgs_nil)))
      (pss_one (ps_if (pt_not (pt_val (pe_call G_law_says (hr.mono (by decide)) rfl T.g_law_says T.F_law_says.kp T.B_law_says .nil pass0 (pa_cons (pe_meth (pe_make T.M_Even G_Even_init__ (hr.mono (by decide)) rfl T.g_Even T.B_Even_init__ .nil pass0 (pa_cons (pv 7) (pa_cons (pv 9) pa_nil se_Name) se_Name)) T.cl_Even T.m_Even_shows G_Even_shows (hr.mono (by decide)) T.B_Even_shows .nil pass0 (pa_cons (pv 6) (pa_cons (pe_lst (pa_cons pe_int (pa_cons pe_int (pa_cons pe_int pa_nil se_Constant) se_Constant) se_Constant)) pa_nil se_List) se_Name)) (pa_cons (pv 10) pa_nil se_Name) se_Call))))
      (pss_one (ps_ret pe_bl))
      pss_nil)))
      (pss_cons (ps_for PassesOwn.never rfl (piT K (pe_tup (pa_cons pe_int (pa_cons (pe_callB (sumK K rfl) (by rfl) T.b_sum bt_sum (pa_cons (pv 1) pa_nil se_Name)) (pa_cons pe_int (pa_cons (pe_un un_neg pe_int) (pa_cons (pe_op (op_add.or op_cat) (pe_callB (sumK K rfl) (by rfl) T.b_sum bt_sum (pa_cons (pv 1) pa_nil se_Name)) pe_int) pa_nil se_BinOp) se_UnaryOp) se_Constant) se_Call) se_Constant))) (pg_name (i := 11) sc_law.nd rfl (by first | exact Or.inl rfl | exact Or.inr rfl))
      (pss_one (ps_if (pt_not (pt_val (pe_call G_law_says (hr.mono (by decide)) rfl T.g_law_says T.F_law_says.kp T.B_law_says .nil pass0 (pa_cons (pe_meth (pe_make T.M_Uneven G_Uneven_init__ (hr.mono (by decide)) rfl T.g_Uneven T.B_Uneven_init__ .nil pass0 (pa_cons (pv 11) pa_nil se_Name)) T.cl_Uneven T.m_Uneven_shows G_Uneven_shows (hr.mono (by decide)) T.B_Uneven_shows .nil pass0 (pa_cons (pv 3) (pa_cons (pv 2) pa_nil se_Name) se_Name)) (pa_cons (pe_and (pe_cmpR (neK K hr.units0) (pv 11) pe_int (nomark _)) (pe_one (pe_cmpR (eqK K hr.units0) (pv 11) (pe_callB (sumK K rfl) (by rfl) T.b_sum bt_sum (pa_cons (pv 1) pa_nil se_Name)) (nomark _)))) pa_nil se_BoolOp) se_Call))))
      (pss_one (ps_ret pe_bl))
      pss_nil)))
      (pss_one (ps_ret (pe_cmpR (eqK K hr.units0) (pe_meth0 (pv 3) T.cl_Ring T.m_Ring_houses G_Ring_houses (hr.mono (by decide)) T.B_Ring_houses .nil pass0) (pv 1) (nomark _))))))))))))), ?_⟩
    refine ⟨_, rfl, a, ns, 4, rfl, hs, hl, fun D H1 hD s1 e1 => ?_⟩
    have hlen0 := houses_length ns 4
    dsimp only [gName]
    refine tSeq_mid (fun σ' H' => ∃ v2, σ' = [some (.ref a), some (.ref D), v2, none, none, none, none, none, none, none, none, none] ∧ Same H H' ∧ H' D = some (.lst ((modH ns 4).map V.int))) (fun N hN => ?_) ?_
    · refine ⟨_, rfl, a, ns, 1, rfl, s1.seq hs, by decide, ?_⟩
      refine ⟨_, _, _, rfl, by decide, fun H2 s2 => .inl ⟨rfl, _, rfl, ?_⟩⟩
      have S2 := s1.trans s2
      have e2 := s2 _ _ e1
      by_cases hz : drawI (ns.getD 1 0) 9 5 = 0
      · refine (if_pos (t_eq.mpr hz)).mpr ?_
        refine ⟨_, rfl, .inl ⟨D, _, _, _, rfl, rfl, SqL.of e2, atI_ints (by decide) (by omega), ?_⟩⟩
        refine ⟨_, rfl, _, rfl, by show 5 ≤ sizeLine; decide, fun p hp => ?_⟩
        have S3 := S2.upd (o := .tup (modRow.map V.int)) (S2.free hp)
        refine ⟨_, rfl, a, ns, 2, rfl, S3.seq hs, by decide, ?_⟩
        refine ⟨_, _, _, rfl, by decide, fun H4 s4 => ?_⟩
        have e4 : H4 p = some (.tup (modRow.map V.int)) := s4 _ _ upd_same
        refine .inr ⟨p, modRow.map V.int, _, _, rfl, rfl, SqT.of e4, atI_ints (draw_lo (by decide)) (draw_hi (by decide)), ?_⟩
        refine .inl ⟨_, _, rfl, rfl, ?_⟩
        have eD : H4 D = some (.lst ((housesI ns 4).map V.int)) := s4 _ _ ((same_upd hp) _ _ e2)
        refine ⟨_, rfl, D, _, _, 0, rfl, rfl, eD, ?_, ?_⟩
        · unfold ixN
          rw [List.length_map, if_pos (by decide), if_pos (by omega)]
          rfl
        · refine hN _ _ ⟨_, rfl, (S3.trans s4).upd hD, ?_⟩
          rw [upd_same, modH, if_pos hz, List.map_set]
          rfl
      · refine (if_neg (fun z => hz (t_eq.mp z))).mpr ?_
        refine hN _ _ ⟨_, rfl, S2, ?_⟩
        rw [modH, if_neg hz]
        exact e2
    rintro σ2 H2 ⟨v2, rfl, S2, e2⟩
    have hlen := modH_length ns 4
    have hsm := modH_small (ns := ns) (first := 4) (by decide)
    generalize modH ns 4 = hs' at e2 hlen hsm
    -- tolls, ring
    refine ⟨_, rfl, _, rfl, D, _, rfl, .inl (SqL.of e2), ?_⟩
    refine ⟨a, ns, (hs'.map V.int).length, rfl, S2.seq hs, hl, by rw [List.length_map]; omega, fun B H3 hB s3 e3 => ?_⟩
    rw [List.length_map] at e3
    have htl : Toll (tollsI ns hs'.length) := tolls_range
    have ltl := tolls_length ns hs'.length
    generalize tollsI ns hs'.length = ts at e3 htl ltl
    have eD3 := s3 _ _ e2
    refine ⟨_, rfl, fun r dr hr' hdr ner => ⟨r, D, dr, hs', rfl, upd_same, ?_, by omega, by omega, hsm.houses, fun l H4 hl4 bt RA => ⟨rfl, ?_⟩⟩⟩
    · rw [upd_ne (ne_of_none eD3 hr'), upd_ne (ne_of_none eD3 hdr)]; exact eD3
    have s4 := made_same hr' hdr bt
    have S4 := (S2.trans s3).trans s4
    have eD4 := s4 _ _ eD3
    have eB4 := s4 _ _ e3
    refine ⟨3, rfl, by decide, by decide, ?_⟩
    refine for_range0 (n := 3) (fun i σ H5 => ∃ v4 v5, σ = [some (.ref a), some (.ref D), some (.ref B), some (.ref r), v4, v5, none, none, none, none, none, none] ∧ Same H4 H5) ⟨_, _, rfl, Same.refl _⟩ ?_ ?_
    · rintro i σ H5 hi ⟨v4, v5, rfl, S5⟩
      have S05 := S4.trans S5
      refine ⟨_, rfl, _, rfl, a, ns, i, rfl, S05.seq hs, by omega, _, rfl, .inl ⟨_, _, rfl, rfl, .inl ⟨by decide, by decide⟩, .inl ⟨_, _, rfl, rfl, ?_⟩⟩⟩
      refine ⟨_, rfl, _, rfl, .inl ⟨_, _, rfl, rfl, a, ns, _, rfl, S05.seq hs, by omega, .inl ⟨_, _, rfl, rfl, .inl ⟨by decide, by decide⟩, .inl ⟨_, _, rfl, rfl, ?_⟩⟩⟩⟩
      refine ⟨_, rfl, _, rfl, _, rfl, _, rfl, D, B, r, l, hs', ts, _, rfl, S5 _ _ eD4, S5 _ _ eB4, RA.same S5, by omega, by omega, ltl, hsm, htl, fun H6 s6 => ⟨_, rfl, iteF ?_⟩⟩
      refine ⟨_, rfl, _, rfl, _, rfl, D, r, l, hs', _, rfl, s6 _ _ (S5 _ _ eD4), (RA.same S5).same s6, by omega, by omega, fun H7 s7 => ⟨_, rfl, iteF ?_⟩⟩
      exact ⟨_, _, rfl, (S5.trans s6).trans s7⟩
    rintro σ5 H5 ⟨v4, v5, rfl, S5⟩
    -- still, nothing = (Ring([0, 0, 0]), [0, 0, 0])
    refine ⟨by show 3 ≤ sizeLine; decide, fun y hy => fun r2 dr2 hr2 hdr2 ner2 => ⟨r2, y, dr2, [0, 0, 0], rfl, upd_same, ?_, by decide, by decide, by decide, fun l2 H6 hl2 bt2 RA2 => ⟨rfl, ⟨by show 3 ≤ sizeLine; decide, fun z hz => ⟨_, _, rfl, ?_⟩⟩⟩⟩⟩
    · rw [upd_ne (ne_of_none upd_same hr2), upd_ne (ne_of_none upd_same hdr2), upd_same]
      rfl
    have S6 : Same H5 H6 := (same_upd hy).trans (made_same hr2 hdr2 bt2)
    have S7 : Same H6 (upd H6 z (.lst [V.int 0, V.int 0, V.int 0])) := same_upd hz
    have ez : (upd H6 z (.lst [V.int 0, V.int 0, V.int 0])) z = some (.lst (([0, 0, 0] : List Int).map V.int)) := upd_same
    generalize (upd H6 z (.lst [V.int 0, V.int 0, V.int 0])) = H7 at S7 ez ⊢
    have S57 : Same H4 H7 := (S5.trans S6).trans S7
    have RA7 := RA2.same S7
    -- some = [..]
    refine ⟨by show 3 ≤ sizeLine; decide, fun y1 hy1 => ⟨by show 2 ≤ sizeLine; decide, fun u1 hu1 => ?_⟩⟩
    have k1 : Same H7 (upd (upd H7 y1 (.lst [V.int 0, V.int 1, V.int 2])) u1 (.tup [.ref y1, .bl false])) := (same_upd hy1).upd ((same_upd hy1).free hu1)
    have a1 : (upd (upd H7 y1 (.lst [V.int 0, V.int 1, V.int 2])) u1 (.tup [.ref y1, .bl false])) y1 = some (.lst (([0, 1, 2] : List Int).map V.int)) := (same_upd hu1) _ _ upd_same
    have b1 : (upd (upd H7 y1 (.lst [V.int 0, V.int 1, V.int 2])) u1 (.tup [.ref y1, .bl false])) u1 = some (.tup [.ref y1, .bl false]) := upd_same
    generalize (upd (upd H7 y1 (.lst [V.int 0, V.int 1, V.int 2])) u1 (.tup [.ref y1, .bl false])) = K1 at k1 a1 b1 ⊢
    refine ⟨by show 3 ≤ sizeLine; decide, fun y2 hy2 => ⟨by show 2 ≤ sizeLine; decide, fun u2 hu2 => ?_⟩⟩
    have k2 : Same K1 (upd (upd K1 y2 (.lst [V.int 2, V.int 1, V.int 0])) u2 (.tup [.ref y2, .bl false])) := (same_upd hy2).upd ((same_upd hy2).free hu2)
    have a2 : (upd (upd K1 y2 (.lst [V.int 2, V.int 1, V.int 0])) u2 (.tup [.ref y2, .bl false])) y2 = some (.lst (([2, 1, 0] : List Int).map V.int)) := (same_upd hu2) _ _ upd_same
    have b2 : (upd (upd K1 y2 (.lst [V.int 2, V.int 1, V.int 0])) u2 (.tup [.ref y2, .bl false])) u2 = some (.tup [.ref y2, .bl false]) := upd_same
    generalize (upd (upd K1 y2 (.lst [V.int 2, V.int 1, V.int 0])) u2 (.tup [.ref y2, .bl false])) = K2 at k2 a2 b2 ⊢
    refine ⟨by show 3 ≤ sizeLine; decide, fun y3 hy3 => ⟨by show 2 ≤ sizeLine; decide, fun u3 hu3 => ?_⟩⟩
    have k3 : Same K2 (upd (upd K2 y3 (.lst [V.int 0, V.int 1, V.int 1])) u3 (.tup [.ref y3, .bl true])) := (same_upd hy3).upd ((same_upd hy3).free hu3)
    have a3 : (upd (upd K2 y3 (.lst [V.int 0, V.int 1, V.int 1])) u3 (.tup [.ref y3, .bl true])) y3 = some (.lst (([0, 1, 1] : List Int).map V.int)) := (same_upd hu3) _ _ upd_same
    have b3 : (upd (upd K2 y3 (.lst [V.int 0, V.int 1, V.int 1])) u3 (.tup [.ref y3, .bl true])) u3 = some (.tup [.ref y3, .bl true]) := upd_same
    generalize (upd (upd K2 y3 (.lst [V.int 0, V.int 1, V.int 1])) u3 (.tup [.ref y3, .bl true])) = K3 at k3 a3 b3 ⊢
    refine ⟨by show 3 ≤ sizeLine; decide, fun y4 hy4 => ⟨by show 2 ≤ sizeLine; decide, fun u4 hu4 => ?_⟩⟩
    have k4 : Same K3 (upd (upd K3 y4 (.lst [V.int 5, V.int 5, V.int 5])) u4 (.tup [.ref y4, .bl true])) := (same_upd hy4).upd ((same_upd hy4).free hu4)
    have a4 : (upd (upd K3 y4 (.lst [V.int 5, V.int 5, V.int 5])) u4 (.tup [.ref y4, .bl true])) y4 = some (.lst (([5, 5, 5] : List Int).map V.int)) := (same_upd hu4) _ _ upd_same
    have b4 : (upd (upd K3 y4 (.lst [V.int 5, V.int 5, V.int 5])) u4 (.tup [.ref y4, .bl true])) u4 = some (.tup [.ref y4, .bl true]) := upd_same
    generalize (upd (upd K3 y4 (.lst [V.int 5, V.int 5, V.int 5])) u4 (.tup [.ref y4, .bl true])) = K4 at k4 a4 b4 ⊢
    refine ⟨by show 3 ≤ sizeLine; decide, fun y5 hy5 => ⟨by show 2 ≤ sizeLine; decide, fun u5 hu5 => ?_⟩⟩
    have k5 : Same K4 (upd (upd K4 y5 (.lst [V.int 0, V.int 0, V.int 2])) u5 (.tup [.ref y5, .bl false])) := (same_upd hy5).upd ((same_upd hy5).free hu5)
    have a5 : (upd (upd K4 y5 (.lst [V.int 0, V.int 0, V.int 2])) u5 (.tup [.ref y5, .bl false])) y5 = some (.lst (([0, 0, 2] : List Int).map V.int)) := (same_upd hu5) _ _ upd_same
    have b5 : (upd (upd K4 y5 (.lst [V.int 0, V.int 0, V.int 2])) u5 (.tup [.ref y5, .bl false])) u5 = some (.tup [.ref y5, .bl false]) := upd_same
    generalize (upd (upd K4 y5 (.lst [V.int 0, V.int 0, V.int 2])) u5 (.tup [.ref y5, .bl false])) = K5 at k5 a5 b5 ⊢
    refine ⟨by show 5 ≤ sizeLine; decide, fun sm hsm' => ?_⟩
    have B1 : Same K5 (upd K5 sm (.lst [.ref u1, .ref u2, .ref u3, .ref u4, .ref u5])) := same_upd hsm'
    have bs : (upd K5 sm (.lst [.ref u1, .ref u2, .ref u3, .ref u4, .ref u5])) sm = some (.lst [.ref u1, .ref u2, .ref u3, .ref u4, .ref u5]) := upd_same
    generalize (upd K5 sm (.lst [.ref u1, .ref u2, .ref u3, .ref u4, .ref u5])) = H8 at B1 bs ⊢
    have c4 := k5.trans B1
    have c3 := k4.trans c4
    have c2 := k3.trans c3
    have c1 := k2.trans c2
    have S78 := k1.trans c1
    have RA8 := RA7.same S78
    have ez8 := S78 _ _ ez
    -- for prices, due in some
    refine ⟨_, rfl, sm, rfl, ⟨_, SqL.of bs⟩, ?_⟩
    refine for_list (xs := [.ref u1, .ref u2, .ref u3, .ref u4, .ref u5]) (fun j σ H9 => ∃ v9 v10, σ = [some (.ref a), some (.ref D), some (.ref B), some (.ref r), v4, v5, some (.ref r2), some (.ref z), some (.ref sm), v9, v10, none] ∧ Same H8 H9)
      ⟨_, _, rfl, Same.refl _⟩ (fun j σ H9 _ ⟨_, _, _, S9⟩ => SqL.of (S9 _ _ bs)) ?_ ?_
    · rintro j x σ H9 hx ⟨v9, v10, rfl, S9⟩
      have hx' : ∃ uu yy ps b, x = .ref uu ∧ H8 uu = some (.tup [.ref yy, .bl b]) ∧ H8 yy = some (.lst (List.map V.int ps)) ∧ showsB [0, 0, 0] [1, 1, 1] [0, 0, 0] ps = b := by
        match j, hx with
        | 0, hx => exact ⟨u1, y1, [0, 1, 2], false, (Option.some.inj hx).symm, c1 _ _ b1, c1 _ _ a1, by decide⟩
        | 1, hx => exact ⟨u2, y2, [2, 1, 0], false, (Option.some.inj hx).symm, c2 _ _ b2, c2 _ _ a2, by decide⟩
        | 2, hx => exact ⟨u3, y3, [0, 1, 1], true, (Option.some.inj hx).symm, c3 _ _ b3, c3 _ _ a3, by decide⟩
        | 3, hx => exact ⟨u4, y4, [5, 5, 5], true, (Option.some.inj hx).symm, c4 _ _ b4, c4 _ _ a4, by decide⟩
        | 4, hx => exact ⟨u5, y5, [0, 0, 2], false, (Option.some.inj hx).symm, B1 _ _ b5, B1 _ _ a5, by decide⟩
        | j + 5, hx => simp at hx
      obtain ⟨uu, yy, ps, b, rfl, eu, ey, esh⟩ := hx'
      refine ⟨uu, _, rfl, SqT.of (S9 _ _ eu), rfl, _, _, rfl, _, _, rfl, rfl, ?_⟩
      refine ⟨_, rfl, _, rfl, fun x dx hx hdx nex => ⟨x, z, yy, dx, [0, 0, 0], ps, rfl, upd_same, SqL.of ?_, SqL.of ?_, fun cc qq H10 hcc hqq nq bt3 EA => ⟨rfl, ?_⟩⟩⟩
      · have e := S9 _ _ ez8
        rw [upd_ne (ne_of_none e hx), upd_ne (ne_of_none e hdx)]; exact e
      · have e := S9 _ _ ey
        rw [upd_ne (ne_of_none e hx), upd_ne (ne_of_none e hdx)]; exact e
      have S10 := made_same hx hdx bt3
      obtain ⟨dy, ex⟩ := EA.ob
      refine ⟨x, dy, _, rfl, ex, rfl, _, rfl, by show 3 ≤ sizeLine; decide, fun o ho => ?_⟩
      refine ⟨x, cc, qq, r2, l2, o, [0, 0, 0], ps, [0, 0, 0], [1, 1, 1], rfl, EA.same (same_upd ho), ((RA8.same S9).same S10).same (same_upd ho), SqL.of upd_same, by decide, by unfold Sm; decide, by unfold Sm; decide, fun H11 s11 => ?_⟩
      rw [esh]
      refine ⟨_, rfl, _, _, rfl, _, rfl, ?_⟩
      rw [beq_self_eq_true]
      exact iteF ⟨_, _, rfl, (S9.trans S10).trans ((same_upd ho).trans s11)⟩
    rintro σ9 H9 ⟨v9, v10, rfl, S9⟩
    have S49 : Same H4 H9 := (S57.trans S78).trans S9
    -- for total in (..)
    refine ⟨_, rfl, D, hs', rfl, SqL.of (S49 _ _ eD4), _, rfl, _, rfl, D, hs', rfl, SqL.of (S49 _ _ eD4), .inl ⟨_, _, rfl, rfl, by show 5 ≤ sizeLine; decide, fun tp htp => ?_⟩⟩
    have B2 : Same H9 (upd H9 tp (.tup (([0, hs'.sum, 1, -1, hs'.sum + 1] : List Int).map V.int))) := same_upd htp
    have bt : (upd H9 tp (.tup (([0, hs'.sum, 1, -1, hs'.sum + 1] : List Int).map V.int))) tp = some (.tup (([0, hs'.sum, 1, -1, hs'.sum + 1] : List Int).map V.int)) := upd_same
    refine ⟨tp, rfl, ⟨_, SqT.of upd_same⟩, ?_⟩
    refine for_tup (xs := ([0, hs'.sum, 1, -1, hs'.sum + 1] : List Int).map V.int) (fun j σ H10 => ∃ v11, σ = [some (.ref a), some (.ref D), some (.ref B), some (.ref r), v4, v5, some (.ref r2), some (.ref z), some (.ref sm), v9, v10, v11] ∧ Same (upd H9 tp (.tup (([0, hs'.sum, 1, -1, hs'.sum + 1] : List Int).map V.int))) H10)
      ⟨_, rfl, Same.refl _⟩ (fun j σ H10 _ ⟨_, _, S10⟩ => SqT.of (S10 _ _ bt)) ?_ ?_
    · rintro j x σ H10 hx ⟨v11, rfl, S10⟩
      obtain ⟨n, en, rfl⟩ := map_int_get hx
      have S410 : Same H4 H10 := (S49.trans B2).trans S10
      refine ⟨_, rfl, fun x dx hx hdx nex => ⟨x, dx, n, rfl, upd_same, fun H11 bt3 UA => ⟨rfl, ?_⟩⟩⟩
      have S11 := made_same hx hdx bt3
      obtain ⟨dy, ex⟩ := id UA.ob
      refine ⟨x, dy, _, rfl, ex, rfl, _, rfl, _, rfl, x, r, l, _, n, hs', rfl, UA, (RA.same S410).same S11, ?_⟩
      have S411 := S410.trans S11
      refine ⟨_, rfl, .inl ⟨rfl, _, rfl, ?_⟩⟩
      by_cases hn : n = 0
      · refine (if_neg (fun y => t_ne.mp y hn)).mpr ⟨_, _, rfl, _, rfl, ?_⟩
        have e : unB hs' n = false := by unfold unB; rw [decide_eq_false (fun y : n ≠ 0 => y hn)]; rfl
        rw [e]
        exact iteF ⟨_, rfl, S10.trans S11⟩
      · refine (if_pos (t_ne.mpr hn)).mpr ⟨_, rfl, _, rfl, D, hs', rfl, SqL.of (S411 _ _ eD4), .inl ⟨rfl, _, _, rfl, _, rfl, ?_⟩⟩
        have e : unB hs' n = decide (n = hs'.sum) := by unfold unB; rw [decide_eq_true hn]; rfl
        rw [e, d_int, beq_self_eq_true]
        exact iteF ⟨_, rfl, S10.trans S11⟩
    · rintro σ10 H10 ⟨v11, rfl, S10⟩
      have S410 : Same H4 H10 := (S49.trans B2).trans S10
      obtain ⟨⟨dr5, er5⟩, el5⟩ := RA.same S410
      refine ⟨_, rfl, r, dr5, _, rfl, er5, rfl, r, l, hs', rfl, RA.same S410, fun E1 H11 hE1 s11 e11 => ?_⟩
      refine ⟨_, rfl, .inr ⟨E1, D, _, _, rfl, rfl, SqL.of e11, SqL.of (s11 _ _ (S410 _ _ eD4)), by simp [flatV], by simp [flatV], ?_⟩⟩
      rw [eqVs_ints, decide_eq_true rfl]
      exact q H11

end
end Ev


end

set_option Elab.async false
set_option linter.all false
set_option maxRecDepth 100000
set_option maxHeartbeats 0
namespace Ev
open PySem L2
section

end
theorem bind1 {K : PySem.W.Frag} {f : Addr} {fd : FuncData} (F : Fun K "law" "law" s_law f fd) (s : Shared) (v : Value) : BindsTo s fd ⟨[v], []⟩ [("_law_script", v)] := by
  obtain ⟨oc, od, kV, doc, pm, an, cdv, ct, osl, rfl, lk, hcd⟩ := F.ex
  exact .of_eq rfl
theorem txt_mk {K : PySem.W.Frag} {h : Heap} {mg : Str → Option Value} (X : K.In h) (G : h.Ns mainGlobals mg)
    {f_is_evened : Addr} {oc_is_evened kV_is_evened dc_is_evened pm_is_evened cd_is_evened ct_is_evened : Value} {od_is_evened an_is_evened : Option Addr} {sl_is_evened : Array (Option Value)}
    {f_keep_to_tolls : Addr} {oc_keep_to_tolls kV_keep_to_tolls dc_keep_to_tolls pm_keep_to_tolls cd_keep_to_tolls ct_keep_to_tolls : Value} {od_keep_to_tolls an_keep_to_tolls : Option Addr} {sl_keep_to_tolls : Array (Option Value)}
    {f_cost : Addr} {oc_cost kV_cost dc_cost pm_cost cd_cost ct_cost : Value} {od_cost an_cost : Option Addr} {sl_cost : Array (Option Value)}
    {f_worth : Addr} {oc_worth kV_worth dc_worth pm_worth cd_worth ct_worth : Value} {od_worth an_worth : Option Addr} {sl_worth : Array (Option Value)}
    {f_Even_init__ : Addr} {oc_Even_init__ kV_Even_init__ dc_Even_init__ pm_Even_init__ cd_Even_init__ ct_Even_init__ : Value} {od_Even_init__ an_Even_init__ : Option Addr} {sl_Even_init__ : Array (Option Value)}
    {f_Even_evens : Addr} {oc_Even_evens kV_Even_evens dc_Even_evens pm_Even_evens cd_Even_evens ct_Even_evens : Value} {od_Even_evens an_Even_evens : Option Addr} {sl_Even_evens : Array (Option Value)}
    {f_Even_shows : Addr} {oc_Even_shows kV_Even_shows dc_Even_shows pm_Even_shows cd_Even_shows ct_Even_shows : Value} {od_Even_shows an_Even_shows : Option Addr} {sl_Even_shows : Array (Option Value)}
    {f_Uneven_init__ : Addr} {oc_Uneven_init__ kV_Uneven_init__ dc_Uneven_init__ pm_Uneven_init__ cd_Uneven_init__ ct_Uneven_init__ : Value} {od_Uneven_init__ an_Uneven_init__ : Option Addr} {sl_Uneven_init__ : Array (Option Value)}
    {f_Uneven_shows : Addr} {oc_Uneven_shows kV_Uneven_shows dc_Uneven_shows pm_Uneven_shows cd_Uneven_shows ct_Uneven_shows : Value} {od_Uneven_shows an_Uneven_shows : Option Addr} {sl_Uneven_shows : Array (Option Value)}
    {f_Within_init__ : Addr} {oc_Within_init__ kV_Within_init__ dc_Within_init__ pm_Within_init__ cd_Within_init__ ct_Within_init__ : Value} {od_Within_init__ an_Within_init__ : Option Addr} {sl_Within_init__ : Array (Option Value)}
    {f_Within_shows : Addr} {oc_Within_shows kV_Within_shows dc_Within_shows pm_Within_shows cd_Within_shows ct_Within_shows : Value} {od_Within_shows an_Within_shows : Option Addr} {sl_Within_shows : Array (Option Value)}
    {f_Stretch_init__ : Addr} {oc_Stretch_init__ kV_Stretch_init__ dc_Stretch_init__ pm_Stretch_init__ cd_Stretch_init__ ct_Stretch_init__ : Value} {od_Stretch_init__ an_Stretch_init__ : Option Addr} {sl_Stretch_init__ : Array (Option Value)}
    {f_Stretch_shows : Addr} {oc_Stretch_shows kV_Stretch_shows dc_Stretch_shows pm_Stretch_shows cd_Stretch_shows ct_Stretch_shows : Value} {od_Stretch_shows an_Stretch_shows : Option Addr} {sl_Stretch_shows : Array (Option Value)}
    {f_is_whole_number : Addr} {oc_is_whole_number kV_is_whole_number dc_is_whole_number pm_is_whole_number cd_is_whole_number ct_is_whole_number : Value} {od_is_whole_number an_is_whole_number : Option Addr} {sl_is_whole_number : Array (Option Value)}
    {f_is_house : Addr} {oc_is_house kV_is_house dc_is_house pm_is_house cd_is_house ct_is_house : Value} {od_is_house an_is_house : Option Addr} {sl_is_house : Array (Option Value)}
    {f_are_houses : Addr} {oc_are_houses kV_are_houses dc_are_houses pm_are_houses cd_are_houses ct_are_houses : Value} {od_are_houses an_are_houses : Option Addr} {sl_are_houses : Array (Option Value)}
    {f_Ring_init__ : Addr} {oc_Ring_init__ kV_Ring_init__ dc_Ring_init__ pm_Ring_init__ cd_Ring_init__ ct_Ring_init__ : Value} {od_Ring_init__ an_Ring_init__ : Option Addr} {sl_Ring_init__ : Array (Option Value)}
    {f_Ring_houses : Addr} {oc_Ring_houses kV_Ring_houses dc_Ring_houses pm_Ring_houses cd_Ring_houses ct_Ring_houses : Value} {od_Ring_houses an_Ring_houses : Option Addr} {sl_Ring_houses : Array (Option Value)}
    {f_Ring_whole : Addr} {oc_Ring_whole kV_Ring_whole dc_Ring_whole pm_Ring_whole cd_Ring_whole ct_Ring_whole : Value} {od_Ring_whole an_Ring_whole : Option Addr} {sl_Ring_whole : Array (Option Value)}
    {f_is_toll : Addr} {oc_is_toll kV_is_toll dc_is_toll pm_is_toll cd_is_toll ct_is_toll : Value} {od_is_toll an_is_toll : Option Addr} {sl_is_toll : Array (Option Value)}
    {f_tolls_for : Addr} {oc_tolls_for kV_tolls_for dc_tolls_for pm_tolls_for cd_tolls_for ct_tolls_for : Value} {od_tolls_for an_tolls_for : Option Addr} {sl_tolls_for : Array (Option Value)}
    {f_along : Addr} {oc_along kV_along dc_along pm_along cd_along ct_along : Value} {od_along an_along : Option Addr} {sl_along : Array (Option Value)}
    {f_lowest_middle : Addr} {oc_lowest_middle kV_lowest_middle dc_lowest_middle pm_lowest_middle cd_lowest_middle ct_lowest_middle : Value} {od_lowest_middle an_lowest_middle : Option Addr} {sl_lowest_middle : Array (Option Value)}
    {f_least_over_last : Addr} {oc_least_over_last kV_least_over_last dc_least_over_last pm_least_over_last cd_least_over_last ct_least_over_last : Value} {od_least_over_last an_least_over_last : Option Addr} {sl_least_over_last : Array (Option Value)}
    {f_full_step : Addr} {oc_full_step kV_full_step dc_full_step pm_full_step cd_full_step ct_full_step : Value} {od_full_step an_full_step : Option Addr} {sl_full_step : Array (Option Value)}
    {f_steps_down : Addr} {oc_steps_down kV_steps_down dc_steps_down pm_steps_down cd_steps_down ct_steps_down : Value} {od_steps_down an_steps_down : Option Addr} {sl_steps_down : Array (Option Value)}
    {f_prices_by : Addr} {oc_prices_by kV_prices_by dc_prices_by pm_prices_by cd_prices_by ct_prices_by : Value} {od_prices_by an_prices_by : Option Addr} {sl_prices_by : Array (Option Value)}
    {f_least : Addr} {oc_least kV_least dc_least pm_least cd_least ct_least : Value} {od_least an_least : Option Addr} {sl_least : Array (Option Value)}
    {f_law_cell_at : Addr} {oc_law_cell_at kV_law_cell_at dc_law_cell_at pm_law_cell_at cd_law_cell_at ct_law_cell_at : Value} {od_law_cell_at an_law_cell_at : Option Addr} {sl_law_cell_at : Array (Option Value)}
    {f_law_draw : Addr} {oc_law_draw kV_law_draw dc_law_draw pm_law_draw cd_law_draw ct_law_draw : Value} {od_law_draw an_law_draw : Option Addr} {sl_law_draw : Array (Option Value)}
    {f_law_houses : Addr} {oc_law_houses kV_law_houses dc_law_houses pm_law_houses cd_law_houses ct_law_houses : Value} {od_law_houses an_law_houses : Option Addr} {sl_law_houses : Array (Option Value)}
    {f_law_tolls : Addr} {oc_law_tolls kV_law_tolls dc_law_tolls pm_law_tolls cd_law_tolls ct_law_tolls : Value} {od_law_tolls an_law_tolls : Option Addr} {sl_law_tolls : Array (Option Value)}
    {f_law_evened : Addr} {oc_law_evened kV_law_evened dc_law_evened pm_law_evened cd_law_evened ct_law_evened : Value} {od_law_evened an_law_evened : Option Addr} {sl_law_evened : Array (Option Value)}
    {f_law_cost : Addr} {oc_law_cost kV_law_cost dc_law_cost pm_law_cost cd_law_cost ct_law_cost : Value} {od_law_cost an_law_cost : Option Addr} {sl_law_cost : Array (Option Value)}
    {f_law_priced : Addr} {oc_law_priced kV_law_priced dc_law_priced pm_law_priced cd_law_priced ct_law_priced : Value} {od_law_priced an_law_priced : Option Addr} {sl_law_priced : Array (Option Value)}
    {f_law_says : Addr} {oc_law_says kV_law_says dc_law_says pm_law_says cd_law_says ct_law_says : Value} {od_law_says an_law_says : Option Addr} {sl_law_says : Array (Option Value)}
    {f_law_bent : Addr} {oc_law_bent kV_law_bent dc_law_bent pm_law_bent cd_law_bent ct_law_bent : Value} {od_law_bent an_law_bent : Option Addr} {sl_law_bent : Array (Option Value)}
    {f_law_even_right : Addr} {oc_law_even_right kV_law_even_right dc_law_even_right pm_law_even_right cd_law_even_right ct_law_even_right : Value} {od_law_even_right an_law_even_right : Option Addr} {sl_law_even_right : Array (Option Value)}
    {f_law_bounds_right : Addr} {oc_law_bounds_right kV_law_bounds_right dc_law_bounds_right pm_law_bounds_right cd_law_bounds_right ct_law_bounds_right : Value} {od_law_bounds_right an_law_bounds_right : Option Addr} {sl_law_bounds_right : Array (Option Value)}
    {f_law : Addr} {oc_law kV_law dc_law pm_law cd_law ct_law : Value} {od_law an_law : Option Addr} {sl_law : Array (Option Value)}
    {C_Even : Addr}
    {C_Uneven : Addr}
    {C_Within : Addr}
    {C_Stretch : Addr}
    {C_Ring : Addr}
    {v_FARTHEST_NUMBER : Tok}
    {v_FEWEST_HOUSES : Tok}
    {v_HIGHEST_TOLL : Tok}
    (aC_Even : PySem.W.nsIn K mainGlobals "Even" = some (some (.ref C_Even)))
    (aC_Uneven : PySem.W.nsIn K mainGlobals "Uneven" = some (some (.ref C_Uneven)))
    (aC_Within : PySem.W.nsIn K mainGlobals "Within" = some (some (.ref C_Within)))
    (aC_Stretch : PySem.W.nsIn K mainGlobals "Stretch" = some (some (.ref C_Stretch)))
    (aC_Ring : PySem.W.nsIn K mainGlobals "Ring" = some (some (.ref C_Ring)))
    (a_is_evened : PySem.W.nsIn K mainGlobals "is_evened" = some (some (.ref f_is_evened)))
    (l_is_evened : K.lookup f_is_evened = some ⟨oc_is_evened, od_is_evened, .func (PySem.W.fnOf "is_evened" "is_evened" (defArgs s_is_evened) (defBody s_is_evened) (defScope s_is_evened) .none kV_is_evened dc_is_evened pm_is_evened an_is_evened cd_is_evened ct_is_evened), sl_is_evened⟩)
    (c_is_evened : PySem.W.codeIn K cd_is_evened "is_evened" = true)
    (k_is_evened : PySem.W.keepIn K (.ref f_is_evened) = true)
    (a_keep_to_tolls : PySem.W.nsIn K mainGlobals "keep_to_tolls" = some (some (.ref f_keep_to_tolls)))
    (l_keep_to_tolls : K.lookup f_keep_to_tolls = some ⟨oc_keep_to_tolls, od_keep_to_tolls, .func (PySem.W.fnOf "keep_to_tolls" "keep_to_tolls" (defArgs s_keep_to_tolls) (defBody s_keep_to_tolls) (defScope s_keep_to_tolls) .none kV_keep_to_tolls dc_keep_to_tolls pm_keep_to_tolls an_keep_to_tolls cd_keep_to_tolls ct_keep_to_tolls), sl_keep_to_tolls⟩)
    (c_keep_to_tolls : PySem.W.codeIn K cd_keep_to_tolls "keep_to_tolls" = true)
    (k_keep_to_tolls : PySem.W.keepIn K (.ref f_keep_to_tolls) = true)
    (a_cost : PySem.W.nsIn K mainGlobals "cost" = some (some (.ref f_cost)))
    (l_cost : K.lookup f_cost = some ⟨oc_cost, od_cost, .func (PySem.W.fnOf "cost" "cost" (defArgs s_cost) (defBody s_cost) (defScope s_cost) .none kV_cost dc_cost pm_cost an_cost cd_cost ct_cost), sl_cost⟩)
    (c_cost : PySem.W.codeIn K cd_cost "cost" = true)
    (k_cost : PySem.W.keepIn K (.ref f_cost) = true)
    (a_worth : PySem.W.nsIn K mainGlobals "worth" = some (some (.ref f_worth)))
    (l_worth : K.lookup f_worth = some ⟨oc_worth, od_worth, .func (PySem.W.fnOf "worth" "worth" (defArgs s_worth) (defBody s_worth) (defScope s_worth) .none kV_worth dc_worth pm_worth an_worth cd_worth ct_worth), sl_worth⟩)
    (c_worth : PySem.W.codeIn K cd_worth "worth" = true)
    (k_worth : PySem.W.keepIn K (.ref f_worth) = true)
    (a_Even_init__ : PySem.W.findIn K (.ref C_Even) "__init__" = some (some (.ref f_Even_init__)))
    (i_Even_init__ : PySem.W.isFn K (.ref f_Even_init__) = true)
    (l_Even_init__ : K.lookup f_Even_init__ = some ⟨oc_Even_init__, od_Even_init__, .func (PySem.W.fnOf "__init__" "Even.__init__" (defArgs s_Even_init__) (defBody s_Even_init__) (defScope s_Even_init__) .none kV_Even_init__ dc_Even_init__ pm_Even_init__ an_Even_init__ cd_Even_init__ ct_Even_init__), sl_Even_init__⟩)
    (c_Even_init__ : PySem.W.codeIn K cd_Even_init__ "Even.__init__" = true)
    (k_Even_init__ : PySem.W.keepIn K (.ref f_Even_init__) = true)
    (a_Even_evens : PySem.W.findIn K (.ref C_Even) "evens" = some (some (.ref f_Even_evens)))
    (i_Even_evens : PySem.W.isFn K (.ref f_Even_evens) = true)
    (l_Even_evens : K.lookup f_Even_evens = some ⟨oc_Even_evens, od_Even_evens, .func (PySem.W.fnOf "evens" "Even.evens" (defArgs s_Even_evens) (defBody s_Even_evens) (defScope s_Even_evens) .none kV_Even_evens dc_Even_evens pm_Even_evens an_Even_evens cd_Even_evens ct_Even_evens), sl_Even_evens⟩)
    (c_Even_evens : PySem.W.codeIn K cd_Even_evens "Even.evens" = true)
    (k_Even_evens : PySem.W.keepIn K (.ref f_Even_evens) = true)
    (a_Even_shows : PySem.W.findIn K (.ref C_Even) "shows" = some (some (.ref f_Even_shows)))
    (i_Even_shows : PySem.W.isFn K (.ref f_Even_shows) = true)
    (l_Even_shows : K.lookup f_Even_shows = some ⟨oc_Even_shows, od_Even_shows, .func (PySem.W.fnOf "shows" "Even.shows" (defArgs s_Even_shows) (defBody s_Even_shows) (defScope s_Even_shows) .none kV_Even_shows dc_Even_shows pm_Even_shows an_Even_shows cd_Even_shows ct_Even_shows), sl_Even_shows⟩)
    (c_Even_shows : PySem.W.codeIn K cd_Even_shows "Even.shows" = true)
    (k_Even_shows : PySem.W.keepIn K (.ref f_Even_shows) = true)
    (a_Uneven_init__ : PySem.W.findIn K (.ref C_Uneven) "__init__" = some (some (.ref f_Uneven_init__)))
    (i_Uneven_init__ : PySem.W.isFn K (.ref f_Uneven_init__) = true)
    (l_Uneven_init__ : K.lookup f_Uneven_init__ = some ⟨oc_Uneven_init__, od_Uneven_init__, .func (PySem.W.fnOf "__init__" "Uneven.__init__" (defArgs s_Uneven_init__) (defBody s_Uneven_init__) (defScope s_Uneven_init__) .none kV_Uneven_init__ dc_Uneven_init__ pm_Uneven_init__ an_Uneven_init__ cd_Uneven_init__ ct_Uneven_init__), sl_Uneven_init__⟩)
    (c_Uneven_init__ : PySem.W.codeIn K cd_Uneven_init__ "Uneven.__init__" = true)
    (k_Uneven_init__ : PySem.W.keepIn K (.ref f_Uneven_init__) = true)
    (a_Uneven_shows : PySem.W.findIn K (.ref C_Uneven) "shows" = some (some (.ref f_Uneven_shows)))
    (i_Uneven_shows : PySem.W.isFn K (.ref f_Uneven_shows) = true)
    (l_Uneven_shows : K.lookup f_Uneven_shows = some ⟨oc_Uneven_shows, od_Uneven_shows, .func (PySem.W.fnOf "shows" "Uneven.shows" (defArgs s_Uneven_shows) (defBody s_Uneven_shows) (defScope s_Uneven_shows) .none kV_Uneven_shows dc_Uneven_shows pm_Uneven_shows an_Uneven_shows cd_Uneven_shows ct_Uneven_shows), sl_Uneven_shows⟩)
    (c_Uneven_shows : PySem.W.codeIn K cd_Uneven_shows "Uneven.shows" = true)
    (k_Uneven_shows : PySem.W.keepIn K (.ref f_Uneven_shows) = true)
    (a_Within_init__ : PySem.W.findIn K (.ref C_Within) "__init__" = some (some (.ref f_Within_init__)))
    (i_Within_init__ : PySem.W.isFn K (.ref f_Within_init__) = true)
    (l_Within_init__ : K.lookup f_Within_init__ = some ⟨oc_Within_init__, od_Within_init__, .func (PySem.W.fnOf "__init__" "Within.__init__" (defArgs s_Within_init__) (defBody s_Within_init__) (defScope s_Within_init__) .none kV_Within_init__ dc_Within_init__ pm_Within_init__ an_Within_init__ cd_Within_init__ ct_Within_init__), sl_Within_init__⟩)
    (c_Within_init__ : PySem.W.codeIn K cd_Within_init__ "Within.__init__" = true)
    (k_Within_init__ : PySem.W.keepIn K (.ref f_Within_init__) = true)
    (a_Within_shows : PySem.W.findIn K (.ref C_Within) "shows" = some (some (.ref f_Within_shows)))
    (i_Within_shows : PySem.W.isFn K (.ref f_Within_shows) = true)
    (l_Within_shows : K.lookup f_Within_shows = some ⟨oc_Within_shows, od_Within_shows, .func (PySem.W.fnOf "shows" "Within.shows" (defArgs s_Within_shows) (defBody s_Within_shows) (defScope s_Within_shows) .none kV_Within_shows dc_Within_shows pm_Within_shows an_Within_shows cd_Within_shows ct_Within_shows), sl_Within_shows⟩)
    (c_Within_shows : PySem.W.codeIn K cd_Within_shows "Within.shows" = true)
    (k_Within_shows : PySem.W.keepIn K (.ref f_Within_shows) = true)
    (a_Stretch_init__ : PySem.W.findIn K (.ref C_Stretch) "__init__" = some (some (.ref f_Stretch_init__)))
    (i_Stretch_init__ : PySem.W.isFn K (.ref f_Stretch_init__) = true)
    (l_Stretch_init__ : K.lookup f_Stretch_init__ = some ⟨oc_Stretch_init__, od_Stretch_init__, .func (PySem.W.fnOf "__init__" "Stretch.__init__" (defArgs s_Stretch_init__) (defBody s_Stretch_init__) (defScope s_Stretch_init__) .none kV_Stretch_init__ dc_Stretch_init__ pm_Stretch_init__ an_Stretch_init__ cd_Stretch_init__ ct_Stretch_init__), sl_Stretch_init__⟩)
    (c_Stretch_init__ : PySem.W.codeIn K cd_Stretch_init__ "Stretch.__init__" = true)
    (k_Stretch_init__ : PySem.W.keepIn K (.ref f_Stretch_init__) = true)
    (a_Stretch_shows : PySem.W.findIn K (.ref C_Stretch) "shows" = some (some (.ref f_Stretch_shows)))
    (i_Stretch_shows : PySem.W.isFn K (.ref f_Stretch_shows) = true)
    (l_Stretch_shows : K.lookup f_Stretch_shows = some ⟨oc_Stretch_shows, od_Stretch_shows, .func (PySem.W.fnOf "shows" "Stretch.shows" (defArgs s_Stretch_shows) (defBody s_Stretch_shows) (defScope s_Stretch_shows) .none kV_Stretch_shows dc_Stretch_shows pm_Stretch_shows an_Stretch_shows cd_Stretch_shows ct_Stretch_shows), sl_Stretch_shows⟩)
    (c_Stretch_shows : PySem.W.codeIn K cd_Stretch_shows "Stretch.shows" = true)
    (k_Stretch_shows : PySem.W.keepIn K (.ref f_Stretch_shows) = true)
    (a_is_whole_number : PySem.W.nsIn K mainGlobals "is_whole_number" = some (some (.ref f_is_whole_number)))
    (l_is_whole_number : K.lookup f_is_whole_number = some ⟨oc_is_whole_number, od_is_whole_number, .func (PySem.W.fnOf "is_whole_number" "is_whole_number" (defArgs s_is_whole_number) (defBody s_is_whole_number) (defScope s_is_whole_number) .none kV_is_whole_number dc_is_whole_number pm_is_whole_number an_is_whole_number cd_is_whole_number ct_is_whole_number), sl_is_whole_number⟩)
    (c_is_whole_number : PySem.W.codeIn K cd_is_whole_number "is_whole_number" = true)
    (k_is_whole_number : PySem.W.keepIn K (.ref f_is_whole_number) = true)
    (a_is_house : PySem.W.nsIn K mainGlobals "is_house" = some (some (.ref f_is_house)))
    (l_is_house : K.lookup f_is_house = some ⟨oc_is_house, od_is_house, .func (PySem.W.fnOf "is_house" "is_house" (defArgs s_is_house) (defBody s_is_house) (defScope s_is_house) .none kV_is_house dc_is_house pm_is_house an_is_house cd_is_house ct_is_house), sl_is_house⟩)
    (c_is_house : PySem.W.codeIn K cd_is_house "is_house" = true)
    (k_is_house : PySem.W.keepIn K (.ref f_is_house) = true)
    (a_are_houses : PySem.W.nsIn K mainGlobals "are_houses" = some (some (.ref f_are_houses)))
    (l_are_houses : K.lookup f_are_houses = some ⟨oc_are_houses, od_are_houses, .func (PySem.W.fnOf "are_houses" "are_houses" (defArgs s_are_houses) (defBody s_are_houses) (defScope s_are_houses) .none kV_are_houses dc_are_houses pm_are_houses an_are_houses cd_are_houses ct_are_houses), sl_are_houses⟩)
    (c_are_houses : PySem.W.codeIn K cd_are_houses "are_houses" = true)
    (k_are_houses : PySem.W.keepIn K (.ref f_are_houses) = true)
    (a_Ring_init__ : PySem.W.findIn K (.ref C_Ring) "__init__" = some (some (.ref f_Ring_init__)))
    (i_Ring_init__ : PySem.W.isFn K (.ref f_Ring_init__) = true)
    (l_Ring_init__ : K.lookup f_Ring_init__ = some ⟨oc_Ring_init__, od_Ring_init__, .func (PySem.W.fnOf "__init__" "Ring.__init__" (defArgs s_Ring_init__) (defBody s_Ring_init__) (defScope s_Ring_init__) .none kV_Ring_init__ dc_Ring_init__ pm_Ring_init__ an_Ring_init__ cd_Ring_init__ ct_Ring_init__), sl_Ring_init__⟩)
    (c_Ring_init__ : PySem.W.codeIn K cd_Ring_init__ "Ring.__init__" = true)
    (k_Ring_init__ : PySem.W.keepIn K (.ref f_Ring_init__) = true)
    (a_Ring_houses : PySem.W.findIn K (.ref C_Ring) "houses" = some (some (.ref f_Ring_houses)))
    (i_Ring_houses : PySem.W.isFn K (.ref f_Ring_houses) = true)
    (l_Ring_houses : K.lookup f_Ring_houses = some ⟨oc_Ring_houses, od_Ring_houses, .func (PySem.W.fnOf "houses" "Ring.houses" (defArgs s_Ring_houses) (defBody s_Ring_houses) (defScope s_Ring_houses) .none kV_Ring_houses dc_Ring_houses pm_Ring_houses an_Ring_houses cd_Ring_houses ct_Ring_houses), sl_Ring_houses⟩)
    (c_Ring_houses : PySem.W.codeIn K cd_Ring_houses "Ring.houses" = true)
    (k_Ring_houses : PySem.W.keepIn K (.ref f_Ring_houses) = true)
    (a_Ring_whole : PySem.W.findIn K (.ref C_Ring) "whole" = some (some (.ref f_Ring_whole)))
    (i_Ring_whole : PySem.W.isFn K (.ref f_Ring_whole) = true)
    (l_Ring_whole : K.lookup f_Ring_whole = some ⟨oc_Ring_whole, od_Ring_whole, .func (PySem.W.fnOf "whole" "Ring.whole" (defArgs s_Ring_whole) (defBody s_Ring_whole) (defScope s_Ring_whole) .none kV_Ring_whole dc_Ring_whole pm_Ring_whole an_Ring_whole cd_Ring_whole ct_Ring_whole), sl_Ring_whole⟩)
    (c_Ring_whole : PySem.W.codeIn K cd_Ring_whole "Ring.whole" = true)
    (k_Ring_whole : PySem.W.keepIn K (.ref f_Ring_whole) = true)
    (a_is_toll : PySem.W.nsIn K mainGlobals "is_toll" = some (some (.ref f_is_toll)))
    (l_is_toll : K.lookup f_is_toll = some ⟨oc_is_toll, od_is_toll, .func (PySem.W.fnOf "is_toll" "is_toll" (defArgs s_is_toll) (defBody s_is_toll) (defScope s_is_toll) .none kV_is_toll dc_is_toll pm_is_toll an_is_toll cd_is_toll ct_is_toll), sl_is_toll⟩)
    (c_is_toll : PySem.W.codeIn K cd_is_toll "is_toll" = true)
    (k_is_toll : PySem.W.keepIn K (.ref f_is_toll) = true)
    (a_tolls_for : PySem.W.nsIn K mainGlobals "tolls_for" = some (some (.ref f_tolls_for)))
    (l_tolls_for : K.lookup f_tolls_for = some ⟨oc_tolls_for, od_tolls_for, .func (PySem.W.fnOf "tolls_for" "tolls_for" (defArgs s_tolls_for) (defBody s_tolls_for) (defScope s_tolls_for) .none kV_tolls_for dc_tolls_for pm_tolls_for an_tolls_for cd_tolls_for ct_tolls_for), sl_tolls_for⟩)
    (c_tolls_for : PySem.W.codeIn K cd_tolls_for "tolls_for" = true)
    (k_tolls_for : PySem.W.keepIn K (.ref f_tolls_for) = true)
    (a_along : PySem.W.nsIn K mainGlobals "along" = some (some (.ref f_along)))
    (l_along : K.lookup f_along = some ⟨oc_along, od_along, .func (PySem.W.fnOf "along" "along" (defArgs s_along) (defBody s_along) (defScope s_along) .none kV_along dc_along pm_along an_along cd_along ct_along), sl_along⟩)
    (c_along : PySem.W.codeIn K cd_along "along" = true)
    (k_along : PySem.W.keepIn K (.ref f_along) = true)
    (a_lowest_middle : PySem.W.nsIn K mainGlobals "lowest_middle" = some (some (.ref f_lowest_middle)))
    (l_lowest_middle : K.lookup f_lowest_middle = some ⟨oc_lowest_middle, od_lowest_middle, .func (PySem.W.fnOf "lowest_middle" "lowest_middle" (defArgs s_lowest_middle) (defBody s_lowest_middle) (defScope s_lowest_middle) .none kV_lowest_middle dc_lowest_middle pm_lowest_middle an_lowest_middle cd_lowest_middle ct_lowest_middle), sl_lowest_middle⟩)
    (c_lowest_middle : PySem.W.codeIn K cd_lowest_middle "lowest_middle" = true)
    (k_lowest_middle : PySem.W.keepIn K (.ref f_lowest_middle) = true)
    (a_least_over_last : PySem.W.nsIn K mainGlobals "least_over_last" = some (some (.ref f_least_over_last)))
    (l_least_over_last : K.lookup f_least_over_last = some ⟨oc_least_over_last, od_least_over_last, .func (PySem.W.fnOf "least_over_last" "least_over_last" (defArgs s_least_over_last) (defBody s_least_over_last) (defScope s_least_over_last) .none kV_least_over_last dc_least_over_last pm_least_over_last an_least_over_last cd_least_over_last ct_least_over_last), sl_least_over_last⟩)
    (c_least_over_last : PySem.W.codeIn K cd_least_over_last "least_over_last" = true)
    (k_least_over_last : PySem.W.keepIn K (.ref f_least_over_last) = true)
    (a_full_step : PySem.W.nsIn K mainGlobals "full_step" = some (some (.ref f_full_step)))
    (l_full_step : K.lookup f_full_step = some ⟨oc_full_step, od_full_step, .func (PySem.W.fnOf "full_step" "full_step" (defArgs s_full_step) (defBody s_full_step) (defScope s_full_step) .none kV_full_step dc_full_step pm_full_step an_full_step cd_full_step ct_full_step), sl_full_step⟩)
    (c_full_step : PySem.W.codeIn K cd_full_step "full_step" = true)
    (k_full_step : PySem.W.keepIn K (.ref f_full_step) = true)
    (a_steps_down : PySem.W.nsIn K mainGlobals "steps_down" = some (some (.ref f_steps_down)))
    (l_steps_down : K.lookup f_steps_down = some ⟨oc_steps_down, od_steps_down, .func (PySem.W.fnOf "steps_down" "steps_down" (defArgs s_steps_down) (defBody s_steps_down) (defScope s_steps_down) .none kV_steps_down dc_steps_down pm_steps_down an_steps_down cd_steps_down ct_steps_down), sl_steps_down⟩)
    (c_steps_down : PySem.W.codeIn K cd_steps_down "steps_down" = true)
    (k_steps_down : PySem.W.keepIn K (.ref f_steps_down) = true)
    (a_prices_by : PySem.W.nsIn K mainGlobals "prices_by" = some (some (.ref f_prices_by)))
    (l_prices_by : K.lookup f_prices_by = some ⟨oc_prices_by, od_prices_by, .func (PySem.W.fnOf "prices_by" "prices_by" (defArgs s_prices_by) (defBody s_prices_by) (defScope s_prices_by) .none kV_prices_by dc_prices_by pm_prices_by an_prices_by cd_prices_by ct_prices_by), sl_prices_by⟩)
    (c_prices_by : PySem.W.codeIn K cd_prices_by "prices_by" = true)
    (k_prices_by : PySem.W.keepIn K (.ref f_prices_by) = true)
    (a_least : PySem.W.nsIn K mainGlobals "least" = some (some (.ref f_least)))
    (l_least : K.lookup f_least = some ⟨oc_least, od_least, .func (PySem.W.fnOf "least" "least" (defArgs s_least) (defBody s_least) (defScope s_least) .none kV_least dc_least pm_least an_least cd_least ct_least), sl_least⟩)
    (c_least : PySem.W.codeIn K cd_least "least" = true)
    (k_least : PySem.W.keepIn K (.ref f_least) = true)
    (a_law_cell_at : PySem.W.nsIn K mainGlobals "_law_cell_at" = some (some (.ref f_law_cell_at)))
    (l_law_cell_at : K.lookup f_law_cell_at = some ⟨oc_law_cell_at, od_law_cell_at, .func (PySem.W.fnOf "_law_cell_at" "_law_cell_at" (defArgs s_law_cell_at) (defBody s_law_cell_at) (defScope s_law_cell_at) .none kV_law_cell_at dc_law_cell_at pm_law_cell_at an_law_cell_at cd_law_cell_at ct_law_cell_at), sl_law_cell_at⟩)
    (c_law_cell_at : PySem.W.codeIn K cd_law_cell_at "_law_cell_at" = true)
    (k_law_cell_at : PySem.W.keepIn K (.ref f_law_cell_at) = true)
    (a_law_draw : PySem.W.nsIn K mainGlobals "_law_draw" = some (some (.ref f_law_draw)))
    (l_law_draw : K.lookup f_law_draw = some ⟨oc_law_draw, od_law_draw, .func (PySem.W.fnOf "_law_draw" "_law_draw" (defArgs s_law_draw) (defBody s_law_draw) (defScope s_law_draw) .none kV_law_draw dc_law_draw pm_law_draw an_law_draw cd_law_draw ct_law_draw), sl_law_draw⟩)
    (c_law_draw : PySem.W.codeIn K cd_law_draw "_law_draw" = true)
    (k_law_draw : PySem.W.keepIn K (.ref f_law_draw) = true)
    (a_law_houses : PySem.W.nsIn K mainGlobals "_law_houses" = some (some (.ref f_law_houses)))
    (l_law_houses : K.lookup f_law_houses = some ⟨oc_law_houses, od_law_houses, .func (PySem.W.fnOf "_law_houses" "_law_houses" (defArgs s_law_houses) (defBody s_law_houses) (defScope s_law_houses) .none kV_law_houses dc_law_houses pm_law_houses an_law_houses cd_law_houses ct_law_houses), sl_law_houses⟩)
    (c_law_houses : PySem.W.codeIn K cd_law_houses "_law_houses" = true)
    (k_law_houses : PySem.W.keepIn K (.ref f_law_houses) = true)
    (a_law_tolls : PySem.W.nsIn K mainGlobals "_law_tolls" = some (some (.ref f_law_tolls)))
    (l_law_tolls : K.lookup f_law_tolls = some ⟨oc_law_tolls, od_law_tolls, .func (PySem.W.fnOf "_law_tolls" "_law_tolls" (defArgs s_law_tolls) (defBody s_law_tolls) (defScope s_law_tolls) .none kV_law_tolls dc_law_tolls pm_law_tolls an_law_tolls cd_law_tolls ct_law_tolls), sl_law_tolls⟩)
    (c_law_tolls : PySem.W.codeIn K cd_law_tolls "_law_tolls" = true)
    (k_law_tolls : PySem.W.keepIn K (.ref f_law_tolls) = true)
    (a_law_evened : PySem.W.nsIn K mainGlobals "_law_evened" = some (some (.ref f_law_evened)))
    (l_law_evened : K.lookup f_law_evened = some ⟨oc_law_evened, od_law_evened, .func (PySem.W.fnOf "_law_evened" "_law_evened" (defArgs s_law_evened) (defBody s_law_evened) (defScope s_law_evened) .none kV_law_evened dc_law_evened pm_law_evened an_law_evened cd_law_evened ct_law_evened), sl_law_evened⟩)
    (c_law_evened : PySem.W.codeIn K cd_law_evened "_law_evened" = true)
    (k_law_evened : PySem.W.keepIn K (.ref f_law_evened) = true)
    (a_law_cost : PySem.W.nsIn K mainGlobals "_law_cost" = some (some (.ref f_law_cost)))
    (l_law_cost : K.lookup f_law_cost = some ⟨oc_law_cost, od_law_cost, .func (PySem.W.fnOf "_law_cost" "_law_cost" (defArgs s_law_cost) (defBody s_law_cost) (defScope s_law_cost) .none kV_law_cost dc_law_cost pm_law_cost an_law_cost cd_law_cost ct_law_cost), sl_law_cost⟩)
    (c_law_cost : PySem.W.codeIn K cd_law_cost "_law_cost" = true)
    (k_law_cost : PySem.W.keepIn K (.ref f_law_cost) = true)
    (a_law_priced : PySem.W.nsIn K mainGlobals "_law_priced" = some (some (.ref f_law_priced)))
    (l_law_priced : K.lookup f_law_priced = some ⟨oc_law_priced, od_law_priced, .func (PySem.W.fnOf "_law_priced" "_law_priced" (defArgs s_law_priced) (defBody s_law_priced) (defScope s_law_priced) .none kV_law_priced dc_law_priced pm_law_priced an_law_priced cd_law_priced ct_law_priced), sl_law_priced⟩)
    (c_law_priced : PySem.W.codeIn K cd_law_priced "_law_priced" = true)
    (k_law_priced : PySem.W.keepIn K (.ref f_law_priced) = true)
    (a_law_says : PySem.W.nsIn K mainGlobals "_law_says" = some (some (.ref f_law_says)))
    (l_law_says : K.lookup f_law_says = some ⟨oc_law_says, od_law_says, .func (PySem.W.fnOf "_law_says" "_law_says" (defArgs s_law_says) (defBody s_law_says) (defScope s_law_says) .none kV_law_says dc_law_says pm_law_says an_law_says cd_law_says ct_law_says), sl_law_says⟩)
    (c_law_says : PySem.W.codeIn K cd_law_says "_law_says" = true)
    (k_law_says : PySem.W.keepIn K (.ref f_law_says) = true)
    (a_law_bent : PySem.W.nsIn K mainGlobals "_law_bent" = some (some (.ref f_law_bent)))
    (l_law_bent : K.lookup f_law_bent = some ⟨oc_law_bent, od_law_bent, .func (PySem.W.fnOf "_law_bent" "_law_bent" (defArgs s_law_bent) (defBody s_law_bent) (defScope s_law_bent) .none kV_law_bent dc_law_bent pm_law_bent an_law_bent cd_law_bent ct_law_bent), sl_law_bent⟩)
    (c_law_bent : PySem.W.codeIn K cd_law_bent "_law_bent" = true)
    (k_law_bent : PySem.W.keepIn K (.ref f_law_bent) = true)
    (a_law_even_right : PySem.W.nsIn K mainGlobals "_law_even_right" = some (some (.ref f_law_even_right)))
    (l_law_even_right : K.lookup f_law_even_right = some ⟨oc_law_even_right, od_law_even_right, .func (PySem.W.fnOf "_law_even_right" "_law_even_right" (defArgs s_law_even_right) (defBody s_law_even_right) (defScope s_law_even_right) .none kV_law_even_right dc_law_even_right pm_law_even_right an_law_even_right cd_law_even_right ct_law_even_right), sl_law_even_right⟩)
    (c_law_even_right : PySem.W.codeIn K cd_law_even_right "_law_even_right" = true)
    (k_law_even_right : PySem.W.keepIn K (.ref f_law_even_right) = true)
    (a_law_bounds_right : PySem.W.nsIn K mainGlobals "_law_bounds_right" = some (some (.ref f_law_bounds_right)))
    (l_law_bounds_right : K.lookup f_law_bounds_right = some ⟨oc_law_bounds_right, od_law_bounds_right, .func (PySem.W.fnOf "_law_bounds_right" "_law_bounds_right" (defArgs s_law_bounds_right) (defBody s_law_bounds_right) (defScope s_law_bounds_right) .none kV_law_bounds_right dc_law_bounds_right pm_law_bounds_right an_law_bounds_right cd_law_bounds_right ct_law_bounds_right), sl_law_bounds_right⟩)
    (c_law_bounds_right : PySem.W.codeIn K cd_law_bounds_right "_law_bounds_right" = true)
    (k_law_bounds_right : PySem.W.keepIn K (.ref f_law_bounds_right) = true)
    (a_law : PySem.W.nsIn K mainGlobals "law" = some (some (.ref f_law)))
    (l_law : K.lookup f_law = some ⟨oc_law, od_law, .func (PySem.W.fnOf "law" "law" (defArgs s_law) (defBody s_law) (defScope s_law) .none kV_law dc_law pm_law an_law cd_law ct_law), sl_law⟩)
    (c_law : PySem.W.codeIn K cd_law "law" = true)
    (k_law : PySem.W.keepIn K (.ref f_law) = true)
    (pg_Even : PySem.W.plainGet K C_Even Str.empty = true)
    (hd_Even : PySem.W.hasDictIn K C_Even = true)
    (po_Even : PySem.W.plainOver K C_Even = true)
    (sa_Even : PySem.W.findIn K (.ref C_Even) "__setattr__" = some (some (.builtin "object.__setattr__")))
    (mk_Even : PySem.W.makesIn K C_Even = true)
    (kc_Even : PySem.W.keepIn K (.ref C_Even) = true)
    (n_Even_carried : PySem.W.findIn K (.ref C_Even) "carried" = some none)
    (n_Even_prices : PySem.W.findIn K (.ref C_Even) "prices" = some none)
    (pg_Uneven : PySem.W.plainGet K C_Uneven Str.empty = true)
    (hd_Uneven : PySem.W.hasDictIn K C_Uneven = true)
    (po_Uneven : PySem.W.plainOver K C_Uneven = true)
    (sa_Uneven : PySem.W.findIn K (.ref C_Uneven) "__setattr__" = some (some (.builtin "object.__setattr__")))
    (mk_Uneven : PySem.W.makesIn K C_Uneven = true)
    (kc_Uneven : PySem.W.keepIn K (.ref C_Uneven) = true)
    (n_Uneven_total : PySem.W.findIn K (.ref C_Uneven) "total" = some none)
    (pg_Within : PySem.W.plainGet K C_Within Str.empty = true)
    (hd_Within : PySem.W.hasDictIn K C_Within = true)
    (po_Within : PySem.W.plainOver K C_Within = true)
    (sa_Within : PySem.W.findIn K (.ref C_Within) "__setattr__" = some (some (.builtin "object.__setattr__")))
    (mk_Within : PySem.W.makesIn K C_Within = true)
    (kc_Within : PySem.W.keepIn K (.ref C_Within) = true)
    (n_Within_carried : PySem.W.findIn K (.ref C_Within) "carried" = some none)
    (pg_Stretch : PySem.W.plainGet K C_Stretch Str.empty = true)
    (hd_Stretch : PySem.W.hasDictIn K C_Stretch = true)
    (po_Stretch : PySem.W.plainOver K C_Stretch = true)
    (sa_Stretch : PySem.W.findIn K (.ref C_Stretch) "__setattr__" = some (some (.builtin "object.__setattr__")))
    (mk_Stretch : PySem.W.makesIn K C_Stretch = true)
    (kc_Stretch : PySem.W.keepIn K (.ref C_Stretch) = true)
    (n_Stretch_first : PySem.W.findIn K (.ref C_Stretch) "first" = some none)
    (n_Stretch_many : PySem.W.findIn K (.ref C_Stretch) "many" = some none)
    (pg_Ring : PySem.W.plainGet K C_Ring Str.empty = true)
    (hd_Ring : PySem.W.hasDictIn K C_Ring = true)
    (po_Ring : PySem.W.plainOver K C_Ring = true)
    (sa_Ring : PySem.W.findIn K (.ref C_Ring) "__setattr__" = some (some (.builtin "object.__setattr__")))
    (mk_Ring : PySem.W.makesIn K C_Ring = true)
    (kc_Ring : PySem.W.keepIn K (.ref C_Ring) = true)
    (n_Ring_numbers : PySem.W.findIn K (.ref C_Ring) "numbers" = some none)
    (j1_Even : PySem.W.findIn K (.ref C_Even) "__class__" = some (some (.builtin "object.__class__")))
    (j2_Even : PySem.W.mroIn K C_Even (.type "object") = some true)
    (j1_Uneven : PySem.W.findIn K (.ref C_Uneven) "__class__" = some (some (.builtin "object.__class__")))
    (j2_Uneven : PySem.W.mroIn K C_Uneven (.type "object") = some true)
    (j3 : PySem.W.specialIn K (.builtin "object.__class__") "__get__" = some (some (.builtin "getset_descriptor.__get__")))
    (j4 : PySem.W.takesIn K (.builtin "object.__class__") = some true)
    (isi_Even_Uneven : PySem.W.kitOne K (.ref C_Even) (.ref C_Uneven) = some false)
    (isi_Uneven_Uneven : PySem.W.kitOne K (.ref C_Uneven) (.ref C_Uneven) = some true)
    (z_abs : PySem.W.nsIn K mainGlobals "abs" = some none)
    (z_all : PySem.W.nsIn K mainGlobals "all" = some none)
    (z_bool : PySem.W.nsIn K mainGlobals "bool" = some none)
    (z_enumerate : PySem.W.nsIn K mainGlobals "enumerate" = some none)
    (z_int : PySem.W.nsIn K mainGlobals "int" = some none)
    (z_isinstance : PySem.W.nsIn K mainGlobals "isinstance" = some none)
    (z_len : PySem.W.nsIn K mainGlobals "len" = some none)
    (z_list : PySem.W.nsIn K mainGlobals "list" = some none)
    (z_max : PySem.W.nsIn K mainGlobals "max" = some none)
    (z_min : PySem.W.nsIn K mainGlobals "min" = some none)
    (z_range : PySem.W.nsIn K mainGlobals "range" = some none)
    (z_sorted : PySem.W.nsIn K mainGlobals "sorted" = some none)
    (z_sum : PySem.W.nsIn K mainGlobals "sum" = some none)
    (z_zip : PySem.W.nsIn K mainGlobals "zip" = some none)
    (v_FARTHEST_NUMBER_ : PySem.W.nsIn K mainGlobals "FARTHEST_NUMBER" = some (some (.int 1000000 v_FARTHEST_NUMBER)))
    (v_FEWEST_HOUSES_ : PySem.W.nsIn K mainGlobals "FEWEST_HOUSES" = some (some (.int 2 v_FEWEST_HOUSES)))
    (v_HIGHEST_TOLL_ : PySem.W.nsIn K mainGlobals "HIGHEST_TOLL" = some (some (.int 1000 v_HIGHEST_TOLL)))
    : ∃ t : Adr, Txt K mg t := by
  have F_is_evened := fun_mk (st := s_is_evened) l_is_evened c_is_evened k_is_evened
  have B_is_evened := F_is_evened.binds (ps := P_is_evened) fun _ _ _ _ _ _ us hl => match us, hl with | [_, _], _ => rfl
  have F_keep_to_tolls := fun_mk (st := s_keep_to_tolls) l_keep_to_tolls c_keep_to_tolls k_keep_to_tolls
  have B_keep_to_tolls := F_keep_to_tolls.binds (ps := P_keep_to_tolls) fun _ _ _ _ _ _ us hl => match us, hl with | [_, _], _ => rfl
  have F_cost := fun_mk (st := s_cost) l_cost c_cost k_cost
  have B_cost := F_cost.binds (ps := P_cost) fun _ _ _ _ _ _ us hl => match us, hl with | [_, _], _ => rfl
  have F_worth := fun_mk (st := s_worth) l_worth c_worth k_worth
  have B_worth := F_worth.binds (ps := P_worth) fun _ _ _ _ _ _ us hl => match us, hl with | [_, _], _ => rfl
  have F_Even_init__ := fun_mk (st := s_Even_init__) l_Even_init__ c_Even_init__ k_Even_init__
  have B_Even_init__ := F_Even_init__.binds (ps := P_Even_init__) fun _ _ _ _ _ _ us hl => match us, hl with | [_, _, _], _ => rfl
  have F_Even_evens := fun_mk (st := s_Even_evens) l_Even_evens c_Even_evens k_Even_evens
  have B_Even_evens := F_Even_evens.binds (ps := P_Even_evens) fun _ _ _ _ _ _ us hl => match us, hl with | [_, _], _ => rfl
  have F_Even_shows := fun_mk (st := s_Even_shows) l_Even_shows c_Even_shows k_Even_shows
  have B_Even_shows := F_Even_shows.binds (ps := P_Even_shows) fun _ _ _ _ _ _ us hl => match us, hl with | [_, _, _], _ => rfl
  have F_Uneven_init__ := fun_mk (st := s_Uneven_init__) l_Uneven_init__ c_Uneven_init__ k_Uneven_init__
  have B_Uneven_init__ := F_Uneven_init__.binds (ps := P_Uneven_init__) fun _ _ _ _ _ _ us hl => match us, hl with | [_, _], _ => rfl
  have F_Uneven_shows := fun_mk (st := s_Uneven_shows) l_Uneven_shows c_Uneven_shows k_Uneven_shows
  have B_Uneven_shows := F_Uneven_shows.binds (ps := P_Uneven_shows) fun _ _ _ _ _ _ us hl => match us, hl with | [_, _, _], _ => rfl
  have F_Within_init__ := fun_mk (st := s_Within_init__) l_Within_init__ c_Within_init__ k_Within_init__
  have B_Within_init__ := F_Within_init__.binds (ps := P_Within_init__) fun _ _ _ _ _ _ us hl => match us, hl with | [_, _], _ => rfl
  have F_Within_shows := fun_mk (st := s_Within_shows) l_Within_shows c_Within_shows k_Within_shows
  have B_Within_shows := F_Within_shows.binds (ps := P_Within_shows) fun _ _ _ _ _ _ us hl => match us, hl with | [_, _, _], _ => rfl
  have F_Stretch_init__ := fun_mk (st := s_Stretch_init__) l_Stretch_init__ c_Stretch_init__ k_Stretch_init__
  have B_Stretch_init__ := F_Stretch_init__.binds (ps := P_Stretch_init__) fun _ _ _ _ _ _ us hl => match us, hl with | [_, _, _], _ => rfl
  have F_Stretch_shows := fun_mk (st := s_Stretch_shows) l_Stretch_shows c_Stretch_shows k_Stretch_shows
  have B_Stretch_shows := F_Stretch_shows.binds (ps := P_Stretch_shows) fun _ _ _ _ _ _ us hl => match us, hl with | [_, _, _], _ => rfl
  have F_is_whole_number := fun_mk (st := s_is_whole_number) l_is_whole_number c_is_whole_number k_is_whole_number
  have B_is_whole_number := F_is_whole_number.binds (ps := P_is_whole_number) fun _ _ _ _ _ _ us hl => match us, hl with | [_], _ => rfl
  have F_is_house := fun_mk (st := s_is_house) l_is_house c_is_house k_is_house
  have B_is_house := F_is_house.binds (ps := P_is_house) fun _ _ _ _ _ _ us hl => match us, hl with | [_], _ => rfl
  have F_are_houses := fun_mk (st := s_are_houses) l_are_houses c_are_houses k_are_houses
  have B_are_houses := F_are_houses.binds (ps := P_are_houses) fun _ _ _ _ _ _ us hl => match us, hl with | [_], _ => rfl
  have F_Ring_init__ := fun_mk (st := s_Ring_init__) l_Ring_init__ c_Ring_init__ k_Ring_init__
  have B_Ring_init__ := F_Ring_init__.binds (ps := P_Ring_init__) fun _ _ _ _ _ _ us hl => match us, hl with | [_, _], _ => rfl
  have F_Ring_houses := fun_mk (st := s_Ring_houses) l_Ring_houses c_Ring_houses k_Ring_houses
  have B_Ring_houses := F_Ring_houses.binds (ps := P_Ring_houses) fun _ _ _ _ _ _ us hl => match us, hl with | [_], _ => rfl
  have F_Ring_whole := fun_mk (st := s_Ring_whole) l_Ring_whole c_Ring_whole k_Ring_whole
  have B_Ring_whole := F_Ring_whole.binds (ps := P_Ring_whole) fun _ _ _ _ _ _ us hl => match us, hl with | [_], _ => rfl
  have F_is_toll := fun_mk (st := s_is_toll) l_is_toll c_is_toll k_is_toll
  have B_is_toll := F_is_toll.binds (ps := P_is_toll) fun _ _ _ _ _ _ us hl => match us, hl with | [_], _ => rfl
  have F_tolls_for := fun_mk (st := s_tolls_for) l_tolls_for c_tolls_for k_tolls_for
  have B_tolls_for := F_tolls_for.binds (ps := P_tolls_for) fun _ _ _ _ _ _ us hl => match us, hl with | [_, _], _ => rfl
  have F_along := fun_mk (st := s_along) l_along c_along k_along
  have B_along := F_along.binds (ps := P_along) fun _ _ _ _ _ _ us hl => match us, hl with | [_], _ => rfl
  have F_lowest_middle := fun_mk (st := s_lowest_middle) l_lowest_middle c_lowest_middle k_lowest_middle
  have B_lowest_middle := F_lowest_middle.binds (ps := P_lowest_middle) fun _ _ _ _ _ _ us hl => match us, hl with | [_, _], _ => rfl
  have F_least_over_last := fun_mk (st := s_least_over_last) l_least_over_last c_least_over_last k_least_over_last
  have B_least_over_last := F_least_over_last.binds (ps := P_least_over_last) fun _ _ _ _ _ _ us hl => match us, hl with | [_, _], _ => rfl
  have F_full_step := fun_mk (st := s_full_step) l_full_step c_full_step k_full_step
  have B_full_step := F_full_step.binds (ps := P_full_step) fun _ _ _ _ _ _ us hl => match us, hl with | [_, _], _ => rfl
  have F_steps_down := fun_mk (st := s_steps_down) l_steps_down c_steps_down k_steps_down
  have B_steps_down := F_steps_down.binds (ps := P_steps_down) fun _ _ _ _ _ _ us hl => match us, hl with | [_, _], _ => rfl
  have F_prices_by := fun_mk (st := s_prices_by) l_prices_by c_prices_by k_prices_by
  have B_prices_by := F_prices_by.binds (ps := P_prices_by) fun _ _ _ _ _ _ us hl => match us, hl with | [_], _ => rfl
  have F_least := fun_mk (st := s_least) l_least c_least k_least
  have B_least := F_least.binds (ps := P_least) fun _ _ _ _ _ _ us hl => match us, hl with | [_, _], _ => rfl
  have F_law_cell_at := fun_mk (st := s_law_cell_at) l_law_cell_at c_law_cell_at k_law_cell_at
  have B_law_cell_at := F_law_cell_at.binds (ps := P_law_cell_at) fun _ _ _ _ _ _ us hl => match us, hl with | [_, _], _ => rfl
  have F_law_draw := fun_mk (st := s_law_draw) l_law_draw c_law_draw k_law_draw
  have B_law_draw := F_law_draw.binds (ps := P_law_draw) fun _ _ _ _ _ _ us hl => match us, hl with | [_, _, _], _ => rfl
  have F_law_houses := fun_mk (st := s_law_houses) l_law_houses c_law_houses k_law_houses
  have B_law_houses := F_law_houses.binds (ps := P_law_houses) fun _ _ _ _ _ _ us hl => match us, hl with | [_, _], _ => rfl
  have F_law_tolls := fun_mk (st := s_law_tolls) l_law_tolls c_law_tolls k_law_tolls
  have B_law_tolls := F_law_tolls.binds (ps := P_law_tolls) fun _ _ _ _ _ _ us hl => match us, hl with | [_, _], _ => rfl
  have F_law_evened := fun_mk (st := s_law_evened) l_law_evened c_law_evened k_law_evened
  have B_law_evened := F_law_evened.binds (ps := P_law_evened) fun _ _ _ _ _ _ us hl => match us, hl with | [_, _], _ => rfl
  have F_law_cost := fun_mk (st := s_law_cost) l_law_cost c_law_cost k_law_cost
  have B_law_cost := F_law_cost.binds (ps := P_law_cost) fun _ _ _ _ _ _ us hl => match us, hl with | [_, _], _ => rfl
  have F_law_priced := fun_mk (st := s_law_priced) l_law_priced c_law_priced k_law_priced
  have B_law_priced := F_law_priced.binds (ps := P_law_priced) fun _ _ _ _ _ _ us hl => match us, hl with | [_, _, _, _], _ => rfl
  have F_law_says := fun_mk (st := s_law_says) l_law_says c_law_says k_law_says
  have B_law_says := F_law_says.binds (ps := P_law_says) fun _ _ _ _ _ _ us hl => match us, hl with | [_, _], _ => rfl
  have F_law_bent := fun_mk (st := s_law_bent) l_law_bent c_law_bent k_law_bent
  have B_law_bent := F_law_bent.binds (ps := P_law_bent) fun _ _ _ _ _ _ us hl => match us, hl with | [_, _], _ => rfl
  have F_law_even_right := fun_mk (st := s_law_even_right) l_law_even_right c_law_even_right k_law_even_right
  have B_law_even_right := F_law_even_right.binds (ps := P_law_even_right) fun _ _ _ _ _ _ us hl => match us, hl with | [_, _, _, _], _ => rfl
  have F_law_bounds_right := fun_mk (st := s_law_bounds_right) l_law_bounds_right c_law_bounds_right k_law_bounds_right
  have B_law_bounds_right := F_law_bounds_right.binds (ps := P_law_bounds_right) fun _ _ _ _ _ _ us hl => match us, hl with | [_, _, _], _ => rfl
  have F_law := fun_mk (st := s_law) l_law c_law k_law
  have B_law := F_law.binds (ps := P_law) fun _ _ _ _ _ _ us hl => match us, hl with | [_], _ => rfl
  exact ⟨⟨f_is_evened, _, f_keep_to_tolls, _, f_cost, _, f_worth, _, f_Even_init__, _, f_Even_evens, _, f_Even_shows, _, f_Uneven_init__, _, f_Uneven_shows, _, f_Within_init__, _, f_Within_shows, _, f_Stretch_init__, _, f_Stretch_shows, _, f_is_whole_number, _, f_is_house, _, f_are_houses, _, f_Ring_init__, _, f_Ring_houses, _, f_Ring_whole, _, f_is_toll, _, f_tolls_for, _, f_along, _, f_lowest_middle, _, f_least_over_last, _, f_full_step, _, f_steps_down, _, f_prices_by, _, f_least, _, f_law_cell_at, _, f_law_draw, _, f_law_houses, _, f_law_tolls, _, f_law_evened, _, f_law_cost, _, f_law_priced, _, f_law_says, _, f_law_bent, _, f_law_even_right, _, f_law_bounds_right, _, f_law, _, C_Even, C_Uneven, C_Within, C_Stretch, C_Ring, v_FARTHEST_NUMBER, v_FEWEST_HOUSES, v_HIGHEST_TOLL⟩,
    ⟨F_is_evened,
     B_is_evened,
     PySem.W.mg_of X G a_is_evened,
     F_keep_to_tolls,
     B_keep_to_tolls,
     PySem.W.mg_of X G a_keep_to_tolls,
     F_cost,
     B_cost,
     PySem.W.mg_of X G a_cost,
     F_worth,
     B_worth,
     PySem.W.mg_of X G a_worth,
     F_Even_init__,
     B_Even_init__,
     F_Even_evens,
     B_Even_evens,
     F_Even_shows,
     B_Even_shows,
     F_Uneven_init__,
     B_Uneven_init__,
     F_Uneven_shows,
     B_Uneven_shows,
     F_Within_init__,
     B_Within_init__,
     F_Within_shows,
     B_Within_shows,
     F_Stretch_init__,
     B_Stretch_init__,
     F_Stretch_shows,
     B_Stretch_shows,
     F_is_whole_number,
     B_is_whole_number,
     PySem.W.mg_of X G a_is_whole_number,
     F_is_house,
     B_is_house,
     PySem.W.mg_of X G a_is_house,
     F_are_houses,
     B_are_houses,
     PySem.W.mg_of X G a_are_houses,
     F_Ring_init__,
     B_Ring_init__,
     F_Ring_houses,
     B_Ring_houses,
     F_Ring_whole,
     B_Ring_whole,
     F_is_toll,
     B_is_toll,
     PySem.W.mg_of X G a_is_toll,
     F_tolls_for,
     B_tolls_for,
     PySem.W.mg_of X G a_tolls_for,
     F_along,
     B_along,
     PySem.W.mg_of X G a_along,
     F_lowest_middle,
     B_lowest_middle,
     PySem.W.mg_of X G a_lowest_middle,
     F_least_over_last,
     B_least_over_last,
     PySem.W.mg_of X G a_least_over_last,
     F_full_step,
     B_full_step,
     PySem.W.mg_of X G a_full_step,
     F_steps_down,
     B_steps_down,
     PySem.W.mg_of X G a_steps_down,
     F_prices_by,
     B_prices_by,
     PySem.W.mg_of X G a_prices_by,
     F_least,
     B_least,
     PySem.W.mg_of X G a_least,
     F_law_cell_at,
     B_law_cell_at,
     PySem.W.mg_of X G a_law_cell_at,
     F_law_draw,
     B_law_draw,
     PySem.W.mg_of X G a_law_draw,
     F_law_houses,
     B_law_houses,
     PySem.W.mg_of X G a_law_houses,
     F_law_tolls,
     B_law_tolls,
     PySem.W.mg_of X G a_law_tolls,
     F_law_evened,
     B_law_evened,
     PySem.W.mg_of X G a_law_evened,
     F_law_cost,
     B_law_cost,
     PySem.W.mg_of X G a_law_cost,
     F_law_priced,
     B_law_priced,
     PySem.W.mg_of X G a_law_priced,
     F_law_says,
     B_law_says,
     PySem.W.mg_of X G a_law_says,
     F_law_bent,
     B_law_bent,
     PySem.W.mg_of X G a_law_bent,
     F_law_even_right,
     B_law_even_right,
     PySem.W.mg_of X G a_law_even_right,
     F_law_bounds_right,
     B_law_bounds_right,
     PySem.W.mg_of X G a_law_bounds_right,
     F_law,
     B_law,
     PySem.W.mg_of X G a_law,
     PySem.W.mg_of X G aC_Even,
     ⟨pg_Even, hd_Even, po_Even, sa_Even⟩,
     ⟨mk_Even, a_Even_init__, i_Even_init__, kc_Even⟩,
     ⟨a_Even_evens, i_Even_evens, k_Even_evens⟩,
     ⟨a_Even_shows, i_Even_shows, k_Even_shows⟩,
     n_Even_carried,
     n_Even_prices,
     PySem.W.mg_of X G aC_Uneven,
     ⟨pg_Uneven, hd_Uneven, po_Uneven, sa_Uneven⟩,
     ⟨mk_Uneven, a_Uneven_init__, i_Uneven_init__, kc_Uneven⟩,
     ⟨a_Uneven_shows, i_Uneven_shows, k_Uneven_shows⟩,
     n_Uneven_total,
     PySem.W.mg_of X G aC_Within,
     ⟨pg_Within, hd_Within, po_Within, sa_Within⟩,
     ⟨mk_Within, a_Within_init__, i_Within_init__, kc_Within⟩,
     ⟨a_Within_shows, i_Within_shows, k_Within_shows⟩,
     n_Within_carried,
     PySem.W.mg_of X G aC_Stretch,
     ⟨pg_Stretch, hd_Stretch, po_Stretch, sa_Stretch⟩,
     ⟨mk_Stretch, a_Stretch_init__, i_Stretch_init__, kc_Stretch⟩,
     ⟨a_Stretch_shows, i_Stretch_shows, k_Stretch_shows⟩,
     n_Stretch_first,
     n_Stretch_many,
     PySem.W.mg_of X G aC_Ring,
     ⟨pg_Ring, hd_Ring, po_Ring, sa_Ring⟩,
     ⟨mk_Ring, a_Ring_init__, i_Ring_init__, kc_Ring⟩,
     ⟨a_Ring_houses, i_Ring_houses, k_Ring_houses⟩,
     ⟨a_Ring_whole, i_Ring_whole, k_Ring_whole⟩,
     n_Ring_numbers,
     j1_Even,
     j2_Even,
     j1_Uneven,
     j2_Uneven,
     j3,
     j4,
     kit_b K "int" "int" true (by decide +kernel),
     kit_b K "int" "bool" false (by decide +kernel),
     kit_b K "list" "list" true (by decide +kernel),
     kit_b K "bool" "bool" true (by decide +kernel),
     isi_Even_Uneven,
     isi_Uneven_Uneven,
     PySem.W.mg_none_of X G z_abs,
     PySem.W.mg_none_of X G z_all,
     PySem.W.mg_none_of X G z_bool,
     PySem.W.mg_none_of X G z_enumerate,
     PySem.W.mg_none_of X G z_int,
     PySem.W.mg_none_of X G z_isinstance,
     PySem.W.mg_none_of X G z_len,
     PySem.W.mg_none_of X G z_list,
     PySem.W.mg_none_of X G z_max,
     PySem.W.mg_none_of X G z_min,
     PySem.W.mg_none_of X G z_range,
     PySem.W.mg_none_of X G z_sorted,
     PySem.W.mg_none_of X G z_sum,
     PySem.W.mg_none_of X G z_zip,
     PySem.W.mg_of X G v_FARTHEST_NUMBER_,
     PySem.W.mg_of X G v_FEWEST_HOUSES_,
     PySem.W.mg_of X G v_HIGHEST_TOLL_⟩⟩
theorem all_mk {l : PySem.W.OpenLaw} {w : World} {K : PySem.W.Frag} {h : Heap} {mg : Str → Option Value} {fa : Addr} (X : K.In h) (G : h.Ns mainGlobals mg) (hfa : mg "law" = some (.ref fa))
    {f_is_evened : Addr} {oc_is_evened kV_is_evened dc_is_evened pm_is_evened cd_is_evened ct_is_evened : Value} {od_is_evened an_is_evened : Option Addr} {sl_is_evened : Array (Option Value)}
    {f_keep_to_tolls : Addr} {oc_keep_to_tolls kV_keep_to_tolls dc_keep_to_tolls pm_keep_to_tolls cd_keep_to_tolls ct_keep_to_tolls : Value} {od_keep_to_tolls an_keep_to_tolls : Option Addr} {sl_keep_to_tolls : Array (Option Value)}
    {f_cost : Addr} {oc_cost kV_cost dc_cost pm_cost cd_cost ct_cost : Value} {od_cost an_cost : Option Addr} {sl_cost : Array (Option Value)}
    {f_worth : Addr} {oc_worth kV_worth dc_worth pm_worth cd_worth ct_worth : Value} {od_worth an_worth : Option Addr} {sl_worth : Array (Option Value)}
    {f_Even_init__ : Addr} {oc_Even_init__ kV_Even_init__ dc_Even_init__ pm_Even_init__ cd_Even_init__ ct_Even_init__ : Value} {od_Even_init__ an_Even_init__ : Option Addr} {sl_Even_init__ : Array (Option Value)}
    {f_Even_evens : Addr} {oc_Even_evens kV_Even_evens dc_Even_evens pm_Even_evens cd_Even_evens ct_Even_evens : Value} {od_Even_evens an_Even_evens : Option Addr} {sl_Even_evens : Array (Option Value)}
    {f_Even_shows : Addr} {oc_Even_shows kV_Even_shows dc_Even_shows pm_Even_shows cd_Even_shows ct_Even_shows : Value} {od_Even_shows an_Even_shows : Option Addr} {sl_Even_shows : Array (Option Value)}
    {f_Uneven_init__ : Addr} {oc_Uneven_init__ kV_Uneven_init__ dc_Uneven_init__ pm_Uneven_init__ cd_Uneven_init__ ct_Uneven_init__ : Value} {od_Uneven_init__ an_Uneven_init__ : Option Addr} {sl_Uneven_init__ : Array (Option Value)}
    {f_Uneven_shows : Addr} {oc_Uneven_shows kV_Uneven_shows dc_Uneven_shows pm_Uneven_shows cd_Uneven_shows ct_Uneven_shows : Value} {od_Uneven_shows an_Uneven_shows : Option Addr} {sl_Uneven_shows : Array (Option Value)}
    {f_Within_init__ : Addr} {oc_Within_init__ kV_Within_init__ dc_Within_init__ pm_Within_init__ cd_Within_init__ ct_Within_init__ : Value} {od_Within_init__ an_Within_init__ : Option Addr} {sl_Within_init__ : Array (Option Value)}
    {f_Within_shows : Addr} {oc_Within_shows kV_Within_shows dc_Within_shows pm_Within_shows cd_Within_shows ct_Within_shows : Value} {od_Within_shows an_Within_shows : Option Addr} {sl_Within_shows : Array (Option Value)}
    {f_Stretch_init__ : Addr} {oc_Stretch_init__ kV_Stretch_init__ dc_Stretch_init__ pm_Stretch_init__ cd_Stretch_init__ ct_Stretch_init__ : Value} {od_Stretch_init__ an_Stretch_init__ : Option Addr} {sl_Stretch_init__ : Array (Option Value)}
    {f_Stretch_shows : Addr} {oc_Stretch_shows kV_Stretch_shows dc_Stretch_shows pm_Stretch_shows cd_Stretch_shows ct_Stretch_shows : Value} {od_Stretch_shows an_Stretch_shows : Option Addr} {sl_Stretch_shows : Array (Option Value)}
    {f_is_whole_number : Addr} {oc_is_whole_number kV_is_whole_number dc_is_whole_number pm_is_whole_number cd_is_whole_number ct_is_whole_number : Value} {od_is_whole_number an_is_whole_number : Option Addr} {sl_is_whole_number : Array (Option Value)}
    {f_is_house : Addr} {oc_is_house kV_is_house dc_is_house pm_is_house cd_is_house ct_is_house : Value} {od_is_house an_is_house : Option Addr} {sl_is_house : Array (Option Value)}
    {f_are_houses : Addr} {oc_are_houses kV_are_houses dc_are_houses pm_are_houses cd_are_houses ct_are_houses : Value} {od_are_houses an_are_houses : Option Addr} {sl_are_houses : Array (Option Value)}
    {f_Ring_init__ : Addr} {oc_Ring_init__ kV_Ring_init__ dc_Ring_init__ pm_Ring_init__ cd_Ring_init__ ct_Ring_init__ : Value} {od_Ring_init__ an_Ring_init__ : Option Addr} {sl_Ring_init__ : Array (Option Value)}
    {f_Ring_houses : Addr} {oc_Ring_houses kV_Ring_houses dc_Ring_houses pm_Ring_houses cd_Ring_houses ct_Ring_houses : Value} {od_Ring_houses an_Ring_houses : Option Addr} {sl_Ring_houses : Array (Option Value)}
    {f_Ring_whole : Addr} {oc_Ring_whole kV_Ring_whole dc_Ring_whole pm_Ring_whole cd_Ring_whole ct_Ring_whole : Value} {od_Ring_whole an_Ring_whole : Option Addr} {sl_Ring_whole : Array (Option Value)}
    {f_is_toll : Addr} {oc_is_toll kV_is_toll dc_is_toll pm_is_toll cd_is_toll ct_is_toll : Value} {od_is_toll an_is_toll : Option Addr} {sl_is_toll : Array (Option Value)}
    {f_tolls_for : Addr} {oc_tolls_for kV_tolls_for dc_tolls_for pm_tolls_for cd_tolls_for ct_tolls_for : Value} {od_tolls_for an_tolls_for : Option Addr} {sl_tolls_for : Array (Option Value)}
    {f_along : Addr} {oc_along kV_along dc_along pm_along cd_along ct_along : Value} {od_along an_along : Option Addr} {sl_along : Array (Option Value)}
    {f_lowest_middle : Addr} {oc_lowest_middle kV_lowest_middle dc_lowest_middle pm_lowest_middle cd_lowest_middle ct_lowest_middle : Value} {od_lowest_middle an_lowest_middle : Option Addr} {sl_lowest_middle : Array (Option Value)}
    {f_least_over_last : Addr} {oc_least_over_last kV_least_over_last dc_least_over_last pm_least_over_last cd_least_over_last ct_least_over_last : Value} {od_least_over_last an_least_over_last : Option Addr} {sl_least_over_last : Array (Option Value)}
    {f_full_step : Addr} {oc_full_step kV_full_step dc_full_step pm_full_step cd_full_step ct_full_step : Value} {od_full_step an_full_step : Option Addr} {sl_full_step : Array (Option Value)}
    {f_steps_down : Addr} {oc_steps_down kV_steps_down dc_steps_down pm_steps_down cd_steps_down ct_steps_down : Value} {od_steps_down an_steps_down : Option Addr} {sl_steps_down : Array (Option Value)}
    {f_prices_by : Addr} {oc_prices_by kV_prices_by dc_prices_by pm_prices_by cd_prices_by ct_prices_by : Value} {od_prices_by an_prices_by : Option Addr} {sl_prices_by : Array (Option Value)}
    {f_least : Addr} {oc_least kV_least dc_least pm_least cd_least ct_least : Value} {od_least an_least : Option Addr} {sl_least : Array (Option Value)}
    {f_law_cell_at : Addr} {oc_law_cell_at kV_law_cell_at dc_law_cell_at pm_law_cell_at cd_law_cell_at ct_law_cell_at : Value} {od_law_cell_at an_law_cell_at : Option Addr} {sl_law_cell_at : Array (Option Value)}
    {f_law_draw : Addr} {oc_law_draw kV_law_draw dc_law_draw pm_law_draw cd_law_draw ct_law_draw : Value} {od_law_draw an_law_draw : Option Addr} {sl_law_draw : Array (Option Value)}
    {f_law_houses : Addr} {oc_law_houses kV_law_houses dc_law_houses pm_law_houses cd_law_houses ct_law_houses : Value} {od_law_houses an_law_houses : Option Addr} {sl_law_houses : Array (Option Value)}
    {f_law_tolls : Addr} {oc_law_tolls kV_law_tolls dc_law_tolls pm_law_tolls cd_law_tolls ct_law_tolls : Value} {od_law_tolls an_law_tolls : Option Addr} {sl_law_tolls : Array (Option Value)}
    {f_law_evened : Addr} {oc_law_evened kV_law_evened dc_law_evened pm_law_evened cd_law_evened ct_law_evened : Value} {od_law_evened an_law_evened : Option Addr} {sl_law_evened : Array (Option Value)}
    {f_law_cost : Addr} {oc_law_cost kV_law_cost dc_law_cost pm_law_cost cd_law_cost ct_law_cost : Value} {od_law_cost an_law_cost : Option Addr} {sl_law_cost : Array (Option Value)}
    {f_law_priced : Addr} {oc_law_priced kV_law_priced dc_law_priced pm_law_priced cd_law_priced ct_law_priced : Value} {od_law_priced an_law_priced : Option Addr} {sl_law_priced : Array (Option Value)}
    {f_law_says : Addr} {oc_law_says kV_law_says dc_law_says pm_law_says cd_law_says ct_law_says : Value} {od_law_says an_law_says : Option Addr} {sl_law_says : Array (Option Value)}
    {f_law_bent : Addr} {oc_law_bent kV_law_bent dc_law_bent pm_law_bent cd_law_bent ct_law_bent : Value} {od_law_bent an_law_bent : Option Addr} {sl_law_bent : Array (Option Value)}
    {f_law_even_right : Addr} {oc_law_even_right kV_law_even_right dc_law_even_right pm_law_even_right cd_law_even_right ct_law_even_right : Value} {od_law_even_right an_law_even_right : Option Addr} {sl_law_even_right : Array (Option Value)}
    {f_law_bounds_right : Addr} {oc_law_bounds_right kV_law_bounds_right dc_law_bounds_right pm_law_bounds_right cd_law_bounds_right ct_law_bounds_right : Value} {od_law_bounds_right an_law_bounds_right : Option Addr} {sl_law_bounds_right : Array (Option Value)}
    {f_law : Addr} {oc_law kV_law dc_law pm_law cd_law ct_law : Value} {od_law an_law : Option Addr} {sl_law : Array (Option Value)}
    {C_Even : Addr}
    {C_Uneven : Addr}
    {C_Within : Addr}
    {C_Stretch : Addr}
    {C_Ring : Addr}
    {v_FARTHEST_NUMBER : Tok}
    {v_FEWEST_HOUSES : Tok}
    {v_HIGHEST_TOLL : Tok}
    (aC_Even : PySem.W.nsIn K mainGlobals "Even" = some (some (.ref C_Even)))
    (aC_Uneven : PySem.W.nsIn K mainGlobals "Uneven" = some (some (.ref C_Uneven)))
    (aC_Within : PySem.W.nsIn K mainGlobals "Within" = some (some (.ref C_Within)))
    (aC_Stretch : PySem.W.nsIn K mainGlobals "Stretch" = some (some (.ref C_Stretch)))
    (aC_Ring : PySem.W.nsIn K mainGlobals "Ring" = some (some (.ref C_Ring)))
    (a_is_evened : PySem.W.nsIn K mainGlobals "is_evened" = some (some (.ref f_is_evened)))
    (l_is_evened : K.lookup f_is_evened = some ⟨oc_is_evened, od_is_evened, .func (PySem.W.fnOf "is_evened" "is_evened" (defArgs s_is_evened) (defBody s_is_evened) (defScope s_is_evened) .none kV_is_evened dc_is_evened pm_is_evened an_is_evened cd_is_evened ct_is_evened), sl_is_evened⟩)
    (c_is_evened : PySem.W.codeIn K cd_is_evened "is_evened" = true)
    (k_is_evened : PySem.W.keepIn K (.ref f_is_evened) = true)
    (a_keep_to_tolls : PySem.W.nsIn K mainGlobals "keep_to_tolls" = some (some (.ref f_keep_to_tolls)))
    (l_keep_to_tolls : K.lookup f_keep_to_tolls = some ⟨oc_keep_to_tolls, od_keep_to_tolls, .func (PySem.W.fnOf "keep_to_tolls" "keep_to_tolls" (defArgs s_keep_to_tolls) (defBody s_keep_to_tolls) (defScope s_keep_to_tolls) .none kV_keep_to_tolls dc_keep_to_tolls pm_keep_to_tolls an_keep_to_tolls cd_keep_to_tolls ct_keep_to_tolls), sl_keep_to_tolls⟩)
    (c_keep_to_tolls : PySem.W.codeIn K cd_keep_to_tolls "keep_to_tolls" = true)
    (k_keep_to_tolls : PySem.W.keepIn K (.ref f_keep_to_tolls) = true)
    (a_cost : PySem.W.nsIn K mainGlobals "cost" = some (some (.ref f_cost)))
    (l_cost : K.lookup f_cost = some ⟨oc_cost, od_cost, .func (PySem.W.fnOf "cost" "cost" (defArgs s_cost) (defBody s_cost) (defScope s_cost) .none kV_cost dc_cost pm_cost an_cost cd_cost ct_cost), sl_cost⟩)
    (c_cost : PySem.W.codeIn K cd_cost "cost" = true)
    (k_cost : PySem.W.keepIn K (.ref f_cost) = true)
    (a_worth : PySem.W.nsIn K mainGlobals "worth" = some (some (.ref f_worth)))
    (l_worth : K.lookup f_worth = some ⟨oc_worth, od_worth, .func (PySem.W.fnOf "worth" "worth" (defArgs s_worth) (defBody s_worth) (defScope s_worth) .none kV_worth dc_worth pm_worth an_worth cd_worth ct_worth), sl_worth⟩)
    (c_worth : PySem.W.codeIn K cd_worth "worth" = true)
    (k_worth : PySem.W.keepIn K (.ref f_worth) = true)
    (a_Even_init__ : PySem.W.findIn K (.ref C_Even) "__init__" = some (some (.ref f_Even_init__)))
    (i_Even_init__ : PySem.W.isFn K (.ref f_Even_init__) = true)
    (l_Even_init__ : K.lookup f_Even_init__ = some ⟨oc_Even_init__, od_Even_init__, .func (PySem.W.fnOf "__init__" "Even.__init__" (defArgs s_Even_init__) (defBody s_Even_init__) (defScope s_Even_init__) .none kV_Even_init__ dc_Even_init__ pm_Even_init__ an_Even_init__ cd_Even_init__ ct_Even_init__), sl_Even_init__⟩)
    (c_Even_init__ : PySem.W.codeIn K cd_Even_init__ "Even.__init__" = true)
    (k_Even_init__ : PySem.W.keepIn K (.ref f_Even_init__) = true)
    (a_Even_evens : PySem.W.findIn K (.ref C_Even) "evens" = some (some (.ref f_Even_evens)))
    (i_Even_evens : PySem.W.isFn K (.ref f_Even_evens) = true)
    (l_Even_evens : K.lookup f_Even_evens = some ⟨oc_Even_evens, od_Even_evens, .func (PySem.W.fnOf "evens" "Even.evens" (defArgs s_Even_evens) (defBody s_Even_evens) (defScope s_Even_evens) .none kV_Even_evens dc_Even_evens pm_Even_evens an_Even_evens cd_Even_evens ct_Even_evens), sl_Even_evens⟩)
    (c_Even_evens : PySem.W.codeIn K cd_Even_evens "Even.evens" = true)
    (k_Even_evens : PySem.W.keepIn K (.ref f_Even_evens) = true)
    (a_Even_shows : PySem.W.findIn K (.ref C_Even) "shows" = some (some (.ref f_Even_shows)))
    (i_Even_shows : PySem.W.isFn K (.ref f_Even_shows) = true)
    (l_Even_shows : K.lookup f_Even_shows = some ⟨oc_Even_shows, od_Even_shows, .func (PySem.W.fnOf "shows" "Even.shows" (defArgs s_Even_shows) (defBody s_Even_shows) (defScope s_Even_shows) .none kV_Even_shows dc_Even_shows pm_Even_shows an_Even_shows cd_Even_shows ct_Even_shows), sl_Even_shows⟩)
    (c_Even_shows : PySem.W.codeIn K cd_Even_shows "Even.shows" = true)
    (k_Even_shows : PySem.W.keepIn K (.ref f_Even_shows) = true)
    (a_Uneven_init__ : PySem.W.findIn K (.ref C_Uneven) "__init__" = some (some (.ref f_Uneven_init__)))
    (i_Uneven_init__ : PySem.W.isFn K (.ref f_Uneven_init__) = true)
    (l_Uneven_init__ : K.lookup f_Uneven_init__ = some ⟨oc_Uneven_init__, od_Uneven_init__, .func (PySem.W.fnOf "__init__" "Uneven.__init__" (defArgs s_Uneven_init__) (defBody s_Uneven_init__) (defScope s_Uneven_init__) .none kV_Uneven_init__ dc_Uneven_init__ pm_Uneven_init__ an_Uneven_init__ cd_Uneven_init__ ct_Uneven_init__), sl_Uneven_init__⟩)
    (c_Uneven_init__ : PySem.W.codeIn K cd_Uneven_init__ "Uneven.__init__" = true)
    (k_Uneven_init__ : PySem.W.keepIn K (.ref f_Uneven_init__) = true)
    (a_Uneven_shows : PySem.W.findIn K (.ref C_Uneven) "shows" = some (some (.ref f_Uneven_shows)))
    (i_Uneven_shows : PySem.W.isFn K (.ref f_Uneven_shows) = true)
    (l_Uneven_shows : K.lookup f_Uneven_shows = some ⟨oc_Uneven_shows, od_Uneven_shows, .func (PySem.W.fnOf "shows" "Uneven.shows" (defArgs s_Uneven_shows) (defBody s_Uneven_shows) (defScope s_Uneven_shows) .none kV_Uneven_shows dc_Uneven_shows pm_Uneven_shows an_Uneven_shows cd_Uneven_shows ct_Uneven_shows), sl_Uneven_shows⟩)
    (c_Uneven_shows : PySem.W.codeIn K cd_Uneven_shows "Uneven.shows" = true)
    (k_Uneven_shows : PySem.W.keepIn K (.ref f_Uneven_shows) = true)
    (a_Within_init__ : PySem.W.findIn K (.ref C_Within) "__init__" = some (some (.ref f_Within_init__)))
    (i_Within_init__ : PySem.W.isFn K (.ref f_Within_init__) = true)
    (l_Within_init__ : K.lookup f_Within_init__ = some ⟨oc_Within_init__, od_Within_init__, .func (PySem.W.fnOf "__init__" "Within.__init__" (defArgs s_Within_init__) (defBody s_Within_init__) (defScope s_Within_init__) .none kV_Within_init__ dc_Within_init__ pm_Within_init__ an_Within_init__ cd_Within_init__ ct_Within_init__), sl_Within_init__⟩)
    (c_Within_init__ : PySem.W.codeIn K cd_Within_init__ "Within.__init__" = true)
    (k_Within_init__ : PySem.W.keepIn K (.ref f_Within_init__) = true)
    (a_Within_shows : PySem.W.findIn K (.ref C_Within) "shows" = some (some (.ref f_Within_shows)))
    (i_Within_shows : PySem.W.isFn K (.ref f_Within_shows) = true)
    (l_Within_shows : K.lookup f_Within_shows = some ⟨oc_Within_shows, od_Within_shows, .func (PySem.W.fnOf "shows" "Within.shows" (defArgs s_Within_shows) (defBody s_Within_shows) (defScope s_Within_shows) .none kV_Within_shows dc_Within_shows pm_Within_shows an_Within_shows cd_Within_shows ct_Within_shows), sl_Within_shows⟩)
    (c_Within_shows : PySem.W.codeIn K cd_Within_shows "Within.shows" = true)
    (k_Within_shows : PySem.W.keepIn K (.ref f_Within_shows) = true)
    (a_Stretch_init__ : PySem.W.findIn K (.ref C_Stretch) "__init__" = some (some (.ref f_Stretch_init__)))
    (i_Stretch_init__ : PySem.W.isFn K (.ref f_Stretch_init__) = true)
    (l_Stretch_init__ : K.lookup f_Stretch_init__ = some ⟨oc_Stretch_init__, od_Stretch_init__, .func (PySem.W.fnOf "__init__" "Stretch.__init__" (defArgs s_Stretch_init__) (defBody s_Stretch_init__) (defScope s_Stretch_init__) .none kV_Stretch_init__ dc_Stretch_init__ pm_Stretch_init__ an_Stretch_init__ cd_Stretch_init__ ct_Stretch_init__), sl_Stretch_init__⟩)
    (c_Stretch_init__ : PySem.W.codeIn K cd_Stretch_init__ "Stretch.__init__" = true)
    (k_Stretch_init__ : PySem.W.keepIn K (.ref f_Stretch_init__) = true)
    (a_Stretch_shows : PySem.W.findIn K (.ref C_Stretch) "shows" = some (some (.ref f_Stretch_shows)))
    (i_Stretch_shows : PySem.W.isFn K (.ref f_Stretch_shows) = true)
    (l_Stretch_shows : K.lookup f_Stretch_shows = some ⟨oc_Stretch_shows, od_Stretch_shows, .func (PySem.W.fnOf "shows" "Stretch.shows" (defArgs s_Stretch_shows) (defBody s_Stretch_shows) (defScope s_Stretch_shows) .none kV_Stretch_shows dc_Stretch_shows pm_Stretch_shows an_Stretch_shows cd_Stretch_shows ct_Stretch_shows), sl_Stretch_shows⟩)
    (c_Stretch_shows : PySem.W.codeIn K cd_Stretch_shows "Stretch.shows" = true)
    (k_Stretch_shows : PySem.W.keepIn K (.ref f_Stretch_shows) = true)
    (a_is_whole_number : PySem.W.nsIn K mainGlobals "is_whole_number" = some (some (.ref f_is_whole_number)))
    (l_is_whole_number : K.lookup f_is_whole_number = some ⟨oc_is_whole_number, od_is_whole_number, .func (PySem.W.fnOf "is_whole_number" "is_whole_number" (defArgs s_is_whole_number) (defBody s_is_whole_number) (defScope s_is_whole_number) .none kV_is_whole_number dc_is_whole_number pm_is_whole_number an_is_whole_number cd_is_whole_number ct_is_whole_number), sl_is_whole_number⟩)
    (c_is_whole_number : PySem.W.codeIn K cd_is_whole_number "is_whole_number" = true)
    (k_is_whole_number : PySem.W.keepIn K (.ref f_is_whole_number) = true)
    (a_is_house : PySem.W.nsIn K mainGlobals "is_house" = some (some (.ref f_is_house)))
    (l_is_house : K.lookup f_is_house = some ⟨oc_is_house, od_is_house, .func (PySem.W.fnOf "is_house" "is_house" (defArgs s_is_house) (defBody s_is_house) (defScope s_is_house) .none kV_is_house dc_is_house pm_is_house an_is_house cd_is_house ct_is_house), sl_is_house⟩)
    (c_is_house : PySem.W.codeIn K cd_is_house "is_house" = true)
    (k_is_house : PySem.W.keepIn K (.ref f_is_house) = true)
    (a_are_houses : PySem.W.nsIn K mainGlobals "are_houses" = some (some (.ref f_are_houses)))
    (l_are_houses : K.lookup f_are_houses = some ⟨oc_are_houses, od_are_houses, .func (PySem.W.fnOf "are_houses" "are_houses" (defArgs s_are_houses) (defBody s_are_houses) (defScope s_are_houses) .none kV_are_houses dc_are_houses pm_are_houses an_are_houses cd_are_houses ct_are_houses), sl_are_houses⟩)
    (c_are_houses : PySem.W.codeIn K cd_are_houses "are_houses" = true)
    (k_are_houses : PySem.W.keepIn K (.ref f_are_houses) = true)
    (a_Ring_init__ : PySem.W.findIn K (.ref C_Ring) "__init__" = some (some (.ref f_Ring_init__)))
    (i_Ring_init__ : PySem.W.isFn K (.ref f_Ring_init__) = true)
    (l_Ring_init__ : K.lookup f_Ring_init__ = some ⟨oc_Ring_init__, od_Ring_init__, .func (PySem.W.fnOf "__init__" "Ring.__init__" (defArgs s_Ring_init__) (defBody s_Ring_init__) (defScope s_Ring_init__) .none kV_Ring_init__ dc_Ring_init__ pm_Ring_init__ an_Ring_init__ cd_Ring_init__ ct_Ring_init__), sl_Ring_init__⟩)
    (c_Ring_init__ : PySem.W.codeIn K cd_Ring_init__ "Ring.__init__" = true)
    (k_Ring_init__ : PySem.W.keepIn K (.ref f_Ring_init__) = true)
    (a_Ring_houses : PySem.W.findIn K (.ref C_Ring) "houses" = some (some (.ref f_Ring_houses)))
    (i_Ring_houses : PySem.W.isFn K (.ref f_Ring_houses) = true)
    (l_Ring_houses : K.lookup f_Ring_houses = some ⟨oc_Ring_houses, od_Ring_houses, .func (PySem.W.fnOf "houses" "Ring.houses" (defArgs s_Ring_houses) (defBody s_Ring_houses) (defScope s_Ring_houses) .none kV_Ring_houses dc_Ring_houses pm_Ring_houses an_Ring_houses cd_Ring_houses ct_Ring_houses), sl_Ring_houses⟩)
    (c_Ring_houses : PySem.W.codeIn K cd_Ring_houses "Ring.houses" = true)
    (k_Ring_houses : PySem.W.keepIn K (.ref f_Ring_houses) = true)
    (a_Ring_whole : PySem.W.findIn K (.ref C_Ring) "whole" = some (some (.ref f_Ring_whole)))
    (i_Ring_whole : PySem.W.isFn K (.ref f_Ring_whole) = true)
    (l_Ring_whole : K.lookup f_Ring_whole = some ⟨oc_Ring_whole, od_Ring_whole, .func (PySem.W.fnOf "whole" "Ring.whole" (defArgs s_Ring_whole) (defBody s_Ring_whole) (defScope s_Ring_whole) .none kV_Ring_whole dc_Ring_whole pm_Ring_whole an_Ring_whole cd_Ring_whole ct_Ring_whole), sl_Ring_whole⟩)
    (c_Ring_whole : PySem.W.codeIn K cd_Ring_whole "Ring.whole" = true)
    (k_Ring_whole : PySem.W.keepIn K (.ref f_Ring_whole) = true)
    (a_is_toll : PySem.W.nsIn K mainGlobals "is_toll" = some (some (.ref f_is_toll)))
    (l_is_toll : K.lookup f_is_toll = some ⟨oc_is_toll, od_is_toll, .func (PySem.W.fnOf "is_toll" "is_toll" (defArgs s_is_toll) (defBody s_is_toll) (defScope s_is_toll) .none kV_is_toll dc_is_toll pm_is_toll an_is_toll cd_is_toll ct_is_toll), sl_is_toll⟩)
    (c_is_toll : PySem.W.codeIn K cd_is_toll "is_toll" = true)
    (k_is_toll : PySem.W.keepIn K (.ref f_is_toll) = true)
    (a_tolls_for : PySem.W.nsIn K mainGlobals "tolls_for" = some (some (.ref f_tolls_for)))
    (l_tolls_for : K.lookup f_tolls_for = some ⟨oc_tolls_for, od_tolls_for, .func (PySem.W.fnOf "tolls_for" "tolls_for" (defArgs s_tolls_for) (defBody s_tolls_for) (defScope s_tolls_for) .none kV_tolls_for dc_tolls_for pm_tolls_for an_tolls_for cd_tolls_for ct_tolls_for), sl_tolls_for⟩)
    (c_tolls_for : PySem.W.codeIn K cd_tolls_for "tolls_for" = true)
    (k_tolls_for : PySem.W.keepIn K (.ref f_tolls_for) = true)
    (a_along : PySem.W.nsIn K mainGlobals "along" = some (some (.ref f_along)))
    (l_along : K.lookup f_along = some ⟨oc_along, od_along, .func (PySem.W.fnOf "along" "along" (defArgs s_along) (defBody s_along) (defScope s_along) .none kV_along dc_along pm_along an_along cd_along ct_along), sl_along⟩)
    (c_along : PySem.W.codeIn K cd_along "along" = true)
    (k_along : PySem.W.keepIn K (.ref f_along) = true)
    (a_lowest_middle : PySem.W.nsIn K mainGlobals "lowest_middle" = some (some (.ref f_lowest_middle)))
    (l_lowest_middle : K.lookup f_lowest_middle = some ⟨oc_lowest_middle, od_lowest_middle, .func (PySem.W.fnOf "lowest_middle" "lowest_middle" (defArgs s_lowest_middle) (defBody s_lowest_middle) (defScope s_lowest_middle) .none kV_lowest_middle dc_lowest_middle pm_lowest_middle an_lowest_middle cd_lowest_middle ct_lowest_middle), sl_lowest_middle⟩)
    (c_lowest_middle : PySem.W.codeIn K cd_lowest_middle "lowest_middle" = true)
    (k_lowest_middle : PySem.W.keepIn K (.ref f_lowest_middle) = true)
    (a_least_over_last : PySem.W.nsIn K mainGlobals "least_over_last" = some (some (.ref f_least_over_last)))
    (l_least_over_last : K.lookup f_least_over_last = some ⟨oc_least_over_last, od_least_over_last, .func (PySem.W.fnOf "least_over_last" "least_over_last" (defArgs s_least_over_last) (defBody s_least_over_last) (defScope s_least_over_last) .none kV_least_over_last dc_least_over_last pm_least_over_last an_least_over_last cd_least_over_last ct_least_over_last), sl_least_over_last⟩)
    (c_least_over_last : PySem.W.codeIn K cd_least_over_last "least_over_last" = true)
    (k_least_over_last : PySem.W.keepIn K (.ref f_least_over_last) = true)
    (a_full_step : PySem.W.nsIn K mainGlobals "full_step" = some (some (.ref f_full_step)))
    (l_full_step : K.lookup f_full_step = some ⟨oc_full_step, od_full_step, .func (PySem.W.fnOf "full_step" "full_step" (defArgs s_full_step) (defBody s_full_step) (defScope s_full_step) .none kV_full_step dc_full_step pm_full_step an_full_step cd_full_step ct_full_step), sl_full_step⟩)
    (c_full_step : PySem.W.codeIn K cd_full_step "full_step" = true)
    (k_full_step : PySem.W.keepIn K (.ref f_full_step) = true)
    (a_steps_down : PySem.W.nsIn K mainGlobals "steps_down" = some (some (.ref f_steps_down)))
    (l_steps_down : K.lookup f_steps_down = some ⟨oc_steps_down, od_steps_down, .func (PySem.W.fnOf "steps_down" "steps_down" (defArgs s_steps_down) (defBody s_steps_down) (defScope s_steps_down) .none kV_steps_down dc_steps_down pm_steps_down an_steps_down cd_steps_down ct_steps_down), sl_steps_down⟩)
    (c_steps_down : PySem.W.codeIn K cd_steps_down "steps_down" = true)
    (k_steps_down : PySem.W.keepIn K (.ref f_steps_down) = true)
    (a_prices_by : PySem.W.nsIn K mainGlobals "prices_by" = some (some (.ref f_prices_by)))
    (l_prices_by : K.lookup f_prices_by = some ⟨oc_prices_by, od_prices_by, .func (PySem.W.fnOf "prices_by" "prices_by" (defArgs s_prices_by) (defBody s_prices_by) (defScope s_prices_by) .none kV_prices_by dc_prices_by pm_prices_by an_prices_by cd_prices_by ct_prices_by), sl_prices_by⟩)
    (c_prices_by : PySem.W.codeIn K cd_prices_by "prices_by" = true)
    (k_prices_by : PySem.W.keepIn K (.ref f_prices_by) = true)
    (a_least : PySem.W.nsIn K mainGlobals "least" = some (some (.ref f_least)))
    (l_least : K.lookup f_least = some ⟨oc_least, od_least, .func (PySem.W.fnOf "least" "least" (defArgs s_least) (defBody s_least) (defScope s_least) .none kV_least dc_least pm_least an_least cd_least ct_least), sl_least⟩)
    (c_least : PySem.W.codeIn K cd_least "least" = true)
    (k_least : PySem.W.keepIn K (.ref f_least) = true)
    (a_law_cell_at : PySem.W.nsIn K mainGlobals "_law_cell_at" = some (some (.ref f_law_cell_at)))
    (l_law_cell_at : K.lookup f_law_cell_at = some ⟨oc_law_cell_at, od_law_cell_at, .func (PySem.W.fnOf "_law_cell_at" "_law_cell_at" (defArgs s_law_cell_at) (defBody s_law_cell_at) (defScope s_law_cell_at) .none kV_law_cell_at dc_law_cell_at pm_law_cell_at an_law_cell_at cd_law_cell_at ct_law_cell_at), sl_law_cell_at⟩)
    (c_law_cell_at : PySem.W.codeIn K cd_law_cell_at "_law_cell_at" = true)
    (k_law_cell_at : PySem.W.keepIn K (.ref f_law_cell_at) = true)
    (a_law_draw : PySem.W.nsIn K mainGlobals "_law_draw" = some (some (.ref f_law_draw)))
    (l_law_draw : K.lookup f_law_draw = some ⟨oc_law_draw, od_law_draw, .func (PySem.W.fnOf "_law_draw" "_law_draw" (defArgs s_law_draw) (defBody s_law_draw) (defScope s_law_draw) .none kV_law_draw dc_law_draw pm_law_draw an_law_draw cd_law_draw ct_law_draw), sl_law_draw⟩)
    (c_law_draw : PySem.W.codeIn K cd_law_draw "_law_draw" = true)
    (k_law_draw : PySem.W.keepIn K (.ref f_law_draw) = true)
    (a_law_houses : PySem.W.nsIn K mainGlobals "_law_houses" = some (some (.ref f_law_houses)))
    (l_law_houses : K.lookup f_law_houses = some ⟨oc_law_houses, od_law_houses, .func (PySem.W.fnOf "_law_houses" "_law_houses" (defArgs s_law_houses) (defBody s_law_houses) (defScope s_law_houses) .none kV_law_houses dc_law_houses pm_law_houses an_law_houses cd_law_houses ct_law_houses), sl_law_houses⟩)
    (c_law_houses : PySem.W.codeIn K cd_law_houses "_law_houses" = true)
    (k_law_houses : PySem.W.keepIn K (.ref f_law_houses) = true)
    (a_law_tolls : PySem.W.nsIn K mainGlobals "_law_tolls" = some (some (.ref f_law_tolls)))
    (l_law_tolls : K.lookup f_law_tolls = some ⟨oc_law_tolls, od_law_tolls, .func (PySem.W.fnOf "_law_tolls" "_law_tolls" (defArgs s_law_tolls) (defBody s_law_tolls) (defScope s_law_tolls) .none kV_law_tolls dc_law_tolls pm_law_tolls an_law_tolls cd_law_tolls ct_law_tolls), sl_law_tolls⟩)
    (c_law_tolls : PySem.W.codeIn K cd_law_tolls "_law_tolls" = true)
    (k_law_tolls : PySem.W.keepIn K (.ref f_law_tolls) = true)
    (a_law_evened : PySem.W.nsIn K mainGlobals "_law_evened" = some (some (.ref f_law_evened)))
    (l_law_evened : K.lookup f_law_evened = some ⟨oc_law_evened, od_law_evened, .func (PySem.W.fnOf "_law_evened" "_law_evened" (defArgs s_law_evened) (defBody s_law_evened) (defScope s_law_evened) .none kV_law_evened dc_law_evened pm_law_evened an_law_evened cd_law_evened ct_law_evened), sl_law_evened⟩)
    (c_law_evened : PySem.W.codeIn K cd_law_evened "_law_evened" = true)
    (k_law_evened : PySem.W.keepIn K (.ref f_law_evened) = true)
    (a_law_cost : PySem.W.nsIn K mainGlobals "_law_cost" = some (some (.ref f_law_cost)))
    (l_law_cost : K.lookup f_law_cost = some ⟨oc_law_cost, od_law_cost, .func (PySem.W.fnOf "_law_cost" "_law_cost" (defArgs s_law_cost) (defBody s_law_cost) (defScope s_law_cost) .none kV_law_cost dc_law_cost pm_law_cost an_law_cost cd_law_cost ct_law_cost), sl_law_cost⟩)
    (c_law_cost : PySem.W.codeIn K cd_law_cost "_law_cost" = true)
    (k_law_cost : PySem.W.keepIn K (.ref f_law_cost) = true)
    (a_law_priced : PySem.W.nsIn K mainGlobals "_law_priced" = some (some (.ref f_law_priced)))
    (l_law_priced : K.lookup f_law_priced = some ⟨oc_law_priced, od_law_priced, .func (PySem.W.fnOf "_law_priced" "_law_priced" (defArgs s_law_priced) (defBody s_law_priced) (defScope s_law_priced) .none kV_law_priced dc_law_priced pm_law_priced an_law_priced cd_law_priced ct_law_priced), sl_law_priced⟩)
    (c_law_priced : PySem.W.codeIn K cd_law_priced "_law_priced" = true)
    (k_law_priced : PySem.W.keepIn K (.ref f_law_priced) = true)
    (a_law_says : PySem.W.nsIn K mainGlobals "_law_says" = some (some (.ref f_law_says)))
    (l_law_says : K.lookup f_law_says = some ⟨oc_law_says, od_law_says, .func (PySem.W.fnOf "_law_says" "_law_says" (defArgs s_law_says) (defBody s_law_says) (defScope s_law_says) .none kV_law_says dc_law_says pm_law_says an_law_says cd_law_says ct_law_says), sl_law_says⟩)
    (c_law_says : PySem.W.codeIn K cd_law_says "_law_says" = true)
    (k_law_says : PySem.W.keepIn K (.ref f_law_says) = true)
    (a_law_bent : PySem.W.nsIn K mainGlobals "_law_bent" = some (some (.ref f_law_bent)))
    (l_law_bent : K.lookup f_law_bent = some ⟨oc_law_bent, od_law_bent, .func (PySem.W.fnOf "_law_bent" "_law_bent" (defArgs s_law_bent) (defBody s_law_bent) (defScope s_law_bent) .none kV_law_bent dc_law_bent pm_law_bent an_law_bent cd_law_bent ct_law_bent), sl_law_bent⟩)
    (c_law_bent : PySem.W.codeIn K cd_law_bent "_law_bent" = true)
    (k_law_bent : PySem.W.keepIn K (.ref f_law_bent) = true)
    (a_law_even_right : PySem.W.nsIn K mainGlobals "_law_even_right" = some (some (.ref f_law_even_right)))
    (l_law_even_right : K.lookup f_law_even_right = some ⟨oc_law_even_right, od_law_even_right, .func (PySem.W.fnOf "_law_even_right" "_law_even_right" (defArgs s_law_even_right) (defBody s_law_even_right) (defScope s_law_even_right) .none kV_law_even_right dc_law_even_right pm_law_even_right an_law_even_right cd_law_even_right ct_law_even_right), sl_law_even_right⟩)
    (c_law_even_right : PySem.W.codeIn K cd_law_even_right "_law_even_right" = true)
    (k_law_even_right : PySem.W.keepIn K (.ref f_law_even_right) = true)
    (a_law_bounds_right : PySem.W.nsIn K mainGlobals "_law_bounds_right" = some (some (.ref f_law_bounds_right)))
    (l_law_bounds_right : K.lookup f_law_bounds_right = some ⟨oc_law_bounds_right, od_law_bounds_right, .func (PySem.W.fnOf "_law_bounds_right" "_law_bounds_right" (defArgs s_law_bounds_right) (defBody s_law_bounds_right) (defScope s_law_bounds_right) .none kV_law_bounds_right dc_law_bounds_right pm_law_bounds_right an_law_bounds_right cd_law_bounds_right ct_law_bounds_right), sl_law_bounds_right⟩)
    (c_law_bounds_right : PySem.W.codeIn K cd_law_bounds_right "_law_bounds_right" = true)
    (k_law_bounds_right : PySem.W.keepIn K (.ref f_law_bounds_right) = true)
    (a_law : PySem.W.nsIn K mainGlobals "law" = some (some (.ref f_law)))
    (l_law : K.lookup f_law = some ⟨oc_law, od_law, .func (PySem.W.fnOf "law" "law" (defArgs s_law) (defBody s_law) (defScope s_law) .none kV_law dc_law pm_law an_law cd_law ct_law), sl_law⟩)
    (c_law : PySem.W.codeIn K cd_law "law" = true)
    (k_law : PySem.W.keepIn K (.ref f_law) = true)
    (pg_Even : PySem.W.plainGet K C_Even Str.empty = true)
    (hd_Even : PySem.W.hasDictIn K C_Even = true)
    (po_Even : PySem.W.plainOver K C_Even = true)
    (sa_Even : PySem.W.findIn K (.ref C_Even) "__setattr__" = some (some (.builtin "object.__setattr__")))
    (mk_Even : PySem.W.makesIn K C_Even = true)
    (kc_Even : PySem.W.keepIn K (.ref C_Even) = true)
    (n_Even_carried : PySem.W.findIn K (.ref C_Even) "carried" = some none)
    (n_Even_prices : PySem.W.findIn K (.ref C_Even) "prices" = some none)
    (pg_Uneven : PySem.W.plainGet K C_Uneven Str.empty = true)
    (hd_Uneven : PySem.W.hasDictIn K C_Uneven = true)
    (po_Uneven : PySem.W.plainOver K C_Uneven = true)
    (sa_Uneven : PySem.W.findIn K (.ref C_Uneven) "__setattr__" = some (some (.builtin "object.__setattr__")))
    (mk_Uneven : PySem.W.makesIn K C_Uneven = true)
    (kc_Uneven : PySem.W.keepIn K (.ref C_Uneven) = true)
    (n_Uneven_total : PySem.W.findIn K (.ref C_Uneven) "total" = some none)
    (pg_Within : PySem.W.plainGet K C_Within Str.empty = true)
    (hd_Within : PySem.W.hasDictIn K C_Within = true)
    (po_Within : PySem.W.plainOver K C_Within = true)
    (sa_Within : PySem.W.findIn K (.ref C_Within) "__setattr__" = some (some (.builtin "object.__setattr__")))
    (mk_Within : PySem.W.makesIn K C_Within = true)
    (kc_Within : PySem.W.keepIn K (.ref C_Within) = true)
    (n_Within_carried : PySem.W.findIn K (.ref C_Within) "carried" = some none)
    (pg_Stretch : PySem.W.plainGet K C_Stretch Str.empty = true)
    (hd_Stretch : PySem.W.hasDictIn K C_Stretch = true)
    (po_Stretch : PySem.W.plainOver K C_Stretch = true)
    (sa_Stretch : PySem.W.findIn K (.ref C_Stretch) "__setattr__" = some (some (.builtin "object.__setattr__")))
    (mk_Stretch : PySem.W.makesIn K C_Stretch = true)
    (kc_Stretch : PySem.W.keepIn K (.ref C_Stretch) = true)
    (n_Stretch_first : PySem.W.findIn K (.ref C_Stretch) "first" = some none)
    (n_Stretch_many : PySem.W.findIn K (.ref C_Stretch) "many" = some none)
    (pg_Ring : PySem.W.plainGet K C_Ring Str.empty = true)
    (hd_Ring : PySem.W.hasDictIn K C_Ring = true)
    (po_Ring : PySem.W.plainOver K C_Ring = true)
    (sa_Ring : PySem.W.findIn K (.ref C_Ring) "__setattr__" = some (some (.builtin "object.__setattr__")))
    (mk_Ring : PySem.W.makesIn K C_Ring = true)
    (kc_Ring : PySem.W.keepIn K (.ref C_Ring) = true)
    (n_Ring_numbers : PySem.W.findIn K (.ref C_Ring) "numbers" = some none)
    (j1_Even : PySem.W.findIn K (.ref C_Even) "__class__" = some (some (.builtin "object.__class__")))
    (j2_Even : PySem.W.mroIn K C_Even (.type "object") = some true)
    (j1_Uneven : PySem.W.findIn K (.ref C_Uneven) "__class__" = some (some (.builtin "object.__class__")))
    (j2_Uneven : PySem.W.mroIn K C_Uneven (.type "object") = some true)
    (j3 : PySem.W.specialIn K (.builtin "object.__class__") "__get__" = some (some (.builtin "getset_descriptor.__get__")))
    (j4 : PySem.W.takesIn K (.builtin "object.__class__") = some true)
    (isi_Even_Uneven : PySem.W.kitOne K (.ref C_Even) (.ref C_Uneven) = some false)
    (isi_Uneven_Uneven : PySem.W.kitOne K (.ref C_Uneven) (.ref C_Uneven) = some true)
    (z_abs : PySem.W.nsIn K mainGlobals "abs" = some none)
    (z_all : PySem.W.nsIn K mainGlobals "all" = some none)
    (z_bool : PySem.W.nsIn K mainGlobals "bool" = some none)
    (z_enumerate : PySem.W.nsIn K mainGlobals "enumerate" = some none)
    (z_int : PySem.W.nsIn K mainGlobals "int" = some none)
    (z_isinstance : PySem.W.nsIn K mainGlobals "isinstance" = some none)
    (z_len : PySem.W.nsIn K mainGlobals "len" = some none)
    (z_list : PySem.W.nsIn K mainGlobals "list" = some none)
    (z_max : PySem.W.nsIn K mainGlobals "max" = some none)
    (z_min : PySem.W.nsIn K mainGlobals "min" = some none)
    (z_range : PySem.W.nsIn K mainGlobals "range" = some none)
    (z_sorted : PySem.W.nsIn K mainGlobals "sorted" = some none)
    (z_sum : PySem.W.nsIn K mainGlobals "sum" = some none)
    (z_zip : PySem.W.nsIn K mainGlobals "zip" = some none)
    (v_FARTHEST_NUMBER_ : PySem.W.nsIn K mainGlobals "FARTHEST_NUMBER" = some (some (.int 1000000 v_FARTHEST_NUMBER)))
    (v_FEWEST_HOUSES_ : PySem.W.nsIn K mainGlobals "FEWEST_HOUSES" = some (some (.int 2 v_FEWEST_HOUSES)))
    (v_HIGHEST_TOLL_ : PySem.W.nsIn K mainGlobals "HIGHEST_TOLL" = some (some (.int 1000 v_HIGHEST_TOLL)))
    : ∃ fd : FuncData, (∀ (s : Shared) (v : Value), BindsTo s fd ⟨[v], []⟩ [("_law_script", v)]) ∧ ∀ base : Heap, K.In base → base.Ns mainGlobals mg → FnOk l.prog w K mg base CX0 lawK fa fd ["_law_script"] (sp_law K) := by
  obtain ⟨t, T⟩ := txt_mk X G aC_Even aC_Uneven aC_Within aC_Stretch aC_Ring a_is_evened l_is_evened c_is_evened k_is_evened a_keep_to_tolls l_keep_to_tolls c_keep_to_tolls k_keep_to_tolls a_cost l_cost c_cost k_cost a_worth l_worth c_worth k_worth a_Even_init__ i_Even_init__ l_Even_init__ c_Even_init__ k_Even_init__ a_Even_evens i_Even_evens l_Even_evens c_Even_evens k_Even_evens a_Even_shows i_Even_shows l_Even_shows c_Even_shows k_Even_shows a_Uneven_init__ i_Uneven_init__ l_Uneven_init__ c_Uneven_init__ k_Uneven_init__ a_Uneven_shows i_Uneven_shows l_Uneven_shows c_Uneven_shows k_Uneven_shows a_Within_init__ i_Within_init__ l_Within_init__ c_Within_init__ k_Within_init__ a_Within_shows i_Within_shows l_Within_shows c_Within_shows k_Within_shows a_Stretch_init__ i_Stretch_init__ l_Stretch_init__ c_Stretch_init__ k_Stretch_init__ a_Stretch_shows i_Stretch_shows l_Stretch_shows c_Stretch_shows k_Stretch_shows a_is_whole_number l_is_whole_number c_is_whole_number k_is_whole_number a_is_house l_is_house c_is_house k_is_house a_are_houses l_are_houses c_are_houses k_are_houses a_Ring_init__ i_Ring_init__ l_Ring_init__ c_Ring_init__ k_Ring_init__ a_Ring_houses i_Ring_houses l_Ring_houses c_Ring_houses k_Ring_houses a_Ring_whole i_Ring_whole l_Ring_whole c_Ring_whole k_Ring_whole a_is_toll l_is_toll c_is_toll k_is_toll a_tolls_for l_tolls_for c_tolls_for k_tolls_for a_along l_along c_along k_along a_lowest_middle l_lowest_middle c_lowest_middle k_lowest_middle a_least_over_last l_least_over_last c_least_over_last k_least_over_last a_full_step l_full_step c_full_step k_full_step a_steps_down l_steps_down c_steps_down k_steps_down a_prices_by l_prices_by c_prices_by k_prices_by a_least l_least c_least k_least a_law_cell_at l_law_cell_at c_law_cell_at k_law_cell_at a_law_draw l_law_draw c_law_draw k_law_draw a_law_houses l_law_houses c_law_houses k_law_houses a_law_tolls l_law_tolls c_law_tolls k_law_tolls a_law_evened l_law_evened c_law_evened k_law_evened a_law_cost l_law_cost c_law_cost k_law_cost a_law_priced l_law_priced c_law_priced k_law_priced a_law_says l_law_says c_law_says k_law_says a_law_bent l_law_bent c_law_bent k_law_bent a_law_even_right l_law_even_right c_law_even_right k_law_even_right a_law_bounds_right l_law_bounds_right c_law_bounds_right k_law_bounds_right a_law l_law c_law k_law pg_Even hd_Even po_Even sa_Even mk_Even kc_Even n_Even_carried n_Even_prices pg_Uneven hd_Uneven po_Uneven sa_Uneven mk_Uneven kc_Uneven n_Uneven_total pg_Within hd_Within po_Within sa_Within mk_Within kc_Within n_Within_carried pg_Stretch hd_Stretch po_Stretch sa_Stretch mk_Stretch kc_Stretch n_Stretch_first n_Stretch_many pg_Ring hd_Ring po_Ring sa_Ring mk_Ring kc_Ring n_Ring_numbers j1_Even j2_Even j1_Uneven j2_Uneven j3 j4 isi_Even_Uneven isi_Uneven_Uneven z_abs z_all z_bool z_enumerate z_int z_isinstance z_len z_list z_max z_min z_range z_sorted z_sum z_zip v_FARTHEST_NUMBER_ v_FEWEST_HOUSES_ v_HIGHEST_TOLL_
  have e := hfa.symm.trans T.g_law
  cases e
  exact ⟨t.d_law, fun s v => bind1 T.F_law s v, fun base _ _ => ok_law T⟩
theorem walk {l : PySem.W.OpenLaw} {q : Program} {loose : List Str} {XP : (Str → Option Value) → Heap → Prop} {YP : World → Heap → Prop} {d : DefRec} {K : Params → PySem.W.Frag} (hn : l.most = some 63) (hdf : d.params.defaults = [])
    (hY : ∀ (w : World) (h : Heap), YP w h → (K w.params).In h)
    (F : ∀ (w : World) (mg : Str → Option Value) (fa : Addr) (h : Heap), (K w.params).In h → h.Ns mainGlobals mg → mg d.name = some (.ref fa) →
      ∃ fd : FuncData, (∀ (s : Shared) (u : Value), BindsTo s fd ⟨[u], []⟩ [("_law_script", u)]) ∧ ∀ base : Heap, (K w.params).In base → base.Ns mainGlobals mg → FnOk l.prog w (K w.params) mg base CX0 lawK fa fd ["_law_script"] (sp_law (K w.params))) :
    PySem.W.WalkO q loose XP YP l.row.toRowW d [] (fun f vs => PySem.call f vs) :=
  L2.walk_of (n := 63) (k := lawK) (x := "_law_script") (CX := fun _ => CX0) (sp := fun w => sp_law (K w.params)) hn (by decide) hdf ⟨rfl, by decide, by decide⟩ hY F (fun _ _ a ns hl _ hS => ⟨a, ns, rfl, hS, hl, fun _ => rfl⟩) fun _ _ _ _ _ z => z
end Ev
def PySem.W.Fast.tw13928670738330675237 : Unit := ()
def PySem.W.Fast.tw13615682135473360197 : Unit := ()
def PySem.W.Fast.tw8662101254245596358 : Unit := ()
def PySem.W.Fast.tw5156300685630737196 : Unit := ()
def PySem.W.Fast.tw7618745660022355191 : Unit := ()
def PySem.W.Fast.tw17397944686652762696 : Unit := ()
def PySem.W.Fast.tw15055801506195320321 : Unit := ()
def PySem.W.Fast.tw1199921847734775534 : Unit := ()
def PySem.W.Fast.tw3847438632027641745 : Unit := ()
def PySem.W.Fast.tw14085376503892173134 : Unit := ()
def PySem.W.Fast.tw12551619036502499676 : Unit := ()
def PySem.W.Fast.tw7531714084140326571 : Unit := ()
def PySem.W.Fast.tw6482910049134217011 : Unit := ()
def PySem.W.Fast.tw16411884298976451342 : Unit := ()
def PySem.W.Fast.tw7471908474764406537 : Unit := ()
def PySem.W.Fast.tw1582950950925310788 : Unit := ()
def PySem.W.Fast.tw9351013987689120740 : Unit := ()
def PySem.W.Fast.tw16139379954171547024 : Unit := ()
def PySem.W.Fast.tw7497988267969741623 : Unit := ()
def PySem.W.Fast.tw10157668237390708355 : Unit := ()
def PySem.W.Fast.tw14521748736224350802 : Unit := ()
def PySem.W.Fast.tw7743652115609494253 : Unit := ()
def PySem.W.Fast.tw4990188489676395880 : Unit := ()
def PySem.W.Fast.tw6785435654211895096 : Unit := ()
def PySem.W.Fast.tw6240907784144924304 : Unit := ()
def PySem.W.Fast.tw17975766984964743914 : Unit := ()
def PySem.W.Fast.tw7191846530739072106 : Unit := ()
def PySem.W.Fast.tw1248521331181754293 : Unit := ()
def PySem.W.Fast.tw7797508185498275513 : Unit := ()
def PySem.W.Fast.tw3892903628698981113 : Unit := ()
def PySem.W.Fast.tw5628432048140391548 : Unit := ()
def PySem.W.Fast.tw1235820449353606611 : Unit := ()
def PySem.W.Fast.tw15763848606713668638 : Unit := ()
def PySem.W.Fast.tw4964136502013845013 : Unit := ()
def PySem.W.Fast.tw15270725550431410633 : Unit := ()
def PySem.W.Fast.tw12196581577756219029 : Unit := ()
def PySem.W.Fast.tw16783305095033881382 : Unit := ()
def PySem.W.Fast.tw16150301534883776704 : Unit := ()
def PySem.W.Fast.tw16434026389645774346 : Unit := ()
def PySem.W.Fast.tw3404164941787348310 : Unit := ()
def PySem.W.Fast.tw9585636266256579282 : Unit := ()
def PySem.W.Fast.tw7431388980498980998 : Unit := ()
def PySem.W.Fast.tw9902709330606476709 : Unit := ()
def PySem.W.Fast.tw7598502161982023361 : Unit := ()
def PySem.W.Fast.tw12596536515008424161 : Unit := ()
def PySem.W.Fast.tw10036094344638426534 : Unit := ()
def PySem.W.Fast.tw16969546361018469055 : Unit := ()
def PySem.W.Fast.tw2951912626653292845 : Unit := ()
def PySem.W.Fast.tw15043185894575086203 : Unit := ()
def PySem.W.Fast.tw2563171801433051147 : Unit := ()
def PySem.W.Fast.tw18057348184003190998 : Unit := ()
def PySem.W.Fast.tw17812281767627156011 : Unit := ()
def PySem.W.Fast.tw18268241471780679416 : Unit := ()
def PySem.W.Fast.tw13639579941667154782 : Unit := ()
def PySem.W.Fast.tw7130394367947473142 : Unit := ()
def PySem.W.Fast.tw4316240502670262494 : Unit := ()
def PySem.W.Fast.tw3394801711533375737 : Unit := ()
def PySem.W.Fast.tw14065006596207562082 : Unit := ()
def PySem.W.Fast.tw4857402719923305304 : Unit := ()
def PySem.W.Fast.tw8374514280010452237 : Unit := ()
def PySem.W.Fast.tw10487345282876847250 : Unit := ()
def PySem.W.Fast.tw7759482366634572035 : Unit := ()
def PySem.W.Fast.tw10813096309798833318 : Unit := ()
def PySem.W.Fast.tw15500326760501873144 : Unit := ()
def PySem.W.Fast.tw13021507748035638768 : Unit := ()
def PySem.W.Fast.tw12154258292117460045 : Unit := ()
def PySem.W.Fast.tw12823944210045175403 : Unit := ()
def PySem.W.Fast.tw5647932728449020521 : Unit := ()
def PySem.W.Fast.tw921932417440865175 : Unit := ()
def PySem.W.Fast.tw1637228080953608682 : Unit := ()
def PySem.W.Fast.tw16144561068385099060 : Unit := ()
def PySem.W.Fast.tw9385050514262843683 : Unit := ()
def PySem.W.Fast.tw20452504016954142 : Unit := ()
def PySem.W.Fast.tw5508685542616159389 : Unit := ()
def PySem.W.Fast.tw406757416655778853 : Unit := ()
def PySem.W.Fast.tw4502534195866644375 : Unit := ()
def PySem.W.Fast.tw3287590014885707400 : Unit := ()
def PySem.W.Fast.tw14635499913470666385 : Unit := ()
def PySem.W.Fast.tw13750144693942756592 : Unit := ()
def PySem.W.Fast.tw49761896587019216 : Unit := ()
def PySem.W.Fast.tw16340188401792181992 : Unit := ()
def PySem.W.Fast.tw8516022187932405962 : Unit := ()
def PySem.W.Fast.tw6047688990704260852 : Unit := ()
def PySem.W.Fast.tw7263541639031931861 : Unit := ()
def PySem.W.Fast.tw1730751811826831757 : Unit := ()
def PySem.W.Fast.tw2037245260849589072 : Unit := ()
def PySem.W.Fast.tw1037695787598837227 : Unit := ()
def PySem.W.Fast.tw10014936392711294668 : Unit := ()
def PySem.W.Fast.tw2228290110739458720 : Unit := ()
def PySem.W.Fast.tw1996985217089925434 : Unit := ()
def PySem.W.Fast.tw14055174122179838622 : Unit := ()
def PySem.W.Fast.tw11509757277445330654 : Unit := ()
def PySem.W.Fast.tw12870554213618011574 : Unit := ()
def PySem.W.Fast.tw2136909245123271327 : Unit := ()
def PySem.W.Fast.tw16591589267303657869 : Unit := ()
def PySem.W.Fast.tw4107901506465552761 : Unit := ()
def PySem.W.Fast.tw3991296199152260790 : Unit := ()
def PySem.W.Fast.tw15205534286099342984 : Unit := ()
def PySem.W.Fast.tw2451968032110949775 : Unit := ()
def PySem.W.Fast.tw1648835005625953792 : Unit := ()
def PySem.W.Fast.tw7313644230154110141 : Unit := ()
def PySem.W.Fast.tw13183506411087356379 : Unit := ()
def PySem.W.Fast.tw13642984242912914264 : Unit := ()
def PySem.W.Fast.tw3894523654894294009 : Unit := ()
def PySem.W.Fast.tw1293347165662183430 : Unit := ()
def PySem.W.Fast.tw10802900798156785842 : Unit := ()
def PySem.W.Fast.tw1337516985957650544 : Unit := ()
def PySem.W.Fast.tw16278494928186466760 : Unit := ()
def PySem.W.Fast.tw5542134436615707392 : Unit := ()
def PySem.W.Fast.tw18422554889232148515 : Unit := ()
def PySem.W.Fast.tw201817546137713237 : Unit := ()
def PySem.W.Fast.tw7723123514022544167 : Unit := ()
def PySem.W.Fast.tw8532523076822708700 : Unit := ()
def PySem.W.Fast.tw5447357556346358227 : Unit := ()
def PySem.W.Fast.tw15810123696548511314 : Unit := ()
def PySem.W.Fast.tw10258102378916231780 : Unit := ()
def PySem.W.Fast.tw9527586094017544872 : Unit := ()
def PySem.W.Fast.tw10370312080373417063 : Unit := ()
def PySem.W.Fast.tw4441038727082785028 : Unit := ()
def PySem.W.Fast.tw7409841275368375877 : Unit := ()
def PySem.W.Fast.tw9456489049980191295 : Unit := ()
def PySem.W.Fast.tw1635711691679752040 : Unit := ()
def PySem.W.Fast.tw8860687458182950266 : Unit := ()
def PySem.W.Fast.tw10919951997682572102 : Unit := ()
def PySem.W.Fast.tw14555216400146065904 : Unit := ()
def PySem.W.Fast.tw17125230304632593008 : Unit := ()
def PySem.W.Fast.tw12973107430517274289 : Unit := ()
def PySem.W.Fast.tw16581741277448130977 : Unit := ()
def PySem.W.Fast.tw13988814374138567068 : Unit := ()
def PySem.W.Fast.tw14434454823041855171 : Unit := ()
def PySem.W.Fast.tw14623127466779248816 : Unit := ()
def PySem.W.Fast.tw7238150742181164318 : Unit := ()
def PySem.W.Fast.tw17395040765069433246 : Unit := ()
def PySem.W.Fast.tw7835142419551545170 : Unit := ()
def PySem.W.Fast.tw13571834615185520897 : Unit := ()
def PySem.W.Fast.tw6617795334469701216 : Unit := ()
def PySem.W.Fast.tw4269604761450242069 : Unit := ()
def PySem.W.Fast.tw17881728808207517028 : Unit := ()
def PySem.W.Fast.tw3897381721749661134 : Unit := ()
def PySem.W.Fast.tw11823224439565231934 : Unit := ()
def PySem.W.Fast.tw10543542706396785673 : Unit := ()
def PySem.W.Fast.tw15314477169825279502 : Unit := ()
def PySem.W.Fast.tw17156814707688207710 : Unit := ()
def PySem.W.Fast.tw8167585878763815217 : Unit := ()
def PySem.W.Fast.tw14923294193415664834 : Unit := ()
def PySem.W.Fast.tw3442817881643828575 : Unit := ()
def PySem.W.Fast.tw1740383182164113586 : Unit := ()
def PySem.W.Fast.tw7099428593194987966 : Unit := ()
def PySem.W.Fast.tw10789408916209119696 : Unit := ()
def PySem.W.Fast.tw14923390065666823097 : Unit := ()
def PySem.W.Fast.tw17528896576524440813 : Unit := ()
def PySem.W.Fast.tw17263711357044425447 : Unit := ()
def PySem.W.Fast.tw4585952591685254328 : Unit := ()
def PySem.W.Fast.tw18298804246992344741 : Unit := ()
def PySem.W.Fast.tw13559242593180145219 : Unit := ()
def PySem.W.Fast.tw7706996249992738642 : Unit := ()
def PySem.W.Fast.tw12128853021275522887 : Unit := ()
def PySem.W.Fast.tw2114831585897526328 : Unit := ()
def PySem.W.Fast.tw8337065905997271643 : Unit := ()
def PySem.W.Fast.tw11780639614570120683 : Unit := ()
def PySem.W.Fast.tw11762542737204544596 : Unit := ()
def PySem.W.Fast.tw12454457239040661545 : Unit := ()
def PySem.W.Fast.tw15098852636629407834 : Unit := ()
def PySem.W.Fast.tw15354618195070214788 : Unit := ()
def PySem.W.Fast.tw10723308269890831074 : Unit := ()
def PySem.W.Fast.tw8872675275142152453 : Unit := ()
def PySem.W.Fast.tw13725014453105718297 : Unit := ()
def PySem.W.Fast.tw16701218705104042105 : Unit := ()
def PySem.W.Fast.tw255776948890451120 : Unit := ()
def PySem.W.Fast.tw14320851073582897219 : Unit := ()
def PySem.W.Fast.tw13189380891491860476 : Unit := ()
def PySem.W.Fast.tw6052889480056414962 : Unit := ()
def PySem.W.Fast.tw4577991736525800171 : Unit := ()
def PySem.W.Fast.tw11590372654433860433 : Unit := ()
def PySem.W.Fast.tw12694666380739949779 : Unit := ()
def PySem.W.Fast.tw5043932869476810000 : Unit := ()
def PySem.W.Fast.tw11283991784536476292 : Unit := ()
def PySem.W.Fast.tw3562139852634823861 : Unit := ()
def PySem.W.Fast.tw16308760926958403143 : Unit := ()
def PySem.W.Fast.tw2738528386905013375 : Unit := ()
def PySem.W.Fast.tw12644815332562651166 : Unit := ()
def PySem.W.Fast.tw769517043359252242 : Unit := ()
def PySem.W.Fast.tw7072053612318720375 : Unit := ()
def PySem.W.Fast.tw15081139058059828613 : Unit := ()
def PySem.W.Fast.tw14011023743390383487 : Unit := ()
def PySem.W.Fast.tw8296704304353583780 : Unit := ()
def PySem.W.Fast.tw837697713034435724 : Unit := ()
def PySem.W.Fast.tw5642487430727065249 : Unit := ()
def PySem.W.Fast.tw907174228670674741 : Unit := ()
def PySem.W.Fast.tw7876963150440121201 : Unit := ()
def PySem.W.Fast.tw7855149817810628961 : Unit := ()
def PySem.W.Fast.tw6362377617707146223 : Unit := ()
def PySem.W.Fast.tw16645589830086255428 : Unit := ()
def PySem.W.Fast.tw17866571027528867319 : Unit := ()
def PySem.W.Fast.tw16121767987896371262 : Unit := ()
def PySem.W.Fast.tw8368005785952689186 : Unit := ()
def PySem.W.Fast.tw17046725770412471809 : Unit := ()
def PySem.W.Fast.tw12172806975234040286 : Unit := ()
def PySem.W.Fast.tw8297996939597948976 : Unit := ()
def PySem.W.Fast.tw5147445259595634392 : Unit := ()
def PySem.W.Fast.tw10037463958137507861 : Unit := ()
def PySem.W.Fast.tw5289900999711163061 : Unit := ()
def PySem.W.Fast.tw3349457989911014698 : Unit := ()
def PySem.W.Fast.tw2859398325663226056 : Unit := ()
def PySem.W.Fast.tw11565945450747536200 : Unit := ()
def PySem.W.Fast.tw14719587474680162448 : Unit := ()
def PySem.W.Fast.tw4014252262315141742 : Unit := ()
def PySem.W.Fast.tw2497912183966717572 : Unit := ()
def PySem.W.Fast.tw3430352099528055237 : Unit := ()
def PySem.W.Fast.tw15403410249209348673 : Unit := ()
def PySem.W.Fast.tw380831419329696611 : Unit := ()
def PySem.W.Fast.tw6676204366611508361 : Unit := ()
def PySem.W.Fast.tw17984784451931645060 : Unit := ()
def PySem.W.Fast.tw10827023478991050832 : Unit := ()
def PySem.W.Fast.tw8786268270719869074 : Unit := ()
def PySem.W.Fast.tw18036080067362759470 : Unit := ()
def PySem.W.Fast.tw17102921232684312537 : Unit := ()
def PySem.W.Fast.tw17279037119814147972 : Unit := ()
def PySem.W.Fast.tw9808895701459398002 : Unit := ()
def PySem.W.Fast.tw13439827667493850630 : Unit := ()
def PySem.W.Fast.tw15808306387262918737 : Unit := ()
def PySem.W.Fast.tw13728032733737076891 : Unit := ()
def PySem.W.Fast.tw2776665949460940528 : Unit := ()
def PySem.W.Fast.tw15631613558357307888 : Unit := ()
def PySem.W.Fast.tw9824585363471871127 : Unit := ()
def PySem.W.Fast.tw11495317844809795963 : Unit := ()
def PySem.W.Fast.tw18010265874400615913 : Unit := ()
def PySem.W.Fast.tw9521159289435748192 : Unit := ()
def PySem.W.Fast.tw18100300758803668853 : Unit := ()
def PySem.W.Fast.tw7413529463437016261 : Unit := ()
def PySem.W.Fast.tw10315406086883024501 : Unit := ()
def PySem.W.Fast.tw1473952636457220958 : Unit := ()
def PySem.W.Fast.tw16068993592198860050 : Unit := ()
def PySem.W.Fast.tw15865321104893432052 : Unit := ()
def PySem.W.Fast.tw13149064186012413345 : Unit := ()
def PySem.W.Fast.tw13751670787709871242 : Unit := ()
def PySem.W.Fast.tw11477251292225767623 : Unit := ()
def PySem.W.Fast.tw17588335123471466958 : Unit := ()
def PySem.W.Fast.tw9247496977731225873 : Unit := ()
def PySem.W.Fast.tw598515097005062400 : Unit := ()
def PySem.W.Fast.tw1553216231051175885 : Unit := ()
def PySem.W.Fast.tw6991772479812574146 : Unit := ()
def PySem.W.Fast.tw11543162601200134004 : Unit := ()
def PySem.W.Fast.tw10997059156458018256 : Unit := ()
def PySem.W.Fast.tw14283234610457220601 : Unit := ()
def PySem.W.Fast.tw5763618863493840288 : Unit := ()
def PySem.W.Fast.tw10560253817160043403 : Unit := ()
def PySem.W.Fast.tw17156241290289742482 : Unit := ()
def PySem.W.Fast.tw2610916304636383002 : Unit := ()
def PySem.W.Fast.tw15104107829390984833 : Unit := ()
def PySem.W.Fast.tw17175543714900986116 : Unit := ()
def PySem.W.Fast.tw16025316953225106333 : Unit := ()
def PySem.W.Fast.tw7482051234701337160 : Unit := ()
def PySem.W.Fast.tw5678061907141474299 : Unit := ()
def PySem.W.Fast.tw1641828970959721759 : Unit := ()
def PySem.W.Fast.tw13216626103673503161 : Unit := ()
def PySem.W.Fast.tw7804327460672952838 : Unit := ()
def PySem.W.Fast.tw533560503744086501 : Unit := ()
def PySem.W.Fast.tw2902486344699888811 : Unit := ()
def PySem.W.Fast.tw13953700366168518498 : Unit := ()
def PySem.W.Fast.tw1741221769667782814 : Unit := ()
def PySem.W.Fast.tw164317071934325748 : Unit := ()
def PySem.W.Fast.tw16959066690777319719 : Unit := ()
def PySem.W.Fast.tw5462226341511773328 : Unit := ()
def PySem.W.Fast.tw14481197576461372177 : Unit := ()
def PySem.W.Fast.tw10433600341596651117 : Unit := ()
def PySem.W.Fast.tw191223905511904400 : Unit := ()
def PySem.W.Fast.tw1329910351418971537 : Unit := ()
def PySem.W.Fast.tw10288348878343926849 : Unit := ()
def PySem.W.Fast.tw16828665201137006134 : Unit := ()
def PySem.W.Fast.tw4720999938425429642 : Unit := ()
def PySem.W.Fast.tw2256023668864896562 : Unit := ()
def PySem.W.Fast.tw14434929476550972293 : Unit := ()
def PySem.W.Fast.tw8157168219576259161 : Unit := ()
def PySem.W.Fast.tw6367944974129774013 : Unit := ()
def PySem.W.Fast.tw8942947389392294722 : Unit := ()
def PySem.W.Fast.tw12243740628641350771 : Unit := ()
def PySem.W.Fast.tw15346727956284066840 : Unit := ()
def PySem.W.Fast.tw14013706833269723364 : Unit := ()
def PySem.W.Fast.tw11497671139436812761 : Unit := ()
def PySem.W.Fast.tw2886417884381366155 : Unit := ()
def PySem.W.Fast.tw5942996055928850215 : Unit := ()
def PySem.W.Fast.tw2843517252650711006 : Unit := ()
def PySem.W.Fast.tw1875724060097457027 : Unit := ()
def PySem.W.Fast.tw5302490245353989533 : Unit := ()
def PySem.W.Fast.tw7679746378171174925 : Unit := ()
def PySem.W.Fast.tw16328354583548520800 : Unit := ()
def PySem.W.Fast.tw12647054723147373677 : Unit := ()
def PySem.W.Fast.tw6007801053606120477 : Unit := ()
def PySem.W.Fast.tw2388333913090206742 : Unit := ()
def PySem.W.Fast.tw6886223067569340622 : Unit := ()
def PySem.W.Fast.tw86532422798155977 : Unit := ()
def PySem.W.Fast.tw11552267313423824424 : Unit := ()
def PySem.W.Fast.tw16021512533560418836 : Unit := ()
def PySem.W.Fast.tw7418585484968817764 : Unit := ()
def PySem.W.Fast.tw16656027039925693635 : Unit := ()
def PySem.W.Fast.tw14855971200523055567 : Unit := ()
def PySem.W.Fast.tw14316347159796286141 : Unit := ()
def PySem.W.Fast.tw8569087657078452799 : Unit := ()
def PySem.W.Fast.tw5996631823921040582 : Unit := ()
def PySem.W.Fast.tw15992745421816765043 : Unit := ()
def PySem.W.Fast.tw8538437005837385922 : Unit := ()
def PySem.W.Fast.tw390381589996906472 : Unit := ()
def PySem.W.Fast.tw9143955277667278422 : Unit := ()
def PySem.W.Fast.tw2647607331430436012 : Unit := ()
def PySem.W.Fast.tw13055731025932345571 : Unit := ()
def PySem.W.Fast.tw1271221241424724611 : Unit := ()
def PySem.W.Fast.tw6324401722585846126 : Unit := ()
def PySem.W.Fast.tw9438642761219092106 : Unit := ()
def PySem.W.Fast.tw5208564827258396623 : Unit := ()
def PySem.W.Fast.tw12410113401687327876 : Unit := ()
def PySem.W.Fast.tw994478057835769880 : Unit := ()
def PySem.W.Fast.tw9287716779201472359 : Unit := ()
def PySem.W.Fast.tw3944165333888803822 : Unit := ()
def PySem.W.Fast.tw15432897247798252423 : Unit := ()
def PySem.W.Fast.tw14223296242352713460 : Unit := ()
def PySem.W.Fast.tw1488020571449129308 : Unit := ()
def PySem.W.Fast.tw3116544579485721621 : Unit := ()
def PySem.W.Fast.tw14220478780831787353 : Unit := ()
def PySem.W.Fast.tw17903698906675549551 : Unit := ()
def PySem.W.Fast.tw2739054722847902024 : Unit := ()
def PySem.W.Fast.tw673238396496667835 : Unit := ()
def PySem.W.Fast.tw15128077446716102308 : Unit := ()
def PySem.W.Fast.tw13264780573345006477 : Unit := ()
def PySem.W.Fast.tw2662101204851654058 : Unit := ()
def PySem.W.Fast.tw3511539752291121651 : Unit := ()
def PySem.W.Fast.tw9523125165743809029 : Unit := ()
def PySem.W.Fast.tw3150064677468610496 : Unit := ()
def PySem.W.Fast.tw17524835951574846627 : Unit := ()
def PySem.W.Fast.tw6431642240017439984 : Unit := ()
def PySem.W.Fast.tw14255245058443512151 : Unit := ()
def PySem.W.Fast.tw7760746759439493217 : Unit := ()
def PySem.W.Fast.tw7734229586613677577 : Unit := ()
def PySem.W.Fast.tw7060659441901237871 : Unit := ()
def PySem.W.Fast.tw10361665277441951505 : Unit := ()
def PySem.W.Fast.tw11900370850676969189 : Unit := ()
def PySem.W.Fast.tw12609358812606578961 : Unit := ()
def PySem.W.Fast.tw16578265693168083721 : Unit := ()
def PySem.W.Fast.tw16277964883372249951 : Unit := ()
def PySem.W.Fast.tw17371711536323835075 : Unit := ()
def PySem.W.Fast.tw11030128966051433439 : Unit := ()
def PySem.W.Fast.tw14255657503509020481 : Unit := ()
def PySem.W.Fast.tw11079678882050897100 : Unit := ()
def PySem.W.Fast.tw18273440324760009713 : Unit := ()
def PySem.W.Fast.tw10574801005777866593 : Unit := ()
def PySem.W.Fast.tw16637294018069703848 : Unit := ()
def PySem.W.Fast.tw3600540959062478283 : Unit := ()
def PySem.W.Fast.tw15377411740096706137 : Unit := ()
def PySem.W.Fast.tw1156058314738693380 : Unit := ()
def PySem.W.Fast.tw9526354579651871174 : Unit := ()
def PySem.W.Fast.tw11527396856283113197 : Unit := ()
def PySem.W.Fast.tw15980154179867394990 : Unit := ()
def PySem.W.Fast.tw4485853623560157820 : Unit := ()
def PySem.W.Fast.tw1117676357983157915 : Unit := ()
def PySem.W.Fast.tw16839089254258795081 : Unit := ()
def PySem.W.Fast.tw2569135664600662814 : Unit := ()
def PySem.W.Fast.tw9288665800060682559 : Unit := ()
def PySem.W.Fast.tw4411477238900016752 : Unit := ()
def PySem.W.Fast.tw12734824675222483695 : Unit := ()
def PySem.W.Fast.tw9794729154236990658 : Unit := ()
def PySem.W.Fast.tw8701531347153734330 : Unit := ()
def PySem.W.Fast.tw5591189588116695546 : Unit := ()
def PySem.W.Fast.tw16934892968508340102 : Unit := ()
def PySem.W.Fast.tw16756308358739640248 : Unit := ()
def PySem.W.Fast.tw17175888112425903511 : Unit := ()
def PySem.W.Fast.tw14404789500796272354 : Unit := ()
def PySem.W.Fast.tw8769222319539761577 : Unit := ()
def PySem.W.Fast.tw18175207120268541603 : Unit := ()
def PySem.W.Fast.tw14535241558633404580 : Unit := ()
def PySem.W.Fast.tw4873392153999955717 : Unit := ()
def PySem.W.Fast.tw1259806324835189022 : Unit := ()
def PySem.W.Fast.tw7086996039496560513 : Unit := ()
def PySem.W.Fast.tw5440846034700488123 : Unit := ()
def PySem.W.Fast.tw11123495327579365469 : Unit := ()
def PySem.W.Fast.tw5526820035851382147 : Unit := ()
def PySem.W.Fast.tw6451711851168983465 : Unit := ()
def PySem.W.Fast.tw12566132584670812376 : Unit := ()
def PySem.W.Fast.tw4428767540194837895 : Unit := ()
def PySem.W.Fast.tw13448846045865176280 : Unit := ()
def PySem.W.Fast.tw1081389173301265714 : Unit := ()
def PySem.W.Fast.tw4530291617797399982 : Unit := ()
def PySem.W.Fast.tw4829609294883827011 : Unit := ()
def PySem.W.Fast.tw8393248232403573506 : Unit := ()
open PySem PySem.W PyProof.Rows
set_option maxRecDepth 100000 in
set_option maxHeartbeats 0 in
theorem PySem.Challenge.cw_evenring_k05_answers_by_hand_holds : PySem.Challenge.rw_evenring_k05_answers_by_hand.Holds := by
  w_on; o_law; k_head; (case hw => w_witness2)
  k_fill
  refine Ev.walk (l := PySem.Challenge.rw_evenring_k05_answers_by_hand) rfl rfl (fun w h Y => PySem.W.kIn_of Y) ?F
  case F =>
    intro w mg fa h KX G hmg
    refine' Ev.all_mk KX G hmg ?q0 ?q1 ?q2 ?q3 ?q4 ?q5 ?q6 ?q7 ?q8 ?q9 ?q10 ?q11 ?q12 ?q13 ?q14 ?q15 ?q16 ?q17 ?q18 ?q19 ?q20 ?q21 ?q22 ?q23 ?q24 ?q25 ?q26 ?q27 ?q28 ?q29 ?q30 ?q31 ?q32 ?q33 ?q34 ?q35 ?q36 ?q37 ?q38 ?q39 ?q40 ?q41 ?q42 ?q43 ?q44 ?q45 ?q46 ?q47 ?q48 ?q49 ?q50 ?q51 ?q52 ?q53 ?q54 ?q55 ?q56 ?q57 ?q58 ?q59 ?q60 ?q61 ?q62 ?q63 ?q64 ?q65 ?q66 ?q67 ?q68 ?q69 ?q70 ?q71 ?q72 ?q73 ?q74 ?q75 ?q76 ?q77 ?q78 ?q79 ?q80 ?q81 ?q82 ?q83 ?q84 ?q85 ?q86 ?q87 ?q88 ?q89 ?q90 ?q91 ?q92 ?q93 ?q94 ?q95 ?q96 ?q97 ?q98 ?q99 ?q100 ?q101 ?q102 ?q103 ?q104 ?q105 ?q106 ?q107 ?q108 ?q109 ?q110 ?q111 ?q112 ?q113 ?q114 ?q115 ?q116 ?q117 ?q118 ?q119 ?q120 ?q121 ?q122 ?q123 ?q124 ?q125 ?q126 ?q127 ?q128 ?q129 ?q130 ?q131 ?q132 ?q133 ?q134 ?q135 ?q136 ?q137 ?q138 ?q139 ?q140 ?q141 ?q142 ?q143 ?q144 ?q145 ?q146 ?q147 ?q148 ?q149 ?q150 ?q151 ?q152 ?q153 ?q154 ?q155 ?q156 ?q157 ?q158 ?q159 ?q160 ?q161 ?q162 ?q163 ?q164 ?q165 ?q166 ?q167 ?q168 ?q169 ?q170 ?q171 ?q172 ?q173 ?q174 ?q175 ?q176 ?q177 ?q178 ?q179 ?q180 ?q181 ?q182 ?q183 ?q184 ?q185 ?q186 ?q187 ?q188 ?q189 ?q190 ?q191 ?q192 ?q193 ?q194 ?q195 ?q196 ?q197 ?q198 ?q199 ?q200 ?q201 ?q202 ?q203 ?q204 ?q205 ?q206 ?q207 ?q208 ?q209 ?q210 ?q211 ?q212 ?q213 ?q214 ?q215 ?q216 ?q217 ?q218 ?q219 ?q220 ?q221 ?q222 ?q223 ?q224 ?q225 ?q226 ?q227 ?q228 ?q229 ?q230 ?q231 ?q232 ?q233 ?q234 ?q235 ?q236 ?q237 ?q238
    (case q0 => k_is)
    (case q1 => k_is)
    (case q2 => k_is)
    (case q3 => k_is)
    (case q4 => k_is)
    (case q5 => k_is)
    (case q6 => k_is)
    (case q7 => k_is)
    (case q8 => k_is)
    (case q9 => k_is)
    (case q10 => k_is)
    (case q11 => k_is)
    (case q12 => k_is)
    (case q13 => k_is)
    (case q14 => k_is)
    (case q15 => k_is)
    (case q16 => k_is)
    (case q17 => k_is)
    (case q18 => k_is)
    (case q19 => k_is)
    (case q20 => k_is)
    (case q21 => k_is)
    (case q22 => k_is)
    (case q23 => k_is)
    (case q24 => k_is)
    (case q25 => k_is)
    (case q26 => k_is)
    (case q27 => k_is)
    (case q28 => k_is)
    (case q29 => k_is)
    (case q30 => k_is)
    (case q31 => k_is)
    (case q32 => k_is)
    (case q33 => k_is)
    (case q34 => k_is)
    (case q35 => k_is)
    (case q36 => k_is)
    (case q37 => k_is)
    (case q38 => k_is)
    (case q39 => k_is)
    (case q40 => k_is)
    (case q41 => k_is)
    (case q42 => k_is)
    (case q43 => k_is)
    (case q44 => k_is)
    (case q45 => k_is)
    (case q46 => k_is)
    (case q47 => k_is)
    (case q48 => k_is)
    (case q49 => k_is)
    (case q50 => k_is)
    (case q51 => k_is)
    (case q52 => k_is)
    (case q53 => k_is)
    (case q54 => k_is)
    (case q55 => k_is)
    (case q56 => k_is)
    (case q57 => k_is)
    (case q58 => k_is)
    (case q59 => k_is)
    (case q60 => k_is)
    (case q61 => k_is)
    (case q62 => k_is)
    (case q63 => k_is)
    (case q64 => k_is)
    (case q65 => k_is)
    (case q66 => k_is)
    (case q67 => k_is)
    (case q68 => k_is)
    (case q69 => k_is)
    (case q70 => k_is)
    (case q71 => k_is)
    (case q72 => k_is)
    (case q73 => k_is)
    (case q74 => k_is)
    (case q75 => k_is)
    (case q76 => k_is)
    (case q77 => k_is)
    (case q78 => k_is)
    (case q79 => k_is)
    (case q80 => k_is)
    (case q81 => k_is)
    (case q82 => k_is)
    (case q83 => k_is)
    (case q84 => k_is)
    (case q85 => k_is)
    (case q86 => k_is)
    (case q87 => k_is)
    (case q88 => k_is)
    (case q89 => k_is)
    (case q90 => k_is)
    (case q91 => k_is)
    (case q92 => k_is)
    (case q93 => k_is)
    (case q94 => k_is)
    (case q95 => k_is)
    (case q96 => k_is)
    (case q97 => k_is)
    (case q98 => k_is)
    (case q99 => k_is)
    (case q100 => k_is)
    (case q101 => k_is)
    (case q102 => k_is)
    (case q103 => k_is)
    (case q104 => k_is)
    (case q105 => k_is)
    (case q106 => k_is)
    (case q107 => k_is)
    (case q108 => k_is)
    (case q109 => k_is)
    (case q110 => k_is)
    (case q111 => k_is)
    (case q112 => k_is)
    (case q113 => k_is)
    (case q114 => k_is)
    (case q115 => k_is)
    (case q116 => k_is)
    (case q117 => k_is)
    (case q118 => k_is)
    (case q119 => k_is)
    (case q120 => k_is)
    (case q121 => k_is)
    (case q122 => k_is)
    (case q123 => k_is)
    (case q124 => k_is)
    (case q125 => k_is)
    (case q126 => k_is)
    (case q127 => k_is)
    (case q128 => k_is)
    (case q129 => k_is)
    (case q130 => k_is)
    (case q131 => k_is)
    (case q132 => k_is)
    (case q133 => k_is)
    (case q134 => k_is)
    (case q135 => k_is)
    (case q136 => k_is)
    (case q137 => k_is)
    (case q138 => k_is)
    (case q139 => k_is)
    (case q140 => k_is)
    (case q141 => k_is)
    (case q142 => k_is)
    (case q143 => k_is)
    (case q144 => k_is)
    (case q145 => k_is)
    (case q146 => k_is)
    (case q147 => k_is)
    (case q148 => k_is)
    (case q149 => k_is)
    (case q150 => k_is)
    (case q151 => k_is)
    (case q152 => k_is)
    (case q153 => k_is)
    (case q154 => k_is)
    (case q155 => k_is)
    (case q156 => k_is)
    (case q157 => k_is)
    (case q158 => k_is)
    (case q159 => k_is)
    (case q160 => k_is)
    (case q161 => k_is)
    (case q162 => k_is)
    (case q163 => k_is)
    (case q164 => k_is)
    (case q165 => k_is)
    (case q166 => k_is)
    (case q167 => k_is)
    (case q168 => k_is)
    (case q169 => k_is)
    (case q170 => k_is)
    (case q171 => k_is)
    (case q172 => k_is)
    (case q173 => k_is)
    (case q174 => k_is)
    (case q175 => k_is)
    (case q176 => k_is)
    (case q177 => k_is)
    (case q178 => k_is)
    (case q179 => k_is)
    (case q180 => k_is)
    (case q181 => k_is)
    (case q182 => k_is)
    (case q183 => k_is)
    (case q184 => k_is)
    (case q185 => k_is)
    (case q186 => k_is)
    (case q187 => k_is)
    (case q188 => k_is)
    (case q189 => k_is)
    (case q190 => k_is)
    (case q191 => k_is)
    (case q192 => k_is)
    (case q193 => k_is)
    (case q194 => k_is)
    (case q195 => k_is)
    (case q196 => k_is)
    (case q197 => k_is)
    (case q198 => k_is)
    (case q199 => k_is)
    (case q200 => k_is)
    (case q201 => k_is)
    (case q202 => k_is)
    (case q203 => k_is)
    (case q204 => k_is)
    (case q205 => k_is)
    (case q206 => k_is)
    (case q207 => k_is)
    (case q208 => k_is)
    (case q209 => k_is)
    (case q210 => k_is)
    (case q211 => k_is)
    (case q212 => k_is)
    (case q213 => k_is)
    (case q214 => k_is)
    (case q215 => k_is)
    (case q216 => k_is)
    (case q217 => k_is)
    (case q218 => k_is)
    (case q219 => k_is)
    (case q220 => kit_is)
    (case q221 => kit_is)
    (case q222 => k_is)
    (case q223 => k_is)
    (case q224 => k_is)
    (case q225 => k_is)
    (case q226 => k_is)
    (case q227 => k_is)
    (case q228 => k_is)
    (case q229 => k_is)
    (case q230 => k_is)
    (case q231 => k_is)
    (case q232 => k_is)
    (case q233 => k_is)
    (case q234 => k_is)
    (case q235 => k_is)
    (case q236 => k_is)
    (case q237 => k_is)
    (case q238 => k_is)


