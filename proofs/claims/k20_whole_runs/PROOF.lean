import PyProof.Rows.All
import Wide.All
import OpenK.AllK
import Wide.FinOn
import Lean
import PyProof.EqAt
import PyProof.EqKinds
import PyProof.TupleCall
import PyProof.P3Eq
import PyProof.NeData
import PyProof.ConsumeWalk
import KE.KLam
import KE.KSortKey
import KE.KNestM
import PyProof.SeqI3
import PyProof.ListRange
import PyProof.EqAt
import OpenK.KOwn
import KE.KIsAll
import PyProof.SumWalkG
import PyProof.ExcAttrAll.ValueError
import PySem.Challenge.RW_midvalue_k20_whole_runs
set_option Elab.async false
set_option linter.all false
set_option maxRecDepth 100000
/-! THE HAND LAYER, for ints, bools, texts, own classes, LISTS and tuples (index, slices, in, append, pop ..), calls, loops. Paste it whole ahead of your own text; what your proof does not reach may be deleted. -/
namespace L2
open PySem PySem.Spec PyProof.Rows

/-- a key: an int or a str -/
abbrev Key := Sum Int Str
def keyIs : Key → Value → Bool
  | .inl k, v => Value.isInt k v
  | .inr x, v => Value.isStrOf x v
def keyH (w : World) : Key → Int
  | .inl k => hashInt k
  | .inr x => hashStr w x
theorem keyIs_shape : ∀ {k : Key} {v : Value}, keyIs k v = true → (∃ i t, k = Sum.inl i ∧ v = Value.int i t) ∨ (∃ x t, k = Sum.inr x ∧ v = Value.str x t)
  | .inl i, v, h => by
    obtain ⟨t, e⟩ := Value.isInt_shape (k := i) (v := v) h
    exact .inl ⟨i, t, rfl, e⟩
  | .inr x, v, h => by
    obtain ⟨t, e⟩ := Value.isStrOf_shape (x := x) (v := v) h
    exact .inr ⟨x, t, rfl, e⟩
theorem key_ll (a b : Int) : decide ((Sum.inl a : Key) = Sum.inl b) = (a == b) := by
  by_cases e : a = b
  · subst e; simp
  · have h : ¬ (Sum.inl a : Key) = Sum.inl b := fun q => e (Sum.inl.inj q)
    rw [decide_eq_false h]
    exact (beq_eq_false_iff_ne.mpr e).symm
theorem key_rr (a b : Str) : decide ((Sum.inr a : Key) = Sum.inr b) = decide (a = b) := by
  by_cases e : a = b
  · subst e; simp
  · have h : ¬ (Sum.inr a : Key) = Sum.inr b := fun q => e (Sum.inr.inj q)
    rw [decide_eq_false h, decide_eq_false e]
theorem key_lr (a : Int) (b : Str) : decide ((Sum.inl a : Key) = Sum.inr b) = false := decide_eq_false (fun q => nomatch q)
theorem key_rl (a : Str) (b : Int) : decide ((Sum.inr a : Key) = Sum.inl b) = false := decide_eq_false (fun q => nomatch q)

def mixKind (prog : Program) (w : World) : PySem.KeyKind prog w Key where
  is := keyIs
  hash := keyH w
  inj := fun v a b ha hb => by
    rcases keyIs_shape ha with ⟨i, t, rfl, rfl⟩ | ⟨x, t, rfl, rfl⟩
    · rcases keyIs_shape hb with ⟨j, u, rfl, e⟩ | ⟨y, u, rfl, e⟩
      · injection e with e1 _; rw [e1]
      · exact nomatch e
    · rcases keyIs_shape hb with ⟨j, u, rfl, e⟩ | ⟨y, u, rfl, e⟩
      · exact nomatch e
      · injection e with e1 _; rw [e1]
  byValue := fun k v h => by
    rcases keyIs_shape h with ⟨i, t, rfl, rfl⟩ | ⟨x, t, rfl, rfl⟩ <;> rfl
  pyHash := fun hv h => by
    rcases keyIs_shape hv with ⟨i, t, rfl, rfl⟩ | ⟨x, t, rfl, rfl⟩
    · exact wpAny_pyHash_int h
    · exact wpAny_pyHash_str h
  eqBool := fun hu hv h => by
    rcases keyIs_shape hu with ⟨i, t, rfl, rfl⟩ | ⟨x, t, rfl, rfl⟩
    · rcases keyIs_shape hv with ⟨j, u, rfl, rfl⟩ | ⟨y, u, rfl, rfl⟩
      · rw [key_ll] at h; exact wpAny_eqBool_int h
      · rw [key_lr] at h; exact SeqAt.EqAt.int_str i t y u _ _ _ _ h
    · rcases keyIs_shape hv with ⟨j, u, rfl, rfl⟩ | ⟨y, u, rfl, rfl⟩
      · rw [key_rl] at h; exact SeqAt.EqAt.str_int x t j u _ _ _ _ h
      · rw [key_rr] at h; exact wpAny_eqBool_str h
  «strs» := fun k x t v h => by
    rcases keyIs_shape h with ⟨i, u, rfl, e⟩ | ⟨y, u, rfl, e⟩
    · exact nomatch e
    · injection e with e1 _
      subst e1
      cases v <;> rfl

end L2

namespace L2
open PySem PySem.Spec PyProof.Rows

/-- a value, without the heap -/
inductive V where
  | non | bl (b : Bool) | int (i : Int) | str (x : Str) | byt (b : Array UInt8) | flt (b : UInt64) | ref (a : Addr) | ty (n : String)
  deriving DecidableEq

def RelV : V → Value → Prop
  | .non, u => u = Value.none
  | .bl b, u => u = Value.bool b
  | .int i, u => ∃ t, u = Value.int i t
  | .str x, u => ∃ t, u = Value.str x t
  | .byt b, u => ∃ t, u = Value.bytes b t
  | .flt b, u => ∃ t, u = Value.float b t
  | .ref a, u => u = Value.ref a
  | .ty n, u => u = Value.type n

abbrev Vals : List V → List Value → Prop := Paired RelV
theorem Vals.length {xs : List V} {us : List Value} (r : Vals xs us) : xs.length = us.length := Paired.length r
theorem Vals.get : ∀ {xs : List V} {us : List Value} {i : Nat} {x : V}, Vals xs us → xs[i]? = some x → ∃ u, us[i]? = some u ∧ RelV x u
  | _, _, _, _, .nil, e => by simp at e
  | _, _, 0, _, .cons r _, e => by simp at e; subst e; exact ⟨_, rfl, r⟩
  | _, _, i + 1, x, .cons _ t, e => by
    obtain ⟨u, h1, h2⟩ := Vals.get (i := i) (x := x) t (by simpa using e)
    exact ⟨u, by simpa using h1, h2⟩
theorem Vals.set {x : V} {u : Value} (r : RelV x u) : ∀ {xs : List V} {us : List Value} (i : Nat), Vals xs us → Vals (xs.set i x) (us.set i u)
  | _, _, _, .nil => .nil
  | _, _, 0, .cons _ t => .cons r t
  | _, _, i + 1, .cons q t => .cons q (Vals.set r i t)
theorem Vals.append : ∀ {xs ys : List V} {us ws : List Value}, Vals xs us → Vals ys ws → Vals (xs ++ ys) (us ++ ws)
  | _, _, _, _, .nil, s => s
  | _, _, _, _, .cons r t, s => .cons r (Vals.append t s)
theorem Vals.take : ∀ {xs : List V} {us : List Value} (n : Nat), Vals xs us → Vals (xs.take n) (us.take n)
  | _, _, 0, _ => .nil
  | _, _, _ + 1, .nil => .nil
  | _, _, n + 1, .cons r t => .cons r (Vals.take n t)
theorem Vals.drop : ∀ {xs : List V} {us : List Value} (n : Nat), Vals xs us → Vals (xs.drop n) (us.drop n)
  | _, _, 0, r => r
  | _, _, _ + 1, .nil => .nil
  | _, _, n + 1, .cons _ t => Vals.drop n t
def RelO : Option V → Option Value → Prop
  | some v, some u => RelV v u
  | none, none => True
  | _, _ => False
def KV {κ : Type} : List (κ × V) → List (κ × Value) → Prop := Paired fun (p : κ × V) (q : κ × Value) => p.1 = q.1 ∧ RelV p.2 q.2

/-- a key of a dict (00_mix): an int or a text -/
def kV : Key → V
  | .inl i => .int i
  | .inr x => .str x

/-- what stands at a tracked address -/
inductive HO where
  /-- a list -/
  | lst (xs : List V)
  /-- a tuple (never changes) -/
  | tup (xs : List V)
  /-- a dict whose keys are ints and texts; one whose keys are tuples of ints and texts (the empty one is both) -/
  | dK (kvs : List (Key × V)) | dT (kvs : List (List Key × V))
  /-- a set of ints: its members, its size -/
  | set (S : Int → Bool) (n : Nat)
  /-- an instance of the class at C, its dict at dx, its attributes -/
  | ins (C dx : Addr) (fs : List (Str × V))
  /-- the dict of the instance at x -/
  | own (x : Addr)
  /-- the dict of an exception -/
  | xd (fs : List (Str × V))
  /-- a bound method, f of x -/
  | met (f x : Addr)
  /-- a range object lo, lo + 1, .. below hi -/
  | rng (lo hi : Int)
  /-- a thing that is known to the object (the script; a dict while a loop walks it): read, never written while it is so -/
  | frz (o : Obj) (u : HO)
  /-- a code object's table -/
  | tbl (ps : Array Value)
  /-- any other thing, by what is true of its one object (a def of one's own: SetO a S n := HO.ext fun h => ..) -/
  | ext (φ : Heap → Prop)

abbrev Hp := Addr → Option HO
def upd (H : Hp) (a : Addr) (o : HO) : Hp := fun b => if b = a then some o else H b
theorem upd_same {H : Hp} {a : Addr} {o : HO} : upd H a o a = some o := by unfold upd; rw [if_pos rfl]
theorem upd_ne {H : Hp} {a b : Addr} {o : HO} (h : b ≠ a) : upd H a o b = H b := by unfold upd; rw [if_neg h]
/-- two objects of different content stand apart -/
theorem ne_of {H : Hp} {a b : Addr} {o u : HO} (h : H a = some o) (h' : H b = some u) (d : o ≠ u) : a ≠ b := by
  intro e; subst e; rw [h] at h'; exact d (Option.some.inj h')
theorem ne_of_none {H : Hp} {a b : Addr} {o : HO} (h : H a = some o) (h' : H b = none) : a ≠ b := by
  intro e; subst e; rw [h] at h'; cases h'

section
variable (P : Program) (w : World)
def ObjOk (H : Hp) (h : Heap) (a : Addr) : HO → Prop
  | .lst xs => xs.length ≤ sizeLine ∧ ∃ (its : List Value) (n : Nat), Vals xs its ∧ h.get? a = some { cls := .type "list", data := .seq its.toArray n }
  | .tup xs => xs.length ≤ sizeLine ∧ ∃ its : List Value, Vals xs its ∧ IsTup h a its.toArray
  | .dK kvs => kvs.length ≤ sizeLine ∧ (a == sysModules) = false ∧ ∃ vs, KV kvs vs ∧ h.DictOf (mixKind P w) a vs
  | .dT kvs => kvs.length ≤ sizeLine ∧ (a == sysModules) = false ∧ ∃ xs : List (List Key × Addr × Value),
      Paired (fun (p : List Key × V) (q : List Key × Addr × Value) => p.1 = q.1 ∧ H q.2.1 = some (.tup (p.1.map kV)) ∧ RelV p.2 q.2.2) kvs xs ∧
      ∃ o es ep, h.get? a = some o ∧ o.ExactDict ∧ o.data = .dict es ep ∧ es.toList = xs.map (entryOfKey (tupleKind (mixKind P w))) ∧ (xs.map (·.1)).Nodup
  | .set S n => h.SetOf (intKind P w) a S n
  | .ins C dx fs => H dx = some (.own a) ∧ fs.length ≤ 1000 ∧ dx ≠ a ∧ h.get? a = some (PySem.W.instObj C dx) ∧
      ∃ mA, h.Ns1 dx mA ∧ (∀ f, RelO (fs.lookup f) (mA f)) ∧ PySem.Within mA (fs.map (·.1))
  | .own _ => ∃ o, h.get? a = some o
  | .xd fs => ∃ mA, h.Ns1 a mA ∧ ∀ f, RelO (fs.lookup f) (mA f)
  | .rng lo hi => ∃ t u v, h.get? a = some { cls := .type "range", data := .fields #[.int lo t, .int hi u, .int 1 v] }
  | .frz o u => h.get? a = some o ∧ ObjOk H h a u
  | .tbl ps => h.get? a = some { cls := .none, data := .fields ps }
  | .met f x => h.get? a = some (PySem.W.methodObj (.ref f) (.ref x))
  | .ext φ => φ h ∧ (∃ o, h.get? a = some o) ∧ ∀ h1 h2 : Heap, φ h1 → (∀ o, h1.get? a = some o → h2.get? a = some o) → φ h2
/-- the abstract heap is held -/
def HOk (H : Hp) (h : Heap) : Prop := ∀ a o, H a = some o → ObjOk P w H h a o
end

section
variable {P : Program} {w : World} {H H' : Hp} {h h' : Heap} {a : Addr} {o : HO}
theorem ObjOk.lt (x : ObjOk P w H h a o) : a < h.objs.size := by
  cases o with
  | lst xs => obtain ⟨_, _, _, _, e⟩ := x; exact Heap.lt_size e
  | tup xs => obtain ⟨_, _, _, p⟩ := x; exact p.lt
  | dK kvs => obtain ⟨_, _, _, _, o, _, _, e, _⟩ := x; exact Heap.lt_size e
  | dT kvs => obtain ⟨_, _, _, _, o, _, _, e, _⟩ := x; exact Heap.lt_size e
  | set S n => obtain ⟨o, _, _, _, e, _⟩ := x; exact Heap.lt_size e
  | ins C dx fs => obtain ⟨_, _, _, e, _⟩ := x; exact Heap.lt_size e
  | own y => obtain ⟨_, e⟩ := x; exact Heap.lt_size e
  | xd fs => obtain ⟨_, ⟨_, _, _, e, _⟩, _⟩ := x; exact Heap.lt_size e
  | rng lo hi => obtain ⟨_, _, _, e⟩ := x; exact Heap.lt_size e
  | frz ob u => obtain ⟨e, _⟩ := x; exact Heap.lt_size e
  | tbl ps => exact Heap.lt_size (show h.get? a = some _ from x)
  | met f y => exact Heap.lt_size (show h.get? a = some _ from x)
  | ext φ => obtain ⟨_, ⟨_, e⟩, _⟩ := x; exact Heap.lt_size e
theorem Paired.mapP {α β : Type} {F G : α → β → Prop} : ∀ {l₁ : List α} {l₂ : List β}, Paired F l₁ l₂ → (∀ a b, F a b → G a b) → Paired G l₁ l₂
  | _, _, .nil, _ => .nil
  | _, _, .cons r t, f => .cons (f _ _ r) (Paired.mapP t f)
/-- what an object's description leans on: its own object, its own dict, the tuples -/
theorem ObjOk.stay (x : ObjOk P w H h a o) (k : ∀ b u, (b = a ∨ H b = some (.own a)) → h.get? b = some u → h'.get? b = some u)
    (ho : ∀ b, H b = some (.own a) → H' b = some (.own a)) (ht : ∀ b xs, H b = some (.tup xs) → H' b = some (.tup xs)) : ObjOk P w H' h' a o := by
  induction o with
  | lst xs => obtain ⟨z, its, n, r, e⟩ := x; exact ⟨z, its, n, r, k _ _ (.inl rfl) e⟩
  | tup xs => obtain ⟨z, its, r, ob, e, c⟩ := x; exact ⟨z, its, r, ob, k _ _ (.inl rfl) e, c⟩
  | dK kvs => obtain ⟨z, y, vs, r, ob, es, ep, e, c⟩ := x; exact ⟨z, y, vs, r, ob, es, ep, k _ _ (.inl rfl) e, c⟩
  | dT kvs =>
    obtain ⟨z, y, xs, r, ob, es, ep, e, c⟩ := x
    exact ⟨z, y, xs, Paired.mapP r fun p q z => ⟨z.1, ht _ _ z.2.1, z.2.2⟩, ob, es, ep, k _ _ (.inl rfl) e, c⟩
  | set S n => obtain ⟨ob, es, ep, t, e, c⟩ := x; exact ⟨ob, es, ep, t, k _ _ (.inl rfl) e, c⟩
  | ins C dx fs =>
    obtain ⟨d, z, ne, e, mA, ⟨od, es, ep, e2, c⟩, r⟩ := x
    exact ⟨ho _ d, z, ne, k _ _ (.inl rfl) e, mA, ⟨od, es, ep, k _ _ (.inr d) e2, c⟩, r⟩
  | own y => obtain ⟨ob, e⟩ := x; exact ⟨ob, k _ _ (.inl rfl) e⟩
  | xd fs => obtain ⟨mA, ⟨od, es, ep, e, c⟩, r⟩ := x; exact ⟨mA, ⟨od, es, ep, k _ _ (.inl rfl) e, c⟩, r⟩
  | rng lo hi => obtain ⟨t, u, v, e⟩ := x; exact ⟨t, u, v, k _ _ (.inl rfl) e⟩
  | frz ob u ih => obtain ⟨e, q⟩ := x; exact ⟨k _ _ (.inl rfl) e, ih q⟩
  | tbl ps =>
    have e : h.get? a = some { cls := .none, data := .fields ps } := x
    show h'.get? a = some { cls := .none, data := .fields ps }
    exact k a _ (.inl rfl) e
  | met f y =>
    have e : h.get? a = some (PySem.W.methodObj (.ref f) (.ref y)) := x
    show h'.get? a = some (PySem.W.methodObj (.ref f) (.ref y))
    exact k a _ (.inl rfl) e
  | ext φ => obtain ⟨p, ⟨o, e⟩, st⟩ := x; exact ⟨st _ _ p fun o q => k _ _ (.inl rfl) q, ⟨o, k _ _ (.inl rfl) e⟩, st⟩
theorem HOk.lt (x : HOk P w H h) (e : H a = some o) : a < h.objs.size := (x a o e).lt
theorem HOk.fresh (x : HOk P w H h) (e : h.objs.size ≤ a) : H a = none := by
  cases q : H a with
  | none => rfl
  | some u => exact absurd (Nat.lt_of_lt_of_le (x.lt q) e) (Nat.lt_irrefl _)
/-- every object of the heap is kept -/
theorem HOk.kept (x : HOk P w H h) (k : ∀ b u, h.get? b = some u → h'.get? b = some u) : HOk P w H h' := fun a o e =>
  (x a o e).stay (fun b u _ q => k b u q) (fun _ q => q) fun _ _ q => q
/-- a new object is laid and tracked -/
theorem HOk.laid (x : HOk P w H h) (k : ∀ b u, h.get? b = some u → h'.get? b = some u) (hp : h.objs.size ≤ a) (new : ObjOk P w (upd H a o) h' a o) : HOk P w (upd H a o) h' := fun b u e => by
  have hn := x.fresh hp
  by_cases hb : b = a
  · subst hb; rw [upd_same] at e; cases e; exact new
  · rw [upd_ne hb] at e
    exact (x b u e).stay (fun c v _ q => k c v q) (fun c q => by rw [upd_ne (ne_of_none q hn)]; exact q) fun c xs q => by rw [upd_ne (ne_of_none q hn)]; exact q
end

/-- what may be read as u: it is u, or a known u -/
def Rd (H : Hp) (a : Addr) (u : HO) : Prop := H a = some u ∨ ∃ o, H a = some (.frz o u)
theorem Rd.ok {P : Program} {w : World} {H : Hp} {h : Heap} {a : Addr} {u : HO} (r : Rd H a u) (x : HOk P w H h) : ObjOk P w H h a u := by
  rcases r with r | ⟨o, r⟩
  · exact x a u r
  · obtain ⟨_, q⟩ := x a _ r
    exact q
/-- what may be written -/
def Mut : Option HO → Prop
  | some (.lst _) => True
  | some (.dK _) => True
  | some (.dT _) => True
  | some (.set _ _) => True
  | some (.ins _ _ _) => True
  | some (.ext _) => True
  | _ => False
section
variable {P : Program} {w : World} {H : Hp} {h h' : Heap} {x e : Addr} {o' : HO}
/-- the object at e is changed: x itself, or the dict of the instance x -/
theorem HOk.write (ok : HOk P w H h) (mu : Mut (H x)) (he : e = x ∨ H e = some (.own x)) (k : ∀ b u, b ≠ e → h.get? b = some u → h'.get? b = some u) (heo : ∃ u, h'.get? e = some u)
    (new : ObjOk P w (upd H x o') h' x o') : HOk P w (upd H x o') h' := fun b u q => by
  have nown : ∀ c y, H c = some (.own y) → c ≠ x := fun c y r z => by subst z; rw [r] at mu; exact mu
  have ntup : ∀ c xs, H c = some (.tup xs) → c ≠ x := fun c xs r z => by subst z; rw [r] at mu; exact mu
  by_cases hb : b = x
  · subst hb; rw [upd_same] at q; cases q; exact new
  · rw [upd_ne hb] at q
    by_cases hbe : b = e
    · have q' : H b = some (.own x) := by
        rcases he with z | z
        · exact absurd (hbe.trans z) hb
        · rw [hbe]; exact z
      rw [q] at q'; cases q'
      obtain ⟨v, hv⟩ := heo
      exact ⟨v, by rw [hbe]; exact hv⟩
    · refine (ok b u q).stay (fun c v hc r => k c v ?_ r) (fun c r => by rw [upd_ne (nown c b r)]; exact r) fun c xs r => by rw [upd_ne (ntup c xs r)]; exact r
      rcases hc with rfl | hc
      · exact hbe
      · rintro rfl
        rcases he with z | z
        · exact nown c b hc z
        · rw [hc] at z; cases z; exact hb rfl
end

/-! ### kept unless tracked; of the frames at fs (the callers') the slots may change (an exception that passes writes there); of the records at ex (iterators) nothing is said -/
structure Un (fs ex : List Addr) (H H' : Hp) (h h' : Heap) : Prop where
  keep : ∀ b o, h.get? b = some o → H b = none → b ∉ fs → b ∉ ex → h'.get? b = some o
  slot : ∀ b o, h.get? b = some o → H b = none → b ∈ fs → b ∉ ex → ∃ sl, h'.get? b = some { o with slots := sl }
  free : ∀ b o, h.get? b = some o → H b = none → b ∉ ex → H' b = none
  there : ∀ b o, h.get? b = some o → b ∉ ex → ∃ o', h'.get? b = some o'
  tups : ∀ b xs, H b = some (.tup xs) → H' b = some (.tup xs)
  frzs : ∀ b o u, H b = some (.frz o u) → H' b = some (.frz o u)
  tbls : ∀ b ps, H b = some (.tbl ps) → ∃ more, H' b = some (.tbl (ps ++ more))
section
variable {fs fs' ex ex' : List Addr} {H H1 H2 : Hp} {h h1 h2 h' : Heap} {a x e : Addr} {o : HO}
theorem Un.any (u : Un fs ex H H1 h h1) {b : Addr} {ob : Obj} (q : h.get? b = some ob) (n : H b = none) (hx : b ∉ ex) : ∃ sl, h1.get? b = some { ob with slots := sl } := by
  by_cases hb : b ∈ fs
  · exact u.slot b ob q n hb hx
  · exact ⟨ob.slots, u.keep b ob q n hb hx⟩
theorem Un.kept (k : ∀ b u, h.get? b = some u → h'.get? b = some u) : Un fs ex H H h h' :=
  ⟨fun b ob q _ _ _ => k b ob q, fun b ob q _ _ _ => ⟨ob.slots, k b ob q⟩, fun _ _ _ n _ => n, fun b ob q _ => ⟨ob, k b ob q⟩, fun _ _ q => q, fun _ _ _ q => q, fun _ ps q => ⟨#[], by rw [q]; simp⟩⟩
theorem Un.refl : Un fs ex H H h h := Un.kept fun _ _ q => q
theorem Un.laid (k : ∀ b u, h.get? b = some u → h'.get? b = some u) (hp : h.objs.size ≤ a) (hn : H a = none) : Un fs ex H (upd H a o) h h' where
  keep := fun b u q _ _ _ => k b u q
  slot := fun b u q _ _ _ => ⟨u.slots, k b u q⟩
  free := fun b u q n _ => by rw [upd_ne (Nat.ne_of_lt (Nat.lt_of_lt_of_le (Heap.lt_size q) hp))]; exact n
  there := fun b u q _ => ⟨u, k b u q⟩
  tups := fun b xs q => by rw [upd_ne (ne_of_none q hn)]; exact q
  frzs := fun b u xs q => by rw [upd_ne (ne_of_none q hn)]; exact q
  tbls := fun b ps q => ⟨#[], by rw [upd_ne (ne_of_none q hn), q]; simp⟩
theorem Un.write (mu : Mut (H x)) (he : e = x ∨ H e = some (.own x)) (k : ∀ b u, b ≠ e → h.get? b = some u → h'.get? b = some u) (heo : ∃ u, h'.get? e = some u) : Un fs ex H (upd H x o) h h' := by
  have hx : ∀ b, H b = none → b ≠ x := fun b n z => by subst z; rw [n] at mu; exact mu
  have hb : ∀ b, H b = none → b ≠ e := fun b n z => by
    subst z
    rcases he with r | r
    · exact hx b n r
    · rw [n] at r; cases r
  have hm : ∀ b u, H b = some u → ¬ Mut (some u) → b ≠ x := fun b u q nm z => by subst z; rw [q] at mu; exact nm mu
  refine ⟨fun b u q n _ _ => k b u (hb b n) q, fun b u q n _ _ => ⟨u.slots, k b u (hb b n) q⟩, fun b u q n _ => by rw [upd_ne (hx b n)]; exact n, fun b u q _ => ?_,
    fun b xs q => by rw [upd_ne (hm b _ q fun z => z)]; exact q, fun b u xs q => by rw [upd_ne (hm b _ q fun z => z)]; exact q, fun b ps q => ⟨#[], by rw [upd_ne (hm b _ q fun z => z), q]; simp⟩⟩
  by_cases hbe : b = e
  · subst hbe; exact heo
  · exact ⟨u, k b u hbe q⟩
end

/-! ### the heap without what is tracked -/
def trk (h : Heap) (H : Hp) : List Addr := (List.range h.objs.size).filter fun a => (H a).isSome
def hidT (h : Heap) (H : Hp) : Heap := PySem.W.hideAll h (trk h H)
theorem hidT_size (h : Heap) (H : Hp) : (hidT h H).objs.size = h.objs.size := PySem.W.hideAll_size _ _
theorem hidT_get {h : Heap} {H : Hp} {b : Addr} {o : Obj} (e : h.get? b = some o) (n : H b = none) : (hidT h H).get? b = some o :=
  PySem.W.hideAll_get _ e fun hm => by
    have q : (H b).isSome = true := (List.mem_filter.mp hm).2
    rw [n] at q; simp at q
theorem of_hidT {h : Heap} {H : Hp} {b : Addr} {o : Obj} (e : (hidT h H).get? b = some o) : h.get? b = some o ∧ H b = none := by
  have e' : h.get? b = some o := PySem.W.of_hideAll (trk h H) e
  refine ⟨e', ?_⟩
  cases q : H b with
  | none => rfl
  | some x =>
    have hm : b ∈ trk h H := List.mem_filter.mpr ⟨List.mem_range.mpr (Heap.lt_size e'), by simp [q]⟩
    have z : (hidT h H).get? b = none := PySem.W.hideAll_none (trk h H) hm
    rw [z] at e; cases e

/-! ### OpenK's ledger, filled with every new object but one -/
def allNews (g h : Heap) (L : Addr) : List (Addr × Obj) := (List.range h.objs.size).filterMap fun a => if a = L ∨ (g.get? a).isSome = true then none else (h.get? a).map fun o => (a, o)
def rest (g h : Heap) (L d : Addr) : List (Addr × Obj) := (allNews g h L).filter fun p => decide (p.1 ≠ d)
end L2

namespace L2
open PySem PySem.Spec PyProof.Rows

/-- the module's facts, over the base: the heap at the law's entry without what is tracked there -/
structure Mod (K : PySem.W.Frag) (mg : Str → Option Value) (base : Heap) : Prop where
  kin : K.In base
  glob : base.Ns mainGlobals mg
  blt : ∃ mb, base.Ns builtinsNs mb ∧ ∀ x : Str, x ≠ "__name__" → mb x = bootBuiltins x
  nolimit : base.NoLimit

/-- the context: a def's body (or a comprehension's block) running. base: fixed through the whole law; s₀, H₀: the entry; outer: the frames whose slots others may change (a def's callers); stack: all frames that run;
   ex: iterators that were made ahead of the entry and are walked here (a comprehension's); fn: the names whose cells were made at the entry (a def: all; a comprehension's block: its own); calm: not within an except suite; pn: pins that every state bears; xe: what is wanted of an exception that leaves the code -/
structure Cx where
  prog : Program
  w : World
  K : PySem.W.Frag
  mg : Str → Option Value
  base : Heap
  A : Around
  N : List Str
  s₀ : Shared
  H₀ : Hp
  env : Env
  outer : List Env
  stack : List Env
  ex : List Addr
  fn : Str → Bool
  calm : Bool
  pn : List (Addr × Obj)
  xe : Value → Shared → Prop
/-- the callers' frames -/
def frs (l : List Env) : List Addr := l.filterMap (·.frame)
abbrev Cx.fs (X : Cx) : List Addr := frs X.outer

def Vis (sc : Scope) (x : Str) : Prop := sc.names.lookup x = some .local ∨ sc.names.lookup x = some .cell ∨ sc.names.lookup x = some .free
def Loc (sc : Scope) (x : Str) : Prop := sc.names.lookup x = some .local ∨ sc.names.lookup x = some .cell
def Look (env : Env) (h : Heap) (m : Str → Option Value) (x : Str) (u : Value) : Prop :=
  (env.kindOf x = some .local ∧ m x = some u) ∨ ((env.kindOf x = some .cell ∨ env.kindOf x = some .free) ∧ ∃ c, env.cells.lookup x = some c ∧ h.IsCell c (some u))

structure Cx.Ok (X : Cx) : Prop where
  mod : Mod X.K X.mg X.base
  kind : X.env.scope.kind = .function
  glob : X.env.globals = mainGlobals
  blt : X.env.builtins = builtinsNs
  above : X.s₀.heap.objs.size ≤ X.env.locals
  inj : ∀ x y c, X.env.cells.lookup x = some c → X.env.cells.lookup y = some c → x = y
  has : ∀ x, (X.env.kindOf x = some .cell ∨ X.env.kindOf x = some .free) → ∃ c, X.env.cells.lookup x = some c
  cab : ∀ x c, X.fn x = true → X.env.cells.lookup x = some c → X.s₀.heap.objs.size ≤ c
  hd : X.calm = true → X.A.handled = none
  frames : X.A.frames = some X.stack
  stk : X.stack = X.outer ∨ (X.stack = X.env :: X.outer ∧ X.env.frame = some X.env.locals)
  exf : ∀ b ∈ X.ex, b ≠ X.env.locals ∧ ∀ x c, X.env.cells.lookup x = some c → c ≠ b
  bs : ∀ b o, X.base.get? b = some o → X.s₀.heap.get? b = some o ∧ X.H₀ b = none
  bsz : X.base.objs.size ≤ X.s₀.heap.objs.size
  noex : ∀ b o, X.base.get? b = some o → b ∉ X.ex
  exfs : ∀ b ∈ X.ex, b ∉ X.fs
  funs : X.s₀.heap.FunFrames X.base X.outer
  frf : ∀ b ∈ X.fs, X.H₀ b = none

structure Inv (X : Cx) (pins : List (Addr × Obj)) (σ : List (Option V)) (H : Hp) (s : Shared) : Prop where
  ok : X.Ok
  os : s.os = X.s₀.os
  bare : AllBare s.gens
  base : Un X.fs X.ex X.H₀ H X.s₀.heap s.heap
  loc : ∃ m, s.heap.Ns X.env.locals m ∧ ∀ (i : Nat) (x : Str) (v : V), X.N[i]? = some x → σ[i]? = some (some v) → Vis X.env.scope x → ∃ u, RelV v u ∧ Look X.env s.heap m x u
  cell : ∀ x c, X.env.cells.lookup x = some c → ∃ v, s.heap.IsCell c v
  free : H X.env.locals = none
  freeC : ∀ x c, X.env.cells.lookup x = some c → H c = none
  pin : ∀ p ∈ X.pn ++ pins, s.heap.get? p.1 = some p.2 ∧ H p.1 = none ∧ p.1 ≠ X.env.locals ∧ p.1 ∉ X.fs ∧ ∀ v, p.2.data ≠ .cell v
  hok : HOk X.prog X.w H s.heap
  len : σ.length = X.N.length

section
variable {X : Cx} {pins : List (Addr × Obj)} {σ : List (Option V)} {H H' : Hp} {s : Shared} {h' : Heap}

theorem Cx.Ok.nofr (ok : X.Ok) {b : Addr} {o : Obj} (e : X.base.get? b = some o) : b ∉ X.fs := fun hb => by
  have := (ok.funs.mem hb).1
  rw [e] at this; cases this
theorem Inv.bs (I : Inv X pins σ H s) : ∀ b o, X.base.get? b = some o → s.heap.get? b = some o ∧ H b = none := fun b o e =>
  ⟨I.base.keep b o (I.ok.bs b o e).1 (I.ok.bs b o e).2 (I.ok.nofr e) (I.ok.noex b o e), I.base.free b o (I.ok.bs b o e).1 (I.ok.bs b o e).2 (I.ok.noex b o e)⟩
theorem Inv.bk (I : Inv X pins σ H s) : ∀ b o, X.base.get? b = some o → s.heap.get? b = some o := fun b o e => (I.bs b o e).1
theorem Inv.mod (I : Inv X pins σ H s) : Mod X.K X.mg X.base := I.ok.mod
theorem Inv.kIn (I : Inv X pins σ H s) : X.K.In s.heap := I.ok.mod.kin.keeps I.bk
theorem Inv.lt (I : Inv X pins σ H s) : X.env.locals < s.heap.objs.size := let ⟨_, hn, _⟩ := I.loc; hn.lt
theorem Inv.sz (I : Inv X pins σ H s) : X.s₀.heap.objs.size ≤ s.heap.objs.size := Nat.le_trans I.ok.above (Nat.le_of_lt I.lt)
theorem Inv.nofs (I : Inv X pins σ H s) {a : Addr} (h : s.heap.objs.size ≤ a) : a ∉ X.fs := fun hb => by
  obtain ⟨_, o, ho, _⟩ := I.ok.funs.mem hb
  exact absurd (Nat.lt_of_lt_of_le (Heap.lt_size ho) (Nat.le_trans I.sz h)) (Nat.lt_irrefl _)
theorem Inv.cne (I : Inv X pins σ H s) : ∀ x c, X.env.cells.lookup x = some c → c ≠ X.env.locals := fun x c e z => by
  obtain ⟨v, o, ho, hd⟩ := I.cell x c e
  obtain ⟨m, ⟨o', es, ep, ho', hd', _⟩, _⟩ := I.loc
  rw [z, ho'] at ho; cases ho; rw [hd'] at hd; cases hd
theorem Inv.funs (I : Inv X pins σ H s) : s.heap.FunFrames X.base X.outer := by
  have all : ∀ (l : List Env), (∀ b ∈ frs l, b ∈ X.fs) → X.s₀.heap.FunFrames X.base l → s.heap.FunFrames X.base l := by
    intro l
    induction l with
    | nil => intro _ _; trivial
    | cons env r ih =>
      intro hs hl
      obtain ⟨hk, ⟨L, o, hf, hn, ho, hd⟩, hr⟩ := hl
      have hL : L ∈ X.fs := hs L (by unfold frs; rw [List.filterMap_cons, hf]; exact List.mem_cons_self)
      obtain ⟨sl, e⟩ := I.base.slot L o ho (I.ok.frf L hL) hL fun z => I.ok.exfs L z hL
      exact ⟨hk, ⟨L, _, hf, hn, e, hd⟩, ih (fun b hb => hs b (by unfold frs; rw [List.filterMap_cons, hf]; exact List.mem_cons_of_mem _ hb)) hr⟩
  exact all X.outer (fun _ hb => hb) I.ok.funs

/-- the frames that run, for a call -/
theorem Inv.stack (I : Inv X pins σ H s) : s.heap.FunFrames X.base X.stack := by
  rcases I.ok.stk with e | ⟨e, hf⟩
  · rw [e]; exact I.funs
  · rw [e]
    obtain ⟨m, hn, _⟩ := I.loc
    refine .cons (by rw [I.ok.kind]; decide) hf hn ?_ I.funs
    exact Heap.get?_none_of_le (Nat.le_trans I.ok.bsz I.ok.above)
theorem Inv.stkSub (I : Inv X pins σ H s) : ∀ b ∈ frs X.stack, b ∈ X.env.locals :: X.fs := fun b hb => by
  rcases I.ok.stk with e | ⟨e, hf⟩
  · rw [e] at hb; exact List.mem_cons_of_mem _ hb
  · rw [e] at hb
    unfold frs at hb
    rw [List.filterMap_cons, hf] at hb
    exact hb
theorem Inv.stkFree (I : Inv X pins σ H s) : ∀ b ∈ frs X.stack, H b = none := fun b hb => by
  rcases List.mem_cons.mp (I.stkSub b hb) with e | hb
  · rw [e]; exact I.free
  · obtain ⟨_, o, ho, _⟩ := I.ok.funs.mem hb
    exact I.base.free b o ho (I.ok.frf b hb) fun z => I.ok.exfs b z hb

/-- THE STEP: the untracked objects but the frame and the records at ch are kept (the callers' frames up to slots), the frame's map is kept, the new abstract heap is held -/
theorem Inv.step {g' : Array GenState} {t' : Nat} {d' : Drawn} {ch : List Addr} (I : Inv X pins σ H s)
    (hch : ∀ b ∈ ch, (b ∈ X.ex ∨ X.s₀.heap.objs.size ≤ b) ∧ b ≠ X.env.locals ∧ (∀ x c, X.env.cells.lookup x = some c → c ≠ b) ∧ ∀ p ∈ X.pn ++ pins, p.1 ≠ b)
    (keep : ∀ b o, b ≠ X.env.locals → b ∉ X.fs → b ∉ ch → s.heap.get? b = some o → H b = none → h'.get? b = some o)
    (slot : ∀ b o, b ≠ X.env.locals → b ∈ X.fs → b ∉ ch → s.heap.get? b = some o → H b = none → ∃ sl, h'.get? b = some { o with slots := sl }) (free : ∀ b o, b ∉ ch → s.heap.get? b = some o → H b = none → H' b = none)
    (there : ∀ b o, b ∉ ch → s.heap.get? b = some o → ∃ o', h'.get? b = some o')
    (tups : ∀ b xs, H b = some (.tup xs) → H' b = some (.tup xs)) (frzs : ∀ b o u, H b = some (.frz o u) → H' b = some (.frz o u)) (tbls : ∀ b ps, H b = some (.tbl ps) → ∃ more, H' b = some (.tbl (ps ++ more)))
    (ns : ∀ m, s.heap.Ns X.env.locals m → h'.Ns X.env.locals m) (hok : HOk X.prog X.w H' h') (hg : AllBare g') :
    Inv X pins σ H' { s with heap := h', gens := g', drawn := d', toks := t' } := by
  have neL : ∀ b o, X.s₀.heap.get? b = some o → b ≠ X.env.locals := fun b o e => Nat.ne_of_lt (Nat.lt_of_lt_of_le (Heap.lt_size e) I.ok.above)
  have neC : ∀ b o, X.s₀.heap.get? b = some o → b ∉ X.ex → b ∉ ch := fun b o e hx hb => by
    rcases (hch b hb).1 with z | z
    · exact hx z
    · exact absurd (Nat.lt_of_lt_of_le (Heap.lt_size e) z) (Nat.lt_irrefl _)
  have cellK : ∀ x c, X.env.cells.lookup x = some c → ∀ v, s.heap.IsCell c v → h'.IsCell c v := fun x c e v ⟨o, ho, hd⟩ => by
    have nch : c ∉ ch := fun z => (hch c z).2.2.1 x c e rfl
    by_cases hc : c ∈ X.fs
    · obtain ⟨sl, q⟩ := slot c o (I.cne x c e) hc nch ho (I.freeC x c e)
      exact ⟨_, q, hd⟩
    · exact ⟨o, keep c o (I.cne x c e) hc nch ho (I.freeC x c e), hd⟩
  refine ⟨I.ok, I.os, hg, ⟨fun b o e n hb hx => ?_, fun b o e n hb hx => ?_, fun b o e n hx => ?_, fun b o e hx => ?_, fun b xs e => tups b xs (I.base.tups b xs e), fun b o xs e => frzs b o xs (I.base.frzs b o xs e), fun b ps e => ?_⟩, ?_, fun x c e => ?_, ?_, fun x c e => ?_, fun p hp => ?_, hok, I.len⟩
  · exact keep b o (neL b o e) hb (neC b o e hx) (I.base.keep b o e n hb hx) (I.base.free b o e n hx)
  · obtain ⟨sl, e1⟩ := I.base.slot b o e n hb hx
    obtain ⟨sl', e2⟩ := slot b _ (neL b o e) hb (neC b o e hx) e1 (I.base.free b o e n hx)
    exact ⟨sl', e2⟩
  · obtain ⟨o', e1⟩ := I.base.there b o e hx
    exact free b o' (neC b o e hx) e1 (I.base.free b o e n hx)
  · obtain ⟨o', e1⟩ := I.base.there b o e hx
    exact there b o' (neC b o e hx) e1
  · obtain ⟨m1, e1⟩ := I.base.tbls b ps e
    obtain ⟨m2, e2⟩ := tbls b _ e1
    exact ⟨m1 ++ m2, by rw [e2, Array.append_assoc]⟩
  · obtain ⟨m, hn, hl⟩ := I.loc
    refine ⟨m, ns m hn, fun i x v e1 e2 e3 => ?_⟩
    obtain ⟨u, r, l⟩ := hl i x v e1 e2 e3
    refine ⟨u, r, ?_⟩
    rcases l with l | ⟨k, c, e, z⟩
    · exact .inl l
    · exact .inr ⟨k, c, e, cellK x c e _ z⟩
  · obtain ⟨v, z⟩ := I.cell x c e
    exact ⟨v, cellK x c e v z⟩
  · obtain ⟨m, ⟨o, _, _, ho, _⟩, _⟩ := I.loc
    exact free _ o (fun z => (hch _ z).2.1 rfl) ho I.free
  · obtain ⟨v, o, ho, hd⟩ := I.cell x c e
    exact free c o (fun z => (hch c z).2.2.1 x c e rfl) ho (I.freeC x c e)
  · obtain ⟨e, n, ne, nf, d⟩ := I.pin p hp
    have nch : p.1 ∉ ch := fun z => (hch p.1 z).2.2.2 p hp rfl
    exact ⟨keep p.1 p.2 ne nf nch e n, free p.1 p.2 nch e n, ne, nf, d⟩
/-- .. where the frame's own object is kept too -/
theorem Inv.un {t' : Nat} (I : Inv X pins σ H s) (u : Un X.fs [] H H' s.heap h') (hok : HOk X.prog X.w H' h') : Inv X pins σ H' { s with heap := h', toks := t' } := by
  obtain ⟨m, ⟨o, es, ep, ho, r⟩, _⟩ := id I.loc
  obtain ⟨sl, hL⟩ := u.any ho I.free (by simp)
  exact I.step (g' := s.gens) (d' := s.drawn) (ch := []) (fun _ z => nomatch z) (fun b o _ hb _ e n => u.keep b o e n hb (by simp)) (fun b o _ hb _ e n => u.slot b o e n hb (by simp)) (fun b o _ e n => u.free b o e n (by simp)) (fun b o _ e => u.there b o e (by simp)) u.tups u.frzs u.tbls (fun m' hm => by
    obtain ⟨o', es', ep', ho', r'⟩ := hm
    rw [ho] at ho'; cases ho'
    exact ⟨_, es', ep', hL, r'⟩) hok I.bare
/-- behind a call (or a comprehension's block): the slots of this frame may have changed too, the records at ch may have turned -/
theorem Inv.call {g' : Array GenState} {t' : Nat} {d' : Drawn} {ch : List Addr} (I : Inv X pins σ H s) (u : Un (frs X.stack) ch H H' s.heap h') (hok : HOk X.prog X.w H' h') (hg : AllBare g')
    (hch : ∀ b ∈ ch, (b ∈ X.ex ∨ X.s₀.heap.objs.size ≤ b) ∧ b ≠ X.env.locals ∧ (∀ x c, X.env.cells.lookup x = some c → c ≠ b) ∧ ∀ p ∈ X.pn ++ pins, p.1 ≠ b) :
    Inv X pins σ H' { s with heap := h', gens := g', drawn := d', toks := t' } := by
  obtain ⟨m, ⟨o, es, ep, ho, r⟩, _⟩ := id I.loc
  obtain ⟨sl, hL⟩ := u.any ho I.free fun z => (hch _ z).2.1 rfl
  exact I.step (ch := ch) hch (fun b o hL hb hc e n => u.keep b o e n (fun z => (List.mem_cons.mp (I.stkSub b z)).elim hL hb) hc) (fun b o _ _ hc e n => u.any e n hc) (fun b o hc e n => u.free b o e n hc) (fun b o hc e => u.there b o e hc) u.tups u.frzs u.tbls (fun m' hm => by
    obtain ⟨o', es', ep', ho', r'⟩ := hm
    rw [ho] at ho'; cases ho'
    exact ⟨_, es', ep', hL, r'⟩) hok hg
/-- an untracked record of ours (an iterator) has turned -/
theorem Inv.turned {t' : Nat} {it : Addr} (I : Inv X pins σ H s) (k : ∀ b o, b ≠ it → s.heap.get? b = some o → h'.get? b = some o) (hn : H it = none) (hL : it ≠ X.env.locals)
    (h1 : it ∈ X.ex ∨ X.s₀.heap.objs.size ≤ it) (h2 : ∀ x c, X.env.cells.lookup x = some c → c ≠ it) (h3 : ∀ p ∈ X.pn ++ pins, p.1 ≠ it) : Inv X pins σ H { s with heap := h', toks := t' } := by
  have nit : ∀ b u, H b = some u → b ≠ it := fun b u e z => by rw [z, hn] at e; cases e
  refine I.step (g' := s.gens) (d' := s.drawn) (ch := [it]) (fun b hb => ?_) (fun b o _ _ hc e _ => k b o (fun z => hc (by simp [z])) e) (fun b o _ _ hc e _ => ⟨o.slots, k b o (fun z => hc (by simp [z])) e⟩) (fun _ _ _ _ n => n)
    (fun b o hc e => ⟨o, k b o (fun z => hc (by simp [z])) e⟩) (fun _ _ e => e) (fun _ _ _ e => e) (fun b ps e => ⟨#[], by rw [e]; simp⟩) (fun m hm => ?_) (fun b u e => ?_) I.bare
  · have e : b = it := by simpa using hb
    subst e
    exact ⟨h1, hL, h2, h3⟩
  · obtain ⟨o, es, ep, ho, r⟩ := hm
    exact ⟨o, es, ep, k _ o (Ne.symm hL) ho, r⟩
  · refine (I.hok b u e).stay (fun c v hc q => k c v ?_ q) (fun _ q => q) fun _ _ q => q
    rcases hc with z | z
    · rw [z]; exact nit b u e
    · exact nit c _ z
theorem Inv.tok (I : Inv X pins σ H s) (t : Nat) : Inv X pins σ H { s with toks := t } := I.un (h' := s.heap) (t' := t) Un.refl I.hok
/-- all objects kept -/
theorem Inv.kept {t' : Nat} (I : Inv X pins σ H s) (k : ∀ b u, s.heap.get? b = some u → h'.get? b = some u) : Inv X pins σ H { s with heap := h', toks := t' } := I.un (Un.kept k) (I.hok.kept k)
/-- a new object laid and tracked -/
theorem Inv.laid {a : Addr} {o : HO} {t' : Nat} (I : Inv X pins σ H s) (k : ∀ b u, s.heap.get? b = some u → h'.get? b = some u) (hp : s.heap.objs.size ≤ a) (new : ObjOk X.prog X.w (upd H a o) h' a o) :
    Inv X pins σ (upd H a o) { s with heap := h', toks := t' } := I.un (Un.laid k hp (I.hok.fresh hp)) (I.hok.laid k hp new)
/-- an object written -/
theorem Inv.write {x e : Addr} {o : HO} {t' : Nat} (I : Inv X pins σ H s) (mu : Mut (H x)) (he : e = x ∨ H e = some (.own x)) (k : ∀ b u, b ≠ e → s.heap.get? b = some u → h'.get? b = some u) (heo : ∃ u, h'.get? e = some u)
    (new : ObjOk X.prog X.w (upd H x o) h' x o) : Inv X pins σ (upd H x o) { s with heap := h', toks := t' } := I.un (Un.write mu he k heo) (I.hok.write mu he k heo new)
/-- forgetting slots, pins -/
theorem Inv.weak {σ' : List (Option V)} (I : Inv X pins σ H s) (hl : σ'.length = σ.length) (w : ∀ (i : Nat) v, σ'[i]? = some (some v) → σ[i]? = some (some v)) : Inv X pins σ' H s :=
  ⟨I.ok, I.os, I.bare, I.base, let ⟨m, hn, hl'⟩ := I.loc; ⟨m, hn, fun i x v e1 e2 e3 => hl' i x v e1 (w i v e2) e3⟩, I.cell, I.free, I.freeC, I.pin, I.hok, hl.trans I.len⟩
theorem Inv.pins_of {pins' : List (Addr × Obj)} (I : Inv X pins σ H s) (h : ∀ p ∈ pins', s.heap.get? p.1 = some p.2 ∧ H p.1 = none ∧ p.1 ≠ X.env.locals ∧ p.1 ∉ X.fs ∧ ∀ v, p.2.data ≠ .cell v) : Inv X pins' σ H s :=
  ⟨I.ok, I.os, I.bare, I.base, I.loc, I.cell, I.free, I.freeC, fun p hp => (List.mem_append.mp hp).elim (fun z => I.pin p (List.mem_append_left _ z)) (h p), I.hok, I.len⟩

theorem nodup_ix {N : List Str} (hN : N.Nodup) {i j : Nat} {x : Str} (a : N[i]? = some x) (b : N[j]? = some x) : i = j := by
  obtain ⟨h1, e1⟩ := List.getElem?_eq_some_iff.mp a
  obtain ⟨h2, e2⟩ := List.getElem?_eq_some_iff.mp b
  exact (List.getElem_inj hN).mp (e1.trans e2.symm)

/-- a name is stored; what changed -/
theorem store_ok2 {M : Model} {A : Around} {E : Value → Shared → Prop} {i : Nat} {x : Str} {v : V} {u : Value} {Q : Unit → Shared → Prop} (I : Inv X pins σ H s) (hN : X.N.Nodup) (hi : X.N[i]? = some x) (hx : Loc X.env.scope x) (r : RelV v u)
    (h : ∀ s', Inv X pins (σ.set i (some v)) H s' → (∃ a, Heap.SameBut a s.heap s'.heap ∧ (a = X.env.locals ∨ X.env.cells.lookup x = some a)) → Q () s') (hf : X.fn x = true ∨ X.env.scope.names.lookup x = some .local := by first | exact .inl rfl | exact .inr rfl | assumption) : wpAny M A (storeName X.env x u) Q E s := by
  obtain ⟨m, hn, hl⟩ := id I.loc
  have hcls : (X.env.scope.kind == .class || (X.env.scope.kind == .module && X.env.locals != X.env.globals)) = false := by rw [I.ok.kind]; rfl
  have hiσ : i < σ.length := by rw [I.len]; exact (List.getElem?_eq_some_iff.mp hi).1
  have cne := I.cne
  have tracked : ∀ {a : Addr} {h' : Heap}, (∃ o, s.heap.get? a = some o ∧ H a = none) → Heap.SameBut a s.heap h' → HOk X.prog X.w H h' := fun {a h'} ha hs b ob e => by
    obtain ⟨_, _, hfree⟩ := ha
    refine (I.hok b ob e).stay (fun c w' hc q => (hs.2 c ?_).trans q) (fun _ q => q) fun _ _ q => q
    rintro rfl
    rcases hc with rfl | hc
    · rw [hfree] at e; cases e
    · rw [hfree] at hc; cases hc
  rcases hx with hk | hk
  · refine wpAny_storeName_local hk hn (fun h' hn' hs => ?_) hcls
    obtain ⟨oL, _, _, hoL, _⟩ := id hn
    refine h _ ⟨I.ok, I.os, I.bare, ⟨fun b o e n hb hx => ?_, fun b o e n hb hx => ?_, I.base.free, fun b o e hx => ?_, I.base.tups, I.base.frzs, I.base.tbls⟩, ⟨_, hn', fun j y v' e1 e2 e3 => ?_⟩, fun y c e => ?_, I.free, I.freeC, fun p hp => ?_, tracked ⟨oL, hoL, I.free⟩ hs, by simpa using I.len⟩ ⟨_, hs, .inl rfl⟩
    · exact (hs.2 b (Nat.ne_of_lt (Nat.lt_of_lt_of_le (Heap.lt_size e) I.ok.above))).trans (I.base.keep b o e n hb hx)
    · obtain ⟨sl, e1⟩ := I.base.slot b o e n hb hx
      exact ⟨sl, (hs.2 b (Nat.ne_of_lt (Nat.lt_of_lt_of_le (Heap.lt_size e) I.ok.above))).trans e1⟩
    · obtain ⟨o', e1⟩ := I.base.there b o e hx
      exact ⟨o', (hs.2 b (Nat.ne_of_lt (Nat.lt_of_lt_of_le (Heap.lt_size e) I.ok.above))).trans e1⟩
    · by_cases hj : j = i
      · subst hj
        rw [hi] at e1; cases e1
        rw [List.getElem?_set_self hiσ] at e2
        cases e2
        exact ⟨u, r, .inl ⟨hk, by simp⟩⟩
      · rw [List.getElem?_set_ne (Ne.symm hj)] at e2
        obtain ⟨u', r', q⟩ := hl j y v' e1 e2 e3
        refine ⟨u', r', ?_⟩
        rcases q with ⟨k, e⟩ | ⟨k, c, e, z⟩
        · refine .inl ⟨k, ?_⟩
          have : y ≠ x := fun e => hj (nodup_ix hN e1 (e ▸ hi))
          simp [this, e]
        · exact .inr ⟨k, c, e, z.sameBut hs (cne y c e)⟩
    · obtain ⟨w', z⟩ := I.cell y c e
      exact ⟨w', z.sameBut hs (cne y c e)⟩
    · obtain ⟨e, n, ne, nf, d⟩ := I.pin p hp
      exact ⟨(hs.2 p.1 ne).trans e, n, ne, nf, d⟩
  · have hfn : X.fn x = true := by
      rcases hf with z | z
      · exact z
      · rw [z] at hk; cases hk
    obtain ⟨c, hc⟩ := I.ok.has x (.inl hk)
    obtain ⟨w', z⟩ := I.cell x c hc
    refine wpAny_storeName_cell I.ok.kind hk hc z (fun h' hc' hs => ?_)
    obtain ⟨oc, hoc, hocd⟩ := id z
    refine h { s with heap := h' } ⟨I.ok, I.os, I.bare, ⟨fun b o e n hb hx => ?_, fun b o e n hb hx => ?_, I.base.free, fun b o e hx => ?_, I.base.tups, I.base.frzs, I.base.tbls⟩, ⟨m, hn.sameBut hs (Ne.symm (cne x c hc)), fun j y v' e1 e2 e3 => ?_⟩, fun y c' e => ?_, I.free, I.freeC, fun p hp => ?_, tracked ⟨oc, hoc, I.freeC x c hc⟩ hs, by simpa using I.len⟩ ⟨c, hs, .inr hc⟩
    · exact (hs.2 b (Nat.ne_of_lt (Nat.lt_of_lt_of_le (Heap.lt_size e) (I.ok.cab x c hfn hc)))).trans (I.base.keep b o e n hb hx)
    · obtain ⟨sl, e1⟩ := I.base.slot b o e n hb hx
      exact ⟨sl, (hs.2 b (Nat.ne_of_lt (Nat.lt_of_lt_of_le (Heap.lt_size e) (I.ok.cab x c hfn hc)))).trans e1⟩
    · obtain ⟨o', e1⟩ := I.base.there b o e hx
      exact ⟨o', (hs.2 b (Nat.ne_of_lt (Nat.lt_of_lt_of_le (Heap.lt_size e) (I.ok.cab x c hfn hc)))).trans e1⟩
    · by_cases hj : j = i
      · subst hj
        rw [hi] at e1; cases e1
        rw [List.getElem?_set_self hiσ] at e2
        cases e2
        exact ⟨u, r, .inr ⟨.inl hk, c, hc, hc'⟩⟩
      · rw [List.getElem?_set_ne (Ne.symm hj)] at e2
        obtain ⟨u', r', q⟩ := hl j y v' e1 e2 e3
        refine ⟨u', r', ?_⟩
        rcases q with q | ⟨k, c', e, z'⟩
        · exact .inl q
        · refine .inr ⟨k, c', e, z'.sameBut hs ?_⟩
          rintro rfl
          exact hj (nodup_ix hN e1 (I.ok.inj _ _ _ e hc ▸ hi))
    · by_cases hcc : c' = c
      · subst hcc; exact ⟨_, hc'⟩
      · obtain ⟨w2, z2⟩ := I.cell y c' e
        exact ⟨w2, z2.sameBut hs hcc⟩
    · obtain ⟨e, n, ne, nf, d⟩ := I.pin p hp
      refine ⟨(hs.2 p.1 ?_).trans e, n, ne, nf, d⟩
      intro q
      rw [q, hoc] at e
      have q' : oc = p.2 := Option.some.inj e
      exact d w' (by rw [← q']; exact hocd)
theorem store_ok {M : Model} {A : Around} {E : Value → Shared → Prop} {i : Nat} {x : Str} {v : V} {u : Value} {Q : Unit → Shared → Prop} (I : Inv X pins σ H s) (hN : X.N.Nodup) (hi : X.N[i]? = some x) (hx : Loc X.env.scope x) (r : RelV v u)
    (h : ∀ s', Inv X pins (σ.set i (some v)) H s' → Q () s') (hf : X.fn x = true ∨ X.env.scope.names.lookup x = some .local := by first | exact .inl rfl | exact .inr rfl | assumption) : wpAny M A (storeName X.env x u) Q E s :=
  store_ok2 I hN hi hx r (fun s' I' _ => h s' I') hf
/-- behind a call or a block, the state as it is -/
theorem Inv.call' {s' : Shared} {ch : List Addr} (I : Inv X pins σ H s) (ho : s'.os = s.os) (u : Un (frs X.stack) ch H H' s.heap s'.heap) (hok : HOk X.prog X.w H' s'.heap) (hg : AllBare s'.gens)
    (hch : ∀ b ∈ ch, (b ∈ X.ex ∨ X.s₀.heap.objs.size ≤ b) ∧ b ≠ X.env.locals ∧ (∀ x c, X.env.cells.lookup x = some c → c ≠ b) ∧ ∀ p ∈ X.pn ++ pins, p.1 ≠ b) : Inv X pins σ H' s' := by
  obtain ⟨h', g', d', t', o'⟩ := s'
  have e : o' = s.os := ho
  subst e
  exact I.call (g' := g') (t' := t') (d' := d') u hok hg hch
end

/-! ### the judgements -/
/-- an exception: its class, its own dict's address (where it has one), the abstract heap behind it -/
abbrev XK := Value → Option Addr → Hp → Prop
abbrev St := List (Option V)
abbrev VK := V → Hp → Prop
/-- an expression's reading; a test's; an argument list's -/
abbrev TE := St → Hp → VK → Prop
abbrev TT := St → Hp → (Bool → Hp → Prop) → Prop
abbrev TA := St → Hp → (List V → Hp → Prop) → Prop
/-- what is wanted behind a statement -/
structure Ends where
  nx : St → Hp → Prop
  rt : VK
  bk : St → Hp → Prop := fun _ _ => False
  ct : St → Hp → Prop := fun _ _ => False
abbrev TS := Ends → St → Hp → Prop

def EP (X : Cx) (pins : List (Addr × Obj)) (σ : St) (Q : VK) (u : Value) (s' : Shared) : Prop := ∃ v H', Inv X pins σ H' s' ∧ RelV v u ∧ Q v H'
def TP (X : Cx) (pins : List (Addr × Obj)) (σ : St) (Q : Bool → Hp → Prop) (b : Bool) (s' : Shared) : Prop := ∃ H', Inv X pins σ H' s' ∧ Q b H'
def AP (X : Cx) (pins : List (Addr × Obj)) (σ : St) (Q : List V → Hp → Prop) (us : List Value) (s' : Shared) : Prop := ∃ vs H', Inv X pins σ H' s' ∧ Vals vs us ∧ Q vs H'
def SP (X : Cx) (pins : List (Addr × Obj)) (D : Ends) (f : Flow) (s' : Shared) : Prop :=
  match f with
  | .next => ∃ σ' H', Inv X pins σ' H' s' ∧ D.nx σ' H'
  | .brk => ∃ σ' H', Inv X pins σ' H' s' ∧ D.bk σ' H'
  | .cont => ∃ σ' H', Inv X pins σ' H' s' ∧ D.ct σ' H'
  | .ret u => ∃ v σ' H', Inv X pins σ' H' s' ∧ RelV v u ∧ D.rt v H'

structure PE (X : Cx) (e : Expr) (t : TE) : Prop where
  run : ∀ (pins : List (Addr × Obj)) (s : Shared) (σ : St) (H : Hp) (Q : VK), Inv X pins σ H s → t σ H Q → wpAny (model X.prog X.w) X.A (eval e X.env) (EP X pins σ Q) X.xe s
instance {X : Cx} {e : Expr} {t : TE} : CoeFun (PE X e t) (fun _ => ∀ (pins : List (Addr × Obj)) (s : Shared) (σ : St) (H : Hp) (Q : VK), Inv X pins σ H s → t σ H Q → wpAny (model X.prog X.w) X.A (eval e X.env) (EP X pins σ Q) X.xe s) := ⟨PE.run⟩
structure PT (X : Cx) (e : Expr) (t : TT) : Prop where
  run : ∀ (pins : List (Addr × Obj)) (s : Shared) (σ : St) (H : Hp) (Q : Bool → Hp → Prop), Inv X pins σ H s → t σ H Q → wpAny (model X.prog X.w) X.A (isTrue e X.env (eval e X.env)) (TP X pins σ Q) X.xe s
instance {X : Cx} {e : Expr} {t : TT} : CoeFun (PT X e t) (fun _ => ∀ (pins : List (Addr × Obj)) (s : Shared) (σ : St) (H : Hp) (Q : Bool → Hp → Prop), Inv X pins σ H s → t σ H Q → wpAny (model X.prog X.w) X.A (isTrue e X.env (eval e X.env)) (TP X pins σ Q) X.xe s) := ⟨PT.run⟩
/-- a test whatever its 'whole' is (and, or) -/
structure PW (X : Cx) (e : Expr) (t : TT) : Prop where
  run : ∀ (whole : Sem Value) (pins : List (Addr × Obj)) (s : Shared) (σ : St) (H : Hp) (Q : Bool → Hp → Prop), Inv X pins σ H s → t σ H Q → wpAny (model X.prog X.w) X.A (isTrue e X.env whole) (TP X pins σ Q) X.xe s
instance {X : Cx} {e : Expr} {t : TT} : CoeFun (PW X e t) (fun _ => ∀ (whole : Sem Value) (pins : List (Addr × Obj)) (s : Shared) (σ : St) (H : Hp) (Q : Bool → Hp → Prop), Inv X pins σ H s → t σ H Q → wpAny (model X.prog X.w) X.A (isTrue e X.env whole) (TP X pins σ Q) X.xe s) := ⟨PW.run⟩
theorem PW.pt {X : Cx} {e : Expr} {t : TT} (h : PW X e t) : PT X e t := .mk (h.run _)
/-- an argument list (no star), from the left -/
structure PA (X : Cx) (es : List Expr) (t : TA) : Prop where
  run : ∀ (pos : Pos) (pins : List (Addr × Obj)) (s : Shared) (σ : St) (H : Hp) (Q : List V → Hp → Prop), Inv X pins σ H s → t σ H Q → wpAny (model X.prog X.w) X.A (spliced (backTo pos (starEach es X.env))) (AP X pins σ Q) X.xe s
instance {X : Cx} {es : List Expr} {t : TA} : CoeFun (PA X es t) (fun _ => ∀ (pos : Pos) (pins : List (Addr × Obj)) (s : Shared) (σ : St) (H : Hp) (Q : List V → Hp → Prop), Inv X pins σ H s → t σ H Q → wpAny (model X.prog X.w) X.A (spliced (backTo pos (starEach es X.env))) (AP X pins σ Q) X.xe s) := ⟨PA.run⟩
structure PS (X : Cx) (st : Stmt) (t : TS) : Prop where
  run : ∀ (pins : List (Addr × Obj)) (s : Shared) (σ : St) (H : Hp) (D : Ends), Inv X pins σ H s → t D σ H → wpAny (model X.prog X.w) X.A (exec st X.env) (SP X pins D) X.xe s
instance {X : Cx} {st : Stmt} {t : TS} : CoeFun (PS X st t) (fun _ => ∀ (pins : List (Addr × Obj)) (s : Shared) (σ : St) (H : Hp) (D : Ends), Inv X pins σ H s → t D σ H → wpAny (model X.prog X.w) X.A (exec st X.env) (SP X pins D) X.xe s) := ⟨PS.run⟩
structure PSs (X : Cx) (st : List Stmt) (t : TS) : Prop where
  run : ∀ (pins : List (Addr × Obj)) (s : Shared) (σ : St) (H : Hp) (D : Ends), Inv X pins σ H s → t D σ H → wpAny (model X.prog X.w) X.A (execs st X.env) (SP X pins D) X.xe s
instance {X : Cx} {st : List Stmt} {t : TS} : CoeFun (PSs X st t) (fun _ => ∀ (pins : List (Addr × Obj)) (s : Shared) (σ : St) (H : Hp) (D : Ends), Inv X pins σ H s → t D σ H → wpAny (model X.prog X.w) X.A (execs st X.env) (SP X pins D) X.xe s) := ⟨PSs.run⟩
/-- weaken the end -/
theorem thn {α : Type} {t : Sem α} {Q Q' : α → Shared → Prop} {M : Model} {A : Around} {E : Value → Shared → Prop} {s : Shared} (h : wpAny M A t Q E s) (hQ : ∀ a s, Q a s → Q' a s) : wpAny M A t Q' E s := wpAny_mono h hQ fun _ _ x => x
end L2

namespace L2
open PySem PySem.Spec PyProof.Rows
section
variable {X : Cx}

/-! ### names and constants -/
def tVar (i : Nat) : TE := fun σ H Q => ∃ v, σ[i]? = some (some v) ∧ Q v H
def tC (v : V) : TE := fun _ H Q => Q v H
theorem pe_var {i : Nat} {x : Str} {pos : Pos} (hN : X.N[i]? = some x) (hv : Vis X.env.scope x) (hd : (x == ("__debug__" : Str)) = false := by decide) (hcd : (x == ("__classdict__" : Str)) = false := by decide) : PE X (.Name x pos) (tVar i) := by
  refine .mk ?_
  intro pins s σ H Q I h
  obtain ⟨v, e, h⟩ := h
  obtain ⟨m, hn, hl⟩ := I.loc
  obtain ⟨u, r, l⟩ := hl i x v hN e hv
  have fin : EP X pins σ Q u s := ⟨v, H, I, r, h⟩
  rcases l with ⟨hk, hm⟩ | ⟨hk, c, hc, hcell⟩
  · exact wpAny_Name (wpAny_loadName_local I.ok.kind hk hn hm fin) hd
  · rcases hk with hk | hk
    · exact wpAny_Name (wpAny_loadName_cell I.ok.kind hk hc hcell fin) hd
    · exact wpAny_Name (wpAny_loadName_free I.ok.kind hk hc hcell fin hcd) hd
theorem pe_int {i j pos} : PE X (.Constant (.int i) j pos) (tC (.int i)) := .mk <| fun _ _ _ H _ I h => wpAny_Constant_int ⟨.int i, H, I.tok _, ⟨_, rfl⟩, h⟩
theorem pe_bl {b j pos} : PE X (.Constant (.bool b) j pos) (tC (.bl b)) := .mk <| fun _ _ _ H _ I h => Constant_bool ⟨.bl b, H, I, rfl, h⟩
theorem pe_non {j pos} : PE X (.Constant .none j pos) (tC .non) := .mk <| fun _ _ _ H _ I h => Constant_none ⟨.non, H, I, rfl, h⟩
theorem pe_str {x j pos} : PE X (.Constant (.str x) j pos) (tC (.str x)) := .mk <| fun _ _ _ H _ I h => Calls.Constant_str ⟨.str x, H, I.tok _, ⟨_, rfl⟩, h⟩

/-- a global name of the def -/
def Gl (X : Cx) (x : Str) : Prop := X.env.kindOf x = some .globalImplicit
theorem ld_glob {E : Value → Shared → Prop} {pins : List (Addr × Obj)} {s : Shared} {σ : St} {H : Hp} {x : Str} {u : Value} {pos : Pos} {Q : Value → Shared → Prop} (I : Inv X pins σ H s) (hg : Gl X x) (hm : X.mg x = some u) (h : Q u s)
    (hd : (x == ("__debug__" : Str)) = false := by decide) : wpAny (model X.prog X.w) X.A (eval (.Name x pos) X.env) Q E s :=
  Calls.Name_function_global I.ok.kind hg (Calls.loadGlobal_global (by rw [I.ok.glob]; exact I.mod.glob.keeps I.bk) hm h) hd
theorem ld_blt {E : Value → Shared → Prop} {pins : List (Addr × Obj)} {s : Shared} {σ : St} {H : Hp} {x : Str} {u : Value} {pos : Pos} {Q : Value → Shared → Prop} (I : Inv X pins σ H s) (hg : Gl X x) (hm : X.mg x = none) (hv : bootBuiltins x = some u) (h : Q u s)
    (hn : x ≠ "__name__" := by decide) (hd : (x == ("__debug__" : Str)) = false := by decide) : wpAny (model X.prog X.w) X.A (eval (.Name x pos) X.env) Q E s := by
  obtain ⟨mb, h1, h2⟩ := I.mod.blt
  exact Calls.Name_function_global I.ok.kind hg (Calls.loadGlobal_builtin (by rw [I.ok.glob]; exact I.mod.glob.keeps I.bk) hm (by rw [I.ok.blt]; exact h1.keeps I.bk) ((h2 x hn).trans hv) h) hd
/-- a module's constant, a class, a function, as a value -/
theorem pe_glob {x : Str} {v : V} {u : Value} {pos : Pos} (hg : Gl X x) (hm : X.mg x = some u) (r : RelV v u) (hd : (x == ("__debug__" : Str)) = false := by decide) : PE X (.Name x pos) (tC v) := .mk <| fun _ _ _ H _ I h => ld_glob I hg hm ⟨v, H, I, r, h⟩ hd
theorem pe_bltn {x : Str} {v : V} {u : Value} {pos : Pos} (hg : Gl X x) (hm : X.mg x = none) (hv : bootBuiltins x = some u) (r : RelV v u) (hn : x ≠ "__name__" := by decide) (hd : (x == ("__debug__" : Str)) = false := by decide) : PE X (.Name x pos) (tC v) := .mk <| fun _ _ _ H _ I h => ld_blt I hg hm hv ⟨v, H, I, r, h⟩ hn hd

/-! ### arithmetic -/
/-- two ints -/
def t2I (ta tb : TE) (k : Int → Int → Hp → Prop) : St → Hp → Prop := fun σ H => ta σ H fun x H1 => tb σ H1 fun y H2 => ∃ i j, x = .int i ∧ y = .int j ∧ k i j H2
def tAdd (ta tb : TE) : TE := fun σ H Q => t2I ta tb (fun i j H2 => Q (.int (i + j)) H2) σ H
def tSub (ta tb : TE) : TE := fun σ H Q => t2I ta tb (fun i j H2 => Q (.int (i - j)) H2) σ H
/-- the left factor below 2^64 -/
def tMul (ta tb : TE) : TE := fun σ H Q => t2I ta tb (fun i j H2 => (-(2 ^ 64) < i ∧ i < 2 ^ 64) ∧ Q (.int (i * j)) H2) σ H
variable {a b : Expr} {ta tb : TE} {pos : Pos}
/-! ### comparisons -/
def PC (X : Cx) (op : CmpOp) (a b : Expr) (t : TE) : Prop :=
  ∀ (pins : List (Addr × Obj)) (s : Shared) (σ : St) (H : Hp) (Q : VK), Inv X pins σ H s → t σ H Q →
    wpAny (model X.prog X.w) X.A (eval a X.env) (fun v s₁ => wpAny (model X.prog X.w) X.A (eval b X.env) (fun u s₂ => wpAny (model X.prog X.w) X.A (compareOp op v u) (EP X pins σ Q) X.xe s₂) X.xe s₁) X.xe s
def tCmp (p : Int → Int → Bool) (ta tb : TE) : TE := fun σ H Q => t2I ta tb (fun i j H2 => Q (.bl (p i j)) H2) σ H
abbrev tLt : TE → TE → TE := tCmp fun i j => decide (i < j)
abbrev tLe : TE → TE → TE := tCmp fun i j => decide (i ≤ j)
abbrev tGt : TE → TE → TE := tCmp fun i j => decide (j < i)
abbrev tGe : TE → TE → TE := tCmp fun i j => decide (j ≤ i)
abbrev tEqI : TE → TE → TE := tCmp fun i j => decide (i = j)
abbrev tNeI : TE → TE → TE := tCmp fun i j => !decide (i = j)
/-- is None -/
def tIsN (ta : TE) : TE := fun σ H Q => ta σ H fun x H1 => Q (.bl (decide (x = .non))) H1
def tNotN (ta : TE) : TE := fun σ H Q => ta σ H fun x H1 => Q (.bl (!decide (x = .non))) H1
/-- a comparison as a value, as a test -/
def tB (t : TE) : TT := fun σ H Q => t σ H fun x H1 => ∃ c, x = .bl c ∧ Q c H1
/-- an expression whose value is a bool, as a test -/
theorem pt_val {e : Expr} {t : TE} (h : PE X e t) (he : ∀ whole, isTrue e X.env whole = (do let v ← whole; standAt e.pos; holding [v] (truthy v)) := by intro _; rfl) : PT X e (tB t) := by
  refine .mk ?_
  intro pins s σ H Q I hw
  refine isTrue_plain (thn (h pins s σ H _ I hw) fun v s1 ⟨x, H1, I1, r1, q1⟩ => ?_) (he _)
  obtain ⟨d, rfl, q⟩ := q1
  cases r1
  exact wpAny_truthy_bool ⟨H1, I1, q⟩

/-! ### and, or, not -/
variable {tA tB' : TT} {rest : List Expr}
def tAnd (t u : TT) : TT := fun σ H Q => t σ H fun c H1 => if c = true then u σ H1 Q else Q false H1
def tOr (t u : TT) : TT := fun σ H Q => t σ H fun c H1 => if c = true then Q true H1 else u σ H1 Q
def tNot (t : TT) : TT := fun σ H Q => t σ H fun c H1 => Q (!c) H1
theorem pw_and1 (ha : PT X a tA) : PW X (.BoolOp .And [a] pos) tA := by
  refine .mk ?_
  intro wh pins s σ H Q I h
  refine isTrue_and (thn (ha pins s σ H Q I h) fun c s1 e => ?_)
  cases c with
  | true => exact isTrue_and_nil e
  | false => exact e
theorem pw_or1 (ha : PT X a tA) : PW X (.BoolOp .Or [a] pos) tA := by
  refine .mk ?_
  intro wh pins s σ H Q I h
  refine isTrue_or (thn (ha pins s σ H Q I h) fun c s1 e => ?_)
  cases c with
  | false => exact isTrue_or_nil e
  | true => exact e
theorem pw_and (ha : PT X a tA) (hb : PW X (.BoolOp .And (b :: rest) pos) tB') : PW X (.BoolOp .And (a :: b :: rest) pos) (tAnd tA tB') := by
  refine .mk ?_
  intro wh pins s σ H Q I h
  refine isTrue_and (thn (ha pins s σ H _ I h) fun c s1 hZ9 => ?_)
  obtain ⟨H1, I1, q1⟩ := hZ9
  cases c with
  | true => exact hb wh pins s1 σ H1 Q I1 q1
  | false => exact ⟨H1, I1, q1⟩
theorem pw_or (ha : PT X a tA) (hb : PW X (.BoolOp .Or (b :: rest) pos) tB') : PW X (.BoolOp .Or (a :: b :: rest) pos) (tOr tA tB') := by
  refine .mk ?_
  intro wh pins s σ H Q I h
  refine isTrue_or (thn (ha pins s σ H _ I h) fun c s1 hZ9 => ?_)
  obtain ⟨H1, I1, q1⟩ := hZ9
  cases c with
  | true => exact ⟨H1, I1, q1⟩
  | false => exact hb wh pins s1 σ H1 Q I1 q1
theorem pt_not (ha : PT X a tA) : PT X (.UnaryOp .Not a pos) (tNot tA) := by
  refine .mk ?_
  intro pins s σ H Q I h
  exact isTrue_not (ha pins s σ H (fun c H1 => Q (!c) H1) I h)
/-- .. as values (bools) -/
def tAndV (ta tb : TE) : TE := fun σ H Q => ta σ H fun x H1 => ∃ c, x = .bl c ∧ if c = true then tb σ H1 Q else Q (.bl false) H1
def tOrV (ta tb : TE) : TE := fun σ H Q => ta σ H fun x H1 => ∃ c, x = .bl c ∧ if c = true then Q (.bl true) H1 else tb σ H1 Q
def tNotV (ta : TE) : TE := fun σ H Q => ta σ H fun x H1 => ∃ c, x = .bl c ∧ Q (.bl (!c)) H1
theorem pe_one {op} {t : TE} (h : PE X a t) : PE X (.BoolOp op [a] pos) t := .mk <| fun pins s σ H Q I hw => BoolOp_one (h pins s σ H Q I hw)
theorem pe_and (ha : PE X a ta) (hb : PE X (.BoolOp .And (b :: rest) pos) tb) : PE X (.BoolOp .And (a :: b :: rest) pos) (tAndV ta tb) := by
  refine .mk ?_
  intro pins s σ H Q I h
  refine BoolOp_and (thn (ha pins s σ H _ I h) fun v s1 hZ9 => ?_)
  obtain ⟨x, H1, I1, r1, q1⟩ := hZ9
  obtain ⟨c, rfl, q1⟩ := q1
  cases r1
  refine wpAny_truthy_bool ?_
  cases c with
  | true => exact hb pins s1 σ H1 Q I1 q1
  | false => exact ⟨.bl false, H1, I1, rfl, q1⟩
theorem pe_or (ha : PE X a ta) (hb : PE X (.BoolOp .Or (b :: rest) pos) tb) : PE X (.BoolOp .Or (a :: b :: rest) pos) (tOrV ta tb) := by
  refine .mk ?_
  intro pins s σ H Q I h
  refine BoolOp_or (thn (ha pins s σ H _ I h) fun v s1 hZ9 => ?_)
  obtain ⟨x, H1, I1, r1, q1⟩ := hZ9
  obtain ⟨c, rfl, q1⟩ := q1
  cases r1
  refine wpAny_truthy_bool ?_
  cases c with
  | false => exact hb pins s1 σ H1 Q I1 q1
  | true => exact ⟨.bl true, H1, I1, rfl, q1⟩
theorem pe_not (ha : PE X a ta) : PE X (.UnaryOp .Not a pos) (tNotV ta) := by
  refine .mk ?_
  intro pins s σ H Q I h
  refine UnaryOp_ (thn (ha pins s σ H _ I h) fun v s1 hZ9 => ?_)
  obtain ⟨x, H1, I1, r1, q1⟩ := hZ9
  obtain ⟨c, rfl, q1⟩ := q1
  cases r1
  exact not_of (wpAny_truthy_bool ⟨.bl (!c), H1, I1, rfl, q1⟩)
/-- a if t else b -/
def tIf (t : TT) (ta tb : TE) : TE := fun σ H Q => t σ H fun c H1 => if c = true then ta σ H1 Q else tb σ H1 Q
theorem pe_ifExp {c : Expr} (hc : PT X c tA) (ha : PE X a ta) (hb : PE X b tb) : PE X (.IfExp c a b pos) (tIf tA ta tb) := by
  refine .mk ?_
  intro pins s σ H Q I h
  refine wpAny_IfExp (thn (hc pins s σ H _ I h) fun d s1 hZ9 => ?_)
  obtain ⟨H1, I1, q1⟩ := hZ9
  cases d with
  | true => exact ha pins s1 σ H1 Q I1 q1
  | false => exact hb pins s1 σ H1 Q I1 q1
end
end L2

namespace L2
open PySem PySem.Spec PyProof.Rows

/-! ### a list, a tuple that is read: tracked, frozen, or an object of the module -/
def SqL (K : PySem.W.Frag) (H : Hp) (a : Addr) (xs : List V) : Prop :=
  Rd H a (.lst xs) ∨
    ∃ (o : Obj) (its : Array Value) (n : Nat), K.lookup a = some o ∧ o.cls = .type "list" ∧ o.dict = none ∧ o.data = .seq its n ∧ its.size ≤ sizeLine ∧ Vals xs its.toList
def SqT (K : PySem.W.Frag) (H : Hp) (a : Addr) (xs : List V) : Prop :=
  Rd H a (.tup xs) ∨
    ∃ (o : Obj) (its : Array Value) (n : Nat), K.lookup a = some o ∧ o.cls = .type "tuple" ∧ o.data = .seq its n ∧ its.size ≤ sizeLine ∧ Vals xs its.toList
def absV : Value → Option V
  | .none => some .non
  | .bool b => some (.bl b)
  | .int i _ => some (.int i)
  | .str x _ => some (.str x)
  | .bytes b _ => some (.byt b)
  | .float b _ => some (.flt b)
  | .ref a => some (.ref a)
  | .type n => some (.ty n)
  | _ => none
theorem RelV.abs {x : V} {u : Value} (r : RelV x u) : absV u = some x := by
  cases x with
  | non => cases r; rfl
  | bl _ => cases r; rfl
  | int _ => obtain ⟨t, rfl⟩ := r; rfl
  | str _ => obtain ⟨t, rfl⟩ := r; rfl
  | byt _ => obtain ⟨t, rfl⟩ := r; rfl
  | flt _ => obtain ⟨t, rfl⟩ := r; rfl
  | ref _ => cases r; rfl
  | ty _ => cases r; rfl
theorem RelV.inj {x y : V} {u : Value} (r : RelV x u) (q : RelV y u) : x = y := Option.some.inj (r.abs.symm.trans q.abs)
theorem Vals.inj : ∀ {xs ys : List V} {us : List Value}, Vals xs us → Vals ys us → xs = ys
  | _, _, _, .nil, .nil => rfl
  | _, _, _, .cons r t, .cons r' t' => by rw [r.inj r', Vals.inj t t']
section
variable {X : Cx} {pins : List (Addr × Obj)} {σ : St} {H : Hp} {s : Shared} {a : Addr} {xs ys : List V}
theorem SqL.of {K : PySem.W.Frag} (h : H a = some (.lst xs)) : SqL K H a xs := .inl (.inl h)
theorem SqT.of {K : PySem.W.Frag} (h : H a = some (.tup xs)) : SqT K H a xs := .inl (.inl h)
theorem Inv.list (I : Inv X pins σ H s) (h : SqL X.K H a xs) : ∃ its : List Value, Vals xs its ∧ PlainL s.heap a its.toArray ∧ xs.length ≤ sizeLine := by
  rcases h with h | ⟨o, its, n, hk, hc, hd, hs, hz, r⟩
  · obtain ⟨z, its, n, r, e⟩ := h.ok I.hok
    exact ⟨its, r, ⟨_, n, e, rfl, rfl, rfl⟩, z⟩
  · refine ⟨its.toList, r, ⟨o, n, I.kIn a o hk, hc, hd, by simpa using hs⟩, ?_⟩
    have e := r.length
    simp only [Array.length_toList] at e
    omega
theorem Inv.tuple (I : Inv X pins σ H s) (h : SqT X.K H a xs) : ∃ its : List Value, Vals xs its ∧ IsTup s.heap a its.toArray ∧ xs.length ≤ sizeLine := by
  rcases h with h | ⟨o, its, n, hk, hc, hs, hz, r⟩
  · obtain ⟨z, its, r, p⟩ := h.ok I.hok
    exact ⟨its, r, p, z⟩
  · refine ⟨its.toList, r, ⟨o, I.kIn a o hk, hc, n, by simpa using hs⟩, ?_⟩
    have e := r.length
    simp only [Array.length_toList] at e
    omega
theorem Inv.list_inj (I : Inv X pins σ H s) (h : SqL X.K H a xs) (h' : SqL X.K H a ys) : xs = ys := by
  obtain ⟨its, r, ⟨o, n, e, _, _, d⟩, _⟩ := I.list h
  obtain ⟨its', r', ⟨o', n', e', _, _, d'⟩, _⟩ := I.list h'
  rw [e] at e'; cases e'
  rw [d] at d'
  injection d' with d1 _
  have : its = its' := by simpa using congrArg Array.toList d1
  subst this
  exact r.inj r'
theorem Inv.tuple_inj (I : Inv X pins σ H s) (h : SqT X.K H a xs) (h' : SqT X.K H a ys) : xs = ys := by
  obtain ⟨its, r, ⟨o, e, _, n, d⟩, _⟩ := I.tuple h
  obtain ⟨its', r', ⟨o', e', _, n', d'⟩, _⟩ := I.tuple h'
  rw [e] at e'; cases e'
  rw [d] at d'
  injection d' with d1 _
  have : its = its' := by simpa using congrArg Array.toList d1
  subst this
  exact r.inj r'
end

/-! ### another wish about exceptions -/
abbrev Cx.wish (X : Cx) (E : Value → Shared → Prop) : Cx := { X with xe := E }
/-- no exception leaves -/
abbrev Cx.nox (X : Cx) : Cx := X.wish fun _ _ => False
theorem Cx.Ok.wish {X : Cx} (ok : X.Ok) (E : Value → Shared → Prop) : (X.wish E).Ok :=
  ⟨ok.mod, ok.kind, ok.glob, ok.blt, ok.above, ok.inj, ok.has, ok.cab, ok.hd, ok.frames, ok.stk, ok.exf, ok.bs, ok.bsz, ok.noex, ok.exfs, ok.funs, ok.frf⟩
theorem Cx.Ok.unwish {X : Cx} {E : Value → Shared → Prop} (ok : (X.wish E).Ok) : X.Ok :=
  ⟨ok.mod, ok.kind, ok.glob, ok.blt, ok.above, ok.inj, ok.has, ok.cab, ok.hd, ok.frames, ok.stk, ok.exf, ok.bs, ok.bsz, ok.noex, ok.exfs, ok.funs, ok.frf⟩
section
variable {X : Cx} {pins : List (Addr × Obj)} {σ : St} {H : Hp} {s : Shared} {E : Value → Shared → Prop}
theorem Inv.wish (I : Inv X pins σ H s) (E : Value → Shared → Prop) : Inv (X.wish E) pins σ H s := ⟨I.ok.wish E, I.os, I.bare, I.base, I.loc, I.cell, I.free, I.freeC, I.pin, I.hok, I.len⟩
theorem Inv.unwish (I : Inv (X.wish E) pins σ H s) : Inv X pins σ H s := ⟨I.ok.unwish, I.os, I.bare, I.base, I.loc, I.cell, I.free, I.freeC, I.pin, I.hok, I.len⟩
theorem SP.unwish {D : Ends} {f : Flow} {s' : Shared} (h : SP (X.wish E) pins D f s') : SP X pins D f s' := by
  cases f with
  | next => obtain ⟨σ', H', I, q⟩ := h; exact ⟨σ', H', I.unwish, q⟩
  | brk => obtain ⟨σ', H', I, q⟩ := h; exact ⟨σ', H', I.unwish, q⟩
  | cont => obtain ⟨σ', H', I, q⟩ := h; exact ⟨σ', H', I.unwish, q⟩
  | ret u => obtain ⟨v, σ', H', I, r, q⟩ := h; exact ⟨v, σ', H', I.unwish, r, q⟩
theorem PSs.nox {st : List Stmt} {t : TS} (h : PSs X.nox st t) : PSs X st t := .mk <| fun pins s σ H D I hw =>
  wpAny_mono (h pins s σ H D (I.wish _) hw) (fun _ _ q => q.unwish) fun _ _ z => False.elim z
end

/-! ### blocks and small statements -/
section
variable {X : Cx} {st : Stmt} {rest : List Stmt} {t u : TS} {e : Expr} {te : TE} {pos : Pos}
def tNext : TS := fun D σ H => D.nx σ H
def tSeq (t u : TS) : TS := fun D σ H => t { D with nx := u D } σ H
theorem pss_nil : PSs X [] tNext := .mk <| fun _ _ σ H _ I h => wpAny_execs_nil ⟨σ, H, I, h⟩
theorem pss_cons (h1 : PS X st t) (h2 : PSs X rest u) : PSs X (st :: rest) (tSeq t u) := by
  refine .mk ?_
  intro pins s σ H D I h
  refine wpAny_execs_cons (thn (h1 pins s σ H { D with nx := u D } I h) fun f s1 q => ?_)
  cases f with
  | next =>
    obtain ⟨σ', H', I', q⟩ := q
    exact h2 pins s1 σ' H' D I' q
  | ret v => exact q
  | brk => exact q
  | cont => exact q
theorem pss_one (h1 : PS X st t) : PSs X [st] t := by
  refine .mk ?_
  intro pins s σ H D I h
  refine wpAny_execs_cons (thn (h1 pins s σ H D I h) fun f s1 q => ?_)
  cases f with
  | next => exact wpAny_execs_nil q
  | ret v => exact q
  | brk => exact q
  | cont => exact q
def tBreak : TS := fun D σ H => D.bk σ H
def tCont : TS := fun D σ H => D.ct σ H
/-- in a def's body nothing is shown -/
theorem Inv.quiet {pins : List (Addr × Obj)} {σ : St} {H : Hp} {s : Shared} (I : Inv X pins σ H s) : interactive X.env = false := by simp [interactive, I.ok.kind]
/-- an expression whose value is dropped -/
def tDrop (te : TE) : TS := fun D σ H => te σ H fun _ H1 => D.nx σ H1
theorem ps_expr (he : PE X e te) (hs : swapsWith e none pos.line X.env = pure false := by rfl) : PS X (.Expr e pos) (tDrop te) := by
  refine .mk ?_
  intro pins s σ H D I h
  exact wpAny_Expr_any (thn (he pins s σ H _ I h) fun v s1 ⟨x, H1, I1, r1, q1⟩ => ⟨σ, H1, I1, q1⟩) I.quiet hs
def tRet (te : TE) : TS := fun D σ H => te σ H D.rt
theorem ps_ret (he : PE X e te) : PS X (.Return (some e) pos) (tRet te) := by
  refine .mk ?_
  intro pins s σ H D I h
  exact wpAny_Return_some (thn (he pins s σ H _ I h) fun v s1 ⟨x, H1, I1, r1, q1⟩ => ⟨x, σ, H1, I1, r1, q1⟩)
def tRetN : TS := fun D _ H => D.rt .non H
theorem ps_retN : PS X (.Return none pos) tRetN := .mk <| fun _ _ σ H _ I h => wpAny_Return_none ⟨.non, σ, H, I, rfl, h⟩
def tIfS (c : TT) (t u : TS) : TS := fun D σ H => c σ H fun b H1 => if b = true then t D σ H1 else u D σ H1
theorem ps_if {c : Expr} {a b : List Stmt} {tc : TT} (hc : PT X c tc) (ha : PSs X a t) (hb : PSs X b u) : PS X (.If c a b pos) (tIfS tc t u) := by
  refine .mk ?_
  intro pins s σ H D I h
  refine wpAny_If (thn (hc pins s σ H _ I h) fun d s1 hZ9 => ?_)
  obtain ⟨H1, I1, q1⟩ := hZ9
  cases d with
  | true => exact ha pins s1 σ H1 D I1 q1
  | false => exact hb pins s1 σ H1 D I1 q1
/-- code that the proof never comes to -/
def tNever : TS := fun _ _ _ => False
theorem ps_never : PS X st tNever := .mk <| fun _ _ _ _ _ _ h => h.elim
end

/-! ### targets -/
abbrev TG := V → St → Hp → (St → Hp → Prop) → Prop
abbrev TGs := List V → St → Hp → (St → Hp → Prop) → Prop
def PG (X : Cx) (target : Expr) (t : TG) : Prop :=
  ∀ (pins : List (Addr × Obj)) (s : Shared) (σ : St) (H : Hp) (v : V) (u : Value) (Q : St → Hp → Prop), Inv X pins σ H s → RelV v u → t v σ H Q →
    wpAny (model X.prog X.w) X.A (assign target X.env u) (fun _ s' => ∃ σ' H', Inv X pins σ' H' s' ∧ Q σ' H') X.xe s
/-- several targets, one after another -/
def PGs (X : Cx) (ts : List Expr) (t : TGs) : Prop :=
  ∀ (pins : List (Addr × Obj)) (s : Shared) (σ : St) (H : Hp) (vs : List V) (us : List Value) (Q : St → Hp → Prop), Inv X pins σ H s → Vals vs us → t vs σ H Q →
    wpAny (model X.prog X.w) X.A (assignInOrder ((assignEach ts X.env).map (·.2)) us) (fun _ s' => ∃ σ' H', Inv X pins σ' H' s' ∧ Q σ' H') X.xe s
/-- o[i] = v, by values -/
abbrev TSet := V → V → V → Hp → (Hp → Prop) → Prop
def PSet (X : Cx) (t : TSet) : Prop :=
  ∀ (pins : List (Addr × Obj)) (s : Shared) (σ : St) (H : Hp) (o i v : V) (ov iv u : Value) (Q : Hp → Prop), Inv X pins σ H s → RelV o ov → RelV i iv → RelV v u → t o i v H Q →
    wpAny (model X.prog X.w) X.A (setItem ov iv u) (fun _ s' => ∃ H', Inv X pins σ H' s' ∧ Q H') X.xe s
/-- a op= b, by values -/
abbrev TIp := V → V → Hp → VK → Prop
def PIp (X : Cx) (op : Operator) (t : TIp) : Prop :=
  ∀ (pins : List (Addr × Obj)) (s : Shared) (σ : St) (H : Hp) (x y : V) (v u : Value) (Q : VK), Inv X pins σ H s → RelV x v → RelV y u → t x y H Q →
    wpAny (model X.prog X.w) X.A (inplaceOp op v u) (EP X pins σ Q) X.xe s
section
variable {X : Cx} {pos : Pos}
def gName (i : Nat) : TG := fun v σ H Q => Q (σ.set i (some v)) H
theorem pg_name {i : Nat} {x : Str} (hN : X.N.Nodup) (hi : X.N[i]? = some x) (hx : Loc X.env.scope x) (hf : X.fn x = true ∨ X.env.scope.names.lookup x = some .local := by first | exact .inl rfl | exact .inr rfl | assumption) : PG X (.Name x pos) (gName i) := by
  intro pins s σ H v u Q I r h
  exact wpAny_assign_Name (store_ok I hN hi hx r (fun s' I' => ⟨_, H, I', h⟩) hf)
def gNil : TGs := fun vs σ H Q => vs = [] ∧ Q σ H
def gCons (t : TG) (u : TGs) : TGs := fun vs σ H Q => ∃ v r, vs = v :: r ∧ t v σ H fun σ' H' => u r σ' H' Q
theorem pgs_nil : PGs X [] gNil := by
  intro pins s σ H vs us Q I r h
  obtain ⟨e, h⟩ := h
  subst e
  cases r
  exact assignInOrder_nil ⟨σ, H, I, h⟩
theorem pgs_cons {e : Expr} {es : List Expr} {t : TG} {u : TGs} (h1 : PG X e t) (h2 : PGs X es u)
    (hs : (assignEach (e :: es) X.env).map (·.2) = assign e X.env :: (assignEach es X.env).map (·.2) := by rfl) : PGs X (e :: es) (gCons t u) := by
  intro pins s σ H vs us Q I r h
  obtain ⟨v, vr, e1, h⟩ := h
  subst e1
  cases r with
  | cons r rr =>
    rw [hs]
    refine assignInOrder_cons (thn (h1 pins s σ H _ _ _ I r h) fun _ s1 hZ9 => ?_)
    obtain ⟨σ1, H1, I1, q1⟩ := hZ9
    exact h2 pins s1 σ1 H1 _ _ Q I1 rr q1
/-- (a, b, ..) = a tuple of that length -/
def gTup (K : PySem.W.Frag) (n : Nat) (t : TGs) : TG := fun v σ H Q => ∃ a xs, v = .ref a ∧ SqT K H a xs ∧ xs.length = n ∧ t xs σ H Q
theorem pg_tup {es : List Expr} {k : Nat} {t : TGs} {n : Nat} (hc : X.calm = true) (h : PGs X es t)
    (hn : (assignEach es X.env).length = n := by rfl) (hst : (assignEach es X.env).findIdx? (·.1) = none := by rfl) : PG X (.Tuple es k pos) (gTup X.K n t) := by
  intro pins s σ H v u Q I r hw
  obtain ⟨a, xs, e1, hq, hl, hw⟩ := hw
  subst e1
  cases r
  obtain ⟨its, rv, ht, hz⟩ := I.tuple hq
  refine assign_Tuple_tuple (I.ok.hd hc) ht (by simp [hn, ← hl, rv.length]) hst fun h' hx => ?_
  have I1 : Inv X pins σ H { s with heap := h' } := I.kept (t' := s.toks) fun b o e => hx b o (Nat.ne_of_lt (Heap.lt_size e)) e
  exact h pins _ σ H xs _ Q I1 (by simpa using rv) hw
/-- o[i] = .. -/
def gSub (to ti : TE) (t : TSet) : TG := fun v σ H Q => to σ H fun o H1 => ti σ H1 fun i H2 => t o i v H2 fun H3 => Q σ H3
theorem pg_sub {o i : Expr} {to ti : TE} {t : TSet} (ho : PE X o to) (hi : PE X i ti) (hs : PSet X t)
    (ha : ∀ v, assign (.Subscript o i pos) X.env v = (do
      let ov ← holding [v] (eval o X.env)
      let iv ← holding [v, ov] (eval i X.env)
      standAt pos
      holding [v, ov, iv] (setItem ov iv v)
      release [v, ov, iv] []) := by intro _; rfl) : PG X (.Subscript o i pos) (gSub to ti t) := by
  intro pins s σ H v u Q I r h
  rw [ha]
  refine wpAny_bind (wpAny_holding (thn (ho pins s σ H _ I h) fun ov s1 hZ9 => ?_))
  obtain ⟨x, H1, I1, r1, q1⟩ := hZ9
  refine wpAny_bind (wpAny_holding (thn (hi pins s1 σ H1 _ I1 q1) fun iv s2 hZ9 => ?_))
  obtain ⟨y, H2, I2, r2, q2⟩ := hZ9
  refine wpAny_bind (wpAny_standAt (wpAny_bind (wpAny_holding (thn (hs pins s2 σ H2 x y v ov iv u _ I2 r1 r2 r q2) fun _ s3 hZ9 => ?_))))
  obtain ⟨H3, I3, q3⟩ := hZ9
  exact wpAny_release ⟨σ, H3, I3, q3⟩
/-- target = value -/
def tAsg (te : TE) (g : TG) : TS := fun D σ H => te σ H fun x H1 => g x σ H1 D.nx
theorem ps_asg {tg e : Expr} {te : TE} {g : TG} (he : PE X e te) (hg : PG X tg g) (hs : swapsWithSole [tg] e pos.line X.env = pure false := by rfl) (hw : swappedStores [tg] e X.env = pure none := by rfl)
    (h1 : (assignEach [tg] X.env).map (·.2) = [assign tg X.env] := by rfl) : PS X (.Assign [tg] e pos) (tAsg te g) := by
  refine .mk ?_
  intro pins s σ H D I h
  refine wpAny_Assign_stores (thn (he pins s σ H _ I h) fun v s1 ⟨x, H1, I1, r1, q1⟩ => ?_) hs hw
  rw [h1]
  exact thn (hg pins s1 σ H1 x v _ I1 r1 q1) fun _ s2 q => q
/-- name = value -/
theorem ps_set {i : Nat} {x : Str} {e : Expr} {te : TE} {pos' : Pos} (hN : X.N.Nodup) (hi : X.N[i]? = some x) (hx : Loc X.env.scope x) (he : PE X e te) (hs : swapsWith e (some (.Name x pos')) pos.line X.env = pure false := by rfl) (hf : X.fn x = true ∨ X.env.scope.names.lookup x = some .local := by first | exact .inl rfl | exact .inr rfl | assumption) :
    PS X (.Assign [.Name x pos'] e pos) (tAsg te (gName i)) := by
  refine .mk ?_
  intro pins s σ H D I h
  refine wpAny_Assign_Name (thn (he pins s σ H _ I h) fun v s1 ⟨y, H1, I1, r1, q1⟩ => ?_) hs
  exact store_ok I1 hN hi hx r1 (fun s2 I2 => ⟨_, H1, I2, q1⟩) hf
/-- a, b = x, y with plain local names: stored from the right; the pair itself is not tracked (the opening rows as in PyProof/Rows/TupAssign.lean:23) -/
def tPar (i j : Nat) (ta : TA) : TS := fun D σ H => ta σ H fun vs H1 => ∃ v w, vs = [v, w] ∧ D.nx ((σ.set i (some v)).set j (some w)) H1
/-- name op= e -/
def tAug (i : Nat) (te : TE) (ti : TIp) : TS := fun D σ H => ∃ x, σ[i]? = some (some x) ∧ te σ H fun y H1 => ti x y H1 fun z H2 => D.nx (σ.set i (some z)) H2
/-- o[i] op= e -/
def tAugS (to ti te : TE) (tget : V → V → Hp → VK → Prop) (tip : TIp) (tset : TSet) : TS := fun D σ H => to σ H fun o H1 => ti σ H1 fun i H2 => tget o i H2 fun x H3 => te σ H3 fun y H4 => tip x y H4 fun z H5 => tset o i z H5 fun H6 => D.nx σ H6
/-- o[i], by values -/
def PGet (X : Cx) (t : V → V → Hp → VK → Prop) : Prop :=
  ∀ (pins : List (Addr × Obj)) (s : Shared) (σ : St) (H : Hp) (o i : V) (ov iv : Value) (Q : VK), Inv X pins σ H s → RelV o ov → RelV i iv → t o i H Q →
    wpAny (model X.prog X.w) X.A (getItem ov iv) (EP X pins σ Q) X.xe s
/-- ints -/
def ipI (f : Int → Int → Int) : TIp := fun x y H Q => ∃ i j, x = .int i ∧ y = .int j ∧ Q (.int (f i j)) H
end

/-! ### while -/
section
variable {X : Cx} {pos : Pos}
/-- the invariant W with its measure -/
def tWhile (c : TT) (tb : TS) : TS := fun D σ H => ∃ W : Nat → St → Hp → Prop, (∃ m, W m σ H) ∧ ∀ m σ H, W m σ H →
  c σ H fun b H1 => if b = true then ∃ N : St → Hp → Prop, (∀ σ' H', N σ' H' → ∃ m', m' < m ∧ W m' σ' H') ∧ tb { D with nx := N, ct := N, bk := D.nx } σ H1 else D.nx σ H1
end

/-! ### what a loop or a comprehension walks -/
/-- at turn i: it yields x (the heap may grow), or it stops -/
structure It where
  go : Nat → Hp → Prop
  yld : Nat → Hp → V → Hp → Prop
  stop : Nat → Hp → Prop
/-- the iterator's own objects may turn: they are not the frame's, not pinned, younger than the entry (or a comprehension's own) -/
def FpOk (X : Cx) (pins : List (Addr × Obj)) (H : Hp) (b : Addr) : Prop :=
  H b = none ∧ b ≠ X.env.locals ∧ b ∉ X.fs ∧ (b ∈ X.ex ∨ X.s₀.heap.objs.size ≤ b) ∧ (∀ x c, X.env.cells.lookup x = some c → c ≠ b) ∧ ∀ p ∈ X.pn ++ pins, p.1 ≠ b
theorem Inv.fpOk {X : Cx} {pins : List (Addr × Obj)} {σ : St} {H H' : Hp} {s : Shared} {b : Addr} (I : Inv X pins σ H s) (hb : s.heap.objs.size ≤ b) (hn : H' b = none) : FpOk X pins H' b := by
  refine ⟨hn, Nat.ne_of_gt (Nat.lt_of_lt_of_le I.lt hb), I.nofs hb, .inr (Nat.le_trans I.sz hb), fun x c e z => ?_, fun p hp z => ?_⟩
  · obtain ⟨v, q⟩ := I.cell x c e
    exact absurd (Nat.lt_of_lt_of_le q.lt (by rw [z]; exact hb)) (Nat.lt_irrefl _)
  · exact absurd (Nat.lt_of_lt_of_le (Heap.lt_size (I.pin p hp).1) (by rw [z]; exact hb)) (Nat.lt_irrefl _)
structure Turn (P : Program) (w : World) (K : PySem.W.Frag) (tg : Expr) (J : It) (fp : List Addr) (it : Addr) (tn : Nat → Heap → Prop) : Prop where
  mem : it ∈ fp
  obj : ∀ i h, tn i h → ∀ b ∈ fp, ∃ o, h.get? b = some o ∧ ∀ v, o.data ≠ .cell v
  keep : ∀ i h h', tn i h → (∀ b ∈ fp, ∀ o, h.get? b = some o → h'.get? b = some o) → tn i h'
  item : ∀ (X : Cx), X.prog = P → X.w = w → X.K = K → X.calm = true → ∀ (i : Nat) (pins : List (Addr × Obj)) (s : Shared) (σ : St) (H : Hp) (E : Value → Shared → Prop), Inv X pins σ H s → (∀ b ∈ fp, FpOk X pins H b) → tn i s.heap → J.go i H →
    wpAny (model P w) X.A (pyNext (.ref it)) (fun r s1 => ∃ u, r = some u ∧
      wpAny (model P w) X.A (letOwnedTupleGo tg (.ref it) u) (fun _ s2 => ∃ x H', Inv X pins σ H' s2 ∧ RelV x u ∧ J.yld i H x H' ∧ tn (i + 1) s2.heap ∧ ∀ b ∈ fp, H' b = none) E s1) E s
  done : ∀ (X : Cx), X.prog = P → X.w = w → X.K = K → X.calm = true → ∀ (i : Nat) (pins : List (Addr × Obj)) (s : Shared) (σ : St) (H : Hp) (E : Value → Shared → Prop), Inv X pins σ H s → (∀ b ∈ fp, FpOk X pins H b) → tn i s.heap → J.stop i H →
    wpAny (model P w) X.A (pyNext (.ref it)) (fun r s1 => r = none ∧ Inv X pins σ H s1) E s
  self : ∀ (A : Around) (i : Nat) (s : Shared) (Q : Value → Shared → Prop) (E : Value → Shared → Prop), tn i s.heap → Q (.ref it) s → wpAny (model P w) A (pyIter (.ref it)) Q E s
abbrev TI := St → Hp → (It → Hp → Prop) → Prop
/-- an iterator has come -/
def PIE (X : Cx) (pins : List (Addr × Obj)) (σ : St) (tg : Expr) (R : It → Hp → Prop) (itv : Value) (s2 : Shared) : Prop :=
  ∃ (it : Addr) (fp : List Addr) (tn : Nat → Heap → Prop) (J : It) (H' : Hp), itv = .ref it ∧ Inv X pins σ H' s2 ∧ Turn X.prog X.w X.K tg J fp it tn ∧ tn 0 s2.heap ∧ (∀ b ∈ fp, FpOk X pins H' b) ∧ R J H'
structure PI (X : Cx) (tg iter : Expr) (wi : TI) : Prop where
  run : ∀ (pins : List (Addr × Obj)) (s : Shared) (σ : St) (H : Hp) (R : It → Hp → Prop), Inv X pins σ H s → wi σ H R →
    wpAny (model X.prog X.w) X.A (eval iter X.env) (fun v s1 => wpAny (model X.prog X.w) X.A (pyIter v) (PIE X pins σ tg R) X.xe s1) X.xe s
instance {X : Cx} {tg iter : Expr} {wi : TI} : CoeFun (PI X tg iter wi) (fun _ => ∀ (pins : List (Addr × Obj)) (s : Shared) (σ : St) (H : Hp) (R : It → Hp → Prop), Inv X pins σ H s → wi σ H R →
    wpAny (model X.prog X.w) X.A (eval iter X.env) (fun v s1 => wpAny (model X.prog X.w) X.A (pyIter v) (PIE X pins σ tg R) X.xe s1) X.xe s) := ⟨PI.run⟩

/-- the step ahead of the store is nothing for an iterator that keeps no tuple -/
theorem go_of {M : Model} {A : Around} {E : Value → Shared → Prop} {s : Shared} {tg : Expr} {it : Addr} {u : Value} {o : Obj} {n : String} {vs : Array Value} {Q : Unit → Shared → Prop} (ho : s.heap.get? it = some o) (hc : o.cls = .type n) (hd : o.data = .fields vs)
    (hn : ["enumerate", "zip", "dict_itemiterator", "dict_reverseitemiterator", "odict_iterator", "itertools.zip_longest", "itertools.pairwise"].contains n = false) (hQ : Q () s) : wpAny M A (letOwnedTupleGo tg (.ref it) u) Q E s := by
  unfold letOwnedTupleGo
  cases tg <;> first
    | exact wpAny_pure hQ
    | (cases u <;> first
        | exact wpAny_pure hQ
        | (refine wpAny_bind (wpAny_load ho ?_)
           rw [hc, hd]
           show wpAny M A (if (["enumerate", "zip", "dict_itemiterator", "dict_reverseitemiterator", "odict_iterator", "itertools.zip_longest", "itertools.pairwise"].contains n && vs[0]? == some (rawInt _)) = true then _ else _) Q E s
           rw [if_neg (by intro h; rw [hn, Bool.false_and] at h; cases h)]
           exact wpAny_pure hQ))

/-- the list at a, as it stands at each turn (a loop may append to it) -/
def Itl (K : PySem.W.Frag) (a : Addr) : It :=
  ⟨fun i H => ∃ xs x, SqL K H a xs ∧ xs[i]? = some x, fun i H x H' => H' = H ∧ ∀ xs, SqL K H a xs → xs[i]? = some x, fun i H => ∃ xs, SqL K H a xs ∧ xs.length ≤ i⟩
def Itt (K : PySem.W.Frag) (a : Addr) : It :=
  ⟨fun i H => ∃ xs x, SqT K H a xs ∧ xs[i]? = some x, fun i H x H' => H' = H ∧ ∀ xs, SqT K H a xs → xs[i]? = some x, fun i H => ∃ xs, SqT K H a xs ∧ xs.length ≤ i⟩
/-- lo, lo + 1, .. (n of them) -/
def Itr (lo : Int) (n : Nat) : It := ⟨fun i _ => i < n, fun i H x H' => H' = H ∧ x = .int (lo + i), fun i _ => n ≤ i⟩
theorem turn_list {P : Program} {w : World} {K : PySem.W.Frag} {tg : Expr} (a it : Addr) : Turn P w K tg (Itl K a) [it] it (fun i h => h.IsListIter it a i) where
  mem := by simp
  obj := fun i h st b hb => by
    have e : b = it := by simpa using hb
    subst e
    obtain ⟨o, e, c, d⟩ := st
    exact ⟨o, e, fun v z => by rw [d] at z; cases z⟩
  keep := fun i h h' st k => st.at fun o e => k it (by simp) o e
  item := by
    intro X hP hw hK hc i pins s σ H E I hf st hg
    subst hP hw hK
    obtain ⟨xs, x, hq, hx⟩ := hg
    obtain ⟨its, rv, p, hz⟩ := I.list hq
    obtain ⟨u, hu, ru⟩ := rv.get hx
    obtain ⟨f0, f1, f2, f3, f4, f5⟩ := hf it (by simp)
    refine wpAny_pyNext_list_item st p.isList (x := u) (by simpa using hu) fun h' st' sb => ?_
    have I1 : Inv X pins σ H { s with heap := h' } := I.turned (t' := s.toks) (fun b o hb e => (sb.2 b hb).trans e) f0 f1 f3 f4 f5
    obtain ⟨o, e, c, d⟩ := id st'
    exact ⟨u, rfl, go_of (s := { s with heap := h' }) e c d (by decide) ⟨x, H, I1, ru, ⟨rfl, fun ys hy => by rw [I.list_inj hy hq]; exact hx⟩, st', fun b hb => (hf b hb).1⟩⟩
  done := by
    intro X hP hw hK hc i pins s σ H E I hf st hg
    subst hP hw hK
    obtain ⟨xs, hq, hx⟩ := hg
    obtain ⟨its, rv, p, hz⟩ := I.list hq
    obtain ⟨f0, f1, f2, f3, f4, f5⟩ := hf it (by simp)
    have hl := rv.length
    exact wpAny_pyNext_list_end (I.ok.hd hc) st p.isList (by simp; omega) fun h' eb => ⟨rfl, I.turned (t' := s.toks) (fun b o hb e => eb b o hb e) f0 f1 f3 f4 f5⟩
  self := fun _ _ _ _ _ st h => wpAny_pyIter_listiter st h
theorem turn_range {P : Program} {w : World} {K : PySem.W.Frag} {tg : Expr} (it : Addr) (lo : Int) (n : Nat) : Turn P w K tg (Itr lo n) [it] it (fun i h => IsRangeIter h it (lo + (i : Nat) * 1) ((n : Int) - (i : Nat)) 1) where
  mem := by simp
  obj := fun i h st b hb => by
    have e : b = it := by simpa using hb
    subst e
    exact ⟨_, st, fun v z => by
      have z' : Data.fields _ = Data.cell v := z
      cases z'⟩
  keep := fun i h h' st k => k it (by simp) _ st
  item := by
    intro X hP hw hK hc i pins s σ H E I hf st hg
    subst hP hw hK
    obtain ⟨f0, f1, f2, f3, f4, f5⟩ := hf it (by simp)
    have W := Walks.range (prog := X.prog) (w := X.w) (I.ok.hd hc) it lo 1 n
    refine W.item i s _ _ hg st fun v h' tk hv st' kk => ?_
    obtain ⟨t, rfl⟩ := hv
    have I1 : Inv X pins σ H { s with heap := h', toks := tk } := I.turned (fun b o hb e => kk b o (by simpa using hb) e) f0 f1 f3 f4 f5
    refine ⟨_, rfl, go_of (s := { s with heap := h', toks := tk }) (n := "range_iterator") st' rfl rfl (by decide) ⟨.int (lo + i), H, I1, ⟨t, ?_⟩, ⟨rfl, rfl⟩, st', fun b hb => (hf b hb).1⟩⟩
    rw [Int.mul_one]
  done := by
    intro X hP hw hK hc i pins s σ H E I hf st hg
    subst hP hw hK
    obtain ⟨f0, f1, f2, f3, f4, f5⟩ := hf it (by simp)
    exact wpAny_pyNext_range_end (I.ok.hd hc) st (by have : n ≤ i := hg; omega) fun h' eb => ⟨rfl, I.turned (t' := s.toks) (fun b o hb e => eb b o hb e) f0 f1 f3 f4 f5⟩
  self := fun _ _ _ _ _ st h => wpAny_pyIter_rangeiter st h
end L2

namespace L2
open PySem PySem.Spec PyProof.Rows
section
variable {X : Cx} {tg : Expr}
def iList (K : PySem.W.Frag) (tl : TE) : TI := fun σ H R => tl σ H fun x H1 => ∃ a, x = .ref a ∧ (∃ xs, SqL K H1 a xs) ∧ R (Itl K a) H1
def iTup (K : PySem.W.Frag) (tl : TE) : TI := fun σ H R => tl σ H fun x H1 => ∃ a, x = .ref a ∧ (∃ xs, SqT K H1 a xs) ∧ R (Itt K a) H1
theorem pi_list {l : Expr} {tl : TE} (hl : PE X l tl) : PI X tg l (iList X.K tl) := by
  refine .mk ?_
  intro pins s σ H R I h
  refine thn (hl pins s σ H _ I h) fun v s1 hZ9 => ?_
  obtain ⟨x, H1, I1, r1, q1⟩ := hZ9
  obtain ⟨a, e, ⟨xs, hq⟩, q⟩ := q1
  subst e
  cases r1
  obtain ⟨its, rv, p, hz⟩ := I1.list hq
  refine wpAny_pyIter_list p.isList ?_
  refine ⟨s1.heap.objs.size, [s1.heap.objs.size], _, _, H1, rfl, I1.kept (t' := s1.toks) fun b o e => Heap.get?_push_of_some _ e, turn_list a _, ⟨_, Heap.get?_push_size _ rfl, rfl, rfl⟩, fun b hb => ?_, q⟩
  have e : b = s1.heap.objs.size := by simpa using hb
  subst e
  exact I1.fpOk (Nat.le_refl _) (I1.hok.fresh (Nat.le_refl _))
/-- a range object just made, walked -/
theorem range_it {pins : List (Addr × Obj)} {σ : St} {H : Hp} {s : Shared} {R : It → Hp → Prop} {E : Value → Shared → Prop} {lo hi : Int} {t u v : Tok} {tk : Nat} (I : Inv X pins σ H s) (h1 : -(2 ^ 62) ≤ lo) (h2 : lo < 2 ^ 62) (h3 : -(2 ^ 62) ≤ hi) (h4 : hi < 2 ^ 62)
    (q : R (Itr lo (hi - lo).toNat) H) : wpAny (model X.prog X.w) X.A (pyIter (.ref s.heap.objs.size)) (PIE X pins σ tg R) E { s with heap := s.heap.push { cls := .type "range", data := .fields #[.int lo t, .int hi u, .int 1 v] }, toks := tk } := by
  refine wpAny_pyIter_range (IsRange.new ..) (small_one h1 h2 h3 h4) ?_
  have I1 : Inv X pins σ H { s with heap := s.heap.push { cls := .type "range", data := .fields #[.int lo t, .int hi u, .int 1 v] }, toks := tk } := I.kept fun b o e => Heap.get?_push_of_some _ e
  refine ⟨(s.heap.push { cls := .type "range", data := .fields #[.int lo t, .int hi u, .int 1 v] }).objs.size, [(s.heap.push { cls := .type "range", data := .fields #[.int lo t, .int hi u, .int 1 v] }).objs.size], _, _, H, rfl,
    I1.kept (t' := tk) fun b o e => Heap.get?_push_of_some _ e, turn_range _ lo (hi - lo).toNat, ?_, fun b hb => ?_, q⟩
  · have e1 : lo + ((0 : Nat) : Int) * 1 = lo := by simp
    have e2 : (((hi - lo).toNat : Nat) : Int) - ((0 : Nat) : Int) = Builtin.Range.rangeSize lo hi 1 := by rw [rangeSize_one]; split <;> omega
    show IsRangeIter _ _ (lo + ((0 : Nat) : Int) * 1) ((((hi - lo).toNat : Nat) : Int) - ((0 : Nat) : Int)) 1
    rw [e1, e2]
    exact Heap.get?_push_size _ rfl
  · have e : b = (s.heap.push { cls := .type "range", data := .fields #[.int lo t, .int hi u, .int 1 v] }).objs.size := by simpa using hb
    subst e
    exact I1.fpOk (Nat.le_refl _) (I1.hok.fresh (Nat.le_refl _))
def iRng1 (ta : TA) : TI := fun σ H R => ta σ H fun vs H1 => ∃ j : Int, vs = [.int j] ∧ -(2 ^ 62) ≤ j ∧ j < 2 ^ 62 ∧ R (Itr 0 j.toNat) H1
def iRng2 (ta : TA) : TI := fun σ H R => ta σ H fun vs H1 => ∃ i j : Int, vs = [.int i, .int j] ∧ (-(2 ^ 62) ≤ i ∧ i < 2 ^ 62 ∧ -(2 ^ 62) ≤ j ∧ j < 2 ^ 62) ∧ R (Itr i (j - i).toNat) H1
theorem pi_range1 {a : Expr} {ta : TA} {p pos : Pos} (hg : Gl X "range") (hm : X.mg "range" = none) (ha : PA X [a] ta) (hs : starEach [a] X.env = [(false, eval a X.env)] := by rfl) : PI X tg (.Call (.Name "range" p) [a] [] pos) (iRng1 ta) := by
  refine .mk ?_
  intro pins s σ H R I h
  refine Call_ (ld_blt I hg hm boot_range (PyProof.Rows.callWith_type1 (thn (ha pos pins s σ H _ I h) fun us s1 ⟨vs, H1, I1, r1, q1⟩ => ?_) hs rfl))
  obtain ⟨j, e, q1, q2, q⟩ := q1
  subst e
  cases r1 with
  | cons r rr =>
    cases rr
    obtain ⟨t, rfl⟩ := r
    exact call_range_1 (range_it I1 (by omega) (by omega) q1 q2 (by simpa using q))
/-! ### for -/
/-- W: the invariant by the turn and a measure; N: what the body is to reach -/
def tFor (wi : TI) (g : TG) (tb : TS) : TS := fun D σ H => wi σ H fun J H1 => ∃ W : Nat → Nat → St → Hp → Prop, (∃ m, W 0 m σ H1) ∧ ∀ i m σ H, W i m σ H →
  (J.stop i H ∧ D.nx σ H) ∨ (J.go i H ∧ ∃ N : St → Hp → Prop, (∀ σ' H', N σ' H' → ∃ m', m' < m ∧ W (i + 1) m' σ' H') ∧ ∀ x H', J.yld i H x H' → g x σ H' fun σ2 H2 => tb { D with nx := N, ct := N, bk := D.nx } σ2 H2)
/-- the records at fp as they stand -/
def pinsAt (fp : List Addr) (h : Heap) : List (Addr × Obj) := fp.filterMap fun b => (h.get? b).map fun o => (b, o)
theorem mem_pinsAt {fp : List Addr} {h : Heap} {b : Addr} {o : Obj} (hb : b ∈ fp) (e : h.get? b = some o) : (b, o) ∈ pinsAt fp h := List.mem_filterMap.mpr ⟨b, hb, by rw [e]; rfl⟩
theorem of_pinsAt {fp : List Addr} {h : Heap} {p : Addr × Obj} (hp : p ∈ pinsAt fp h) : p.1 ∈ fp ∧ h.get? p.1 = some p.2 := by
  obtain ⟨b, hb, e⟩ := List.mem_filterMap.mp hp
  cases q : h.get? b with
  | none => rw [q] at e; cases e
  | some o =>
    rw [q] at e
    have e' : (b, o) = p := Option.some.inj e
    subst e'
    exact ⟨hb, q⟩
theorem Inv.pinned {pins : List (Addr × Obj)} {σ : St} {H : Hp} {s : Shared} {fp : List Addr} (I : Inv X pins σ H s) (hf : ∀ b ∈ fp, FpOk X pins H b) (ho : ∀ b ∈ fp, ∃ o, s.heap.get? b = some o ∧ ∀ v, o.data ≠ .cell v) : Inv X (pins ++ pinsAt fp s.heap) σ H s :=
  I.pins_of fun p hp => (List.mem_append.mp hp).elim (fun z => I.pin p (List.mem_append_right _ z)) fun z => by
    obtain ⟨hb, e⟩ := of_pinsAt z
    obtain ⟨f0, f1, f2, _⟩ := hf p.1 hb
    obtain ⟨o, e', d⟩ := ho p.1 hb
    rw [e] at e'; cases e'
    exact ⟨e, f0, f1, f2, d⟩
theorem Inv.unpinned {pins pl : List (Addr × Obj)} {σ : St} {H : Hp} {s : Shared} (I : Inv X (pins ++ pl) σ H s) : Inv X pins σ H s := I.pins_of fun p hp => I.pin p (List.mem_append_right _ (List.mem_append_left _ hp))
theorem ps_for {iter : Expr} {body : List Stmt} {wi : TI} {g : TG} {tb : TS} {pos : Pos} (hp : PassesOwn (model X.prog X.w) X.A X.env X.xe) (hc : X.calm = true) (hi : PI X tg iter wi) (hg : PG X tg g) (hb : PSs X body tb)
    (hs : ∀ x, foldedSetIterable iter X.env x = pure x := by intro _; rfl) : PS X (.For tg iter body [] pos) (tFor wi g tb) := by
  refine .mk ?_
  intro pins s σ H D I h
  refine wpAny_For (thn (hi pins s σ H _ I h) fun v s1 h1 => thn h1 fun itv s2 h2 => ?_) hs
  obtain ⟨it, fp, tn, J, H2, e, I2, T, st2, f2, W, ⟨m0, w0⟩, turn⟩ := h2
  subst e
  -- what stays true of the iterator's objects through the loop
  have stat : ∀ {H' : Hp}, (∀ b ∈ fp, H' b = none) → ∀ b ∈ fp, FpOk X pins H' b := fun hn b hb => ⟨hn b hb, (f2 b hb).2⟩
  refine codeAny_forLoop_any (fun n s' => ∃ i σ' H', Inv X pins σ' H' s' ∧ tn i s'.heap ∧ (∀ b ∈ fp, H' b = none) ∧ W i n σ' H') ?_ m0 ⟨0, σ, H2, I2, st2, fun b hb => (f2 b hb).1, w0⟩
  rintro n s3 ⟨i, σ3, H3, I3, st3, fr3, w3⟩
  rcases turn i n σ3 H3 w3 with ⟨stop, qn⟩ | ⟨go, N, hN, step⟩
  · refine wpAny_passesOwn hp (thn (T.done X rfl rfl rfl hc i pins s3 σ3 H3 X.xe I3 (stat fr3) st3 stop) fun r s4 hZ9 => ?_)
    obtain ⟨hr, I4⟩ := hZ9
    subst hr
    exact wpAny_execs_nil ⟨σ3, H3, I4, qn⟩
  · refine wpAny_passesOwn hp (thn (T.item X rfl rfl rfl hc i pins s3 σ3 H3 X.xe I3 (stat fr3) st3 go) fun r s4 hZ9 => ?_)
    obtain ⟨u, hr, h4⟩ := hZ9
    subst hr
    refine wpAny_passesOwn hp (thn h4 fun _ s5 hZ9 => ?_)
    obtain ⟨x, H5, I5, r5, y5, st5, fr5⟩ := hZ9
    have I5' := I5.pinned (stat fr5) (T.obj _ _ st5)
    refine wpAny_passesOwn hp (thn (hg _ s5 σ3 H5 x u _ I5' r5 (step x H5 y5)) fun _ s6 hZ9 => ?_)
    obtain ⟨σ6, H6, I6, q6⟩ := hZ9
    refine wpAny_passesOwn hp (thn (hb _ s6 σ6 H6 _ I6 q6) fun f s7 q7 => ?_)
    have again : ∀ {σ7 : St} {H7 : Hp}, Inv X (pins ++ pinsAt fp s5.heap) σ7 H7 s7 → N σ7 H7 → ∃ m, m < n ∧ ∃ i σ' H', Inv X pins σ' H' s7 ∧ tn i s7.heap ∧ (∀ b ∈ fp, H' b = none) ∧ W i m σ' H' := fun {σ7 H7} I7 n7 => by
      obtain ⟨m', hm, w7⟩ := hN σ7 H7 n7
      refine ⟨m', hm, i + 1, σ7, H7, I7.unpinned, T.keep _ _ _ st5 fun b hb o e => (I7.pin (b, o) (List.mem_append_right _ (List.mem_append_right _ (mem_pinsAt hb e)))).1, fun b hb => ?_, w7⟩
      obtain ⟨o, e, d⟩ := T.obj _ _ st5 b hb
      exact (I7.pin (b, o) (List.mem_append_right _ (List.mem_append_right _ (mem_pinsAt hb e)))).2.1
    cases f with
    | next => obtain ⟨σ7, H7, I7, n7⟩ := q7; exact again I7 n7
    | cont => obtain ⟨σ7, H7, I7, n7⟩ := q7; exact again I7 n7
    | brk => obtain ⟨σ7, H7, I7, q7⟩ := q7; exact ⟨σ7, H7, I7.unpinned, q7⟩
    | ret v => obtain ⟨x7, σ7, H7, I7, r7, q7⟩ := q7; exact ⟨x7, σ7, H7, I7.unpinned, r7, q7⟩
end

/-! ### the forms one uses -/
theorem for_range {lo : Int} {n : Nat} {g : TG} {tb : TS} {D : Ends} {σ : St} {H : Hp} (Pv : Nat → St → Hp → Prop) (h0 : Pv 0 σ H)
    (hs : ∀ i σ H, i < n → Pv i σ H → g (.int (lo + i)) σ H fun σ2 H2 => tb { D with nx := Pv (i + 1), ct := Pv (i + 1), bk := D.nx } σ2 H2) (hd : ∀ σ H, Pv n σ H → D.nx σ H) :
    ∃ W : Nat → Nat → St → Hp → Prop, (∃ m, W 0 m σ H) ∧ ∀ i m σ H, W i m σ H →
      ((Itr lo n).stop i H ∧ D.nx σ H) ∨ ((Itr lo n).go i H ∧ ∃ N : St → Hp → Prop, (∀ σ' H', N σ' H' → ∃ m', m' < m ∧ W (i + 1) m' σ' H') ∧ ∀ x H', (Itr lo n).yld i H x H' → g x σ H' fun σ2 H2 => tb { D with nx := N, ct := N, bk := D.nx } σ2 H2) := by
  refine ⟨fun i m σ H => m = n - i ∧ i ≤ n ∧ Pv i σ H, ⟨n, by simp, Nat.zero_le _, h0⟩, ?_⟩
  rintro i m σ H ⟨rfl, hi, p⟩
  by_cases hlt : i < n
  · refine .inr ⟨hlt, Pv (i + 1), fun σ' H' p' => ⟨n - (i + 1), by omega, rfl, hlt, p'⟩, fun x H' y => ?_⟩
    obtain ⟨e, y⟩ := y
    subst e y
    exact hs i σ _ hlt p
  · have e : i = n := by omega
    subst e
    exact .inl ⟨Nat.le_refl _, hd σ H p⟩
end L2

namespace L2
open PySem PySem.Spec PyProof.Rows

abbrev R2 := V → V → Hp → VK → Prop
/-- a two-place operation on values: f is binaryOp op, inplaceOp op or compareOp op -/
def OpR (X : Cx) (f : Value → Value → Sem Value) (r : R2) : Prop :=
  ∀ (pins : List (Addr × Obj)) (s : Shared) (σ : St) (H : Hp) (x y : V) (v u : Value) (Q : VK), Inv X pins σ H s → RelV x v → RelV y u → r x y H Q →
    wpAny (model X.prog X.w) X.A (f v u) (EP X pins σ Q) X.xe s
/-- a one-place operation -/
def UnR (X : Cx) (f : Value → Sem Value) (r : V → Hp → VK → Prop) : Prop :=
  ∀ (pins : List (Addr × Obj)) (s : Shared) (σ : St) (H : Hp) (x : V) (v : Value) (Q : VK), Inv X pins σ H s → RelV x v → r x H Q →
    wpAny (model X.prog X.w) X.A (f v) (EP X pins σ Q) X.xe s
/-- a call of a value that is known (a builtin, a type) with values -/
def CallR (X : Cx) (f : Value) (r : List V → Hp → VK → Prop) : Prop :=
  ∀ (pins : List (Addr × Obj)) (s : Shared) (σ : St) (H : Hp) (xs : List V) (us : List Value) (Q : VK), Inv X pins σ H s → Vals xs us → r xs H Q →
    wpAny (model X.prog X.w) X.A (call f us) (EP X pins σ Q) X.xe s
/-- a value's truth -/
def TruR (X : Cx) (r : V → Hp → (Bool → Hp → Prop) → Prop) : Prop :=
  ∀ (pins : List (Addr × Obj)) (s : Shared) (σ : St) (H : Hp) (x : V) (v : Value) (Q : Bool → Hp → Prop), Inv X pins σ H s → RelV x v → r x H Q →
    wpAny (model X.prog X.w) X.A (truthy v) (TP X pins σ Q) X.xe s

def tOp (r : R2) (ta tb : TE) : TE := fun σ H Q => ta σ H fun x H1 => tb σ H1 fun y H2 => r x y H2 Q
def tUn (r : V → Hp → VK → Prop) (ta : TE) : TE := fun σ H Q => ta σ H fun x H1 => r x H1 Q
/-- ints in, under C, and a value out -/
def rI (C : Int → Int → Prop) (g : Int → Int → V) : R2 := fun x y H Q => ∃ i j, x = .int i ∧ y = .int j ∧ C i j ∧ Q (g i j) H
def rI0 (g : Int → Int → V) : R2 := fun x y H Q => ∃ i j, x = .int i ∧ y = .int j ∧ Q (g i j) H
def rU (g : Int → V) : V → Hp → VK → Prop := fun x H Q => ∃ i, x = .int i ∧ Q (g i) H

section
variable {X : Cx} {a b c : Expr} {ta tb tc : TE} {pos : Pos}

theorem binT (ha : PE X a ta) (hb : PE X b tb) {pins : List (Addr × Obj)} {s : Shared} {σ : St} {H : Hp} {R : V → V → Hp → Prop} (I : Inv X pins σ H s)
    (h : ta σ H fun x H1 => tb σ H1 fun y H2 => R x y H2) {Q : Value → Shared → Prop} {f : Value → Value → Sem Value}
    (hf : ∀ v u s2 x y H2, Inv X pins σ H2 s2 → RelV x v → RelV y u → R x y H2 → wpAny (model X.prog X.w) X.A (f v u) Q X.xe s2) :
    wpAny (model X.prog X.w) X.A (eval a X.env) (fun v s₁ => wpAny (model X.prog X.w) X.A (eval b X.env) (fun u s₂ => wpAny (model X.prog X.w) X.A (f v u) Q X.xe s₂) X.xe s₁) X.xe s := by
  refine thn (ha pins s σ H _ I h) fun v s1 hZ9 => ?_
  obtain ⟨x, H1, I1, r1, q1⟩ := hZ9
  refine thn (hb pins s1 σ H1 _ I1 q1) fun u s2 hZ9 => ?_
  obtain ⟨y, H2, I2, r2, q2⟩ := hZ9
  exact hf v u s2 x y H2 I2 r1 r2 q2

theorem pe_op {op : Operator} {r : R2} (ho : OpR X (binaryOp op) r) (ha : PE X a ta) (hb : PE X b tb) : PE X (.BinOp a op b pos) (tOp r ta tb) := by
  refine .mk ?_
  intro pins s σ H Q I h
  exact wpAny_BinOp (binT ha hb I h fun v u s2 x y H2 I2 rx ry q => ho pins s2 σ H2 x y v u Q I2 rx ry q)
theorem pe_un {op : UnaryOp} {r : V → Hp → VK → Prop} (ho : UnR X (unaryOp op) r) (ha : PE X a ta) : PE X (.UnaryOp op a pos) (tUn r ta) := by
  refine .mk ?_
  intro pins s σ H Q I h
  exact UnaryOp_ (thn (ha pins s σ H _ I h) fun v s1 ⟨x, H1, I1, r1, q1⟩ => ho pins s1 σ H1 x v Q I1 r1 q1)
/-! ### ints -/
theorem opI {f : Value → Value → Sem Value} {C : Int → Int → Prop} {g : Int → Int → Int}
    (rule : ∀ (i j : Int) (t u : Tok) (s : Shared) (Q : Value → Shared → Prop) (E : Value → Shared → Prop), C i j → Q (.int (g i j) s.toks) { s with toks := s.toks + 1 } → wpAny (model X.prog X.w) X.A (f (.int i t) (.int j u)) Q E s) :
    OpR X f (rI C fun i j => .int (g i j)) := by
  intro pins s σ H x y v u Q I rx ry h
  obtain ⟨i, j, rfl, rfl, hc, q⟩ := h
  obtain ⟨t, rfl⟩ := rx
  obtain ⟨t', rfl⟩ := ry
  exact rule i j t t' s _ _ hc ⟨.int (g i j), H, I.tok _, ⟨_, rfl⟩, q⟩
theorem opI0 {f : Value → Value → Sem Value} {g : Int → Int → Int}
    (rule : ∀ (i j : Int) (t u : Tok) (s : Shared) (Q : Value → Shared → Prop) (E : Value → Shared → Prop), Q (.int (g i j) s.toks) { s with toks := s.toks + 1 } → wpAny (model X.prog X.w) X.A (f (.int i t) (.int j u)) Q E s) :
    OpR X f (rI0 fun i j => .int (g i j)) := by
  intro pins s σ H x y v u Q I rx ry h
  obtain ⟨i, j, rfl, rfl, q⟩ := h
  obtain ⟨t, rfl⟩ := rx
  obtain ⟨t', rfl⟩ := ry
  exact rule i j t t' s _ _ ⟨.int (g i j), H, I.tok _, ⟨_, rfl⟩, q⟩
theorem opB0 {f : Value → Value → Sem Value} {g : Int → Int → Bool}
    (rule : ∀ (i j : Int) (t u : Tok) (s : Shared) (Q : Value → Shared → Prop) (E : Value → Shared → Prop), Q (.bool (g i j)) s → wpAny (model X.prog X.w) X.A (f (.int i t) (.int j u)) Q E s) :
    OpR X f (rI0 fun i j => .bl (g i j)) := by
  intro pins s σ H x y v u Q I rx ry h
  obtain ⟨i, j, rfl, rfl, q⟩ := h
  obtain ⟨t, rfl⟩ := rx
  obtain ⟨t', rfl⟩ := ry
  exact rule i j t t' s _ _ ⟨.bl (g i j), H, I, rfl, q⟩

def CDiv (i j : Int) : Prop := 0 < j ∧ j < 1073741824
def CDivN (i j : Int) : Prop := j ≠ 0 ∧ j.natAbs < 1073741824
def CPow (i j : Int) : Prop := 0 ≤ j ∧ j ≤ 1000000 ∧ i.natAbs < 2 ^ 64
def CMul (i j : Int) : Prop := (-(2 ^ 64) < i ∧ i < 2 ^ 64) ∨ (-(2 ^ 64) < j ∧ j < 2 ^ 64)
theorem CMul.ok {i j : Int} (h : CMul i j) : IntMulOk i j := by
  rcases h with ⟨h1, h2⟩ | ⟨h1, h2⟩
  · exact .of_left (intBits_le_64 h1 h2)
  · exact .of_right (intBits_le_64 h1 h2)
theorem op_add : OpR X (binaryOp .Add) (rI0 fun i j => .int (i + j)) := opI0 fun _ _ _ _ _ _ _ q => add_int q
theorem op_sub : OpR X (binaryOp .Sub) (rI0 fun i j => .int (i - j)) := opI0 fun _ _ _ _ _ _ _ q => sub_int q
theorem op_mul : OpR X (binaryOp .Mult) (rI CMul fun i j => .int (i * j)) := opI fun _ _ _ _ _ _ _ hc q => mul_int q hc.ok
/-- % by a positive divisor of any size -/
theorem op_mod : OpR X (binaryOp .Mod) (rI (fun _ j => 0 < j) fun i j => .int (i % j)) := opI fun i j _ _ _ _ _ hc q => by
  have h1 : (0 : Int) < j := hc
  exact mod_int' (by omega) (by rw [Int.fmod_eq_emod_of_nonneg i (by omega)]; exact q)
theorem op_pow : OpR X (binaryOp .Pow) (rI CPow fun i j => .int (i ^ j.toNat)) := opI fun _ _ _ _ _ _ _ hc q => pow_int_small hc.1 hc.2.1 hc.2.2 q
theorem op_shl : OpR X (binaryOp .LShift) (rI CPow fun i j => .int (i * 2 ^ j.toNat)) := opI fun _ _ _ _ _ _ _ hc q => lshift_int_small hc.1 hc.2.1 hc.2.2 q
theorem unI {f : Value → Sem Value} {g : Int → Int}
    (rule : ∀ (i : Int) (t : Tok) (s : Shared) (Q : Value → Shared → Prop) (E : Value → Shared → Prop), Q (.int (g i) s.toks) { s with toks := s.toks + 1 } → wpAny (model X.prog X.w) X.A (f (.int i t)) Q E s) :
    UnR X f (rU fun i => .int (g i)) := by
  intro pins s σ H x v Q I rx h
  obtain ⟨i, rfl, q⟩ := h
  obtain ⟨t, rfl⟩ := rx
  exact rule i t s _ _ ⟨.int (g i), H, I.tok _, ⟨_, rfl⟩, q⟩
theorem un_neg : UnR X (unaryOp .USub) (rU fun i => .int (-i)) := unI fun _ _ _ _ _ q => neg_int q
/-! ### bools among ints: n += (a < b) -/
end

/-! ### comparisons -/
/-- the scalars that == tells apart as data does -/
def scal : V → V → Bool
  | .non, .non => true | .non, .int _ => true | .int _, .non => true | .non, .bl _ => true | .bl _, .non => true | .non, .str _ => true | .str _, .non => true
  | .int _, .int _ => true | .bl _, .bl _ => true | .str _, .str _ => true | .byt _, .byt _ => true
  | .int _, .str _ => true | .str _, .int _ => true | .bl _, .str _ => true | .str _, .bl _ => true
  | _, _ => false
def rEq : R2 := fun x y H Q => scal x y = true ∧ Q (.bl (decide (x = y))) H
def rNe : R2 := fun x y H Q => scal x y = true ∧ Q (.bl (!decide (x = y))) H

theorem dec_int {i j : Int} : decide (V.int i = V.int j) = (i == j) := by
  rw [Bool.eq_iff_iff]
  simp
theorem dec_bl {i j : Bool} : decide (V.bl i = V.bl j) = (i == j) := by
  rw [Bool.eq_iff_iff]
  simp
theorem dec_str {i j : Str} : decide (V.str i = V.str j) = (i == j) := by
  rw [Bool.eq_iff_iff]
  simp
theorem dec_byt {i j : Array UInt8} : decide (V.byt i = V.byt j) = (i.toList == j.toList) := by
  rw [Bool.eq_iff_iff]
  cases i
  cases j
  simp

section
variable {X : Cx} {a b c : Expr} {ta tb tc : TE} {pos : Pos}
theorem fin_bl {pins : List (Addr × Obj)} {σ : St} {H : Hp} {s : Shared} {Q : VK} {k k' : Bool} (I : Inv X pins σ H s) (q : Q (.bl k) H) (e : k = k') : EP X pins σ Q (.bool k') s := by
  subst e
  exact ⟨.bl k, H, I, rfl, q⟩
theorem op_eq : OpR X (compareOp .Eq) rEq := by
  intro pins s σ H x y v u Q I rx ry h
  obtain ⟨hs, q⟩ := h
  cases x with
  | non =>
    cases rx
    cases y with
    | non => cases ry; exact PySem.EqNone.eq_none_none (fin_bl I q (by simp))
    | bl j => cases ry; exact PySem.EqNone.eq_none_bool (fin_bl I q (by simp))
    | int j => obtain ⟨t', rfl⟩ := ry; exact PySem.EqNone.eq_none_int (fin_bl I q (by simp))
    | str j => obtain ⟨t', rfl⟩ := ry; exact PySem.EqNone.eq_none_str (fin_bl I q (by simp))
    | _ => exact absurd (show false = true from hs) Bool.false_ne_true
  | bl i =>
    cases rx
    cases y with
    | non => cases ry; exact PySem.EqNone.eq_bool_none (fin_bl I q (by simp))
    | bl j => cases ry; exact eq_bool (fin_bl I q dec_bl)
    | str j => obtain ⟨t', rfl⟩ := ry; exact PySem.EqMixed.eq_bool_str (fin_bl I q (by simp))
    | _ => exact absurd (show false = true from hs) Bool.false_ne_true
  | int i =>
    obtain ⟨t, rfl⟩ := rx
    cases y with
    | non => cases ry; exact PySem.EqNone.eq_int_none (fin_bl I q (by simp))
    | int j => obtain ⟨t', rfl⟩ := ry; exact eq_int (fin_bl I q dec_int)
    | str j => obtain ⟨t', rfl⟩ := ry; exact PySem.EqMixed.eq_int_str (fin_bl I q (by simp))
    | _ => exact absurd (show false = true from hs) Bool.false_ne_true
  | str i =>
    obtain ⟨t, rfl⟩ := rx
    cases y with
    | non => cases ry; exact PySem.EqNone.eq_str_none (fin_bl I q (by simp))
    | bl j => cases ry; exact PySem.EqMixed.eq_str_bool (fin_bl I q (by simp))
    | int j => obtain ⟨t', rfl⟩ := ry; exact PySem.EqMixed.eq_str_int (fin_bl I q (by simp))
    | str j => obtain ⟨t', rfl⟩ := ry; exact eq_str (fin_bl I q dec_str)
    | _ => exact absurd (show false = true from hs) Bool.false_ne_true
  | byt i =>
    obtain ⟨t, rfl⟩ := rx
    cases y with
    | byt j => obtain ⟨t', rfl⟩ := ry; exact PySem.W.eq_bytes (fin_bl I q dec_byt)
    | _ => exact absurd (show false = true from hs) Bool.false_ne_true
  | _ => cases y <;> exact absurd (show false = true from hs) Bool.false_ne_true
theorem op_ne : OpR X (compareOp .NotEq) rNe := by
  intro pins s σ H x y v u Q I rx ry h
  obtain ⟨hs, q⟩ := h
  cases x with
  | non =>
    cases rx
    cases y with
    | non => cases ry; exact PySem.EqNone.ne_none_none (fin_bl I q (by simp))
    | bl j => cases ry; exact PySem.EqNone.ne_none_bool (fin_bl I q (by simp))
    | int j => obtain ⟨t', rfl⟩ := ry; exact PySem.EqNone.ne_none_int (fin_bl I q (by simp))
    | str j => obtain ⟨t', rfl⟩ := ry; exact PySem.EqNone.ne_none_str (fin_bl I q (by simp))
    | _ => exact absurd (show false = true from hs) Bool.false_ne_true
  | bl i =>
    cases rx
    cases y with
    | non => cases ry; exact PySem.EqNone.ne_bool_none (fin_bl I q (by simp))
    | bl j => cases ry; exact ne_bool (fin_bl I q (congrArg not dec_bl))
    | str j => obtain ⟨t', rfl⟩ := ry; exact PySem.EqMixed.ne_bool_str (fin_bl I q (by simp))
    | _ => exact absurd (show false = true from hs) Bool.false_ne_true
  | int i =>
    obtain ⟨t, rfl⟩ := rx
    cases y with
    | non => cases ry; exact PySem.EqNone.ne_int_none (fin_bl I q (by simp))
    | int j => obtain ⟨t', rfl⟩ := ry; exact ne_int (fin_bl I q (congrArg not dec_int))
    | str j => obtain ⟨t', rfl⟩ := ry; exact PySem.EqMixed.ne_int_str (fin_bl I q (by simp))
    | _ => exact absurd (show false = true from hs) Bool.false_ne_true
  | str i =>
    obtain ⟨t, rfl⟩ := rx
    cases y with
    | non => cases ry; exact PySem.EqNone.ne_str_none (fin_bl I q (by simp))
    | bl j => cases ry; exact PySem.EqMixed.ne_str_bool (fin_bl I q (by simp))
    | int j => obtain ⟨t', rfl⟩ := ry; exact PySem.EqMixed.ne_str_int (fin_bl I q (by simp))
    | str j => obtain ⟨t', rfl⟩ := ry; exact ne_str (fin_bl I q (congrArg not dec_str))
    | _ => exact absurd (show false = true from hs) Bool.false_ne_true
  | byt i =>
    obtain ⟨t, rfl⟩ := rx
    cases y with
    | byt j => obtain ⟨t', rfl⟩ := ry; exact PySem.W.ne_bytes (fin_bl I q (congrArg not dec_byt))
    | _ => exact absurd (show false = true from hs) Bool.false_ne_true
  | _ => cases y <;> exact absurd (show false = true from hs) Bool.false_ne_true

theorem op_lt : OpR X (compareOp .Lt) (rI0 fun i j => .bl (decide (i < j))) := opB0 fun _ _ _ _ _ _ _ q => lt_int q
theorem op_le : OpR X (compareOp .LtE) (rI0 fun i j => .bl (decide (i ≤ j))) := opB0 fun _ _ _ _ _ _ _ q => le_int q
theorem op_gt : OpR X (compareOp .Gt) (rI0 fun i j => .bl (decide (j < i))) := opB0 fun _ _ _ _ _ _ _ q => gt_int q
theorem op_ge : OpR X (compareOp .GtE) (rI0 fun i j => .bl (decide (j ≤ i))) := opB0 fun _ _ _ _ _ _ _ q => ge_int q
/-- is None, is not None: the right side a value none -/
theorem op_isN : OpR X (compareOp .Is) (fun x y H Q => y = .non ∧ Q (.bl (decide (x = .non))) H) := by
  intro pins s σ H x y v u Q I rx ry h
  obtain ⟨rfl, q⟩ := h
  cases ry
  refine is_none_gen (fin_bl I q ?_)
  cases x <;> first
    | (cases rx; rfl)
    | (obtain ⟨t, rfl⟩ := rx; rfl)
theorem op_notN : OpR X (compareOp .IsNot) (fun x y H Q => y = .non ∧ Q (.bl (!decide (x = .non))) H) := by
  intro pins s σ H x y v u Q I rx ry h
  obtain ⟨rfl, q⟩ := h
  cases ry
  refine isnot_none_gen (fin_bl I q ?_)
  cases x <;> first
    | (cases rx; rfl)
    | (obtain ⟨t, rfl⟩ := rx; rfl)

/-- is, is not of two objects that are tracked lists or instances -/
def isObj : HO → Bool
  | .lst _ => true
  | .ins _ _ _ => true
  | _ => false
theorem nomark (b : Expr) {op : CmpOp} (h : op ≠ .In := by decide) (h2 : op ≠ .NotIn := by decide) : behindInMarks op b = false := by
  have e1 : (op == CmpOp.In) = false := by cases op <;> first | rfl | exact absurd rfl h
  have e2 : (op == CmpOp.NotIn) = false := by cases op <;> first | rfl | exact absurd rfl h2
  cases b <;> simp [behindInMarks, e1, e2]
/-- a comparison as a value; hm: nomark b, or (for in, not in) by with_unfolding_all rfl -/
theorem pe_cmpR {op : CmpOp} {r : R2} (ho : OpR X (compareOp op) r) (ha : PE X a ta) (hb : PE X b tb) (hm : behindInMarks op b = false) : PE X (.Compare a [op] [b] pos) (tOp r ta tb) := by
  refine .mk ?_
  intro pins s σ H Q I h
  exact wpAny_Compare1 (binT ha hb I h fun v u s2 x y H2 I2 rx ry q => ho pins s2 σ H2 x y v u Q I2 rx ry q) hm
/-- a reading of a value as a test -/
def tTest (t : TE) : TT := fun σ H Q => t σ H fun x H' => ∃ k, x = .bl k ∧ Q k H'
theorem pt_cmpR {op : CmpOp} {r : R2} (ho : OpR X (compareOp op) r) (ha : PE X a ta) (hb : PE X b tb) (hm : behindInMarks op b = false) : PT X (.Compare a [op] [b] pos) (tTest (tOp r ta tb)) := by
  refine .mk ?_
  intro pins s σ H Q I h
  refine wpAny_isTrue_Compare1 (thn (ha pins s σ H _ I h) fun v s1 ⟨x, H1, I1, r1, q1⟩ => thn (hb pins s1 σ H1 _ I1 q1) fun u s2 ⟨y, H2, I2, r2, q2⟩ =>
    thn (ho pins s2 σ H2 x y v u _ I2 r1 r2 q2) fun c s3 ⟨z, H3, I3, r3, k, e, q3⟩ => ?_) hm
  subst e
  cases r3
  exact wpAny_truthy_bool ⟨H3, I3, q3⟩
/-- a op1 b op2 c -/
def tChain (r r' : R2) (ta tb tc : TE) : TE := fun σ H Q => ta σ H fun x H1 => tb σ H1 fun y H2 => r x y H2 fun z H3 => ∃ k, z = .bl k ∧
  (if k = true then tc σ H3 fun w' H4 => r' y w' H4 Q else Q (.bl false) H3)
/-! ### truth -/
/-- a value's truth by the abstract heap -/
def TruV (K : PySem.W.Frag) (x : V) (H : Hp) (k : Bool) : Prop :=
  match x with
  | .non => k = false
  | .bl b => k = b
  | .int i => k = (i != 0)
  | .str y => y.length ≤ sizeLine ∧ k = ((y.length : Int) != 0)
  | .byt y => y.size ≤ sizeLine ∧ k = ((y.size : Int) != 0)
  | .ref p => (∃ xs, SqL K H p xs ∧ k = !xs.isEmpty) ∨ (∃ xs, SqT K H p xs ∧ k = !xs.isEmpty) ∨ ∃ kvs, H p = some (.dK kvs) ∧ k = !kvs.isEmpty
  | _ => False
theorem line63 : (sizeLine : Nat) < 2 ^ 63 := by rw [sizeLine_eq]; decide
/-! ### strs and bytes -/
def PlainIxT (b : Expr) : Prop := ∀ o i, subscripted b false o i = operate [o, i] (getItem o i)
/-! ### scalar builtins, by CallR -/
theorem vals1 {x : V} {us : List Value} (r : Vals [x] us) : ∃ u, us = [u] ∧ RelV x u := by
  cases r with
  | cons r1 r2 => cases r2; exact ⟨_, rfl, r1⟩
theorem vals2 {x y : V} {us : List Value} (r : Vals [x, y] us) : ∃ u w', us = [u, w'] ∧ RelV x u ∧ RelV y w' := by
  cases r with
  | cons r1 r2 =>
    cases r2 with
    | cons r3 r4 => cases r4; exact ⟨_, _, rfl, r1, r3⟩
theorem call_abs : CallR X (.builtin "abs") (fun xs H Q => ∃ i, xs = [.int i] ∧ Q (.int (if i < 0 then -i else i)) H) := by
  intro pins s σ H xs us Q I r h
  obtain ⟨i, rfl, q⟩ := h
  obtain ⟨u, rfl, t, rfl⟩ := vals1 r
  exact call_abs_int fun u tk => ⟨.int (if i < 0 then -i else i), H, I.tok _, ⟨_, rfl⟩, q⟩
theorem call_max2 (hc : X.calm = true) : CallR X (.builtin "max") (fun xs H Q => ∃ i j, xs = [.int i, .int j] ∧ Q (.int (if j > i then j else i)) H) := by
  intro pins s σ H xs us Q I r h
  obtain ⟨i, j, rfl, q⟩ := h
  obtain ⟨u, w', rfl, ⟨t, rfl⟩, ⟨t', rfl⟩⟩ := vals2 r
  refine max_two_ints (I.ok.hd hc) fun h' tk k => ⟨_, H, I.kept k, ?_, q⟩
  by_cases hj : j > i
  · rw [if_pos hj, if_pos hj]; exact ⟨_, rfl⟩
  · rw [if_neg hj, if_neg hj]; exact ⟨_, rfl⟩
theorem call_min2 (hc : X.calm = true) : CallR X (.builtin "min") (fun xs H Q => ∃ i j, xs = [.int i, .int j] ∧ Q (.int (if j < i then j else i)) H) := by
  intro pins s σ H xs us Q I r h
  obtain ⟨i, j, rfl, q⟩ := h
  obtain ⟨u, w', rfl, ⟨t, rfl⟩, ⟨t', rfl⟩⟩ := vals2 r
  refine min_two_ints (I.ok.hd hc) fun h' tk k => ⟨_, H, I.kept k, ?_, q⟩
  by_cases hj : j < i
  · rw [if_pos hj, if_pos hj]; exact ⟨_, rfl⟩
  · rw [if_neg hj, if_neg hj]; exact ⟨_, rfl⟩
theorem call_int1 : CallR X (.type "int") (fun xs H Q => (∃ i, xs = [.int i] ∧ Q (.int i) H) ∨ ∃ k, xs = [.bl k] ∧ Q (.int (if k then 1 else 0)) H) := by
  intro pins s σ H xs us Q I r h
  rcases h with ⟨i, rfl, q⟩ | ⟨k, rfl, q⟩
  · obtain ⟨u, rfl, t, rfl⟩ := vals1 r
    exact call_int_int ⟨.int i, H, I, ⟨_, rfl⟩, q⟩
  · obtain ⟨u, rfl, r1⟩ := vals1 r
    cases r1
    exact call_int_bool ⟨.int (if k then 1 else 0), H, I.tok _, ⟨_, rfl⟩, q⟩
/-- len of a str, a bytes, a list, a tuple -/
def LenV (K : PySem.W.Frag) (x : V) (H : Hp) (n : Nat) : Prop :=
  match x with
  | .str y => y.length ≤ sizeLine ∧ n = y.length
  | .byt y => y.size ≤ sizeLine ∧ n = y.size
  | .ref p => (∃ xs, SqL K H p xs ∧ n = xs.length) ∨ ∃ xs, SqT K H p xs ∧ n = xs.length
  | _ => False
end
end L2

namespace L2
open PySem PySem.Spec PyProof.Rows

/-! ### an instance, its attributes a map -/
structure ObjM (h : Heap) (x dx C : Addr) (mA : Str → Option Value) : Prop where
  obj : h.get? x = some (PySem.W.instObj C dx)
  ns : h.Ns1 dx mA
  ne : dx ≠ x

theorem lookIn_ns {h : Heap} {dx : Addr} {mA : Str → Option Value} (n : h.Ns1 dx mA) : ∃ od, h.get? dx = some od ∧ ∀ name, PySem.W.lookIn name od = some (mA name) := by
  obtain ⟨o, es, ep, ho, hd, hk, _, hm⟩ := n
  refine ⟨o, ho, fun name => ?_⟩
  have e := hm name
  unfold nsFind findBy at e
  rw [← Array.find?_toList] at e
  unfold PySem.W.lookIn
  rw [hd]
  dsimp only
  split
  · rename_i y q
    rw [q] at e
    exact congrArg some e
  · rename_i q
    rw [q] at e
    have a : es.toList.any (·.refKey) = false := by
      rw [List.any_eq_false]
      intro y hy
      obtain ⟨z, t, hkey⟩ := hk y (Array.mem_toList_iff.mp hy)
      simp [DictEntry.refKey, hkey]
    have a' : ¬ es.toList.any (·.refKey) = true := by rw [a]; exact Bool.false_ne_true
    rw [if_neg a']
    exact congrArg some e

theorem ObjM.look {h : Heap} {x dx C : Addr} {mA : Str → Option Value} (I : ObjM h x dx C mA) : ∃ od, PySem.W.InstAt h x (PySem.W.instObj C dx) C (some od) ∧ ∀ name, PySem.W.lookIn name od = some (mA name) :=
  let ⟨od, ho, hl⟩ := lookIn_ns I.ns
  ⟨od, ⟨I.obj, rfl, rfl, ho⟩, hl⟩

section
variable {prog : Program} {w : World} {A : Around} {E : Value → Shared → Prop} {s : Shared} {K : PySem.W.Frag} {x dx C f : Addr} {mA : Str → Option Value} {name : Str} {v : Value}

theorem get_map {expr : Bool} {Q : Value → Shared → Prop} (X : K.In s.heap) (I : ObjM s.heap x dx C mA) (hg : PySem.W.plainGet K C name = true) (hh : PySem.W.hasDictIn K C = true)
    (ha : PySem.W.findIn K (.ref C) name = some none) (hv : mA name = some v) (hv' : PySem.W.handedIn v = true) (h : Q v { s with toks := s.toks + 1 }) :
    wpAny (model prog w) A (getAttr (.ref x) name expr) Q E s := by
  obtain ⟨od, J, hl⟩ := I.look
  exact PySem.W.get_value X J (PySem.W.plainGet_of hg).1 (PySem.W.findObj_own hh ha rfl (by rw [hl, hv])) hv' h

theorem get_meth {pl : Sem Bool} {Q : Value × List Value → Shared → Prop} (X : K.In s.heap) (I : ObjM s.heap x dx C mA) (hg : PySem.W.plainGet K C name = true)
    (hf : PySem.W.findIn K (.ref C) name = some (some (.ref f))) (ht : PySem.W.isFn K (.ref f) = true) (hv : mA name = none) (h : Q (.ref f, [.ref x]) s) :
    wpAny (model prog w) A (getMethod (.ref x) name pl) Q E s := by
  obtain ⟨od, J, hl⟩ := I.look
  exact PySem.W.method_fn X J (PySem.W.plainGet_of hg).1 (PySem.W.plainGet_of hg).2 hf (beq_iff_eq.mp ht) (by show (PySem.W.lookIn name od).map (·.isSome) = some false; rw [hl, hv]; rfl) h

theorem set_map {ns : List Str} {Q : Unit → Shared → Prop} (X : K.In s.heap) (I : ObjM s.heap x dx C mA)
    (hs : PySem.W.findIn K (.ref C) "__setattr__" = some (some (.builtin "object.__setattr__"))) (hp : PySem.W.plainOver K C = true) (ht : PySem.W.takerIn K C name = some none) (hh : PySem.W.hasDictIn K C = true)
    (hw : PySem.Within mA ns) (hsz : ns.length ≤ sizeLine)
    (h : ∀ h', ObjM h' x dx C (fun y => if y = name then some v else mA y) → Heap.SameBut dx s.heap h' → Q () { s with heap := h', toks := s.toks + 2 }) :
    wpAny (model prog w) A (setAttr (.ref x) name v) Q E s := by
  obtain ⟨od, J, hl⟩ := I.look
  refine PySem.W.set_plain X J hs (PySem.W.osa_open (s := { s with toks := s.toks + 1 }) (r := none) X J hp ht fun b => ?_)
  obtain ⟨cd, hc, hd'⟩ := PySem.W.any_some hh
  have hx : s.heap.get? x = some ⟨.ref C, some dx, .plain, #[]⟩ := I.obj
  refine wpAny_bind (wpAny_pure (wpAny_bind (wpAny_bind (wpAny_loadPart hx (wpAny_bind (PySem.W.Looks.here (s := { s with toks := s.toks + 1 }) (PySem.W.looks_clsIn X hc) ?_))))))
  rw [hd']
  refine wpAny_pure (a := some dx) (wpAny_bind (wpAny_pure (wpAny_bind ?_)))
  refine wpAny_nsSet1 (s := { s with toks := s.toks + 1 }) I.ns fun h' hn2 hs2 => ?_
  obtain ⟨oD, esD, epD, hoD, hdD, hcD⟩ := hn2.count (PySem.Within.cons name v hw)
  refine wpAny_bind (wpAny_lookBehind hoD (by rw [hdD]; exact pastItsLine_dict (Nat.le_trans hcD (by rw [List.length_cons]; omega))) ?_)
  exact wpAny_pure (h _ ⟨(hs2.2 _ (Ne.symm I.ne)).trans I.obj, hn2, I.ne⟩ hs2)

/-- C(..): the dict at the heap's end, the instance behind it; then its __init__ -/
theorem make_map {R : Result → Shared → Prop} {vs : List Value} {kw : List (Str × Value)} (X : K.In s.heap) (hm : PySem.W.makesIn K C = true)
    (hi : PySem.W.findIn K (.ref C) "__init__" = some (some (.ref f))) (hf : PySem.W.typeIn K (.ref f) = some (.type "function"))
    (h : codeAny (model prog w) (A.under (.builtin "type.__call__" ⟨.ref C :: vs, kw⟩)) (.call (.ref f) ⟨.ref (s.heap.objs.size + 1) :: vs, kw⟩) (PySem.W.InitBack (s.heap.objs.size + 1) R)
      { s with heap := (s.heap.push PySem.W.emptyDict).push (PySem.W.instObj C s.heap.objs.size) }) :
    codeAny (model prog w) A (.call (.ref C) ⟨vs, kw⟩) R s := by
  obtain ⟨hh, g, d, t, os⟩ := s
  exact PySem.W.make_core (PySem.W.makes_of X hm) (PySem.W.looks_findIn X hi) (fun self => PySem.W.bind_fn X self hf) (.inl rfl) h
end

/-! ### the attributes as a list of pairs -/
def putF (f : Str) (v : V) : List (Str × V) → List (Str × V)
  | [] => [(f, v)]
  | (g, x) :: r => if g = f then (g, v) :: r else (g, x) :: putF f v r
theorem lookup_putF (f g : Str) (v : V) : ∀ fs : List (Str × V), (putF f v fs).lookup g = if g = f then some v else fs.lookup g
  | [] => by
    show List.lookup g [(f, v)] = _
    by_cases h : g = f
    · have hb : (g == f) = true := beq_iff_eq.mpr h
      simp only [List.lookup, hb, if_pos h]
    · have hb : (g == f) = false := beq_eq_false_iff_ne.mpr h
      simp only [List.lookup, hb, if_neg h]
  | (k, x) :: r => by
    have ih := lookup_putF f g v r
    rw [show putF f v ((k, x) :: r) = (if k = f then (k, v) :: r else (k, x) :: putF f v r) from rfl]
    by_cases hk : k = f
    · rw [if_pos hk]
      by_cases h : g = k
      · have hb : (g == k) = true := beq_iff_eq.mpr h
        simp only [List.lookup, hb, if_pos (h.trans hk)]
      · have hb : (g == k) = false := beq_eq_false_iff_ne.mpr h
        simp only [List.lookup, hb, if_neg (fun e : g = f => h (e.trans hk.symm))]
    · rw [if_neg hk]
      by_cases h : g = k
      · have hb : (g == k) = true := beq_iff_eq.mpr h
        simp only [List.lookup, hb, if_neg (fun e : g = f => hk (h.symm.trans e))]
      · have hb : (g == k) = false := beq_eq_false_iff_ne.mpr h
        simp only [List.lookup, hb]
        exact ih
theorem keys_putF (f : Str) (v : V) : ∀ fs : List (Str × V), f ∈ (putF f v fs).map (·.1) ∧ ∀ g, g ∈ fs.map (·.1) → g ∈ (putF f v fs).map (·.1)
  | [] => ⟨by simp [putF], fun g h => by simp at h⟩
  | (k, x) :: r => by
    obtain ⟨i1, i2⟩ := keys_putF f v r
    rw [show putF f v ((k, x) :: r) = (if k = f then (k, v) :: r else (k, x) :: putF f v r) from rfl]
    by_cases hk : k = f
    · rw [if_pos hk]
      subst hk
      exact ⟨by simp, fun g h => by simpa using h⟩
    · rw [if_neg hk]
      refine ⟨?_, fun g h => ?_⟩
      · rw [List.map_cons]
        exact List.mem_cons_of_mem _ i1
      · rw [List.map_cons] at h ⊢
        rcases List.mem_cons.mp h with e | e
        · exact List.mem_cons.mpr (.inl e)
        · exact List.mem_cons_of_mem _ (i2 g e)
theorem length_putF (f : Str) (v : V) : ∀ fs : List (Str × V), (putF f v fs).length ≤ fs.length + 1
  | [] => by simp [putF]
  | (k, x) :: r => by
    have ih := length_putF f v r
    rw [show putF f v ((k, x) :: r) = (if k = f then (k, v) :: r else (k, x) :: putF f v r) from rfl]
    by_cases hk : k = f
    · rw [if_pos hk, List.length_cons, List.length_cons]; omega
    · rw [if_neg hk, List.length_cons, List.length_cons]; omega

theorem RelO.some_of {v : V} {o : Option Value} (r : RelO (some v) o) : ∃ u, o = some u ∧ RelV v u := by
  cases o with
  | none => exact (show False from r).elim
  | some u => exact ⟨u, rfl, r⟩
theorem RelO.none_of {o : Option Value} (r : RelO none o) : o = none := by
  cases o with
  | none => rfl
  | some u => exact (show False from r).elim
theorem handed_of {v : V} {u : Value} (r : RelV v u) : PySem.W.handedIn u = true := by
  cases v with
  | non => cases (show u = Value.none from r); rfl
  | bl b => cases (show u = Value.bool b from r); rfl
  | int i => obtain ⟨t, e⟩ := (show ∃ t, u = Value.int i t from r); cases e; rfl
  | str x => obtain ⟨t, e⟩ := (show ∃ t, u = Value.str x t from r); cases e; rfl
  | byt b => obtain ⟨t, e⟩ := (show ∃ t, u = Value.bytes b t from r); cases e; rfl
  | flt b => obtain ⟨t, e⟩ := (show ∃ t, u = Value.float b t from r); cases e; rfl
  | ref a => cases (show u = Value.ref a from r); rfl
  | ty n => cases (show u = Value.type n from r); rfl

section
variable {P : Program} {w : World} {H H' : Hp} {h h' : Heap} {a C dx : Addr} {fs fs' : List (Str × V)}
theorem ins_get (hok : HOk P w H h) (e : H a = some (.ins C dx fs)) : ∃ mA, ObjM h a dx C mA ∧ (∀ f, RelO (fs.lookup f) (mA f)) ∧ PySem.Within mA (fs.map (·.1)) ∧ fs.length ≤ 1000 ∧ H dx = some (.own a) := by
  obtain ⟨d, z, ne, ob, mA, n, r, q⟩ := (show ObjOk P w H h a (.ins C dx fs) from hok a _ e)
  exact ⟨mA, ⟨ob, n, ne⟩, r, q, z, d⟩
end

/-! ### what of the text a class must have -/
structure Cls (K : PySem.W.Frag) (C : Addr) : Prop where
  pg : PySem.W.plainGet K C Str.empty = true
  hd : PySem.W.hasDictIn K C = true
  po : PySem.W.plainOver K C = true
  sa : PySem.W.findIn K (.ref C) "__setattr__" = some (some (.builtin "object.__setattr__"))
theorem Cls.get {K : PySem.W.Frag} {C : Addr} (c : Cls K C) (f : Str) : PySem.W.plainGet K C f = true := c.pg
/-- no class of it has the name -/
def NoAttr (K : PySem.W.Frag) (C : Addr) (f : Str) : Prop := PySem.W.findIn K (.ref C) f = some none
theorem NoAttr.taker {K : PySem.W.Frag} {C : Addr} {f : Str} (n : NoAttr K C f) : PySem.W.takerIn K C f = some none := by
  unfold PySem.W.takerIn
  rw [show PySem.W.findIn K (.ref C) f = some none from n]
  rfl
/-- a constant of the class -/
structure Con (K : PySem.W.Frag) (C : Addr) (f : Str) (v : V) (u : Value) : Prop where
  at_ : PySem.W.findIn K (.ref C) f = some (some u)
  rel : RelV v u
  get : PySem.W.specialIn K u "__get__" = some none
  cp : PySem.W.copiedNames.contains f = false
/-- a method: a plain def of the class or of one above it -/
structure Meth (K : PySem.W.Frag) (C : Addr) (m : Str) (f : Addr) : Prop where
  at_ : PySem.W.findIn K (.ref C) m = some (some (.ref f))
  fn : PySem.W.isFn K (.ref f) = true
  kp : PySem.W.keepIn K (.ref f) = true

section
variable {X : Cx} {pins : List (Addr × Obj)} {σ : St} {H : Hp} {s : Shared} {a C dx : Addr} {fs : List (Str × V)} {f : Str} {v : V} {A : Around} {E : Value → Shared → Prop}

theorem getattr_ok {b : Bool} {Q : Value → Shared → Prop} (I : Inv X pins σ H s) (e : H a = some (.ins C dx fs)) (c : Cls X.K C) (n : NoAttr X.K C f) (l : fs.lookup f = some v)
    (h : ∀ u s', Inv X pins σ H s' → RelV v u → Q u s') : wpAny (model X.prog X.w) A (getAttr (.ref a) f b) Q E s := by
  obtain ⟨mA, O, r, _, _, _⟩ := ins_get I.hok e
  obtain ⟨u, hu, ru⟩ := RelO.some_of (v := v) (o := mA f) (by rw [← l]; exact r f)
  exact get_map I.kIn O (c.get f) c.hd n hu (handed_of ru) (h u _ (I.tok _) ru)

theorem getmeth_ok {m : Str} {g : Addr} {pl : Sem Bool} {Q : Value × List Value → Shared → Prop} (I : Inv X pins σ H s) (e : H a = some (.ins C dx fs)) (c : Cls X.K C) (k : Meth X.K C m g) (l : fs.lookup m = none)
    (h : Q (.ref g, [.ref a]) s) : wpAny (model X.prog X.w) A (getMethod (.ref a) m pl) Q E s := by
  obtain ⟨mA, O, r, _, _, _⟩ := ins_get I.hok e
  have hn : mA m = none := RelO.none_of (by rw [← l]; exact r m)
  exact get_meth I.kIn O (c.get m) k.at_ k.fn hn h

theorem setattr_ok {y : V} {u : Value} {Q : Unit → Shared → Prop} (I : Inv X pins σ H s) (e : H a = some (.ins C dx fs)) (c : Cls X.K C) (n : NoAttr X.K C f) (hl : fs.length < 1000) (ry : RelV y u)
    (h : ∀ s', Inv X pins σ (upd H a (.ins C dx (putF f y fs))) s' → Q () s') : wpAny (model X.prog X.w) A (setAttr (.ref a) f u) Q E s := by
  obtain ⟨mA, O, r, wi, _, ho⟩ := ins_get I.hok e
  have hz : (fs.map (·.1)).length ≤ sizeLine := by rw [List.length_map, sizeLine_eq]; omega
  refine set_map I.kIn O c.sa c.po n.taker c.hd wi hz fun h' O' sb => h _ ?_
  have hd : ∃ o, h'.get? dx = some o := let ⟨o, _, _, e', _⟩ := O'.ns; ⟨o, e'⟩
  refine I.write (x := a) (e := dx) (by rw [e]; exact True.intro) (.inr ho) (fun b q hb z => (sb.2 b hb).trans z) hd ?_
  refine ⟨by rw [upd_ne O.ne]; exact ho, ?_, O.ne, O'.obj, _, O'.ns, fun g => ?_, fun g hg => ?_⟩
  · have := length_putF f y fs; omega
  · show RelO ((putF f y fs).lookup g) (if g = f then some u else mA g)
    rw [lookup_putF]
    by_cases q : g = f
    · rw [if_pos q, if_pos q]; exact ry
    · rw [if_neg q, if_neg q]; exact r g
  · by_cases q : g = f
    · rw [q]; exact (keys_putF f y fs).1
    · refine (keys_putF f y fs).2 g (wi g fun z => hg ?_)
      show (if g = f then some u else mA g) = none
      rw [if_neg q]; exact z

/-- a new instance, tracked, without attributes -/
theorem Inv.made (I : Inv X pins σ H s) : Inv X pins σ (upd (upd H s.heap.objs.size (.own (s.heap.objs.size + 1))) (s.heap.objs.size + 1) (.ins C s.heap.objs.size []))
    { s with heap := (s.heap.push PySem.W.emptyDict).push (PySem.W.instObj C s.heap.objs.size) } := by
  have e1 : (s.heap.push PySem.W.emptyDict).get? s.heap.objs.size = some PySem.W.emptyDict := Heap.get?_push_size s.heap rfl
  have e2 : ((s.heap.push PySem.W.emptyDict).push (PySem.W.instObj C s.heap.objs.size)).get? (s.heap.objs.size + 1) = some (PySem.W.instObj C s.heap.objs.size) := by
    have := Heap.get?_push_size (s.heap.push PySem.W.emptyDict) (o := PySem.W.instObj C s.heap.objs.size) rfl
    rwa [Heap.size_push] at this
  have e3 : (s.heap.push PySem.W.emptyDict).Ns s.heap.objs.size (fun _ => none) := ⟨PySem.W.emptyDict, #[], _, e1, rfl, (fun e he => absurd he (by simp)), fun _ => rfl⟩
  have I1 := I.laid (a := s.heap.objs.size) (o := .own (s.heap.objs.size + 1)) (h' := s.heap.push PySem.W.emptyDict) (t' := s.toks) (fun b u q => Heap.get?_push_of_some _ q) (Nat.le_refl _) ⟨_, e1⟩
  refine I1.laid (a := s.heap.objs.size + 1) (o := .ins C s.heap.objs.size []) (t' := s.toks) (fun b u q => Heap.get?_push_of_some _ q) (Nat.le_of_eq (Heap.size_push _ _)) ?_
  have ne : s.heap.objs.size ≠ s.heap.objs.size + 1 := Nat.ne_of_lt (Nat.lt_succ_self _)
  refine ⟨by rw [upd_ne ne, upd_same], Nat.zero_le _, ne, e2, fun _ => none, (Heap.Ns1.of_empty e3).at fun o q => Heap.get?_push_of_some _ q, fun _ => True.intro, fun y hy => absurd rfl hy⟩

/-- e.f where nothing but the object is asked: through attributeBase (super) and the last hold -/
theorem attr_of {prog : Program} {w : World} {env : Env} {e : Expr} {f : Str} {pos : Pos} {s : Shared} {Q : Value → Shared → Prop} (hb : attributeBase e f env (eval e env) = eval e env)
    (h : wpAny (model prog w) A (eval e env) (fun o s₁ => wpAny (model prog w) A (getAttr o f true) Q E s₁) E s) : wpAny (model prog w) A (eval (.Attribute e f pos) env) Q E s :=
  Attribute_any_ h (by rw [arm_eval_Attribute, hb])
end

/-! ### readings and rules -/
/-- e.f, an attribute of the instance -/
def tFld (K : PySem.W.Frag) (ta : TE) (f : Str) : TE := fun σ H Q => ta σ H fun x H1 => ∃ a C dx fs v, x = .ref a ∧ H1 a = some (.ins C dx fs) ∧ Cls K C ∧ NoAttr K C f ∧ fs.lookup f = some v ∧ Q v H1
/-- e.f, a constant of the class -/
def tCon (K : PySem.W.Frag) (ta : TE) (f : Str) : TE := fun σ H Q => ta σ H fun x H1 => ∃ a C dx fs v u, x = .ref a ∧ H1 a = some (.ins C dx fs) ∧ Cls K C ∧ Con K C f v u ∧ fs.lookup f = none ∧ Q v H1
/-- e.f = value -/
def sFld (K : PySem.W.Frag) (ta tv : TE) (f : Str) : TS := fun D σ H => tv σ H fun y H1 => ta σ H1 fun x H2 => ∃ a C dx fs, x = .ref a ∧ H2 a = some (.ins C dx fs) ∧ Cls K C ∧ NoAttr K C f ∧ fs.length < 1000 ∧
  D.nx σ (upd H2 a (.ins C dx (putF f y fs)))
/-- an augmented operator on two values -/
def InOp (X : Cx) (op : Operator) (rd : V → V → Hp → VK → Prop) : Prop :=
  ∀ (pins : List (Addr × Obj)) (s : Shared) (σ : St) (H : Hp) (x y : V) (u v : Value) (Q : VK), Inv X pins σ H s → RelV x u → RelV y v → rd x y H Q → wpAny (model X.prog X.w) X.A (inplaceOp op u v) (EP X pins σ Q) X.xe s
/-- e.f op= value -/
def sFldAug (K : PySem.W.Frag) (ta tv : TE) (rd : V → V → Hp → VK → Prop) (f : Str) : TS := fun D σ H => ta σ H fun x H1 => ∃ a C dx fs v, x = .ref a ∧ H1 a = some (.ins C dx fs) ∧ Cls K C ∧ NoAttr K C f ∧ fs.lookup f = some v ∧
  tv σ H1 fun y H2 => rd v y H2 fun z H3 => ∃ dx' fs', H3 a = some (.ins C dx' fs') ∧ fs'.length < 1000 ∧ D.nx σ (upd H3 a (.ins C dx' (putF f z fs')))

section
variable {X : Cx} {o e value : Expr} {f : Str} {pos pos' tpos : Pos} {ta tv : TE}
theorem pe_fld (he : PE X e ta) (hb : attributeBase e f X.env (eval e X.env) = eval e X.env) : PE X (.Attribute e f pos) (tFld X.K ta f) := by
  refine .mk ?_
  intro pins s σ H Q I h
  refine attr_of hb (thn (he pins s σ H _ I h) fun u s1 hZ9 => ?_)
  obtain ⟨x, H1, I1, rx, a, C, dx, fs, v, ex, ea, c, n, l, q⟩ := hZ9
  subst ex
  obtain rfl : u = Value.ref a := rx
  exact getattr_ok I1 ea c n l fun u' s2 I2 ru => ⟨v, H1, I2, ru, q⟩
theorem ps_fld (ha : PE X o ta) (hv : PE X value tv) (hs : swapsWith value (some (.Attribute o f pos')) pos.line X.env = pure false) : PS X (.Assign [.Attribute o f pos'] value pos) (sFld X.K ta tv f) := by
  refine .mk ?_
  intro pins s σ H D I h
  refine plainObj_wpAny_Assign_Attribute (thn (hv pins s σ H _ I h) fun u s1 ⟨y, H1, I1, ry, q⟩ => thn (ha pins s1 σ H1 _ I1 q) fun ov s2 ⟨x, H2, I2, rx, a, C, dx, fs, ex, ea, c, n, l, q2⟩ => ?_) hs
  subst ex
  obtain rfl : ov = Value.ref a := rx
  exact setattr_ok I2 ea c n l ry fun s3 I3 => ⟨σ, _, I3, q2⟩
def rAdd : V → V → Hp → VK → Prop := fun x y H Q => ∃ i j, x = .int i ∧ y = .int j ∧ Q (.int (i + j)) H
def rSub : V → V → Hp → VK → Prop := fun x y H Q => ∃ i j, x = .int i ∧ y = .int j ∧ Q (.int (i - j)) H
end

/-! ### isinstance -/
section
variable {X : Cx} {pins : List (Addr × Obj)} {σ : St} {H : Hp} {s : Shared} {A : Around} {E : Value → Shared → Prop} {Q : Value → Shared → Prop} {c : Value} {b : Bool}
/-- the type of a value, as the fragment's deciders take it; for an instance its class -/
inductive TyOf (K : PySem.W.Frag) (H : Hp) : V → Value → Prop where
  | non : TyOf K H .non (.type "NoneType")
  | bl (x : Bool) : TyOf K H (.bl x) (.type "bool")
  | int (i : Int) : TyOf K H (.int i) (.type "int")
  | str (x : Str) : TyOf K H (.str x) (.type "str")
  | flt (x : UInt64) : TyOf K H (.flt x) (.type "float")
  | lst {a : Addr} {xs : List V} (e : H a = some (.lst xs)) : TyOf K H (.ref a) (.type "list")
  | frz {a : Addr} {o : Obj} {xs : List V} (e : H a = some (.frz o (.lst xs))) : TyOf K H (.ref a) (.type "list")
  | tup {a : Addr} {xs : List V} (e : H a = some (.tup xs)) : TyOf K H (.ref a) (.type "tuple")
  | dK {a : Addr} {kvs : List (Key × V)} (e : H a = some (.dK kvs)) : TyOf K H (.ref a) (.type "dict")
  | dT {a : Addr} {kvs : List (List Key × V)} (e : H a = some (.dT kvs)) : TyOf K H (.ref a) (.type "dict")
  | ins {a C dx : Addr} {fs : List (Str × V)} (e : H a = some (.ins C dx fs)) (cl : Cls K C) (ha : PySem.W.findIn K (.ref C) "__class__" = some (some (.builtin "object.__class__")))
      (hn : PySem.W.specialIn K (.builtin "object.__class__") "__get__" = some (some (.builtin "getset_descriptor.__get__"))) (htk : PySem.W.takesIn K (.builtin "object.__class__") = some true)
      (hm : PySem.W.mroIn K C (.type "object") = some true) : TyOf K H (.ref a) (.ref C)
/-- isinstance(x, c) for one class c, a built-in or an own one: kitOne's answer -/
theorem isinst_ok {x : V} {u t : Value} (I : Inv X pins σ H s) (rx : RelV x u) (ty : TyOf X.K H x t) (e : PySem.W.kitOne X.K t c = some b) (h : ∀ tk, Q (.bool b) { s with toks := tk }) :
    wpAny (model X.prog X.w) A (call (.builtin "isinstance") [u, c]) Q E s := by
  cases ty with
  | non => cases (show u = Value.none from rx); exact PySem.W.kia_one PySem.W.kitx_none I.kIn True.intro e (fun z => nomatch z) h
  | bl y => cases (show u = Value.bool y from rx); exact PySem.W.kia_one PySem.W.kitx_bool I.kIn True.intro e (fun z => nomatch z) h
  | int i => obtain ⟨t, q⟩ := (show ∃ t, u = Value.int i t from rx); cases q; exact PySem.W.kia_one PySem.W.kitx_int I.kIn True.intro e (fun z => nomatch z) h
  | str y => obtain ⟨t, q⟩ := (show ∃ t, u = Value.str y t from rx); cases q; exact PySem.W.kia_one PySem.W.kitx_str I.kIn True.intro e (fun z => nomatch z) h
  | flt y => obtain ⟨t, q⟩ := (show ∃ t, u = Value.float y t from rx); cases q; exact PySem.W.kia_one PySem.W.kitx_float I.kIn True.intro e (fun z => nomatch z) h
  | @lst a xs ea =>
    cases (show u = Value.ref a from rx)
    obtain ⟨_, _, n, _, h1⟩ := (show ObjOk X.prog X.w H s.heap a (.lst xs) from I.hok a _ ea)
    exact PySem.W.kia_one PySem.W.kitx_list I.kIn ⟨_, h1, rfl⟩ e (fun z => nomatch z) h
  | @frz a ob xs ea =>
    cases (show u = Value.ref a from rx)
    obtain ⟨_, _, _, n, _, h1⟩ := (show ObjOk X.prog X.w H s.heap a (.frz ob (.lst xs)) from I.hok a _ ea)
    exact PySem.W.kia_one PySem.W.kitx_list I.kIn ⟨_, h1, rfl⟩ e (fun z => nomatch z) h
  | @tup a xs ea =>
    cases (show u = Value.ref a from rx)
    obtain ⟨_, _, _, p⟩ := (show ObjOk X.prog X.w H s.heap a (.tup xs) from I.hok a _ ea)
    obtain ⟨o, h1, h2, _⟩ := p
    exact PySem.W.kia_one PySem.W.kitx_tuple I.kIn ⟨o, h1, h2⟩ e (fun z => nomatch z) h
  | @dK a kvs ea =>
    cases (show u = Value.ref a from rx)
    obtain ⟨_, _, vs, _, p⟩ := (show ObjOk X.prog X.w H s.heap a (.dK kvs) from I.hok a _ ea)
    obtain ⟨o, es, ep, h1, h2, _⟩ := p
    exact PySem.W.kia_one PySem.W.kitx_dict I.kIn ⟨o, h1, h2.1⟩ e (fun z => nomatch z) h
  | @dT a kvs ea =>
    cases (show u = Value.ref a from rx)
    obtain ⟨_, _, xs, _, o, es, ep, h1, h2, _⟩ := (show ObjOk X.prog X.w H s.heap a (.dT kvs) from I.hok a _ ea)
    exact PySem.W.kia_one PySem.W.kitx_dict I.kIn ⟨o, h1, h2.1⟩ e (fun z => nomatch z) h
  | @ins a C dx fs ea cl ha hn htk hm =>
    cases (show u = Value.ref a from rx)
    obtain ⟨mA, O, _⟩ := ins_get I.hok ea
    obtain ⟨od, J, _⟩ := O.look
    exact PySem.W.kia_one (PySem.W.kitx_own (cl.get _) cl.hd ha hn htk hm) I.kIn J e (fun z => nomatch z) h
end
end L2

namespace L2
open PySem PySem.Spec PyProof.Rows

/-! ### room -/
structure Room (k : Nat) (A : Around) : Prop where
  hd : A.handled = none
  dp : A.depth + 3 * k + 5 < recursionLimit
  un : A.units + 16 * k + 200 < cLine
theorem Room.mono {j k : Nat} {A : Around} (r : Room k A) (h : j ≤ k) : Room j A := ⟨r.hd, by have := r.dp; omega, by have := r.un; omega⟩
theorem Room.deeper {k : Nat} {A : Around} (r : Room (k + 1) A) (env : Env) : Room k (A.deeper env) :=
  ⟨r.hd, by have := r.dp; show A.depth + 1 + 3 * k + 5 < _; omega, by have := r.un; show A.units + 3 + 16 * k + 200 < _; omega⟩
theorem make_depth {A : Around} {C : Addr} {us : List Value} {kw : List (Str × Value)} : (A.under (.builtin "type.__call__" ⟨.ref C :: us, kw⟩)).depth = A.depth + 1 := by
  first | rfl | simp [Around.under, Code.weight, Code.isCreation, Code.isGuard, Code.isCaller, Code.frames, Code.isFrame, guardIds]
theorem make_units {A : Around} {C : Addr} {us : List Value} {kw : List (Str × Value)} : (A.under (.builtin "type.__call__" ⟨.ref C :: us, kw⟩)).units = A.units + 1 := by
  first | rfl | simp [Around.under, Code.cUnits, Code.frames, Code.isFrame]
theorem Room.make {k : Nat} {A : Around} (r : Room (k + 1) A) (C : Addr) (us : List Value) (kw : List (Str × Value)) : Room k (A.under (.builtin "type.__call__" ⟨.ref C :: us, kw⟩)) :=
  ⟨r.hd, by have := r.dp; rw [make_depth]; omega, by have := r.un; rw [make_units]; omega⟩
theorem Room.depth {k : Nat} {A : Around} (r : Room k A) : A.depth < recursionLimit := by have := r.dp; omega
theorem Room.units {k : Nat} {A : Around} (r : Room k A) : A.units + 64 < cLine := by have := r.un; omega
/-! ### argument lists and displays -/
def tNil : TA := fun _ H Q => Q [] H
def tCons (ta : TE) (tr : TA) : TA := fun σ H Q => ta σ H fun x H1 => tr σ H1 fun xs H2 => Q (x :: xs) H2
section
variable {X : Cx} {e : Expr} {es : List Expr} {te : TE} {t : TA} {pos : Pos}
theorem pa_nil : PA X [] tNil := .mk <| fun _ _ _ _ H Q I h => Calls.spliced_nil ⟨[], H, I, .nil, h⟩
theorem pa_cons (ha : PE X e te) (hr : PA X es t) (hs : starEach (e :: es) X.env = (false, eval e X.env) :: starEach es X.env := by rfl) : PA X (e :: es) (tCons te t) := by
  refine .mk ?_
  intro pos pins s σ H Q I h
  rw [hs]
  show wpAny _ _ (spliced ((false, eval e X.env) :: backTo pos (starEach es X.env))) _ _ s
  refine Calls.spliced_cons (thn (ha pins s σ H _ I h) fun u s1 hZ9 => ?_)
  obtain ⟨x, H1, I1, r1, q1⟩ := hZ9
  exact thn (hr pos pins s1 σ H1 _ I1 q1) fun us s2 ⟨xs, H2, I2, r2, q2⟩ => ⟨x :: xs, H2, I2, .cons r1 r2, q2⟩

/-- a tuple, a list of written items -/
def tTup (t : TA) : TE := fun σ H Q => t σ H fun xs H1 => xs.length ≤ sizeLine ∧ ∀ p, H1 p = none → Q (.ref p) (upd H1 p (.tup xs))
def tLst (t : TA) : TE := fun σ H Q => t σ H fun xs H1 => xs.length ≤ sizeLine ∧ ∀ p, H1 p = none → Q (.ref p) (upd H1 p (.lst xs))
theorem pe_tup {x1} (h : PA X es t) : PE X (.Tuple es x1 pos) (tTup t) := by
  refine .mk ?_
  intro pins s σ H Q I hq
  refine wpAny_Tuple_spliced (thn (h pos pins s σ H _ I hq) fun us s1 ⟨xs, H1, I1, r, z, q⟩ => ⟨by rw [← r.length]; exact z, ?_⟩)
  have hf : H1 s1.heap.objs.size = none := I1.hok.fresh (Nat.le_refl _)
  refine ⟨.ref s1.heap.objs.size, upd H1 s1.heap.objs.size (.tup xs), I1.laid (t' := s1.toks) (fun b u e => Heap.get?_push_of_some _ e) (Nat.le_refl _) ?_, rfl, q _ hf⟩
  exact ⟨z, us, r, ⟨_, Heap.get?_push_size _ rfl, rfl, _, rfl⟩⟩
theorem pe_lst (h : PA X es t) : PE X (.List es pos) (tLst t) := by
  refine .mk ?_
  intro pins s σ H Q I hq
  refine wpAny_List_spliced (thn (h pos pins s σ H _ I hq) fun us s1 ⟨xs, H1, I1, r, z, q⟩ => ⟨by rw [← r.length]; exact z, ?_⟩)
  have hf : H1 s1.heap.objs.size = none := I1.hok.fresh (Nat.le_refl _)
  refine ⟨.ref s1.heap.objs.size, upd H1 s1.heap.objs.size (.lst xs), I1.laid (t' := s1.toks) (fun b u e => Heap.get?_push_of_some _ e) (Nat.le_refl _) ?_, rfl, q _ hf⟩
  exact ⟨z, us, 0, r, Heap.get?_push_size _ rfl⟩
end

/-! ### what a def promises -/
/-- a def's promise: the bound arguments in the parameters' order, the heap, the wanted end, the wanted exception -/
abbrev Sp := List V → Hp → VK → XK → Prop
/-- how an exception lies behind a call (file 08 gives it): the callers' frames, abstract heap and state ahead of the call, the wish, the exception, the state -/
abbrev CXT := List Env → Hp → Shared → XK → Value → Shared → Prop

/-- the state at a call -/
structure Env0 (P : Program) (w : World) (K : PySem.W.Frag) (mg : Str → Option Value) (base : Heap) (A : Around) (outer : List Env) (s : Shared) (H : Hp) : Prop where
  frames : A.frames = some outer
  mod : Mod K mg base
  bs : ∀ b o, base.get? b = some o → s.heap.get? b = some o ∧ H b = none
  bsz : base.objs.size ≤ s.heap.objs.size
  funs : s.heap.FunFrames base outer
  frf : ∀ b ∈ frs outer, H b = none
  hok : HOk P w H s.heap
  bare : AllBare s.gens
/-- a call's end -/
def CE (outer : List Env) (P : Program) (w : World) (H : Hp) (s : Shared) (Q : VK) (u : Value) (s' : Shared) : Prop :=
  ∃ v H', s'.os = s.os ∧ AllBare s'.gens ∧ Un (frs outer) [] H H' s.heap s'.heap ∧ HOk P w H' s'.heap ∧ RelV v u ∧ Q v H'
def CR (CX : CXT) (outer : List Env) (P : Program) (w : World) (H : Hp) (s : Shared) (Q : VK) (E : XK) (r : Result) (s' : Shared) : Prop :=
  match r with
  | .ok (.ret u) => CE outer P w H s Q u s'
  | .ok _ => False
  | .error e => CX outer H s E e s'
structure FnOk (P : Program) (w : World) (K : PySem.W.Frag) (mg : Str → Option Value) (base : Heap) (CX : CXT) (k : Nat) (f : Addr) (fd : FuncData) (ps : List Str) (sp : Sp) : Prop where
  len : ∀ vs H Q E, sp vs H Q E → vs.length = ps.length
  run : ∀ (A : Around) (outer : List Env) (s : Shared) (H : Hp) (args : Args) (us : List Value) (vs : List V) (Q : VK) (E : XK), Room k A → Env0 P w K mg base A outer s H → BindsTo s fd args (ps.zip us) → Vals vs us → sp vs H Q E →
    codeAny (model P w) A (.call (.ref f) args) (CR CX outer P w H s Q E) s
/-- a weaker promise -/
theorem FnOk.imp {P : Program} {w : World} {K : PySem.W.Frag} {mg : Str → Option Value} {base : Heap} {CX : CXT} {k : Nat} {f : Addr} {fd : FuncData} {ps : List Str} {sp sp' : Sp} (F : FnOk P w K mg base CX k f fd ps sp)
    (h : ∀ vs H Q E, sp' vs H Q E → sp vs H Q E) : FnOk P w K mg base CX k f fd ps sp' :=
  ⟨fun vs H Q E q => F.len vs H Q E (h _ _ _ _ q), fun A outer s H args us vs Q E hr he hb hv hs => F.run A outer s H args us vs Q E hr he hb hv (h _ _ _ _ hs)⟩

theorem Env0.make {P : Program} {w : World} {K : PySem.W.Frag} {mg : Str → Option Value} {base : Heap} {A : Around} {outer : List Env} {s : Shared} {H : Hp} (e : Env0 P w K mg base A outer s H) (C : Addr) (us : List Value) (kw : List (Str × Value)) :
    Env0 P w K mg base (A.under (.builtin "type.__call__" ⟨.ref C :: us, kw⟩)) outer s H := ⟨by first | exact e.frames | (simpa [Around.under, Code.envs, Code.isFrame, pushEnvs] using e.frames), e.mod, e.bs, e.bsz, e.funs, e.frf, e.hok, e.bare⟩
section
variable {X : Cx} {pins : List (Addr × Obj)} {σ : St} {H : Hp} {s s' : Shared}
/-- from a body: what a callee wants -/
theorem Inv.env0 (I : Inv X pins σ H s) : Env0 X.prog X.w X.K X.mg X.base X.A X.stack s H :=
  ⟨I.ok.frames, I.ok.mod, I.bs, Nat.le_trans I.ok.bsz I.sz, I.stack, I.stkFree, I.hok, I.bare⟩
/-- behind a call -/
theorem Inv.after {Q : VK} {u : Value} (I : Inv X pins σ H s) (h : CE X.stack X.prog X.w H s Q u s') : EP X pins σ Q u s' := by
  obtain ⟨v, H', os, bare, un, hok, r, q⟩ := h
  obtain ⟨hh, g, d, t, os'⟩ := s'
  obtain rfl : os' = s.os := os
  exact ⟨v, H', I.call (h' := hh) (g' := g) (d' := d) (t' := t) (ch := []) un hok bare (fun b z => absurd z (by simp)), r, q⟩
end

/-! ### calls -/
/-- f(..): the written arguments, then the defaults dvs; E: what is wanted of an exception -/
def tCall (sp : Sp) (dvs : List V) (E : XK) (t : TA) : TE := fun σ H Q => t σ H fun vs H1 => sp (vs ++ dvs) H1 Q E
/-- o.m(..) of an instance of the class at C -/
def tMeth (C : Addr) (m : Str) (sp : Sp) (dvs : List V) (E : XK) (ta : TE) (t : TA) : TE := fun σ H Q => ta σ H fun x H1 => ∃ a dx fs, x = .ref a ∧ H1 a = some (.ins C dx fs) ∧ fs.lookup m = none ∧
  t σ H1 fun vs H2 => sp (x :: (vs ++ dvs)) H2 Q E
/-- C(..): a new instance and its dict, then __init__ -/
def tMake (C : Addr) (sp : Sp) (dvs : List V) (E : XK) (t : TA) : TE := fun σ H Q => t σ H fun vs H1 => ∀ x dx, H1 x = none → H1 dx = none → dx ≠ x →
  sp (.ref x :: (vs ++ dvs)) (upd (upd H1 dx (.own x)) x (.ins C dx [])) (fun v H2 => v = .non ∧ Q (.ref x) H2) E

/-- how the parameters are bound: us the positional arguments, kw the keywords' values by name, ds the defaults that fill up -/
def Binds (K : PySem.W.Frag) (fd : FuncData) (ps : List Str) (ds : List Value) : Prop :=
  ∀ (s : Shared) (us : List Value), K.In s.heap → (us ++ ds).length = ps.length → BindsTo s fd ⟨us, []⟩ (ps.zip (us ++ ds))
/-- every parameter is given -/
theorem Binds.all {K : PySem.W.Frag} {fd : FuncData} {ps : List Str} (h : ∀ us : List Value, us.length = ps.length → bindArgs fd ⟨us, []⟩ = pure (ps.zip us)) : Binds K fd ps [] := fun s us _ hl => by
  rw [List.append_nil] at hl ⊢
  exact .of_eq (h us hl)

/-- an exception of a callee reaches what this body wants of exceptions -/
def Passes (CX : CXT) (X : Cx) (E : XK) : Prop := ∀ (pins : List (Addr × Obj)) (σ : St) (H : Hp) (s : Shared) (e : Value) (s' : Shared), Inv X pins σ H s → CX X.stack H s E e s' → X.xe e s'

section
variable {X : Cx} {CX : CXT} {k : Nat} {f C : Addr} {fd : FuncData} {ps : List Str} {sp : Sp} {dvs : List V} {ds : List Value} {E : XK} {x m : Str} {p pos apos : Pos} {e o : Expr} {es : List Expr} {ta : TE} {t : TA}

/-- the callee runs -/
theorem run_fn {pins : List (Addr × Obj)} {σ : St} {H : Hp} {s : Shared} {Q : VK} {us : List Value} {vs : List V} (F : FnOk X.prog X.w X.K X.mg X.base CX k f fd ps sp) (hr : Room k X.A) (hb : Binds X.K fd ps ds) (hd : Vals dvs ds) (hx : Passes CX X E)
    (I : Inv X pins σ H s) (r : Vals vs us) (h : sp (vs ++ dvs) H Q E) : wpAny (model X.prog X.w) X.A (call (.ref f) us) (EP X pins σ Q) X.xe s := by
  have r2 : Vals (vs ++ dvs) (us ++ ds) := r.append hd
  have hl : (us ++ ds).length = ps.length := by rw [← r2.length]; exact F.len _ _ _ _ h
  refine wpAny_call (codeAny_mono (F.run X.A X.stack s H ⟨us, []⟩ (us ++ ds) (vs ++ dvs) Q E hr I.env0 (hb s us I.kIn hl) r2 h) fun r s' hq => ?_)
  cases r with
  | error e => exact hx pins σ H s e s' I hq
  | ok fl =>
    cases fl with
    | ret u => exact I.after hq
    | next => exact False.elim hq
    | brk => exact False.elim hq
    | cont => exact False.elim hq

theorem pe_call (F : FnOk X.prog X.w X.K X.mg X.base CX k f fd ps sp) (hr : Room k X.A) (hg : Gl X x) (hm : X.mg x = some (.ref f)) (hk : PySem.W.keepIn X.K (.ref f) = true) (hb : Binds X.K fd ps ds) (hd : Vals dvs ds) (hx : Passes CX X E)
    (ha : PA X (e :: es) t) (hdb : (x == ("__debug__" : Str)) = false := by decide) (he : starEach (e :: es) X.env = (false, eval e X.env) :: starEach es X.env := by rfl) (hpl : (backTo pos (starEach es X.env)).any (·.1) = false := by rfl) :
    PE X (.Call (.Name x p) (e :: es) [] pos) (tCall sp dvs E t) := by
  refine .mk ?_
  intro pins s σ H Q I h
  refine wpAny_Call_Name_kw (ld_glob I hg hm ?_ hdb)
  refine PySem.W.callWith_K (h₀ := X.base) I.ok.mod.kin hk (thn (ha pos pins s σ H _ I h) fun us s1 ⟨vs, H1, I1, r, q⟩ => ⟨I1.kIn, ?_⟩) he hpl
  exact run_fn F hr hb hd hx I1 r q
/-- o.m(e, ..) -/
theorem pe_meth {pl : Sem Bool} (he : PE X o ta) (c : Cls X.K C) (hm : Meth X.K C m f) (F : FnOk X.prog X.w X.K X.mg X.base CX k f fd ps sp) (hr : Room k X.A) (hb : Binds X.K fd ps ds) (hd : Vals dvs ds) (hx : Passes CX X E) (ha : PA X (e :: es) t)
    (hst : starEach (e :: es) X.env = (false, eval e X.env) :: starEach es X.env := by rfl) (hpl : (backTo pos (starEach es X.env)).any (·.1) = false := by rfl)
    (ht : eval (.Call (.Attribute o m apos) (e :: es) [] pos) X.env = (do
      let ov ← eval o X.env
      standAt apos.atName
      let (f, first) ← holding [ov] (getMethod ov m pl)
      callWith pos f first (backTo pos (starEach (e :: es) X.env)) (backToKw pos (keywordEach [] X.env))) := by rfl) :
    PE X (.Call (.Attribute o m apos) (e :: es) [] pos) (tMeth C m sp dvs E ta t) := by
  refine .mk ?_
  intro pins s σ H Q I h
  refine PySem.W.methodCall_KW (pl := pl) (thn (he pins s σ H _ I h) fun u s1 ⟨x, H1, I1, rx, a, dx, fs, ex, ea, l, q⟩ => ?_) ht
  subst ex
  obtain rfl : u = Value.ref a := rx
  refine getmeth_ok I1 ea c hm l ?_
  refine PySem.W.callWith_K (first := [.ref a]) (h₀ := X.base) I.ok.mod.kin hm.kp (thn (ha pos pins s1 σ H1 _ I1 q) fun us s2 ⟨vs, H2, I2, r, q2⟩ => ⟨I2.kIn, ?_⟩) hst hpl
  exact run_fn (us := .ref a :: us) (vs := .ref a :: vs) F hr hb hd hx I2 (.cons rfl r) q2
/-- what a class must have to be made -/
structure Mk (K : PySem.W.Frag) (C f : Addr) : Prop where
  makes : PySem.W.makesIn K C = true
  init : PySem.W.findIn K (.ref C) "__init__" = some (some (.ref f))
  fn : PySem.W.isFn K (.ref f) = true
  kp : PySem.W.keepIn K (.ref C) = true

theorem run_make {pins : List (Addr × Obj)} {σ : St} {H : Hp} {s : Shared} {Q : VK} {us : List Value} {vs : List V} (M : Mk X.K C f) (F : FnOk X.prog X.w X.K X.mg X.base CX k f fd ps sp) (hr : Room (k + 1) X.A) (hb : Binds X.K fd ps ds) (hd : Vals dvs ds)
    (hx : Passes CX X E) (I : Inv X pins σ H s) (r : Vals vs us)
    (h : ∀ x dx, H x = none → H dx = none → dx ≠ x → sp (.ref x :: (vs ++ dvs)) (upd (upd H dx (.own x)) x (.ins C dx [])) (fun v H2 => v = .non ∧ Q (.ref x) H2) E) :
    wpAny (model X.prog X.w) X.A (call (.ref C) us) (EP X pins σ Q) X.xe s := by
  have hq := h (s.heap.objs.size + 1) s.heap.objs.size (I.hok.fresh (Nat.le_succ _)) (I.hok.fresh (Nat.le_refl _)) (Nat.ne_of_lt (Nat.lt_succ_self _))
  have I2 := Inv.made (C := C) I
  have r2 : Vals (V.ref (s.heap.objs.size + 1) :: (vs ++ dvs)) (Value.ref (s.heap.objs.size + 1) :: (us ++ ds)) := .cons rfl (r.append hd)
  have hl : (Value.ref (s.heap.objs.size + 1) :: us ++ ds).length = ps.length := by
    have e := r2.length
    rw [F.len _ _ _ _ hq] at e
    exact e.symm
  refine wpAny_call (make_map (f := f) I.kIn M.makes M.init (beq_iff_eq.mp M.fn) (codeAny_mono (F.run _ X.stack _ _ ⟨Value.ref (s.heap.objs.size + 1) :: us, []⟩ (Value.ref (s.heap.objs.size + 1) :: (us ++ ds)) _ _ E (hr.make C us [])
    (I2.env0.make C us []) (hb _ (Value.ref (s.heap.objs.size + 1) :: us) I2.kIn hl) r2 hq) fun r s' hq' => ?_))
  cases r with
  | error e => exact hx pins σ _ _ e s' I2 hq'
  | ok fl =>
    cases fl with
    | ret u =>
      obtain ⟨v, H', I3, rv, ev, q3⟩ := I2.after hq'
      subst ev
      exact ⟨rv, ⟨V.ref (s.heap.objs.size + 1), H', I3, rfl, q3⟩⟩
    | next => exact False.elim hq'
    | brk => exact False.elim hq'
    | cont => exact False.elim hq'
theorem pe_make (M : Mk X.K C f) (F : FnOk X.prog X.w X.K X.mg X.base CX k f fd ps sp) (hr : Room (k + 1) X.A) (hg : Gl X x) (hm : X.mg x = some (.ref C)) (hb : Binds X.K fd ps ds) (hd : Vals dvs ds) (hx : Passes CX X E)
    (ha : PA X (e :: es) t) (hdb : (x == ("__debug__" : Str)) = false := by decide) (he : starEach (e :: es) X.env = (false, eval e X.env) :: starEach es X.env := by rfl) (hpl : (backTo pos (starEach es X.env)).any (·.1) = false := by rfl) :
    PE X (.Call (.Name x p) (e :: es) [] pos) (tMake C sp dvs E t) := by
  refine .mk ?_
  intro pins s σ H Q I h
  refine wpAny_Call_Name_kw (ld_glob I hg hm ?_ hdb)
  refine PySem.W.callWith_K (h₀ := X.base) I.ok.mod.kin M.kp (thn (ha pos pins s σ H _ I h) fun us s1 ⟨vs, H1, I1, r, q⟩ => ⟨I1.kIn, ?_⟩) he hpl
  exact run_make M F hr hb hd hx I1 r q
end

/-! ### keywords -/
/-- the values of the keywords, from the left -/
def PK (X : Cx) (kws : List Keyword) (t : TA) : Prop :=
  ∀ (pos : Pos) (pins : List (Addr × Obj)) (s : Shared) (σ : St) (H : Hp) (Q : List V → Hp → Prop), Inv X pins σ H s → t σ H Q → wpAny (model X.prog X.w) X.A (evalAll ((backToKw pos (keywordEach kws X.env)).map (·.2))) (AP X pins σ Q) X.xe s
section
variable {X : Cx} {CX : CXT} {k : Nat} {f C : Addr} {fd : FuncData} {ps ks : List Str} {sp : Sp} {E : XK} {x m : Str} {p pos apos kpos : Pos} {e o : Expr} {es : List Expr} {kws : List Keyword} {te ta : TE} {t tk : TA} {nm : Option Str}
/-- how a call with keywords binds: g puts the positional values us and the keywords' values ws (names ks) in the parameters' order, defaults among them -/
structure KBinds (K : PySem.W.Frag) (fd : FuncData) (ps ks : List Str) (g : List Value → List Value → List Value) (gV : List V → List V → List V) : Prop where
  to : ∀ (s : Shared) (us ws : List Value), K.In s.heap → (g us ws).length = ps.length → BindsTo s fd ⟨us, ks.zip ws⟩ (ps.zip (g us ws))
  rel : ∀ {vs : List V} {us : List Value} {zs : List V} {ws : List Value}, Vals vs us → Vals zs ws → Vals (gV vs zs) (g us ws)
def tCallK (sp : Sp) (gV : List V → List V → List V) (E : XK) (t tk : TA) : TE := fun σ H Q => t σ H fun vs H1 => tk σ H1 fun zs H2 => sp (gV vs zs) H2 Q E
variable {g : List Value → List Value → List Value} {gV : List V → List V → List V}
end

/-! ### a def's body keeps its promise -/
/-- names: the parameters first -/
structure FnScope (N P : List Str) (sc : Scope) : Prop where
  kind : sc.kind = .function
  co : sc.isCoroutine = false
  gen : sc.isGenerator = false
  nd : N.Nodup
  pre : N.take P.length = P
  par : ∀ x ∈ P, sc.names.lookup x = some .local ∨ sc.names.lookup x = some .cell
  nofree : ∀ y ∈ sc.names, y.2 ≠ .free

theorem bindL_out {kindOf : Str → Option NameKind} {x : Str} : ∀ {binds : List (Str × Value)} {m : Str → Option Value}, (∀ v, (x, v) ∉ binds) → bindL kindOf binds m x = m x
  | [], _, _ => rfl
  | (n, v) :: r, m, h => by
    unfold bindL
    rw [bindL_out fun w hw => h w (List.mem_cons_of_mem _ hw)]
    split
    · have : x ≠ n := by rintro rfl; exact h v List.mem_cons_self
      simp [this]
    · rfl
theorem bindC_out {kindOf : Str → Option NameKind} {x : Str} : ∀ {binds : List (Str × Value)} {m : Str → Option Value}, (∀ v, (x, v) ∉ binds) → bindC kindOf binds m x = m x
  | [], _, _ => rfl
  | (n, v) :: r, m, h => by
    unfold bindC
    rw [bindC_out fun w hw => h w (List.mem_cons_of_mem _ hw)]
    split
    · rfl
    · have : x ≠ n := by rintro rfl; exact h v List.mem_cons_self
      simp [this]
theorem bindL_get {kindOf : Str → Option NameKind} {x : Str} {v : Value} : ∀ {P : List Str} {vs : List Value} {i : Nat} {m : Str → Option Value}, P.Nodup → P[i]? = some x → vs[i]? = some v → kindOf x = some .local →
    bindL kindOf (P.zip vs) m x = some v
  | [], _, _, _, _, h, _, _ => by simp at h
  | _ :: _, [], _, _, _, _, h, _ => by simp at h
  | p :: P, w :: vs, 0, m, nd, h1, h2, hk => by
    simp at h1 h2; subst h1; subst h2
    show bindL kindOf ((p, w) :: P.zip vs) m p = _
    unfold bindL
    rw [bindL_out fun v hv => (List.nodup_cons.mp nd).1 (List.of_mem_zip hv).1, if_pos hk]
    simp
  | p :: P, w :: vs, i + 1, m, nd, h1, h2, hk => by
    show bindL kindOf ((p, w) :: P.zip vs) m x = _
    unfold bindL
    exact bindL_get (i := i) (List.nodup_cons.mp nd).2 (by simpa using h1) (by simpa using h2) hk
theorem bindC_get {kindOf : Str → Option NameKind} {x : Str} {v : Value} : ∀ {P : List Str} {vs : List Value} {i : Nat} {m : Str → Option Value}, P.Nodup → P[i]? = some x → vs[i]? = some v → kindOf x ≠ some .local →
    bindC kindOf (P.zip vs) m x = some v
  | [], _, _, _, _, h, _, _ => by simp at h
  | _ :: _, [], _, _, _, _, h, _ => by simp at h
  | p :: P, w :: vs, 0, m, nd, h1, h2, hk => by
    simp at h1 h2; subst h1; subst h2
    show bindC kindOf ((p, w) :: P.zip vs) m p = _
    unfold bindC
    rw [bindC_out fun v hv => (List.nodup_cons.mp nd).1 (List.of_mem_zip hv).1, if_neg hk]
    simp
  | p :: P, w :: vs, i + 1, m, nd, h1, h2, hk => by
    show bindC kindOf ((p, w) :: P.zip vs) m x = _
    unfold bindC
    exact bindC_get (i := i) (List.nodup_cons.mp nd).2 (by simpa using h1) (by simpa using h2) hk

/-- the names' values at the entry -/
def start (N : List Str) (vs : List V) : St := vs.map some ++ List.replicate (N.length - vs.length) none

/-- the context of a def's body, at its entry; an exception leaves the frame, then lies as CX says -/
def cxOf (CX : CXT) (P : Program) (w : World) (K : PySem.W.Frag) (mg : Str → Option Value) (base : Heap) (N : List Str) (qual : Str) (scope : Scope) (f : Addr) (cd : Value) (A : Around) (outer : List Env) (s : Shared) (H : Hp) (E : XK) : Cx where
  prog := P
  w := w
  K := K
  mg := mg
  base := base
  A := A.deeper (envOfC qual scope s.heap.objs.size f cd)
  N := N
  s₀ := s
  H₀ := H
  env := envOfC qual scope s.heap.objs.size f cd
  outer := outer
  stack := envOfC qual scope s.heap.objs.size f cd :: outer
  ex := []
  calm := true
  fn := fun _ => true
  pn := []
  xe := fun e s' => wpAny (model P w) (A.deeper (envOfC qual scope s.heap.objs.size f cd)) (leaving (envOfC qual scope s.heap.objs.size f cd) e) (fun _ s'' => CX outer H s E e s'') (fun e' s'' => CX outer H s E e' s'') s'

theorem cell_has {sc : Scope} {n : Nat} {x : Str} (h : sc.names.lookup x = some .cell) : ∃ c, (cellsFrom n sc.names []).lookup x = some c := by
  have q := PySem.W.cellsFrom_some sc.names n [] (.inl h)
  exact Option.isSome_iff_exists.mp q

theorem inv_start {CX : CXT} {P : Program} {w : World} {K : PySem.W.Frag} {mg : Str → Option Value} {base : Heap} {N ps : List Str} {qual : Str} {scope : Scope} {f : Addr} {cd : Value} {A : Around} {outer : List Env} {s s1 : Shared} {H : Hp} {E : XK} {us : List Value} {vs : List V}
    (S : FnScope N ps scope) (hd : A.handled = none) (e0 : Env0 P w K mg base A outer s H) (hl : vs.length = ps.length) (r : Vals vs us)
    (x : InCallC s s.heap.objs.size (bindL (envOfC qual scope s.heap.objs.size f cd).kindOf (ps.zip us) fun _ => none) (cellsFrom (s.heap.objs.size + 1) scope.names []) (bindC (envOfC qual scope s.heap.objs.size f cd).kindOf (ps.zip us) fun _ => none) s1) :
    Inv (cxOf CX P w K mg base N qual scope f cd A outer s H E) [] (start N vs) H s1 := by
  have hpl : ps.length ≤ N.length := by have := congrArg List.length S.pre; rw [List.length_take] at this; omega
  obtain ⟨h1, tk, rfl, hk⟩ := x.done
  have noA : ∀ b : Addr, b ∉ (cxOf CX P w K mg base N qual scope f cd A outer s H E).ex := fun b z => absurd (show b ∈ ([] : List Addr) from z) (by simp)
  refine ⟨⟨e0.mod, S.kind, rfl, rfl, Nat.le_refl _, fun y z c h1 h2 => ?_, fun y hy => ?_, fun y c _ h => ?_, fun _ => hd, Around.frames_deeper e0.frames, .inr ⟨rfl, rfl⟩, fun b z => absurd z (noA b), e0.bs, e0.bsz, fun b _ _ => noA b, fun b z => absurd z (noA b), e0.funs, e0.frf⟩,
    rfl, e0.bare, Un.kept hk, ⟨_, x.toInCall.ns, fun i y v h1 h2 h3 => ?_⟩, fun y c h => ⟨_, x.cell y c h⟩, e0.hok.fresh (Nat.le_refl _), fun y c h => ?_, fun p hp => absurd (show p ∈ ([] : List (Addr × Obj)) from hp) (by simp), e0.hok.kept hk, ?_⟩
  · exact name_of_addr x.apart (PySem.mem_of_lookup h1) (PySem.mem_of_lookup h2)
  · have hy : scope.names.lookup y = some .cell ∨ scope.names.lookup y = some .free := hy
    rcases hy with hy | hy
    · exact cell_has hy
    · exact absurd rfl (S.nofree _ (PySem.mem_of_lookup hy))
  · exact Nat.le_of_lt (x.above y c (PySem.mem_of_lookup h))
  · have hi : i < vs.length := by
      unfold start at h2
      by_cases hi : i < vs.length
      · exact hi
      · rw [List.getElem?_append_right (by simpa using hi)] at h2
        rw [List.getElem?_replicate] at h2
        split at h2 <;> cases h2
    have ha : vs[i]? = some v := by
      unfold start at h2
      rw [List.getElem?_append_left (by simpa using hi), List.getElem?_map] at h2
      cases e : vs[i]? with
      | none => rw [e] at h2; cases h2
      | some a => rw [e] at h2; cases h2; rfl
    obtain ⟨u, hu, rv⟩ := r.get ha
    have hp : ps[i]? = some y := by
      rw [← S.pre, List.getElem?_take_of_lt (by omega)]; exact h1
    have ndP : ps.Nodup := by rw [← S.pre]; exact S.nd.sublist (List.take_sublist _ _)
    refine ⟨u, rv, ?_⟩
    rcases S.par y (List.mem_of_getElem? hp) with k | k
    · exact .inl ⟨k, bindL_get ndP hp hu k⟩
    · obtain ⟨c, e⟩ := cell_has (n := s.heap.objs.size + 1) k
      refine .inr ⟨.inl k, c, e, ?_⟩
      have q := x.cell y c e
      rw [bindC_get ndP hp hu (by show scope.names.lookup y ≠ _; rw [k]; decide)] at q
      exact q
  · exact e0.hok.fresh (Nat.le_of_lt (x.above y c (PySem.mem_of_lookup h)))
  · unfold start
    show _ = N.length
    rw [List.length_append, List.length_map, List.length_replicate]
    omega

/-- THE RULE: a def (or a method) of the text, by its body. The body's reading t is chosen for each entry; it is run at the parameters' values -/
theorem fn_of {CX : CXT} {P : Program} {w : World} {K : PySem.W.Frag} {mg : Str → Option Value} {base : Heap} {k : Nat} {f : Addr} {name qual : Str} {params : Arguments} {body : List Stmt} {scope : Scope} {dV kV doc pm cdv ct oc : Value} {an od : Option Addr}
    {osl : Array (Option Value)} {N ps : List Str} {sp : Sp} (lk : K.lookup f = some ⟨oc, od, .func (PySem.W.fnOf name qual params body scope dV kV doc pm an cdv ct), osl⟩) (hcd : PySem.W.codeIn K cdv qual = true) (S : FnScope N ps scope)
    (len : ∀ vs H Q E, sp vs H Q E → vs.length = ps.length)
    (hbody : ∀ (A : Around) (outer : List Env) (s : Shared) (H : Hp) (vs : List V) (Q : VK) (E : XK), Room k (A.deeper (envOfC qual scope s.heap.objs.size f cdv)) → sp vs H Q E →
      ∃ t, PSs (cxOf CX P w K mg base N qual scope f cdv A outer s H E) body t ∧ t { nx := fun _ H' => Q .non H', rt := Q } (start N vs) H) :
    FnOk P w K mg base CX (k + 1) f (PySem.W.fnOf name qual params body scope dV kV doc pm an cdv ct) ps sp := by
  refine ⟨len, fun A outer s H args us vs Q E hr e0 hb r hsp => ?_⟩
  have hl := len _ _ _ _ hsp
  have KX : K.In s.heap := e0.mod.kin.keeps fun b o e => (e0.bs b o e).1
  have lim : s.heap.NoLimit := e0.mod.nolimit.keeps fun b o e => (e0.bs b o e).1
  have hkind : ∀ y ∈ ps.zip us, scope.names.lookup y.1 = some .local ∨ (scope.names.lookup y.1 = some .cell ∧ ((cellsFrom (s.heap.objs.size + 1) scope.names []).lookup y.1).isSome = true) := fun ⟨n, v⟩ hy => by
    rcases S.par n (List.of_mem_zip hy).1 with q | q
    · exact .inl q
    · exact .inr ⟨q, PySem.W.cellsFrom_some _ _ _ (.inl q)⟩
  refine codeAny_call_function hr.depth (KX _ _ lk) rfl S.co S.gen rfl (PySem.W.codeRec_of KX hcd) (hb _ _ _ _ ?_)
  refine wpAny_newFunctionEnv_cells S.kind hkind fun env he s1 x => ?_
  subst he
  refine ⟨lim.keeps x.toInCall.keep, codeAny_func ?_⟩
  obtain ⟨t, ht, hq⟩ := hbody A outer s H vs Q E (hr.deeper _) hsp
  have I : Inv (cxOf CX P w K mg base N qual scope f cdv A outer s H E) [] (start N vs) H s1 := inv_start S hr.hd e0 hl r x
  refine wpAny_mono (ht [] s1 (start N vs) H _ I hq) (fun fl s' hs => ?_) fun e s' hs => hs
  have fin : ∀ {σ' : St} {H' : Hp} {v : V} {u : Value}, Inv (cxOf CX P w K mg base N qual scope f cdv A outer s H E) [] σ' H' s' → RelV v u → Q v H' → CE outer P w H s Q u s' :=
    fun {σ' H' v u} J rv q => ⟨v, H', J.os, J.bare, J.base, J.hok, rv, q⟩
  cases fl with
  | ret u =>
    obtain ⟨v, σ', H', J, rv, q⟩ := hs
    exact fin J rv q
  | next =>
    obtain ⟨σ', H', J, q⟩ := hs
    exact fin (v := V.non) (u := Value.none) J rfl q
  | brk =>
    obtain ⟨_, _, _, q⟩ := hs
    exact False.elim q
  | cont =>
    obtain ⟨_, _, _, q⟩ := hs
    exact False.elim q
end L2

namespace L2
open PySem PySem.Spec PyProof.Rows
section
variable {X : Cx} {x : Str} {p pos : Pos} {e : Expr} {es : List Expr} {t : TA} {id T : String} {r : List V → Hp → VK → Prop}

def tCB (r : List V → Hp → VK → Prop) (t : TA) : TE := fun σ H Q => t σ H fun vs H1 => r vs H1 Q
/-- f(e, ..), f a built-in function -/
theorem pe_callB (hc : CallR X (.builtin id) r) (hg : Gl X x) (hm : X.mg x = none) (hv : bootBuiltins x = some (.builtin id)) (ha : PA X (e :: es) t) (hn : x ≠ "__name__" := by decide) (hdb : (x == ("__debug__" : Str)) = false := by decide)
    (he : starEach (e :: es) X.env = (false, eval e X.env) :: starEach es X.env := by rfl) (hpl : (backTo pos (starEach es X.env)).any (·.1) = false := by rfl) : PE X (.Call (.Name x p) (e :: es) [] pos) (tCB r t) := by
  refine .mk ?_
  intro pins s σ H Q I h
  refine wpAny_Call_Name_kw (ld_blt I hg hm hv ?_ hn hdb)
  exact PyProof.Rows.callWith_builtin1 (thn (ha pos pins s σ H _ I h) fun us s1 ⟨vs, H1, I1, r1, q1⟩ => hc pins s1 σ H1 vs us Q I1 r1 q1) he hpl
/-- T(e, ..), T a built-in type -/
theorem pe_callTy (hc : CallR X (.type T) r) (hg : Gl X x) (hm : X.mg x = none) (hv : bootBuiltins x = some (.type T)) (ha : PA X (e :: es) t) (hn : x ≠ "__name__" := by decide) (hdb : (x == ("__debug__" : Str)) = false := by decide)
    (he : starEach (e :: es) X.env = (false, eval e X.env) :: starEach es X.env := by rfl) (hpl : (backTo pos (starEach es X.env)).any (·.1) = false := by rfl) : PE X (.Call (.Name x p) (e :: es) [] pos) (tCB r t) := by
  refine .mk ?_
  intro pins s σ H Q I h
  refine wpAny_Call_Name_kw (ld_blt I hg hm hv ?_ hn hdb)
  exact PyProof.Rows.callWith_type1 (thn (ha pos pins s σ H _ I h) fun us s1 ⟨vs, H1, I1, r1, q1⟩ => hc pins s1 σ H1 vs us Q I1 r1 q1) he hpl
end
end L2

namespace HT
open PySem PyProof.Rows

/-- t < u of tuples of ints -/
def lexLt : List Int → List Int → Bool
  | [], [] => false
  | [], _ :: _ => true
  | _ :: _, [] => false
  | x :: xs, y :: ys => if x = y then lexLt xs ys else decide (x < y)
section
open PySem.SeqAt
open PySem.AutoSeq1 (wpAny_loadPart')
open PySem.MeetsSeq PySem.MeetsSeq2 PySem.MeetsSeq3

end

section
variable {prog : Program} {w : World} {A : Around} {E : Value → Shared → Prop} {s : Shared}

/-- t + u, t not empty -/
theorem cat_tup {t b : Addr} {vs ws : List Value} {Q : Value → Shared → Prop} (ht : IsTup s.heap t vs.toArray) (hb : IsTup s.heap b ws.toArray) (hv : vs ≠ [])
    (h1 : ws = [] → Q (.ref t) s) (h2 : ws ≠ [] → Q (.ref s.heap.objs.size) { s with heap := s.heap.push { cls := .type "tuple", data := .seq (vs ++ ws).toArray } })
    (hsz : vs.length + ws.length ≤ sizeLine) : wpAny (model prog w) A (binaryOp .Add (.ref t) (.ref b)) Q E s := by
  obtain ⟨⟨cls, dd, data, sl⟩, ho, hc, n, hd⟩ := id ht
  obtain ⟨⟨cls2, dd2, data2, sl2⟩, ho2, hc2, n2, hd2⟩ := id hb
  simp only at hc hd hc2 hd2
  subst hc hd hc2 hd2
  have e : vs.toArray ++ ws.toArray = (vs ++ ws).toArray := by simp
  by_cases hw : ws = []
  · exact concat_meets ⟨_, ho, rfl⟩ ⟨_, ho2, rfl⟩ noFill_tuple_add seq_tuple_add PySem.F.slot_tuple_add PySem.F.entry_tuple_add (PySem.F.args_tuple_add_2 _ _)
      (tuple_addW1 t b vs.toArray ws.toArray n n2 dd dd2 sl sl2 (by simpa using hv) (by simp [hw])) ⟨ho, ho2, h1 hw⟩
  · refine concat_meets ⟨_, ho, rfl⟩ ⟨_, ho2, rfl⟩ noFill_tuple_add seq_tuple_add PySem.F.slot_tuple_add PySem.F.entry_tuple_add (PySem.F.args_tuple_add_2 _ _)
      (tuple_addW2 t b vs.toArray ws.toArray n n2 dd dd2 sl sl2 (by simpa using hv) (by simpa using hw) (by rw [List.size_toArray, List.size_toArray]; exact hsz)) ⟨ho, ho2, ?_⟩
    rw [e]
    exact h2 hw

/-! ### t[a:b], not the whole -/
/-- a slice's bound as a place among n (d where it is left out) -/
def sIx (n d : Nat) : Option Int → Nat
  | none => d
  | some v => if v < 0 then (v + (n : Int)).toNat else min v.toNat n
theorem sIx_le (n d : Nat) (hd : d ≤ n) (o : Option Int) : sIx n d o ≤ n := by
  cases o with
  | none => exact hd
  | some v =>
    show (if v < 0 then (v + (n : Int)).toNat else min v.toNat n) ≤ n
    by_cases hv : v < 0
    · rw [if_pos hv]; omega
    · rw [if_neg hv]; exact Nat.min_le_right _ _
theorem clip_eq (v : Int) (n d : Nat) : (if v < 0 then max (v + (n : Int)) 0 else min v (n : Int)) = ((sIx n d (some v) : Nat) : Int) := by
  show (if v < 0 then max (v + (n : Int)) 0 else min v (n : Int)) = (((if v < 0 then (v + (n : Int)).toNat else min v.toNat n) : Nat) : Int)
  by_cases hv : v < 0
  · simp only [if_pos hv]; omega
  · simp only [if_neg hv]; omega
theorem adjust_gen (lo hi : Option Int) (n : Nat) : Builtin.Slice.sliceAdjust lo hi 1 (n : Int) = (((sIx n 0 lo : Nat) : Int), ((sIx n n hi : Nat) : Int)) := by
  have h1 : ¬ ((1 : Int) < 0) := by omega
  unfold Builtin.Slice.sliceAdjust
  simp only [h1, if_false]
  refine Prod.ext ?_ ?_
  · cases lo with
    | none => rfl
    | some v => exact clip_eq v n 0
  · cases hi with
    | none => rfl
    | some v => exact clip_eq v n n
theorem places_gen (i j : Nat) : Builtin.Slice.slicePlaces (i : Int) (j : Int) 1 = j - i := by
  unfold Builtin.Slice.slicePlaces
  have h1 : (1 : Int) > 0 := by omega
  simp only [h1, if_true, Int.ediv_one]
  split <;> omega
theorem slicePart_ {v : Value} {o : Option Int} {Q : Option Int → Shared → Prop} (p : IsPart v o) (h : Q o s) : wpAny (model prog w) A (Builtin.Slice.slicePartIndex v) Q E s := by
  cases p with
  | none => exact slicePart_none h
  | int i t => exact slicePart_int h
theorem sliceApplied_gen {sl : Addr} {vl vu : Value} {lo hi : Option Int} {n : Nat} {Q : Int × Int × Nat → Shared → Prop} (hs : s.heap.IsSliceOf sl vl vu .none) (pl : IsPart vl lo) (pu : IsPart vu hi)
    (h : Q (((sIx n 0 lo : Nat) : Int), 1, sIx n n hi - sIx n 0 lo) s) : wpAny (model prog w) A (Builtin.Slice.sliceApplied (.ref sl) (pure (n : Int))) Q E s := by
  obtain ⟨os, hos, hcs, hds⟩ := id hs
  unfold Builtin.Slice.sliceApplied Builtin.Slice.sliceFields
  refine wpAny_bind (wpAny_bind (wpAny_field hos hds (x := vl) rfl (wpAny_bind (wpAny_field hos hds (x := vu) rfl (wpAny_bind (wpAny_field hos hds (x := .none) rfl (wpAny_pure ?_)))))))
  refine wpAny_bind (slicePart_none ?_)
  show wpAny _ _ (if ((1 : Int) == 0) = true then _ else _) _ _ s
  rw [if_neg (by decide)]
  refine wpAny_bind (slicePart_ pl (wpAny_bind (slicePart_ pu (wpAny_bind (wpAny_pure ?_)))))
  show wpAny _ _ (match Builtin.Slice.sliceAdjust lo hi 1 (n : Int) with | (lo, hi) => pure (lo, (1 : Int), Builtin.Slice.slicePlaces lo hi 1)) _ _ s
  rw [adjust_gen lo hi n]
  show wpAny _ _ (pure (((sIx n 0 lo : Nat) : Int), (1 : Int), Builtin.Slice.slicePlaces ((sIx n 0 lo : Nat) : Int) ((sIx n n hi : Nat) : Int) 1)) _ _ s
  rw [places_gen]
  exact wpAny_pure h
theorem pick_gen (xs : Array Value) (i k : Nat) : ((List.range k).filterMap fun (m : Nat) => xs[((i : Int) + (m : Int) * 1).toNat]?).toArray = ((xs.toList.drop i).take k).toArray := by
  have e : (fun (m : Nat) => xs[((i : Int) + (m : Int) * 1).toNat]?) = fun m => xs[i + m]? := by
    funext m
    have : ((i : Int) + (m : Int) * 1).toNat = i + m := by omega
    rw [this]
  rw [e]
  have := pick_run xs i k
  rw [List.filterMap_map] at this
  have e2 : ((fun x => xs[x]?) ∘ fun x => i + x) = fun m => xs[i + m]? := rfl
  rw [e2] at this
  rw [this]

theorem getItem_tuple_cut {t sl : Addr} {items : Array Value} {vl vu : Value} {lo hi : Option Int} {Q : Value → Shared → Prop} (ht : IsTup s.heap t items) (hs : s.heap.IsSliceOf sl vl vu .none) (pl : IsPart vl lo) (pu : IsPart vu hi)
    (hw : ¬ (sIx items.size 0 lo = 0 ∧ sIx items.size items.size hi = items.size))
    (h : Q (.ref s.heap.objs.size) { s with heap := s.heap.push { cls := .type "tuple", data := .seq ((items.toList.drop (sIx items.size 0 lo)).take (sIx items.size items.size hi - sIx items.size 0 lo)).toArray } })
    (hsz : items.size ≤ sizeLine) : wpAny (model prog w) A (getItem (.ref t) (.ref sl)) Q E s := by
  have htake : sizeOk (.seq ((items.toList.drop (sIx items.size 0 lo)).take (sIx items.size items.size hi - sIx items.size 0 lo)).toArray) := by
    show ((items.toList.drop (sIx items.size 0 lo)).take (sIx items.size items.size hi - sIx items.size 0 lo)).toArray.size ≤ sizeLine
    rw [List.size_toArray, List.length_take, List.length_drop, Array.length_toList]
    omega
  have hj : sIx items.size items.size hi ≤ items.size := sIx_le _ _ (Nat.le_refl _) hi
  obtain ⟨os, hos, hcs, hds⟩ := id hs
  have hTs : s.TypeIs (.ref sl) "slice" := ⟨os, hos, hcs⟩
  unfold getItem
  try with_reducible refine wpAny_holding ?_
  first | refine wpAny_bind (wpAny_pure ?_) | skip
  refine wpAny_bind (wpAny_sequenceKey ht.typeIs (by decide) ?_)
  refine wpAny_bind (wpAny_callSpecial?_slot (name := Str.ofString "__getitem__") ht.typeIs PyProof.Rows.slot_tuple_getitem
    (wpAny_call_entry PyProof.Rows.slot_tuple_getitem ht.typeIs entry_tuple_getitem ?_ (args_tuple_getitem _ _)))
  show wpAny _ _ (Builtin.Tuple.tupleItemsOf (.ref t) >>= _) _ _ s
  refine wpAny_bind (tupleItemsOf_ ht ?_)
  refine wpAny_bind (wpAny_typeOf hTs ?_)
  rw [if_pos (by decide)]
  refine wpAny_bind (sliceApplied_gen hs pl pu ?_)
  have hno : ¬ ((((sIx items.size 0 lo : Nat) : Int) == 0 && (1 : Int) == 1 && (sIx items.size items.size hi - sIx items.size 0 lo) == items.size) = true) := by
    intro q
    rw [Bool.and_eq_true, Bool.and_eq_true] at q
    have q1 : ((sIx items.size 0 lo : Nat) : Int) = 0 := eq_of_beq q.1.1
    have q2 : sIx items.size items.size hi - sIx items.size 0 lo = items.size := eq_of_beq q.2
    exact hw ⟨by omega, by omega⟩
  show wpAny _ _ (if (((sIx items.size 0 lo : Nat) : Int) == 0 && (1 : Int) == 1 && (sIx items.size items.size hi - sIx items.size 0 lo) == items.size) = true then _ else _) _ _ s
  rw [if_neg hno, pick_gen]
  first
    | exact wpAny_bind (m := Builtin.Tuple.tupleExact _) (wpAny_newObj_type (wpAny_pure ⟨_, rfl, wpAny_pure h⟩) htake)
    | exact wpAny_bind (m := Builtin.Tuple.tupleExact _) (wpAny_newObj_type (wpAny_bind (wpAny_pure (wpAny_pure ⟨_, rfl, wpAny_pure h⟩))) htake)
    | exact wpAny_bind (wpAny_bind (m := Builtin.Tuple.tupleExact _) (wpAny_newObj_type (wpAny_pure (wpAny_pure ⟨_, rfl, wpAny_pure h⟩)) htake))
    | exact wpAny_bind (wpAny_bind (m := Builtin.Tuple.tupleExact _) (wpAny_newObj_type (wpAny_pure ⟨_, rfl, wpAny_pure h⟩) htake))
end
end HT

namespace L2
open PySem PySem.Spec PyProof.Rows

/-! ### the parts of a slice -/
abbrev TO := St → Hp → (Option Int → Hp → Prop) → Prop
/-- a slice's part (left out, or an int) -/
def PO (X : Cx) (e : Option Expr) (t : TO) : Prop :=
  ∀ (pins : List (Addr × Obj)) (s : Shared) (σ : St) (H : Hp) (Q : Option Int → Hp → Prop), Inv X pins σ H s → t σ H Q →
    wpAny (model X.prog X.w) X.A (evalPart e X.env) (fun u s' => ∃ o H', Inv X pins σ H' s' ∧ IsPart u o ∧ Q o H') X.xe s
def tNoPart : TO := fun _ H Q => Q none H
def tPart (t : TE) : TO := fun σ H Q => t σ H fun x H1 => ∃ i, x = .int i ∧ Q (some i) H1

theorem intsAre_of {ns : List Int} : ∀ {us : List Value}, Vals (ns.map V.int) us → IntsAre us ns := by
  induction ns with
  | nil => intro us r; rw [List.map_nil] at r; cases r; exact .nil
  | cons n ns ih =>
    intro us r
    rw [List.map_cons] at r
    cases r with
    | cons r1 r2 =>
      obtain ⟨t, e⟩ := r1
      subst e
      exact .cons n t (ih r2)

section
variable {X : Cx} {e : Expr} {te : TE} {lo hi : Option Expr} {tl th : TO} {pos p2 : Pos}

theorem po_none : PO X none tNoPart := by
  intro pins s σ H Q I h
  rw [evalPart_none]
  exact wpAny_pure ⟨none, H, I, .none, h⟩
theorem po_some (h : PE X e te) : PO X (some e) (tPart te) := by
  intro pins s σ H Q I hw
  rw [evalPart_some]
  refine thn (h pins s σ H _ I hw) fun u s1 hZ9 => ?_
  obtain ⟨x, H1, I1, r1, q1⟩ := hZ9
  obtain ⟨i, rfl, q⟩ := q1
  obtain ⟨t, rfl⟩ := r1
  exact ⟨some i, H1, I1, .int i t, q⟩

/-- what a slice of a value is, by values: the slice object stands at sl -/
def SlR (X : Cx) (r : V → Option Int → Option Int → Hp → VK → Prop) : Prop :=
  ∀ (pins : List (Addr × Obj)) (s : Shared) (σ : St) (H : Hp) (x : V) (v vl vu : Value) (lo hi : Option Int) (sl : Addr) (Q : VK), Inv X pins σ H s → RelV x v → s.heap.IsSliceOf sl vl vu .none → IsPart vl lo → IsPart vu hi → r x lo hi H Q →
    ∃ T id, typeLookup (.type T) "__getitem__" = pure (some (.builtin id)) ∧ s.TypeIs v T ∧ wpAny (model X.prog X.w) X.A (getItem v (.ref sl)) (EP X pins σ Q) X.xe s
def tSl (r : V → Option Int → Option Int → Hp → VK → Prop) (te : TE) (tl th : TO) : TE := fun σ H Q => te σ H fun x H1 => tl σ H1 fun l H2 => th σ H2 fun u H3 => r x l u H3 Q
/-- a[lo:hi], any a -/
theorem pe_slice {r : V → Option Int → Option Int → Hp → VK → Prop} (hr : SlR X r) (he : PE X e te) (hl : PO X lo tl) (hu : PO X hi th) : PE X (.Subscript e (.Slice lo hi none p2) pos) (tSl r te tl th) := by
  refine .mk ?_
  intro pins s σ H Q I h
  refine Subscript_ (thn (he pins s σ H _ I h) fun v s1 hZ9 => ?_)
  obtain ⟨x, H1, I1, r1, q1⟩ := hZ9
  refine wpAny_Slice (thn (hl pins s1 σ H1 _ I1 q1) fun vl s2 ⟨l, H2, I2, pl, q2⟩ => thn (hu pins s2 σ H2 _ I2 q2) fun vu s3 hZ9 => ?_)
  obtain ⟨u, H3, I3, pu, q3⟩ := hZ9
  rw [evalPart_none]
  refine wpAny_pure ?_
  have I4 : Inv X pins σ H3 { s3 with heap := s3.heap.push { cls := .type "slice", data := .fields #[vl, vu, .none] } } := I3.kept (t' := s3.toks) fun b ob q => Heap.get?_push_of_some _ q
  obtain ⟨T, id, hT, ht, hg⟩ := hr pins { s3 with heap := s3.heap.push { cls := .type "slice", data := .fields #[vl, vu, .none] } } σ H3 x v vl vu l u s3.heap.objs.size Q I4 r1 (Heap.IsSliceOf.new ..) pl pu q3
  show wpAny (model X.prog X.w) X.A (subscriptTail e (.Slice lo hi none p2) v (.ref s3.heap.objs.size)) (EP X pins σ Q) X.xe { s3 with heap := s3.heap.push { cls := .type "slice", data := .fields #[vl, vu, .none] } }
  exact tail_any (ops := [.ref s3.heap.objs.size, v]) ht hT hg (by with_unfolding_all rfl)

/-- the items of xs[lo:hi] -/
def cutV (xs : List V) (lo hi : Option Int) : List V := (xs.drop (HT.sIx xs.length 0 lo)).take (HT.sIx xs.length xs.length hi - HT.sIx xs.length 0 lo)
theorem cutV_length (xs : List V) (lo hi : Option Int) : (cutV xs lo hi).length ≤ xs.length := by
  unfold cutV
  rw [List.length_take, List.length_drop]
  omega
/-- t[lo:hi], not the whole of it (the whole would be t itself) -/
def rSlT (K : PySem.W.Frag) : V → Option Int → Option Int → Hp → VK → Prop := fun x lo hi H Q => ∃ a xs, x = .ref a ∧ SqT K H a xs ∧
  ¬ (HT.sIx xs.length 0 lo = 0 ∧ HT.sIx xs.length xs.length hi = xs.length) ∧ ∀ p, H p = none → Q (.ref p) (upd H p (.tup (cutV xs lo hi)))
theorem sl_tup : SlR X (rSlT X.K) := by
  intro pins s σ H x v vl vu lo hi sl Q I rx hs pl pu h
  obtain ⟨a, xs, rfl, hx, hw, q⟩ := h
  cases rx
  obtain ⟨its, r, ht, hz⟩ := I.tuple hx
  have hlen : its.toArray.size = xs.length := by rw [List.size_toArray]; exact r.length.symm
  refine ⟨"tuple", _, PyProof.Rows.slot_tuple_getitem.lookup, ht.typeIs, ?_⟩
  refine HT.getItem_tuple_cut ht hs pl pu (by rw [hlen]; exact hw) ?_ (by rw [hlen]; exact hz)
  rw [hlen]
  refine ⟨.ref s.heap.objs.size, _, I.laid (t' := s.toks) (o := .tup (cutV xs lo hi)) (fun b ob q => Heap.get?_push_of_some _ q) (Nat.le_refl _) ?_, rfl, q _ (I.hok.fresh (Nat.le_refl _))⟩
  exact ⟨Nat.le_trans (cutV_length xs lo hi) hz, _, (r.drop (HT.sIx xs.length 0 lo)).take (HT.sIx xs.length xs.length hi - HT.sIx xs.length 0 lo), IsTup.new _ _⟩

/-! ### t < u, t + u -/
def rLtT (K : PySem.W.Frag) : R2 := fun x y H Q => ∃ a b ns ms, x = .ref a ∧ y = .ref b ∧ SqT K H a (ns.map V.int) ∧ SqT K H b (ms.map V.int) ∧ Q (.bl (HT.lexLt ns ms)) H
/-- t + u, t not empty: u empty gives t itself -/
def rCatT (K : PySem.W.Frag) : R2 := fun x y H Q => ∃ a b xs ys, x = .ref a ∧ y = .ref b ∧ SqT K H a xs ∧ SqT K H b ys ∧ xs ≠ [] ∧ xs.length + ys.length ≤ sizeLine ∧
  (ys = [] → Q (.ref a) H) ∧ (ys ≠ [] → ∀ p, H p = none → Q (.ref p) (upd H p (.tup (xs ++ ys))))
theorem Vals.nil_iff {xs : List V} {us : List Value} (r : Vals xs us) : us = [] ↔ xs = [] := by
  cases r with
  | nil => simp
  | cons _ _ => simp
theorem op_catT : OpR X (binaryOp .Add) (rCatT X.K) := by
  intro pins s σ H x y v u Q I rx ry h
  obtain ⟨a, b, xs, ys, rfl, rfl, ha, hb, hx, hz, q1, q2⟩ := h
  cases rx
  cases ry
  obtain ⟨its, r1, p1, _⟩ := I.tuple ha
  obtain ⟨its2, r2, p2, _⟩ := I.tuple hb
  refine HT.cat_tup p1 p2 (fun z => hx (r1.nil_iff.mp z)) (fun z => ⟨.ref a, H, I, rfl, q1 (r2.nil_iff.mp z)⟩) (fun z => ?_) (by rw [← r1.length, ← r2.length]; exact hz)
  refine ⟨.ref s.heap.objs.size, _, I.laid (t' := s.toks) (o := .tup (xs ++ ys)) (fun b ob q => Heap.get?_push_of_some _ q) (Nat.le_refl _) ?_, rfl, q2 (fun w => z (r2.nil_iff.mpr w)) _ (I.hok.fresh (Nat.le_refl _))⟩
  exact ⟨by rw [List.length_append]; exact hz, _, r1.append r2, IsTup.new _ _⟩
end
end L2

namespace L2
open PySem PySem.Spec PyProof.Rows

/-! ### places -/
/-- the place that an index of any sign means -/
def ixN (n : Nat) (i : Int) : Option Nat := if 0 ≤ i then (if i < n then some i.toNat else none) else if -(n : Int) ≤ i then some (i + n).toNat else none
def atI {α : Type} (xs : List α) (i : Int) : Option α := (ixN xs.length i).bind fun j => xs[j]?
theorem ixN_seq {n : Nat} {i : Int} {j : Nat} (h : ixN n i = some j) : seqIndex? i n = some j ∧ j < n ∧ -(n : Int) ≤ i ∧ i < n := by
  unfold ixN at h
  by_cases h0 : 0 ≤ i
  · rw [if_pos h0] at h
    by_cases h1 : i < n
    · rw [if_pos h1] at h
      have e : i.toNat = j := Option.some.inj h
      exact ⟨by rw [seqIndex_of h0 h1, e], by omega, by omega, h1⟩
    · rw [if_neg h1] at h; cases h
  · rw [if_neg h0] at h
    by_cases h1 : -(n : Int) ≤ i
    · rw [if_pos h1] at h
      have e : (i + n).toNat = j := Option.some.inj h
      exact ⟨by rw [seqIndex_neg (by omega) h1, e], by omega, h1, by omega⟩
    · rw [if_neg h1] at h; cases h
theorem atI_get {α : Type} {xs : List α} {i : Int} {v : α} (h : atI xs i = some v) : ∃ j, seqIndex? i xs.length = some j ∧ xs[j]? = some v ∧ j < xs.length ∧ -(xs.length : Int) ≤ i ∧ i < xs.length := by
  unfold atI at h
  cases e : ixN xs.length i with
  | none => rw [e] at h; cases h
  | some j =>
    rw [e] at h
    obtain ⟨h1, h2, h3, h4⟩ := ixN_seq e
    exact ⟨j, h1, h, h2, h3, h4⟩
theorem atI_nat {α : Type} {xs : List α} {j : Nat} {v : α} (h : xs[j]? = some v) : atI xs (j : Int) = some v := by
  have hj : j < xs.length := (List.getElem?_eq_some_iff.mp h).1
  have e : ixN xs.length (j : Int) = some j := by
    unfold ixN
    rw [if_pos (by omega), if_pos (by omega)]; simp
  unfold atI; rw [e]; exact h
/-! ### what may be subscripted -/
/-- what stands as an index of a plain subscript -/
def PlainIx (b : Expr) : Prop := ∀ o i, subscripted b false o i = operate [o, i] (getItem o i)
/-- a subscript by values -/
def IxR (X : Cx) (r : R2) : Prop :=
  ∀ (value slice : Expr) (pins : List (Addr × Obj)) (s : Shared) (σ : St) (H : Hp) (x y : V) (v u : Value) (Q : VK), Inv X pins σ H s → RelV x v → RelV y u → r x y H Q →
    subscripted slice false v u = operate [v, u] (getItem v u) → wpAny (model X.prog X.w) X.A (subscriptTail value slice v u) (EP X pins σ Q) X.xe s
/-- a call of a builtin's method by values: the receiver, the arguments -/
def MtR (X : Cx) (id : String) (r : V → List V → Hp → VK → Prop) : Prop :=
  ∀ (pins : List (Addr × Obj)) (s : Shared) (σ : St) (H : Hp) (x : V) (xs : List V) (v : Value) (us : List Value) (Q : VK), Inv X pins σ H s → RelV x v → Vals xs us → r x xs H Q →
    wpAny (model X.prog X.w) X.A (call (.builtin id) (v :: us)) (EP X pins σ Q) X.xe s
section
variable {X : Cx} {a b : Expr} {ta tb : TE} {pos : Pos}
/-- a[b] -/
theorem pe_ix {r : R2} (hr : IxR X r) (ha : PE X a ta) (hb : PE X b tb) (hs : PlainIx b) : PE X (.Subscript a b pos) (tOp r ta tb) := by
  refine .mk ?_
  intro pins s σ H Q I h
  exact Subscript_ (binT ha hb I h fun v u s2 x y H2 I2 rx ry q => hr a b pins s2 σ H2 x y v u Q I2 rx ry q (hs _ _))

def rIxL (K : PySem.W.Frag) : R2 := fun x y H Q => ∃ p xs i v, x = .ref p ∧ y = .int i ∧ SqL K H p xs ∧ atI xs i = some v ∧ Q v H
def rIxT (K : PySem.W.Frag) : R2 := fun x y H Q => ∃ p xs i v, x = .ref p ∧ y = .int i ∧ SqT K H p xs ∧ atI xs i = some v ∧ Q v H
def rIxS : R2 := fun x y H Q => ∃ z i c, x = .str z ∧ y = .int i ∧ z.length ≤ sizeLine ∧ atI z.cps.toList i = some c ∧ Q (.str ⟨#[c]⟩) H
theorem ix_list : IxR X (rIxL X.K) := by
  intro value slice pins s σ H x y v u Q I rx ry h hs
  obtain ⟨p, xs, i, z, rfl, rfl, hq, he, q⟩ := h
  cases rx
  obtain ⟨t, rfl⟩ := ry
  obtain ⟨its, r, pl, hz⟩ := I.list hq
  obtain ⟨j, h1, h2, h3, h4, h5⟩ := atI_get he
  obtain ⟨w, ew, rw'⟩ := r.get h2
  have hl := r.length
  have hn := line63
  have fin : EP X pins σ Q w s := ⟨z, H, I, rw', q⟩
  by_cases h0 : 0 ≤ i
  · have hj : i.toNat = j := by
      rw [seqIndex_of h0 h5] at h1
      exact Option.some.inj h1
    exact item_listR pl.isList h0 (by omega) (by rw [hj]; simpa using ew) fin hs
  · have hj : (i + (its.toArray.size : Int)).toNat = j := by
      rw [seqIndex_neg (by omega) h4] at h1
      rw [List.size_toArray, ← hl]
      exact Option.some.inj h1
    exact subscriptTail_builtinR (x := w) pl.isList.typeIs slot_list_getitem.lookup
      (wpAny_getItem_list_neg (Q := fun r s' => r = w ∧ EP X pins σ Q r s') pl.isList (by omega) (by rw [List.size_toArray] <;> omega) (by omega) (by rw [hj]; simpa using ew) ⟨rfl, fin⟩) hs
theorem ix_tup : IxR X (rIxT X.K) := by
  intro value slice pins s σ H x y v u Q I rx ry h hs
  obtain ⟨p, xs, i, z, rfl, rfl, hq, he, q⟩ := h
  cases rx
  obtain ⟨t, rfl⟩ := ry
  obtain ⟨its, r, pl, hz⟩ := I.tuple hq
  obtain ⟨j, h1, h2, h3, h4, h5⟩ := atI_get he
  obtain ⟨w, ew, rw'⟩ := r.get h2
  have hl := r.length
  have hn := line63
  have fin : EP X pins σ Q w s := ⟨z, H, I, rw', q⟩
  exact subscriptTail_builtinR (x := w) pl.typeIs slot_tuple_getitem.lookup
    (getItem_tuple (j := j) (Q := fun r s' => r = w ∧ EP X pins σ Q r s') pl (by omega) (by omega) (by rw [List.size_toArray, ← hl]; exact h1) (by simpa using ew) ⟨rfl, fin⟩) hs
/-- list, tuple or str -/
def rIx (K : PySem.W.Frag) : R2 := fun x y H Q => rIxL K x y H Q ∨ rIxT K x y H Q ∨ rIxS x y H Q
/-! ### xs[i] = v, any sign -/
/-- the list's object behind a store -/
theorem mapSeq_set (its : List Value) (n j : Nat) (u : Value) : Obj.mapSeq (·.setIfInBounds j u) { cls := .type "list", data := .seq its.toArray n } = { cls := .type "list", data := .seq (its.set j u).toArray n } := by
  simp [Obj.mapSeq]
theorem Inv.lst {pins : List (Addr × Obj)} {σ : St} {H : Hp} {s : Shared} {p : Addr} {xs : List V} (I : Inv X pins σ H s) (h : H p = some (.lst xs)) :
    ∃ (its : List Value) (n : Nat), Vals xs its ∧ s.heap.get? p = some { cls := .type "list", data := .seq its.toArray n } ∧ xs.length ≤ sizeLine := by
  obtain ⟨z, its, n, r, e⟩ := I.hok p _ h
  exact ⟨its, n, r, e, z⟩
/-- the list at p is written by an update of its object -/
theorem Inv.lstUpd {pins : List (Addr × Obj)} {σ : St} {H : Hp} {s : Shared} {p : Addr} {xs ys : List V} {its its' : List Value} {n n' : Nat} {f : Obj → Obj} (I : Inv X pins σ H s) (h : H p = some (.lst xs))
    (ho : s.heap.get? p = some { cls := .type "list", data := .seq its.toArray n }) (hf : f { cls := .type "list", data := .seq its.toArray n } = { cls := .type "list", data := .seq its'.toArray n' }) (r : Vals ys its') (hz : ys.length ≤ sizeLine) (t : Nat) :
    Inv X pins σ (upd H p (.lst ys)) { s with heap := s.heap.update p f, toks := t } := by
  have e : (s.heap.update p f).get? p = some { cls := .type "list", data := .seq its'.toArray n' } := by
    rw [Heap.get?_update_self f ho (by rw [hf] <;> rfl), hf]
  refine I.write (x := p) (e := p) (by rw [h]; trivial) (.inl rfl) (fun b u hb q => (Heap.get?_update_other _ _ (Ne.symm hb)).trans q) ⟨_, e⟩ ?_
  exact ⟨hz, its', n', r, e⟩
def rSetL : V → V → V → Hp → (Hp → Prop) → Prop := fun o i v H Q => ∃ p xs k j, o = .ref p ∧ i = .int k ∧ H p = some (.lst xs) ∧ ixN xs.length k = some j ∧ Q (upd H p (.lst (xs.set j v)))
theorem set_list : PSet X rSetL := by
  intro pins s σ H o i v ov iv u Q I ro ri rv h
  obtain ⟨p, xs, k, j, rfl, rfl, hp, hj, q⟩ := h
  cases ro
  obtain ⟨t, rfl⟩ := ri
  obtain ⟨its, n, r, ho, hz⟩ := I.lst hp
  obtain ⟨h1, h2, h3, h4⟩ := ixN_seq hj
  have hl := r.length
  have hn := line63
  have I' : Inv X pins σ (upd H p (.lst (xs.set j v))) { s with heap := s.heap.update p (Obj.mapSeq (·.setIfInBounds j u)) } :=
    I.lstUpd hp ho (mapSeq_set its n j u) (r.set rv j) (by rw [List.length_set]; exact hz) s.toks
  by_cases h0 : 0 ≤ k
  · have hk : k.toNat = j := by
      rw [seqIndex_of h0 h4] at h1
      exact Option.some.inj h1
    exact PySem.W.ki_setAt ho h0 (by omega) (by rw [List.size_toArray, ← hl]; exact h4) (by rw [hk]; exact ⟨_, I', q⟩)
  · have hk : (k + (its.toArray.size : Int)).toNat = j := by
      rw [seqIndex_neg (by omega) h3] at h1
      rw [List.size_toArray, ← hl]
      exact Option.some.inj h1
    exact PySem.W.ki_setBack ho (by omega) (by rw [List.size_toArray, ← hl]; exact h3) (by omega) (by rw [hk]; exact ⟨_, I', q⟩)

/-! ### slices -/
theorem slice_bounds (lo hi : Option Int) (n : Nat) : (sliceBounds lo hi none n).1 = ((HT.sIx n 0 lo : Nat) : Int) ∧ (sliceBounds lo hi none n).2.1 = ((HT.sIx n n hi : Nat) : Int) ∧ (sliceBounds lo hi none n).2.2 = 1 := by
  refine ⟨?_, ?_, rfl⟩
  · cases lo with
    | none => simp [sliceBounds, HT.sIx]
    | some i =>
      simp only [sliceBounds, HT.sIx, Option.getD_none, show (1 : Int) > 0 by decide, if_true]
      by_cases h : i < 0
      · simp only [h, if_true] <;> omega
      · simp only [h, if_false] <;> omega
  · cases hi with
    | none => simp [sliceBounds, HT.sIx]
    | some i =>
      simp only [sliceBounds, HT.sIx, Option.getD_none, show (1 : Int) > 0 by decide, if_true]
      by_cases h : i < 0
      · simp only [h, if_true] <;> omega
      · simp only [h, if_false] <;> omega
theorem slicePick_cut (its : List Value) (lo hi : Option Int) : slicePick its.toArray lo hi none = ((its.drop (HT.sIx its.length 0 lo)).take (HT.sIx its.length its.length hi - HT.sIx its.length 0 lo)).toArray := by
  obtain ⟨h1, h2, h3⟩ := slice_bounds lo hi its.toArray.size
  unfold slicePick
  rw [h1, h2, h3]
  simp only [sliceRange_one, pick_run, List.size_toArray] <;> rfl
/-- xs[lo:hi] of a list: a new list -/
def rSlL (K : PySem.W.Frag) : V → Option Int → Option Int → Hp → VK → Prop := fun x lo hi H Q => ∃ a xs, x = .ref a ∧ SqL K H a xs ∧ ∀ p, H p = none → Q (.ref p) (upd H p (.lst (cutV xs lo hi)))
theorem sl_list : SlR X (rSlL X.K) := by
  intro pins s σ H x v vl vu lo hi sl Q I rx hs pl pu h
  obtain ⟨a, xs, rfl, hx, q⟩ := h
  cases rx
  obtain ⟨its, r, ht, hz⟩ := I.list hx
  have hlen := r.length
  refine ⟨"list", _, slot_list_getitem.lookup, ht.isList.typeIs, ?_⟩
  refine wpAny_getItem_list_slice ht.isList hs pl pu .none (by simp) ?_ (by rw [List.size_toArray] <;> omega)
  rw [slicePick_cut, ← hlen]
  refine ⟨.ref s.heap.objs.size, _, I.laid (t' := s.toks) (o := .lst (cutV xs lo hi)) (fun b ob q => Heap.get?_push_of_some _ q) (Nat.le_refl _) ?_, rfl, q _ (I.hok.fresh (Nat.le_refl _))⟩
  exact ⟨Nat.le_trans (cutV_length xs lo hi) hz, _, 0, (r.drop (HT.sIx xs.length 0 lo)).take (HT.sIx xs.length xs.length hi - HT.sIx xs.length 0 lo), Heap.get?_push_size _ rfl⟩

/-! ### in, not in: flat items -/
def flatV : V → Bool
  | .non => true
  | .bl _ => true
  | .int _ => true
  | .str _ => true
  | _ => false
/-- == of flat values -/
def eqV : V → V → Bool
  | .non, .non => true
  | .bl a, .bl b => a == b
  | .bl a, .int b => (if a then 1 else 0) == b
  | .int a, .bl b => a == (if b then 1 else 0)
  | .int a, .int b => a == b
  | .str a, .str b => a == b
  | _, _ => false
theorem eqAt_V {A : Around} {s : Shared} {y x : V} {u v : Value} (ry : RelV y u) (rx : RelV x v) (fy : flatV y = true) (fx : flatV x = true) : SeqAt.EqAt A s u v (eqV y x) := by
  cases y with
  | non =>
    cases ry
    cases x with
    | non => cases rx; exact SeqAt.EqAt.same _
    | bl b => cases rx; exact SeqAt.EqAt.none_bool b
    | int b => obtain ⟨t, rfl⟩ := rx; exact SeqAt.EqAt.none_int b t
    | str b => obtain ⟨t, rfl⟩ := rx; exact SeqAt.EqAt.none_str b t
    | _ => exact absurd (show false = true from fx) Bool.false_ne_true
  | bl a =>
    cases ry
    cases x with
    | non => cases rx; exact SeqAt.EqAt.bool_none a
    | bl b => cases rx; exact SeqAt.EqAt.bool_bool a b
    | int b => obtain ⟨t, rfl⟩ := rx; exact SeqAt.EqAt.bool_int a b t
    | str b => obtain ⟨t, rfl⟩ := rx; exact SeqAt.EqAt.bool_str a b t
    | _ => exact absurd (show false = true from fx) Bool.false_ne_true
  | int a =>
    obtain ⟨t', rfl⟩ := ry
    cases x with
    | non => cases rx; exact SeqAt.EqAt.int_none a t'
    | bl b => cases rx; exact SeqAt.EqAt.int_bool a t' b
    | int b => obtain ⟨t, rfl⟩ := rx; exact SeqAt.EqAt.int_int a t' b t
    | str b => obtain ⟨t, rfl⟩ := rx; exact SeqAt.EqAt.int_str a t' b t
    | _ => exact absurd (show false = true from fx) Bool.false_ne_true
  | str a =>
    obtain ⟨t', rfl⟩ := ry
    cases x with
    | non => cases rx; exact SeqAt.EqAt.str_none a t'
    | bl b => cases rx; exact SeqAt.EqAt.str_bool a t' b
    | int b => obtain ⟨t, rfl⟩ := rx; exact SeqAt.EqAt.str_int a t' b t
    | str b => obtain ⟨t, rfl⟩ := rx; exact SeqAt.EqAt.str_str a t' b t
    | _ => exact absurd (show false = true from fx) Bool.false_ne_true
  | _ => exact absurd (show false = true from fy) Bool.false_ne_true
/-- the items' answers, read off the values (a value's own answer does not lean on its token) -/
def eqU (x : V) (u : Value) : Bool := match u with
  | .none => eqV .non x
  | .bool b => eqV (.bl b) x
  | .int i _ => eqV (.int i) x
  | .str z _ => eqV (.str z) x
  | _ => false
theorem eqU_of {x y : V} {u : Value} (r : RelV y u) (f : flatV y = true) : eqU x u = eqV y x := by
  cases y with
  | non => cases r; rfl
  | bl b => cases r; rfl
  | int i => obtain ⟨t, rfl⟩ := r; rfl
  | str z => obtain ⟨t, rfl⟩ := r; rfl
  | _ => exact absurd (show false = true from f) Bool.false_ne_true
theorem mem_eqAt {A : Around} {s : Shared} {x : V} {v : Value} (rx : RelV x v) (fx : flatV x = true) : ∀ {xs : List V} {us : List Value}, Vals xs us → xs.all flatV = true → ∀ u ∈ us, SeqAt.EqAt A s u v (eqU x u)
  | _, _, .nil, _ => fun u hu => by cases hu
  | y :: xs, u :: us, .cons r t, f => fun u' hu => by
    rw [List.all_cons, Bool.and_eq_true] at f
    rcases List.mem_cons.mp hu with rfl | hu
    · rw [eqU_of r f.1]; exact eqAt_V r rx f.1 fx
    · exact mem_eqAt rx fx t f.2 u' hu
def inV (x : V) (xs : List V) : Bool := xs.any fun y => eqV y x
/-- x in a list or tuple of flat items -/
def rIn (K : PySem.W.Frag) (neg : Bool) : R2 := fun x y H Q => ∃ p xs, y = .ref p ∧ (SqL K H p xs ∨ SqT K H p xs) ∧ flatV x = true ∧ xs.all flatV = true ∧ Q (.bl (if neg then !inV x xs else inV x xs)) H
/-! ### len, list(x), tuple(x) of any list or tuple that is read -/
theorem call_len_seq : CallR X (.builtin "len") (fun xs H Q => ∃ p ys, xs = [.ref p] ∧ (SqL X.K H p ys ∨ SqT X.K H p ys) ∧ Q (.int ys.length) H) := by
  intro pins s σ H xs us Q I r h
  obtain ⟨p, ys, rfl, hq, q⟩ := h
  obtain ⟨u, rfl, rx⟩ := vals1 r
  cases rx
  have hn := line63
  rcases hq with hq | hq
  · obtain ⟨its, r', pl, hz⟩ := I.list hq
    have hlen := r'.length
    exact Calls.call_len_list pl.isList (by simp only [List.size_toArray] <;> omega) ⟨.int ys.length, H, I.tok _, ⟨s.toks + 1, by rw [List.size_toArray, hlen]⟩, q⟩
  · obtain ⟨its, r', pl, hz⟩ := I.tuple hq
    have hlen := r'.length
    exact len_tuple pl (by simp only [List.size_toArray] <;> omega) ⟨.int ys.length, H, I.tok _, ⟨s.toks + 1, by rw [List.size_toArray, hlen]⟩, q⟩
theorem call_list_of : CallR X (.type "list") (fun xs H Q => ∃ p ys, xs = [.ref p] ∧ (SqL X.K H p ys ∨ SqT X.K H p ys) ∧ ∀ l, H l = none → Q (.ref l) (upd H l (.lst ys))) := by
  intro pins s σ H xs us Q I r h
  obtain ⟨p, ys, rfl, hq, q⟩ := h
  obtain ⟨u, rfl, rx⟩ := vals1 r
  cases rx
  have fin : ∀ (its : List Value), Vals ys its → ys.length ≤ sizeLine → ∀ (h' : Heap) (c' : Nat), (∀ b o', s.heap.get? b = some o' → h'.get? b = some o') →
      h'.get? s.heap.objs.size = some { cls := .type "list", dict := none, data := .seq its.toArray c', slots := #[] } → EP X pins σ Q (.ref s.heap.objs.size) { s with heap := h' } := fun its r' hz h' c' kp e =>
    ⟨.ref s.heap.objs.size, _, I.laid (t' := s.toks) kp (Nat.le_refl _) (show ObjOk X.prog X.w _ h' _ (.lst ys) from ⟨hz, its, c', r', e⟩), rfl, q _ (I.hok.fresh (Nat.le_refl _))⟩
  rcases hq with hq | hq
  · obtain ⟨its, r', pl, hz⟩ := I.list hq
    have hlen := r'.length
    obtain ⟨o, ho, hc, n, hd⟩ := pl.isList
    exact call_list_seq p (.inl rfl) ho hc hd (fun h' c' kp e => fin its r' hz h' c' kp e) (by simp only [List.size_toArray] <;> omega)
  · obtain ⟨its, r', pl, hz⟩ := I.tuple hq
    have hlen := r'.length
    obtain ⟨o, ho, hc, n, hd⟩ := pl
    exact call_list_seq p (.inr rfl) ho hc hd (fun h' c' kp e => fin its r' hz h' c' kp e) (by simp only [List.size_toArray] <;> omega)
/-! ### the call of a builtin's method: o.m(..) -/
/-- the value is of that builtin type -/
def tyV (K : PySem.W.Frag) (T : String) (x : V) (H : Hp) : Prop := match x with
  | .str _ => T = "str"
  | .int _ => T = "int"
  | .ref p => (T = "list" ∧ ∃ xs, SqL K H p xs) ∨ (T = "tuple" ∧ ∃ o, K.lookup p = some o ∧ o.cls = .type "tuple" ∧ o.dict = none) ∨
      (T = "dict" ∧ ((∃ kvs, H p = some (.dK kvs)) ∨ ∃ kvs, H p = some (.dT kvs))) ∨ (T = "set" ∧ ∃ S n, H p = some (.set S n))
  | _ => False
theorem tyV_is {pins : List (Addr × Obj)} {σ : St} {H : Hp} {s : Shared} {T : String} {x : V} {v : Value} (I : Inv X pins σ H s) (r : RelV x v) (ty : tyV X.K T x H) :
    s.TypeIs v T ∧ ∀ a, v = .ref a → ∃ ob, s.heap.get? a = some ob ∧ ob.dict = none := by
  cases x with
  | str z =>
    obtain ⟨t, rfl⟩ := r
    cases (show T = "str" from ty)
    exact ⟨typeIs_str s z t, fun _ e => nomatch e⟩
  | int i =>
    obtain ⟨t, rfl⟩ := r
    cases (show T = "int" from ty)
    exact ⟨typeIs_int s i t, fun _ e => nomatch e⟩
  | ref p =>
    cases r
    rcases ty with ⟨rfl, xs, hq⟩ | ⟨rfl, o, hk, hc, hd⟩ | ⟨rfl, hk⟩ | ⟨rfl, S, n, hk⟩
    · obtain ⟨its, _, pl, _⟩ := I.list hq
      refine ⟨pl.isList.typeIs, fun a e => ?_⟩
      cases e
      obtain ⟨o, n, e, c, hd, _⟩ := pl
      exact ⟨o, e, hd⟩
    · refine ⟨⟨o, I.kIn p o hk, hc⟩, fun a e => ?_⟩
      cases e
      exact ⟨o, I.kIn _ o hk, hd⟩
    · have z : ∃ o, s.heap.get? p = some o ∧ o.ExactDict := by
        rcases hk with ⟨kvs, hk⟩ | ⟨kvs, hk⟩
        · obtain ⟨_, _, _, _, o, _, _, e, ex, _⟩ := I.hok p _ hk
          exact ⟨o, e, ex⟩
        · obtain ⟨_, _, _, _, o, _, _, e, ex, _⟩ := I.hok p _ hk
          exact ⟨o, e, ex⟩
      obtain ⟨o, e, ex⟩ := z
      refine ⟨⟨o, e, ex.1⟩, fun a e2 => ?_⟩
      cases e2
      exact ⟨o, e, ex.2.1⟩
    · obtain ⟨o, _, _, _, e, ex, _⟩ := I.hok p _ hk
      refine ⟨⟨o, e, ex.1⟩, fun a e2 => ?_⟩
      cases e2
      exact ⟨o, e, ex.2.1⟩
  | _ => exact False.elim ty
def tBM0 (K : PySem.W.Frag) (T : String) (r : V → List V → Hp → VK → Prop) (to : TE) : TE := fun σ H Q => to σ H fun x H1 => tyV K T x H1 ∧ r x [] H1 Q
def tBM (K : PySem.W.Frag) (T : String) (r : V → List V → Hp → VK → Prop) (to : TE) (t : TA) : TE := fun σ H Q => to σ H fun x H1 => tyV K T x H1 ∧ t σ H1 fun xs H2 => r x xs H2 Q
variable {o e : Expr} {es : List Expr} {to : TE} {t : TA} {name : Str} {apos cpos : Pos} {T id : String} {r : V → List V → Hp → VK → Prop}
theorem pe_bm (pa : PlainAttrs T) (slot : Slot T name id) (hty : typeOf (.builtin id) = pure (.type "method_descriptor")) (hm : MtR X id r) (ho : PE X o to) (ha : PA X (e :: es) t)
    (hbase : attributeBase o name X.env (eval o X.env) = eval o X.env := by rfl)
    (hfew : ((backTo cpos (starEach (e :: es) X.env)).all (fun x => !x.1) && (backToKw cpos (keywordEach [] X.env)).all (fun x => x.1.isSome)
      && decide ((e :: es).length + ([] : List Keyword).length + (if ([] : List Keyword).isEmpty then 0 else 1) < 30)) = true := by rfl)
    (hline : (apos.endLine == cpos.line) = true := by rfl) (hs : starEach (e :: es) X.env = (false, eval e X.env) :: starEach es X.env := by rfl) (hplain : (backTo cpos (starEach es X.env)).any (·.1) = false := by rfl) :
    PE X (.Call (.Attribute o name apos) (e :: es) [] cpos) (tBM X.K T r to t) := by
  refine .mk ?_
  intro pins s σ H Q I h
  refine wpAny_Call_method_late hbase hfew hline rfl (thn (ho pins s σ H _ I h) fun v s1 hZ9 => ?_)
  obtain ⟨x, H1, I1, r1, ty, q1⟩ := hZ9
  obtain ⟨h1, h2⟩ := tyV_is I1 r1 ty
  refine ⟨T, id, pa, slot, hty, h1, h2, ?_⟩
  have hA := ha cpos pins s1 σ H1 _ I1 q1
  rw [hs] at hA ⊢
  refine Calls.callWith_builtin (by show (false || (backTo cpos (starEach es X.env)).any (·.1)) = false; rw [hplain] <;> rfl) (Calls.evalArgs_plain ?_)
  exact thn hA fun us s2 ⟨vs, H2, I2, r2, q2⟩ => hm pins s2 σ H2 x vs v us Q I2 r1 r2 q2
/- xs.append(e), list.index on a module's tuple .. are MtR facts of 06m -/
end
end L2

namespace L2
open PySem PySem.Spec PyProof.Rows

def MtM (X : Cx) (id : String) (r : V → List V → Hp → VK → Prop) : Prop :=
  ∀ (pins : List (Addr × Obj)) (s : Shared) (σ : St) (H : Hp) (x : V) (xs : List V) (v : Value) (us : List Value) (Q : VK), Inv X pins σ H s → RelV x v → Vals xs us → r x xs H Q →
    wpAny (model X.prog X.w) X.A (call (.builtin id) (v :: us)) (EP X pins σ Q) X.xe s

/-! ### lists of values -/
theorem Vals.one : ∀ {x : V} {us : List Value}, Vals [x] us → ∃ u, us = [u] ∧ RelV x u
  | _, _, .cons r .nil => ⟨_, rfl, r⟩
theorem Vals.rep {xs : List V} {us : List Value} (h : Vals xs us) : ∀ k : Nat, Vals (List.replicate k xs).flatten (List.replicate k us).flatten
  | 0 => .nil
  | k + 1 => by
    rw [List.replicate_succ, List.replicate_succ, List.flatten_cons, List.flatten_cons]
    exact Vals.append h (Vals.rep h k)
theorem foldl_rep (its : List Value) : ∀ (k : Nat) (acc : List Value),
    List.foldl (fun x1 x2 => x1 ++ x2) acc.toArray (List.replicate k its.toArray) = (acc ++ (List.replicate k its).flatten).toArray
  | 0, acc => by simp
  | k + 1, acc => by
    have e : acc.toArray ++ its.toArray = (acc ++ its).toArray := by simp
    have e2 : (acc ++ its) ++ (List.replicate k its).flatten = acc ++ (List.replicate (k + 1) its).flatten := by
      rw [List.replicate_succ, List.flatten_cons, List.append_assoc]
    rw [← e2, ← foldl_rep its k (acc ++ its), ← e, List.replicate_succ, List.foldl_cons]

section
variable {X : Cx} {pins : List (Addr × Obj)} {σ : St} {H : Hp} {s : Shared} {l b : Addr} {xs ys zs : List V}

/-! ### the two steps: a tracked list is rewritten, a new list is laid -/
theorem Inv.lset {its its' : List Value} {n : Nat} {f : Array Value → Array Value} {t' : Nat} (I : Inv X pins σ H s) (hH : H l = some (.lst xs))
    (e : s.heap.get? l = some { cls := .type "list", data := .seq its.toArray n }) (hf : f its.toArray = its'.toArray) (hv : Vals ys its') (hz : ys.length ≤ sizeLine) :
    Inv X pins σ (upd H l (.lst ys)) { s with heap := s.heap.update l (Obj.mapSeq f), toks := t' } := by
  have q := PySem.IsL.update e f
  rw [hf] at q
  refine I.write (x := l) (e := l) (by rw [hH]; exact trivial) (.inl rfl) (fun b' u hb hu => (Heap.get?_update_other s.heap (Obj.mapSeq f) (Ne.symm hb)).trans hu) ⟨_, q⟩ ?_
  exact ⟨hz, its', _, hv, q⟩
theorem Inv.lnew {its : List Value} {t' : Nat} (I : Inv X pins σ H s) (hv : Vals ys its) (hz : ys.length ≤ sizeLine) :
    Inv X pins σ (upd H s.heap.objs.size (.lst ys)) { s with heap := s.heap.push { cls := .type "list", data := .seq its.toArray }, toks := t' } :=
  I.laid (fun _ _ q => Heap.get?_push_of_some _ q) (Nat.le_refl _) ⟨hz, its, 0, hv, Heap.get?_push_size _ rfl⟩
theorem Inv.fresh (I : Inv X pins σ H s) : H s.heap.objs.size = none := I.hok.fresh (Nat.le_refl _)
theorem Inv.lstM (I : Inv X pins σ H s) (hH : H l = some (.lst xs)) : xs.length ≤ sizeLine ∧ ∃ (its : List Value) (n : Nat), Vals xs its ∧ xs.length = its.length ∧ s.heap.get? l = some { cls := .type "list", data := .seq its.toArray n } := by
  obtain ⟨z, its, n, r, e⟩ := I.hok l _ hH
  exact ⟨z, its, n, r, r.length, e⟩

theorem notLongL {n : Nat} (h : n ≤ sizeLine) : Builtin.List.listTooLong n = false := by
  unfold Builtin.List.listTooLong
  exact decide_eq_false (by omega)
end

section
variable {X : Cx}

/-! ### methods -/
def rAppend : V → List V → Hp → VK → Prop := fun x vs H Q => ∃ l xs y, x = .ref l ∧ vs = [y] ∧ H l = some (.lst xs) ∧ xs.length < sizeLine ∧ Q .non (upd H l (.lst (xs ++ [y])))
theorem mt_append : MtM X "list.append" rAppend := by
  intro pins s σ H x vs v us Q I rx rv h
  obtain ⟨l, xs, y, rfl, rfl, hH, hz, q⟩ := h
  cases rx
  obtain ⟨u, rfl, ru⟩ := rv.one
  obtain ⟨z, its, n, r, hl, e⟩ := I.lstM hH
  refine call_meets F.slot_list_append ⟨_, e, rfl⟩ F.entry_list_append (F.args_list_append_2 _ _) (PySem.list_append l its.toArray n u (by rw [List.size_toArray]; omega)) ⟨e, ?_⟩
  refine ⟨.non, _, I.lset (its' := its ++ [u]) hH e (by simp) (r.append (.cons ru .nil)) ?_, rfl, q⟩
  rw [List.length_append, List.length_singleton]
  omega

def rExtend : V → List V → Hp → VK → Prop := fun x vs H Q => ∃ l b xs zs, x = .ref l ∧ vs = [.ref b] ∧ H l = some (.lst xs) ∧ H b = some (.lst zs) ∧ xs.length + zs.length ≤ sizeLine ∧ Q .non (upd H l (.lst (xs ++ zs)))
theorem mt_extend : MtM X "list.extend" rExtend := by
  intro pins s σ H x vs v us Q I rx rv h
  obtain ⟨l, b, xs, zs, rfl, rfl, hH, hB, hz, q⟩ := h
  cases rx
  obtain ⟨u, rfl, ru⟩ := rv.one
  cases ru
  obtain ⟨z, its, n, r, hl, e⟩ := I.lstM hH
  obtain ⟨z2, its2, n2, r2, hl2, e2⟩ := I.lstM hB
  have hsz : its.toArray.size + its2.toArray.size ≤ sizeLine := by rw [List.size_toArray, List.size_toArray]; omega
  have hlong : ¬ (!its.toArray.isEmpty && Builtin.List.listTooLong (its.toArray.size + its2.toArray.size)) = true := by
    rw [notLongL hsz, Bool.and_false]
    exact Bool.false_ne_true
  refine call_meets F.slot_list_extend ⟨_, e, rfl⟩ F.entry_list_extend (F.args_list_extend_2 _ _)
    (AutoSeq1.list_extend_list_list_0 l its.toArray n b its2.toArray n2 hlong (by rw [List.size_toArray]; omega) (by omega)) ⟨e, e2, ?_⟩
  refine ⟨.non, _, I.lset (its' := its ++ its2) hH e (by simp) (r.append r2) ?_, rfl, q⟩
  rw [List.length_append]
  omega

def rPop : V → List V → Hp → VK → Prop := fun x vs H Q => ∃ l xs y, x = .ref l ∧ vs = [] ∧ H l = some (.lst xs) ∧ xs[xs.length - 1]? = some y ∧ Q y (upd H l (.lst xs.dropLast))
def rPopAt : V → List V → Hp → VK → Prop := fun x vs H Q => ∃ l xs i k y, x = .ref l ∧ vs = [.int i] ∧ H l = some (.lst xs) ∧ -(2 ^ 63) ≤ i ∧ i < 2 ^ 63 ∧ seqIndex? i xs.length = some k ∧ xs[k]? = some y ∧ Q y (upd H l (.lst (xs.eraseIdx k)))
def rReverse : V → List V → Hp → VK → Prop := fun x vs H Q => ∃ l xs, x = .ref l ∧ vs = [] ∧ H l = some (.lst xs) ∧ Q .non (upd H l (.lst xs.reverse))
def rClear : V → List V → Hp → VK → Prop := fun x vs H Q => ∃ l xs, x = .ref l ∧ vs = [] ∧ H l = some (.lst xs) ∧ Q .non (upd H l (.lst []))
/-! ### list + list, list += list, list * int -/
def rCat : R2 := fun x y H Q => ∃ l b xs zs, x = .ref l ∧ y = .ref b ∧ H l = some (.lst xs) ∧ H b = some (.lst zs) ∧ xs.length + zs.length ≤ sizeLine ∧ ∀ p, H p = none → Q (.ref p) (upd H p (.lst (xs ++ zs)))
theorem op_cat : OpR X (binaryOp .Add) rCat := by
  intro pins s σ H x y v u Q I rx ry h
  obtain ⟨l, b, xs, zs, rfl, rfl, hH, hB, hz, q⟩ := h
  cases rx
  cases ry
  obtain ⟨z, its, n, r, hl, e⟩ := I.lstM hH
  obtain ⟨z2, its2, n2, r2, hl2, e2⟩ := I.lstM hB
  refine PySem.P.add_list e e2 ?_ (by rw [List.size_toArray, List.size_toArray]; omega)
  have ea : its.toArray ++ its2.toArray = (its ++ its2).toArray := by simp
  rw [ea]
  exact ⟨.ref _, _, I.lnew (t' := s.toks) (r.append r2) (by rw [List.length_append]; omega), rfl, q _ I.fresh⟩
/-- a list times an int (a negative one is nothing) -/
def rRep : R2 := fun x y H Q => ∃ l k xs, x = .ref l ∧ y = .int k ∧ H l = some (.lst xs) ∧ -(2 ^ 63) ≤ k ∧ k < 2 ^ 63 ∧ xs.length * k.toNat ≤ sizeLine ∧
  ∀ p, H p = none → Q (.ref p) (upd H p (.lst (List.replicate k.toNat xs).flatten))
theorem len_rep {α : Type} (xs : List α) (k : Nat) : (List.replicate k xs).flatten.length = k * xs.length := by
  induction k with
  | zero => simp
  | succ k ih => rw [List.replicate_succ, List.flatten_cons, List.length_append, ih, Nat.succ_mul, Nat.add_comm]
theorem op_rep : OpR X (binaryOp .Mult) rRep := by
  intro pins s σ H x y v u Q I rx ry h
  obtain ⟨l, k, xs, rfl, rfl, hH, h1, h2, hz, q⟩ := h
  cases rx
  obtain ⟨t, rfl⟩ := ry
  obtain ⟨z, its, n, r, hl, e⟩ := I.lstM hH
  have hlen : its.toArray.size * k.toNat ≤ sizeLine := by rw [List.size_toArray, ← hl]; exact hz
  have hcap : ¬ its.toArray.size * k.toNat > (2 ^ 63 - 1) / 8 := by
    have : (sizeLine : Nat) ≤ (2 ^ 63 - 1) / 8 := by decide
    omega
  have hfit : ¬ (!Builtin.List.listFitsIndex k) = true := by
    rw [fitsIndex_both h1 h2]
    exact Bool.false_ne_true
  have hlong : ¬ Builtin.List.listTooLong (its.toArray.size * k.toNat) = true := by
    rw [notLongL hlen]
    exact Bool.false_ne_true
  have hnew : List.foldl (fun x1 x2 => x1 ++ x2) #[] (List.replicate (if its.toArray.isEmpty = true then 0 else k.toNat) its.toArray) = (List.replicate k.toNat its).flatten.toArray := by
    have f0 : ∀ m : Nat, List.foldl (fun x1 x2 => x1 ++ x2) #[] (List.replicate m its.toArray) = (List.replicate m its).flatten.toArray := fun m => by
      have := foldl_rep its m []
      rw [List.nil_append] at this
      exact this
    rw [f0]
    cases its with
    | nil => simp
    | cons a r' => rw [if_neg (by simp)]
  refine wpAny_binaryOp_repeat_ref (T := "list") (U := "int") (by decide) ⟨_, e, rfl⟩ (fun s' => typeIs_int s' k t) noFill_list_mul F.fills_int_mul F.slot_int_rmul repeat_list F.slot_int_index.lookup
    (call_meets F.slot_int_rmul (typeIs_int s k t) F.entry_int_rmul (F.args_int_rmul_2 _ _) (int___rmul___int_list k t l its.toArray n)
      ⟨e, rfl, ⟨_, e, rfl⟩, call_meets F.slot_list_mul ⟨_, e, rfl⟩ F.entry_list_mul (F.args_list_mul_2 _ _) (AutoListH.list___mul___list_int_3 l its.toArray n k t hfit hcap hlong) ⟨e, ?_⟩⟩)
  rw [hnew]
  exact ⟨.ref _, _, I.lnew (t' := s.toks) (r.rep k.toNat) (by rw [len_rep, Nat.mul_comm]; exact hz), rfl, q _ I.fresh⟩

/-! ### del xs[i] -/
end

/-! ### xs[a:b] = ys -/
section
variable {prog : Program} {w : World} {A : Around} {E : Value → Shared → Prop} {s : Shared}
set_option maxRecDepth 100000 in
end

section
variable {X : Cx}
end
end L2

namespace Att
open PySem PySem.W PySem.Calls PyProof.Rows

/-! ### the script -/
theorem ints_of_wellAll {P : Params} {h : Heap} : ∀ (ns : List Int) (vs : List Value), WellAll P h vs (ns.map WData.int) → IntsAre vs ns := by
  intro ns
  induction ns with
  | nil =>
    intro vs w
    rw [List.map_nil] at w
    cases w
    exact .nil
  | cons n ns ih =>
    intro vs w
    rw [List.map_cons] at w
    cases w with
    | cons a b =>
      cases a
      exact .cons _ _ (ih _ b)

theorem script_of {l : OpenLaw} {n : Nat} (hn : l.most = some n) {P : Params} {h : Heap} {args : List WData} {vals : List Value}
    (hpre : l.row.toRowW.claim.pre args = true) (hwl : WellAll P h vals args) :
    ∃ a vs ns, vals = [Value.ref a] ∧ args = [WData.list (ns.map WData.int)] ∧ h.get? a = some { cls := .type "list", data := .seq vs.toArray } ∧ IntsAre vs ns ∧ ns.length ≤ n := by
  have hsh : WShape.hasAll [] args [.list .int] = true := (pre_splitW hpre).1
  have hc : l.pre.holds [] { args := args } = true := (pre_splitW hpre).2
  obtain ⟨d, r, rfl, h1, h2⟩ := hasAllW_cons hsh
  obtain rfl := hasAllW_nil h2
  obtain ⟨xs, rfl, h3⟩ := hasW_list h1
  obtain ⟨ns, rfl⟩ := items_int h3
  have hlen : ns.length ≤ n := by
    unfold OpenLaw.pre at hc
    have h4 : (WTm.not (.lt (.lit (.int (n : Int))) (.len (.arg 0)))).holds [] { args := [.list (ns.map .int)] } = true := by
      have h4 := (holds_andW hc).1
      rw [hn] at h4
      exact h4
    have h5 := condW_of h4 (w_not (w_lt w_lit (w_len_list (w_arg rfl))))
    rw [List.length_map] at h5
    refine Nat.le_of_not_lt fun q => ?_
    have q' : (n : Int) < ((ns.length : Nat) : Int) := by omega
    first
      | (rw [decide_eq_true q'] at h5; exact absurd h5 (by decide))
      | (simp at h5; omega)
  cases hwl with
  | cons w1 w2 =>
    cases w2
    cases w1 with
    | list ho hall => exact ⟨_, _, ns, rfl, rfl, ho, ints_of_wellAll ns _ hall, hlen⟩

theorem post_true (l : OpenLaw) (args : List WData) : l.row.toRowW.claim.post args (.bool true) args = true :=
  postW_of (r := l.row.toRowW) (X := (true == true))
    (show WShape.has [] (.bool true) .bool = true by first | rfl | decide | simp [WShape.has, WShape.arms, WShape.armsAll])
    (show (WTm.eq .res (.lit (.bool true))).value [] { args := args, res := some (.bool true), after := args } = some (.bool (true == true)) from w_eq_bool (w_res rfl) w_lit) rfl

/-! ### the attachment: holds_open's last premise (the goal 'hc' behind k_head) from a wpAny of the law's body -/
/-- the same from a codeAny of the CALL (for a layer whose function contracts speak of calls) -/
theorem attach_call {l : OpenLaw} {n : Nat} {q : Program} {loose : List Str} {XP : (Str → Option Value) → Heap → Prop} {YP : World → Heap → Prop} {d : DefRec}
    (hn : l.most = some n) (hdf : d.params.defaults = [])
    (call : ∀ (w : World) (s₀ s₁ : Shared) (mg mb : Str → Option Value) (fa : Addr) (o : Obj) (pm cd doc : Value) (a : Addr) (vs : List Value) (ns : List Int),
      Ground q loose [] XP w s₀ mg mb s₁.heap → YP w s₁.heap →
      s₁.heap.get? fa = some o → o.data = .func (docDef d.name d.params d.body d.scope pm cd doc) → s₁.heap.CodeRec cd d.name → mg d.name = some (.ref fa) →
      s₁.heap.get? a = some { cls := .type "list", data := .seq vs.toArray } → IntsAre vs ns → ns.length ≤ n → s₁.gens = #[] →
      codeAny (model l.prog w) callerA (.call (.ref fa) ⟨[.ref a], []⟩) (fun r s' => r = .ok (.ret (.bool true)) ∧ OldK s₁.heap s'.heap ∧ s'.os = s₁.os ∧ AllBare s'.gens) s₁) :
    WalkO q loose XP YP l.row.toRowW d [] (fun f vs => PySem.call f vs) := by
  intro w s₀ s₁ mg mb G Y fa o pm cd doc dV kV ho hd hcd hD hmg hg args vals as hpre hlay hrd hwl hlo
  obtain rfl : dV = .none := Dflts.none hD hdf
  obtain rfl : kV = .none := Dflts.noKw hD
  obtain ⟨a, vs, ns, rfl, rfl, hobj, hints, hlen⟩ := script_of hn hpre hwl
  refine enter_call (codeAny_mono (call w s₀ s₁ mg mb fa o pm cd doc a vs ns G Y ho (fd_plain hd) hcd hmg hobj hints hlen hg) fun r s' hq => ?_)
  obtain ⟨rfl, h2, h3, h4⟩ := hq
  exact ⟨.inl ⟨.bool true, .bool true, [], rfl, fun _ => rfl, .bool true, post_true l _, fun _ => ⟨List.Pairwise.nil, fun _ hm => (nomatch hm)⟩⟩, h2, h3, h4⟩

/-! ### rules over ANY heap (no ledger) from facts about the written part K: the library's own take a ledger (News) for what they write -/
section
variable {prog : Program} {w : World} {A : Around} {E : Value → Shared → Prop} {s : Shared} {K : Frag}

/-! the whole heap as the ledger: makes every rule that writes through a ledger a rule over any heap -/
def noObjs (h : Heap) : Heap := { h with objs := #[] }
def ledger (h : Heap) (L d : Addr) : List (Addr × Obj) := (List.range h.objs.size).filterMap fun a => if a = L ∨ a = d then none else (h.get? a).map fun o => (a, o)
end
end Att

namespace L2
open PySem PySem.Spec PyProof.Rows

theorem vals_ints : ∀ {vs : List Value} {ns : List Int}, IntsAre vs ns → Vals (ns.map V.int) vs
  | _, _, .nil => .nil
  | _, _, .cons n t h => .cons ⟨t, rfl⟩ (vals_ints h)

/-- nothing is tracked but the script, known to the object (or it is an object of the module) -/
def Only (H : Hp) : Prop := ∀ b, H b = none ∨ ∃ o xs, H b = some (.frz o (.lst xs))

/-- THE HEAD: the law's promise, at the heap behind the top. F, the promise of the law's def, may use that base is part of the heap (so K.In base, base.Ns mainGlobals mg stand in Mod) -/
theorem law_call {P : Program} {w : World} {K : PySem.W.Frag} {mg mb : Str → Option Value} {CX : CXT} {k : Nat} {fa a : Addr} {fd : FuncData} {x : Str} {sp : Sp} {s₁ : Shared} {vs : List Value} {ns : List Int}
    (KX : K.In s₁.heap) (hns : s₁.heap.Ns mainGlobals mg) (hb : s₁.heap.Ns builtinsNs mb) (hbb : ∀ x : Str, x ≠ "__name__" → mb x = bootBuiltins x) (hlim : s₁.heap.NoLimit) (hg : s₁.gens = #[])
    (ha : s₁.heap.get? a = some { cls := .type "list", data := .seq vs.toArray }) (hi : IntsAre vs ns) (hl : ns.length ≤ sizeLine) (hr : Room k callerA)
    (F : ∀ base : Heap, K.In base → base.Ns mainGlobals mg → FnOk P w K mg base CX k fa fd [x] sp) (hbind : ∀ (s : Shared) (u : Value), BindsTo s fd ⟨[u], []⟩ [(x, u)])
    (hsp : ∀ H : Hp, Only H → SqL K H a (ns.map V.int) → sp [.ref a] H (fun v _ => v = .bl true) fun _ _ _ => False)
    (hCX : ∀ H e s', CX [] H s₁ (fun _ _ _ => False) e s' → False) :
    codeAny (model P w) callerA (.call (.ref fa) ⟨[.ref a], []⟩) (fun r s' => r = .ok (.ret (.bool true)) ∧ OldK s₁.heap s'.heap ∧ s'.os = s₁.os ∧ AllBare s'.gens) s₁ := by
  have rv := vals_ints hi
  have lenV := hi.length
  -- from an abstract heap in which nothing but the script may be tracked
  have core : ∀ H : Hp, Only H → SqL K H a (ns.map V.int) → HOk P w H s₁.heap → (∀ b, H b ≠ none → b = a) → (H a ≠ none → K.lookup a = none) →
      codeAny (model P w) callerA (.call (.ref fa) ⟨[.ref a], []⟩) (fun r s' => r = .ok (.ret (.bool true)) ∧ OldK s₁.heap s'.heap ∧ s'.os = s₁.os ∧ AllBare s'.gens) s₁ := by
    intro H hO hS hok hA hK
    have base_of : ∀ {b : Addr} {o : Obj}, s₁.heap.get? b = some o → H b = none → (hidT s₁.heap H).get? b = some o := fun e n => hidT_get e n
    have noA : ∀ {b : Addr} {o : Obj} {es : Array DictEntry} {ep : Nat}, s₁.heap.get? b = some o → o.data = .dict es ep → H b = none := fun {b o es ep} e d => by
      cases q : H b with
      | none => rfl
      | some u =>
        have e' : b = a := hA b (by rw [q]; simp)
        subst e'
        rw [ha] at e; cases e
        have d' : Data.seq vs.toArray _ = Data.dict es ep := d
        cases d'
    have nsK : ∀ {b : Addr} {m : Str → Option Value}, s₁.heap.Ns b m → (hidT s₁.heap H).Ns b m := fun {b m} ⟨o, es, ep, e, d, r⟩ => ⟨o, es, ep, base_of e (noA e d), d, r⟩
    have hKb : K.In (hidT s₁.heap H) := fun b o e => base_of (KX b o e) (by
      cases q : H b with
      | none => rfl
      | some u =>
        have e' : b = a := hA b (by rw [q]; simp)
        subst e'
        rw [hK (by rw [q]; simp)] at e; cases e)
    have hM : Mod K mg (hidT s₁.heap H) := ⟨hKb, nsK hns, ⟨mb, nsK hb, hbb⟩, let ⟨mc, h1, h2⟩ := hlim; ⟨mc, nsK h1, h2⟩⟩
    have e0 : Env0 P w K mg (hidT s₁.heap H) callerA [] s₁ H := ⟨rfl, hM, fun b o e => of_hidT e, Nat.le_of_eq (hidT_size _ _), trivial, fun b hb => absurd (show b ∈ ([] : List Addr) from hb) (by simp), hok, .of_eq hg⟩
    refine codeAny_mono ((F _ hKb (nsK hns)).run callerA [] s₁ H ⟨[.ref a], []⟩ [.ref a] [.ref a] _ _ hr e0 (hbind s₁ (.ref a)) (.cons rfl .nil) (hsp H hO hS)) fun r s' h => ?_
    cases r with
    | error e => exact (hCX H e s' h).elim
    | ok fl =>
      cases fl with
      | next => exact False.elim h
      | brk => exact False.elim h
      | cont => exact False.elim h
      | ret u =>
        obtain ⟨v, H', os, bare, un, hok', r', q⟩ := h
        have q' : v = .bl true := q
        subst q'
        obtain rfl : u = Value.bool true := r'
        refine ⟨rfl, OldK.of_keep fun b o e => ?_, os, bare⟩
        cases q : H b with
        | none => exact un.keep b o e q (by intro z; exact absurd (show b ∈ ([] : List Addr) from z) (by simp)) (by simp)
        | some u =>
          rcases hO b with z | ⟨ob, xs, z⟩
          · rw [q] at z; cases z
          · have z2 := un.frzs b ob _ z
            obtain ⟨e1, _⟩ := hok b _ z
            obtain ⟨e2, _⟩ := hok' b _ z2
            rw [e] at e1; cases e1
            exact e2
  cases hk : K.lookup a with
  | some o =>
    -- the script is one of the module's own objects
    have e := KX a o hk
    rw [ha] at e
    cases e
    refine core (fun _ => none) (fun _ => .inl rfl) (.inr ⟨_, vs.toArray, _, hk, rfl, rfl, rfl, by rw [List.size_toArray, lenV]; exact hl, by simpa using rv⟩) (fun b u z => by have z' : (none : Option HO) = some u := z; cases z') (fun b z => absurd rfl z) fun z => absurd rfl z
  | none =>
    refine core (fun b => if b = a then some (.frz { cls := .type "list", data := .seq vs.toArray } (.lst (ns.map V.int))) else none) (fun b => ?_) (.inl (.inr ⟨{ cls := .type "list", data := .seq vs.toArray }, if_pos rfl⟩)) (fun b u z => ?_) (fun b z => ?_) fun _ => hk
    · by_cases hb : b = a
      · exact .inr ⟨_, _, if_pos hb⟩
      · exact .inl (if_neg hb)
    · by_cases hb : b = a
      · have z' := (if_pos hb).symm.trans z
        cases z'
        subst hb
        exact ⟨ha, by rw [List.length_map]; exact hl, vs, _, rv, ha⟩
      · have z' := (if_neg hb).symm.trans z
        cases z'
    · by_cases hb : b = a
      · exact hb
      · exact absurd (if_neg hb) z
end L2

namespace L2
open PySem PySem.Spec PyProof.Rows

abbrev KOf {K : PySem.W.Frag} {h : Heap} (_ : K.In h) : PySem.W.Frag := K

/-- the goal that k_head leaves (case hc), from the law's promise. F gives the function object fd (K's own) once, then the promise over every base -/
theorem walk_of {l : PySem.W.OpenLaw} {n k : Nat} {q : Program} {loose : List Str} {XP : (Str → Option Value) → Heap → Prop} {YP : World → Heap → Prop} {d : DefRec} {K : Params → PySem.W.Frag} {CX : World → CXT} {sp : World → Sp} {x : Str}
    (hn : l.most = some n) (hn2 : n ≤ sizeLine) (hdf : d.params.defaults = []) (hr : Room k callerA)
    (hY : ∀ (w : World) (h : Heap), YP w h → (K w.params).In h)
    (F : ∀ (w : World) (mg : Str → Option Value) (fa : Addr) (h : Heap), (K w.params).In h → h.Ns mainGlobals mg → mg d.name = some (.ref fa) →
      ∃ fd : FuncData, (∀ (s : Shared) (u : Value), BindsTo s fd ⟨[u], []⟩ [(x, u)]) ∧
        ∀ base : Heap, (K w.params).In base → base.Ns mainGlobals mg → FnOk l.prog w (K w.params) mg base (CX w) k fa fd [x] (sp w))
    (hsp : ∀ (w : World) (H : Hp) (a : Addr) (ns : List Int), ns.length ≤ n → Only H → SqL (K w.params) H a (ns.map V.int) → sp w [.ref a] H (fun v _ => v = .bl true) fun _ _ _ => False)
    (hCX : ∀ (w : World) (H : Hp) (s : Shared) (e : Value) (s' : Shared), CX w [] H s (fun _ _ _ => False) e s' → False) :
    PySem.W.WalkO q loose XP YP l.row.toRowW d [] (fun f vs => PySem.call f vs) := by
  refine Att.attach_call hn hdf fun w s₀ s₁ mg mb fa o pm cd doc a vs ns G Y ho hd hcd hmg hobj hints hlen hg => ?_
  have KX := hY w _ Y
  obtain ⟨fd, hb, hF⟩ := F w mg fa _ KX G.T.g hmg
  exact law_call KX G.T.g G.T.b G.T.builtins G.T.nolimit hg hobj hints (Nat.le_trans hlen hn2) hr hF hb (fun H hO hS => hsp w H a ns hlen hO hS) fun H e s' => hCX w H s₁ e s'
end L2

/- THE LAST THEOREM (shape; LID, My.* are yours):
   My.Adr: a structure of the addresses that your layer names (classes, functions); My.Txt K t: a structure (Prop) of the equations over K;
   My.txt_mk : {K} {implicit addresses ..} (e1 : nsIn K mainGlobals "law" = some (some (.ref f))) (e2 : K.lookup f = some ⟨oc, od, .func (fnOf "law" "law" params body scope dV kV doc pm an cdv ct), sl⟩) (e3 : codeIn K cdv "law" = true) .. : ∃ t, My.Txt K t

set_option maxRecDepth 100000 in
set_option maxHeartbeats 0 in
theorem PySem.Challenge.cw_LID_holds : PySem.Challenge.rw_LID.Holds := by
  w_on; o_law; k_head; (case hw => w_witness2)
  k_fill
  refine L2.walk_of (l := PySem.Challenge.rw_LID) (n := 63) (k := 40) (x := "script") (CX := fun w => ..) (sp := fun _ => My.sp_law) rfl (by decide) rfl ⟨rfl, by decide, by decide⟩ (fun w h Y => PySem.W.kIn_of Y) ?F ?S ?C
  case F =>
    intro w mg fa h KX G hmg
    have T : ∃ t, My.Txt (L2.KOf KX) t := by
      dsimp only [L2.KOf]                          -- K must stand as «<heap const> w.params» for k_is
      refine' My.txt_mk ?e1 ?e2 ?e3 ..
      (case e1 => PySem.W.k_is)                    -- in the order: a name -> its address -> its object -> its parts
      (case e2 => PySem.W.k_is)
      ..
    obtain ⟨t, T⟩ := T
    have e0 := hmg.symm.trans (PySem.W.mg_of KX G T.law)
    cases e0                                       -- fa is the law's own address
    exact ⟨_, fun s u => .of_eq rfl, fun base kb nb => My.law_fn T kb nb⟩     -- if «.of_eq rfl» comes too early: refine' ⟨_, ?b, fun base kb nb => My.law_fn T kb nb⟩; exact fun s u => .of_eq rfl
  case S => exact fun w H a ns hl hO hS => ..
  case C => exact ..
(the tactic k_is has no namespace: write k_is) -/

/-! SHORT WORDS over the layer: a def of the text, its body, what a loop and a test want. -/
namespace L2
open PySem PySem.Spec PyProof.Rows

/-! ### the text by places -/
/-- the j-th statement of a class's body -/
def inClass (s : Stmt) (j : Nat) : Stmt := match s with
  | .ClassDef _ _ _ body _ _ _ _ _ _ _ => body.getD j (.Pass ⟨0, 0, 0, 0⟩)
  | _ => .Pass ⟨0, 0, 0, 0⟩
def defArgs (s : Stmt) : Arguments := match s with
  | .FunctionDef _ a _ _ _ _ _ _ _ _ => a
  | _ => { posonlyargs := [], args := [], vararg := none, kwonlyargs := [], kw_defaults := [], kwarg := none, defaults := [] }
def defBody (s : Stmt) : List Stmt := match s with
  | .FunctionDef _ _ b _ _ _ _ _ _ _ => b
  | _ => []
def defScope (s : Stmt) : Scope := match s with
  | .FunctionDef _ _ _ _ _ _ sc _ _ _ => sc
  | _ => { kind := .function, names := [], isGenerator := false, isCoroutine := false }

/-! ### no exception leaves a def -/
abbrev CX0 : CXT := fun _ _ _ _ _ _ => False
abbrev E0 : XK := fun _ _ _ => False
theorem pass0 {X : Cx} : Passes CX0 X E0 := fun _ _ _ _ _ _ _ h => h.elim

/-! ### a def (or method) of the text as it stands behind the top -/
structure Fun (K : PySem.W.Frag) (x qual : Str) (st : Stmt) (f : Addr) (fd : FuncData) : Prop where
  ex : ∃ (oc : Value) (od : Option Addr) (kV doc pm : Value) (an : Option Addr) (cdv ct : Value) (osl : Array (Option Value)),
    fd = PySem.W.fnOf x qual (defArgs st) (defBody st) (defScope st) .none kV doc pm an cdv ct ∧ K.lookup f = some ⟨oc, od, .func fd, osl⟩ ∧ PySem.W.codeIn K cdv qual = true
  kp : PySem.W.keepIn K (.ref f) = true
section
variable {P : Program} {w : World} {K : PySem.W.Frag} {mg : Str → Option Value} {base : Heap}
/-- THE RULE for a def: its body as a term of rules, and the reading of that term -/
theorem Fun.ok {x qual : Str} {st : Stmt} {f : Addr} {fd : FuncData} {N ps : List Str} {k : Nat} {sp : Sp} (F : Fun K x qual st f fd) (S : FnScope N ps (defScope st)) (len : ∀ vs H Q E, sp vs H Q E → vs.length = ps.length)
    (hbody : ∀ (cdv : Value) (A : Around) (outer : List Env) (s : Shared) (H : Hp) (vs : List V) (Q : VK) (E : XK), Room k (A.deeper (envOfC qual (defScope st) s.heap.objs.size f cdv)) → sp vs H Q E →
      ∃ t, PSs (cxOf CX0 P w K mg base N qual (defScope st) f cdv A outer s H E).nox (defBody st) t ∧ t { nx := fun _ H' => Q .non H', rt := Q } (start N vs) H) : FnOk P w K mg base CX0 (k + 1) f fd ps sp := by
  obtain ⟨oc, od, kV, doc, pm, an, cdv, ct, osl, rfl, lk, hcd⟩ := F.ex
  refine fn_of lk hcd S len fun A outer s H vs Q E hr hsp => ?_
  obtain ⟨t, h, q⟩ := hbody cdv A outer s H vs Q E hr hsp
  exact ⟨t, h.nox, q⟩
/-- how its arguments bind (no defaults): h is «fun _ _ _ _ _ _ us hl => match us, hl with | [_, _], _ => rfl», one _ a parameter -/
theorem Fun.binds {x qual : Str} {st : Stmt} {f : Addr} {fd : FuncData} {ps : List Str} (F : Fun K x qual st f fd)
    (h : ∀ (kV doc pm : Value) (an : Option Addr) (cdv ct : Value) (us : List Value), us.length = ps.length → bindArgs (PySem.W.fnOf x qual (defArgs st) (defBody st) (defScope st) .none kV doc pm an cdv ct) ⟨us, []⟩ = pure (ps.zip us)) : Binds K fd ps [] := by
  obtain ⟨oc, od, kV, doc, pm, an, cdv, ct, osl, rfl, lk, hcd⟩ := F.ex
  exact .all (h kV doc pm an cdv ct)
theorem fun_mk {x qual : Str} {st : Stmt} {f : Addr} {oc : Value} {od an : Option Addr} {osl : Array (Option Value)} {kV doc pm cdv ct : Value} (l : K.lookup f = some ⟨oc, od, .func (PySem.W.fnOf x qual (defArgs st) (defBody st) (defScope st) .none kV doc pm an cdv ct), osl⟩)
    (c : PySem.W.codeIn K cdv qual = true) (k : PySem.W.keepIn K (.ref f) = true) : Fun K x qual st f (PySem.W.fnOf x qual (defArgs st) (defBody st) (defScope st) .none kV doc pm an cdv ct) := ⟨⟨oc, od, kV, doc, pm, an, cdv, ct, osl, rfl, l, c⟩, k⟩
end
theorem hu_of {A : Around} {k : Nat} (hr : Room k A) : A.units + 1 < cLine := Nat.lt_of_le_of_lt (Nat.add_le_add_left (by decide : 1 ≤ 64) _) hr.units
theorem small1000 {n : Nat} (h : n ≤ 1000) : n < sizeLine := Nat.lt_of_le_of_lt h (by decide)

/-! ### expressions in short: the name that stands in the i-th slot -/
section
variable {X : Cx}
theorem pv (i : Nat) {x : Str} {pos : Pos} (hN : X.N[i]? = some x := by rfl) (hv : Vis X.env.scope x := by first | exact Or.inl rfl | exact Or.inr (Or.inl rfl) | exact Or.inr (Or.inr rfl)) (hd : (x == ("__debug__" : Str)) = false := by decide)
    (hcd : (x == ("__classdict__" : Str)) = false := by decide) : PE X (.Name x pos) (tVar i) := pe_var hN hv hd hcd
end

/-! ### tests -/
theorem iteF {A B : Prop} (h : B) : if false = true then A else B := by
  rw [if_neg Bool.false_ne_true]
  exact h
theorem iteT {A B : Prop} (h : A) : if true = true then A else B := by
  rw [if_pos rfl]
  exact h
/-! ### heaps -/
/-- all that was tracked is as it was -/
def Same (H H' : Hp) : Prop := ∀ b o, H b = some o → H' b = some o
theorem Same.refl (H : Hp) : Same H H := fun _ _ h => h
theorem Same.trans {H H1 H2 : Hp} (a : Same H H1) (b : Same H1 H2) : Same H H2 := fun c o h => b c o (a c o h)
theorem Same.free {H H' : Hp} (e : Same H H') {l : Addr} (h : H' l = Option.none) : H l = Option.none := by
  cases q : H l with
  | none => rfl
  | some o =>
    rw [e l o q] at h
    cases h
theorem Same.seq {K : PySem.W.Frag} {H H' : Hp} {a : Addr} {xs : List V} (e : Same H H') (h : SqL K H a xs) : SqL K H' a xs := by
  rcases h with (h | ⟨o, h⟩) | h
  · exact .inl (.inl (e _ _ h))
  · exact .inl (.inr ⟨o, e _ _ h⟩)
  · exact .inr h

end L2

set_option Elab.async false
set_option linter.all false
set_option maxRecDepth 100000
set_option maxHeartbeats 1000000
namespace L2
open PySem PySem.Spec PyProof.Rows

section
variable {prog : Program} {w : World} {A : Around} {R : Result → Shared → Prop} {s : Shared}
end

/-! ### the closure of a block -/
def closGo (cells : List (Str × Addr)) : List (Str × NameKind) → List (Str × Addr) → List (Str × Addr)
  | [], cs => cs
  | (n, k) :: r, cs => closGo cells r (if (k == .free) = true then (match cells.lookup n with | some c => (n, c) :: cs | none => cs) else cs)
theorem closGo_mem {cells : List (Str × Addr)} : ∀ {names : List (Str × NameKind)} {cs : List (Str × Addr)}, (∀ p ∈ cs, cells.lookup p.1 = some p.2) → ∀ p ∈ closGo cells names cs, cells.lookup p.1 = some p.2
  | [], _, h => h
  | (n, k) :: r, cs, h => by
    unfold closGo
    refine closGo_mem (names := r) fun p hp => ?_
    split at hp
    · cases e : cells.lookup n with
      | none => rw [e] at hp; exact h p hp
      | some c =>
        rw [e] at hp
        rcases List.mem_cons.mp hp with rfl | hp
        · exact e
        · exact h p hp
    · exact h p hp
theorem closGo_keep {cells : List (Str × Addr)} {q : Str × Addr} : ∀ {names : List (Str × NameKind)} {cs : List (Str × Addr)}, q ∈ cs → q ∈ closGo cells names cs
  | [], _, h => h
  | (n, k) :: r, cs, h => by
    unfold closGo
    refine closGo_keep (names := r) ?_
    split
    · cases e : cells.lookup n with
      | none => exact h
      | some c => exact List.mem_cons_of_mem _ h
    · exact h
theorem closGo_has {cells : List (Str × Addr)} {x : Str} {c : Addr} (e : cells.lookup x = some c) : ∀ {names : List (Str × NameKind)} {cs : List (Str × Addr)}, (x, NameKind.free) ∈ names → (x, c) ∈ closGo cells names cs
  | [], _, h => nomatch h
  | (n, k) :: r, cs, h => by
    unfold closGo
    rcases List.mem_cons.mp h with h | h
    · cases h
      rw [if_pos (by rfl), e]
      exact closGo_keep List.mem_cons_self
    · exact closGo_has e h
theorem closureFor_go {env : Env} : ∀ (names : List (Str × NameKind)) (cs : List (Str × Addr)), (∀ y ∈ names, y.2 = .free → ∃ c, env.cells.lookup y.1 = some c) →
    (forIn names cs fun (x : Str × NameKind) (r : List (Str × Addr)) => (if (x.2 == NameKind.free) = true then do let a ← cellOf env x.1; pure (ForInStep.yield ((x.1, a) :: r)) else pure (ForInStep.yield r) : Sem _)) = pure (closGo env.cells names cs)
  | [], cs, _ => rfl
  | (n, k) :: r, cs, h => by
    rw [List.forIn_cons]
    unfold closGo
    by_cases hk : (k == NameKind.free) = true
    · obtain ⟨c, e⟩ := h (n, k) List.mem_cons_self (by simpa using hk)
      have e' : env.cells.lookup n = some c := e
      simp only [hk, if_true, cellOf, e']
      exact closureFor_go r _ fun y hy => h y (List.mem_cons_of_mem _ hy)
    · simp only [hk, if_false]
      exact closureFor_go r _ fun y hy => h y (List.mem_cons_of_mem _ hy)
theorem closureFor_is {scope : Scope} {env : Env} (h : ∀ y ∈ scope.names, y.2 = .free → ∃ c, env.cells.lookup y.1 = some c) : closureFor scope env = pure (closGo env.cells scope.names []) := by
  have q := closureFor_go (env := env) scope.names [] h
  unfold closureFor
  first
    | exact q
    | (rw [show (forIn scope.names ([] : List (Str × Addr)) _ : Sem _) = pure (closGo env.cells scope.names []) from q]; rfl)
    | (simp only [q]; rfl)
theorem lookup_of_mem {α : Type} {x : Str} {c : α} : ∀ {l : List (Str × α)}, (x, c) ∈ l → ∃ d, l.lookup x = some d
  | (n, d) :: r, h => by
    by_cases e : (x == n) = true
    · exact ⟨d, by rw [List.lookup_cons, e]⟩
    · have e' : (x == n) = false := by simpa using e
      rcases List.mem_cons.mp h with h | h
      · cases h; simp at e
      · obtain ⟨d', q⟩ := lookup_of_mem h
        exact ⟨d', by rw [List.lookup_cons, e']; exact q⟩
theorem relabel_free {env : Env} : ∀ {names : List (Str × NameKind)} {x : Str}, names.lookup x = some .free →
    (names.map fun (n, k) => if (k == NameKind.free && env.scope.kind == .function && env.kindOf n == some .cell) then (n, NameKind.cell) else (n, k)).lookup x = some .cell ∨
    (names.map fun (n, k) => if (k == NameKind.free && env.scope.kind == .function && env.kindOf n == some .cell) then (n, NameKind.cell) else (n, k)).lookup x = some .free
  | [], _, h => by simp at h
  | (n, k) :: r, x, h => by
    have ih := @relabel_free env r x
    simp only [List.map_cons]
    cases hx : x == n with
    | true =>
      simp only [List.lookup_cons, hx] at h
      cases h
      split
      · exact .inl (by simp [List.lookup_cons, hx])
      · exact .inr (by simp [List.lookup_cons, hx])
    | false =>
      simp only [List.lookup_cons, hx] at h
      split <;> simp only [List.lookup_cons, hx] <;> exact ih h
theorem relabel_has {env : Env} : ∀ {names : List (Str × NameKind)} {x : Str}, (∀ y ∈ names, y.2 ≠ .cell) →
    ((names.map fun (n, k) => if (k == NameKind.free && env.scope.kind == .function && env.kindOf n == some .cell) then (n, NameKind.cell) else (n, k)).lookup x = some .cell ∨
    (names.map fun (n, k) => if (k == NameKind.free && env.scope.kind == .function && env.kindOf n == some .cell) then (n, NameKind.cell) else (n, k)).lookup x = some .free) → (x, NameKind.free) ∈ names
  | [], _, _, h => by simp at h
  | (n, k) :: r, x, hc, h => by
    have ih := @relabel_has env r x fun y hy => hc y (List.mem_cons_of_mem _ hy)
    simp only [List.map_cons] at h
    have hkc : k ≠ .cell := hc (n, k) List.mem_cons_self
    cases hx : x == n with
    | true =>
      have e : x = n := by simpa using hx
      subst e
      split at h
      · rename_i q
        simp only [Bool.and_eq_true] at q
        have : k = .free := by simpa using q.1.1
        subst this
        exact List.mem_cons_self
      · simp only [List.lookup_cons, hx] at h
        rcases h with h | h
        · cases h; exact absurd rfl hkc
        · cases h; exact List.mem_cons_self
    | false =>
      split at h <;> simp only [List.lookup_cons, hx] at h <;> exact List.mem_cons_of_mem _ (ih h)

/-! ### a list comprehension -/
def compCx (X : Cx) (N' : List Str) (scope : Scope) (C : Addr) (s : Shared) (H : Hp) (fp : List Addr) : Cx where
  prog := X.prog
  w := X.w
  K := X.K
  mg := X.mg
  base := X.base
  A := X.A
  N := N'
  s₀ := s
  H₀ := H
  env := compEnvC scope (closGo X.env.cells scope.names []) C X.env
  outer := X.stack
  stack := X.stack
  ex := fp
  fn := fun _ => false
  calm := X.calm
  pn := []
  xe := fun _ _ => False

inductive Caps (X : Cx) (scope : Scope) : List Nat → List Str → Prop
  | nil : Caps X scope [] []
  | cons {j : Nat} {x : Str} {js : List Nat} {xs : List Str} : X.N[j]? = some x → scope.names.lookup x = some .free → (X.env.kindOf x = some .cell ∨ X.env.kindOf x = some .free) → Caps X scope js xs → Caps X scope (j :: js) (x :: xs)
theorem Caps.get {X : Cx} {scope : Scope} : ∀ {js : List Nat} {xs : List Str} {i : Nat} {x : Str}, Caps X scope js xs → xs[i]? = some x → ∃ j, js[i]? = some j ∧ X.N[j]? = some x ∧ scope.names.lookup x = some .free ∧ (X.env.kindOf x = some .cell ∨ X.env.kindOf x = some .free)
  | _, _, _, _, .nil, h => by simp at h
  | _, _, 0, _, .cons a b c _, h => by simp at h; subst h; exact ⟨_, rfl, a, b, c⟩
  | _, _, i + 1, x, .cons _ _ _ r, h => by
    obtain ⟨j, e, q⟩ := Caps.get (i := i) (x := x) r (by simpa using h)
    exact ⟨j, by simpa using e, q⟩
theorem Caps.length {X : Cx} {scope : Scope} : ∀ {js : List Nat} {xs : List Str}, Caps X scope js xs → js.length = xs.length
  | _, _, .nil => rfl
  | _, _, .cons _ _ _ r => by simp [Caps.length r]

/-- the block's own names are forgotten, the captured ones are those of the frame -/
def cap (σ : St) (own : Nat) (caps : List Nat) : St := List.replicate own none ++ caps.map fun j => (σ[j]?).getD none

structure PTs (X : Cx) (ifs : List Expr) (t : TT) : Prop where
  run : ∀ (pins : List (Addr × Obj)) (s : Shared) (σ : St) (H : Hp) (Q : Bool → Hp → Prop), Inv X pins σ H s → t σ H Q →
    wpAny (model X.prog X.w) X.A (forIn ifs true fun c r => if r = true then do let ok ← isTrue c X.env (eval c X.env); pure (ForInStep.yield ok) else pure (ForInStep.yield r)) (TP X pins σ Q) X.xe s
instance {X : Cx} {ifs : List Expr} {t : TT} : CoeFun (PTs X ifs t) (fun _ => ∀ (pins : List (Addr × Obj)) (s : Shared) (σ : St) (H : Hp) (Q : Bool → Hp → Prop), Inv X pins σ H s → t σ H Q →
    wpAny (model X.prog X.w) X.A (forIn ifs true fun c r => if r = true then do let ok ← isTrue c X.env (eval c X.env); pure (ForInStep.yield ok) else pure (ForInStep.yield r)) (TP X pins σ Q) X.xe s) := ⟨PTs.run⟩
def tTrue : TT := fun _ H Q => Q true H
theorem pts_nil {X : Cx} : PTs X [] tTrue := .mk <| fun _ _ _ H _ I h => wpAny_tests_nil ⟨H, I, h⟩
theorem pts_one {X : Cx} {c : Expr} {t : TT} (h : PT X c t) : PTs X [c] t := .mk <| fun pins s σ H Q I q => wpAny_tests_one (h pins s σ H Q I q)

/-- the target writes the block's own names alone -/
def GOwn (k : Nat) (g : TG) : Prop := ∀ v σ H Q, g v σ H Q → g v σ H fun σ2 H2 => Q σ2 H2 ∧ σ2.length = σ.length ∧ ∀ i, k ≤ i → σ2[i]? = σ[i]?
def GsOwn (k : Nat) (g : TGs) : Prop := ∀ v σ H Q, g v σ H Q → g v σ H fun σ2 H2 => Q σ2 H2 ∧ σ2.length = σ.length ∧ ∀ i, k ≤ i → σ2[i]? = σ[i]?
theorem gown_name {k i : Nat} (h : i < k) : GOwn k (gName i) := fun v σ H Q q => ⟨q, List.length_set .., fun j hj => List.getElem?_set_ne (Nat.ne_of_lt (Nat.lt_of_lt_of_le h hj))⟩
theorem gown_nil {k : Nat} : GsOwn k gNil := fun v σ H Q ⟨e, q⟩ => ⟨e, q, rfl, fun _ _ => rfl⟩
def GMono (g : TG) : Prop := ∀ v σ H (Q Q' : St → Hp → Prop), (∀ σ H, Q σ H → Q' σ H) → g v σ H Q → g v σ H Q'
theorem gmono_name {i : Nat} : GMono (gName i) := fun _ _ _ _ _ h q => h _ _ q
def GsMono (g : TGs) : Prop := ∀ v σ H (Q Q' : St → Hp → Prop), (∀ σ H, Q σ H → Q' σ H) → g v σ H Q → g v σ H Q'
theorem gmono_nil : GsMono gNil := fun _ _ _ _ _ h ⟨e, q⟩ => ⟨e, h _ _ q⟩
theorem gmono_cons {g : TG} {gs : TGs} (a : GMono g) (b : GsMono gs) : GsMono (gCons g gs) := fun _ _ _ _ _ h ⟨v, r, e, q⟩ => ⟨v, r, e, a _ _ _ _ _ (fun _ _ q => b _ _ _ _ _ h q) q⟩
theorem gown_cons {k : Nat} {g : TG} {gs : TGs} (m : GMono g) (m2 : GsMono gs) (a : GOwn k g) (b : GsOwn k gs) : GsOwn k (gCons g gs) := fun v σ H Q ⟨v0, r, e, q⟩ =>
  ⟨v0, r, e, m _ _ _ _ _ (fun σ2 H2 ⟨q2, l2, k2⟩ => m2 _ _ _ _ _ (fun σ3 H3 ⟨q3, l3, k3⟩ => ⟨q3, l3.trans l2, fun i hi => (k3 i hi).trans (k2 i hi)⟩) (b _ _ _ _ q2)) (a _ _ _ _ q)⟩
theorem gown_tup {K : PySem.W.Frag} {k n : Nat} {gs : TGs} (b : GsOwn k gs) : GOwn k (gTup K n gs) := fun v σ H Q ⟨a, xs, e, h, l, q⟩ => ⟨a, xs, e, h, l, b _ _ _ _ q⟩

theorem getElem_pre {α : Type} {l l' : List α} {i : Nat} : (l ++ l')[i]? = if i < l.length then l[i]? else l'[i - l.length]? := by
  by_cases h : i < l.length
  · rw [if_pos h, List.getElem?_append_left h]
  · rw [if_neg h, List.getElem?_append_right (Nat.le_of_not_lt h)]

section
variable {X : Cx} {tg iter elt : Expr} {ifs : List Expr} {scope : Scope} {pos : Pos} {own capN : List Str} {caps : List Nat} {g : TG} {tt : TT} {te : TE} {wi : TI}

/-- the gathered list is laid -/
def CEnd (Q : VK) (ys : List V) (H : Hp) : Prop := ∀ D, H D = none → Q (.ref D) (upd H D (.lst ys))
/-- W: the invariant by the turn, a measure and what has been gathered -/
def tComp (wi : TI) (own : Nat) (caps : List Nat) (g : TG) (tt : TT) (te : TE) : TE := fun σ H Q => wi σ H fun J H1 =>
  ∃ τ, τ = cap σ own caps ∧ ∃ W : Nat → Nat → List V → Hp → Prop, (∃ m, W 0 m [] H1) ∧ ∀ i m ys H, W i m ys H →
    (J.stop i H ∧ CEnd Q ys H) ∨
    (J.go i H ∧ ys.length < sizeLine ∧ ∃ N : List V → Hp → Prop, (∀ ys H, N ys H → ∃ m', m' < m ∧ W (i + 1) m' ys H) ∧ ∀ x H', J.yld i H x H' → g x τ H' fun τ2 H2 => tt τ2 H2 fun b H3 =>
      if b = true then te τ2 H3 fun y H4 => N (ys ++ [y]) H4 else N ys H3)

/-- an iterator's turns around A, where HP is true of the heap -/
structure TurnC (P : Program) (w : World) (K : PySem.W.Frag) (A : Around) (HP : Hp → Prop) (tg : Expr) (J : It) (fp : List Addr) (it : Addr) (tn : Nat → Heap → Prop) : Prop where
  obj : ∀ i h, tn i h → ∀ b ∈ fp, ∃ o, h.get? b = some o ∧ ∀ v, o.data ≠ .cell v
  keep : ∀ i h h', tn i h → (∀ b ∈ fp, ∀ o, h.get? b = some o → h'.get? b = some o) → tn i h'
  item : ∀ (X : Cx), X.prog = P → X.w = w → X.K = K → X.A = A → ∀ (i : Nat) (pins : List (Addr × Obj)) (s : Shared) (σ : St) (H : Hp) (E : Value → Shared → Prop), HP H → Inv X pins σ H s → (∀ b ∈ fp, FpOk X pins H b) → tn i s.heap → J.go i H →
    wpAny (model P w) A (pyNext (.ref it)) (fun r s1 => ∃ u, r = some u ∧
      wpAny (model P w) A (letOwnedTupleGo tg (.ref it) u) (fun _ s2 => ∃ x H', Inv X pins σ H' s2 ∧ RelV x u ∧ J.yld i H x H' ∧ tn (i + 1) s2.heap ∧ ∀ b ∈ fp, H' b = none) E s1) E s
  done : ∀ (X : Cx), X.prog = P → X.w = w → X.K = K → X.A = A → ∀ (i : Nat) (pins : List (Addr × Obj)) (s : Shared) (σ : St) (H : Hp) (E : Value → Shared → Prop), HP H → Inv X pins σ H s → (∀ b ∈ fp, FpOk X pins H b) → tn i s.heap → J.stop i H →
    wpAny (model P w) A (pyNext (.ref it)) (fun r s1 => r = none ∧ Inv X pins σ H s1) E s
  self : ∀ (i : Nat) (s : Shared) (Q : Value → Shared → Prop) (E : Value → Shared → Prop), tn i s.heap → Q (.ref it) s → wpAny (model P w) A (pyIter (.ref it)) Q E s
abbrev Cx.still (X : Cx) : Cx := { X with calm := true }
theorem Cx.Ok.still {X : Cx} (ok : X.Ok) (h : X.A.handled = none) : X.still.Ok :=
  ⟨ok.mod, ok.kind, ok.glob, ok.blt, ok.above, ok.inj, ok.has, ok.cab, fun _ => h, ok.frames, ok.stk, ok.exf, ok.bs, ok.bsz, ok.noex, ok.exfs, ok.funs, ok.frf⟩
theorem Inv.still {X : Cx} {pins : List (Addr × Obj)} {σ : St} {H : Hp} {s : Shared} (I : Inv X pins σ H s) (h : X.A.handled = none) : Inv X.still pins σ H s := ⟨I.ok.still h, I.os, I.bare, I.base, I.loc, I.cell, I.free, I.freeC, I.pin, I.hok, I.len⟩
theorem Inv.unstill {X : Cx} {pins : List (Addr × Obj)} {σ : St} {H : Hp} {s : Shared} (ok : X.Ok) (I : Inv X.still pins σ H s) : Inv X pins σ H s := ⟨ok, I.os, I.bare, I.base, I.loc, I.cell, I.free, I.freeC, I.pin, I.hok, I.len⟩
theorem TurnC.of {P : Program} {w : World} {K : PySem.W.Frag} {A : Around} {tg : Expr} {J : It} {fp : List Addr} {it : Addr} {tn : Nat → Heap → Prop} (T : Turn P w K tg J fp it tn) (h : A.handled = none) : TurnC P w K A (fun _ => True) tg J fp it tn where
  obj := T.obj
  keep := T.keep
  item := fun X h1 h2 h3 h4 i pins s σ H E _ I hf st hg => by
    subst h4
    exact thn (T.item X.still h1 h2 h3 rfl i pins s σ H E (I.still h) hf st hg) fun r s1 ⟨u, e, q⟩ => ⟨u, e, thn q fun _ s2 ⟨x, H', I', r'⟩ => ⟨x, H', I'.unstill I.ok, r'⟩⟩
  done := fun X h1 h2 h3 h4 i pins s σ H E _ I hf st hg => by
    subst h4
    exact thn (T.done X.still h1 h2 h3 rfl i pins s σ H E (I.still h) hf st hg) fun r s1 ⟨e, I'⟩ => ⟨e, I'.unstill I.ok⟩
  self := fun i s Q E st q => T.self A i s Q E st q
section
variable {prog : Program} {w : World} {A : Around} {R : Result → Shared → Prop} {s : Shared}
theorem compLoop_genE {elt target iter : Expr} {ifs : List Expr} {scope : Scope} {pos : Pos} {it acc : Value} {env : Env} (I : Nat → Shared → Prop) (Z : Value → Shared → Prop)
    (hZ : ∀ e s, Z e s → wpAny (model prog w) A (noteFrame e env) (fun _ s' => R (.error e) s') (fun e' s' => R (.error e') s') s)
    (turn : ∀ n s, I n s → wpAny (model prog w) A (pyNext it) (fun r s₁ => match r with
      | none => R (.ok .next) s₁
      | some v => wpAny (model prog w) A (letOwnedTupleGo target it v) (fun _ s₁' => wpAny (model prog w) A (assign target env v) (fun _ s₂ =>
          wpAny (model prog w) A (forIn ifs true fun c r => if r = true then do let ok ← isTrue c env (eval c env); pure (ForInStep.yield ok) else pure (ForInStep.yield r)) (fun ok s₃ =>
            if ok = true then wpAny (model prog w) A (eval elt env) (fun x s₄ =>
              wpAny (model prog w) A (call (.builtin "list.append") [acc, x]) (fun _ s₅ => ∃ m, m < n ∧ I m s₅) (fun _ _ => False) s₄) Z s₃
            else ∃ m, m < n ∧ I m s₃) (fun _ _ => False) s₂) (fun _ _ => False) s₁') (fun _ _ => False) s₁) (fun _ _ => False) s)
    (n : Nat) (h : I n s) :
    codeAny (model prog w) A (.compLoop (.ListComp elt [⟨target, iter, ifs, 0⟩] scope pos) 0 it acc env) R s := by
  refine codeAny_loop rfl I (fun n s hI => ?_) n h
  show wpAny _ A ((compTurn (.ListComp elt [⟨target, iter, ifs, 0⟩] scope pos) 0 it acc env).onRaise (fun x => do noteFrame x env; theTreesLotGoes x)) _ _ s
  refine wpAny_noted ?_
  rw [compTurn_list]
  refine wpAny_bind (wpAny_standAt (wpAny_bind (wpAny_mono (turn n s hI) (fun r s₁ h₁ => ?_) fun _ _ z => False.elim z)))
  cases r with
  | none => exact wpAny_pure h₁
  | some v =>
    refine wpAny_bind (wpAny_mono h₁ (fun _ s₁' h₁' => wpAny_bind (wpAny_mono h₁' (fun _ s₂ h₂ => wpAny_bind (wpAny_mono h₂ (fun ok s₃ h₃ => ?_) fun _ _ z => False.elim z)) fun _ _ z => False.elim z)) fun _ _ z => False.elim z)
    cases ok with
    | false => exact wpAny_pure ⟨rfl, h₃⟩
    | true =>
      exact wpAny_bind (wpAny_bind (wpAny_mono h₃ (fun x s₄ h₄ => wpAny_bind (wpAny_mono h₄ (fun _ s₅ h₅ => wpAny_pure (wpAny_pure ⟨rfl, h₅⟩)) fun _ _ z => False.elim z)) fun e s' z => hZ e s' z))
end
def compCxE (X : Cx) (N' : List Str) (scope : Scope) (C : Addr) (s : Shared) (H : Hp) (fp : List Addr) (xe : Value → Shared → Prop) : Cx := { compCx X N' scope C s H fp with xe := xe }
section
variable {X : Cx} {pins : List (Addr × Obj)} {τ : L2.St} {H4 : Hp} {s4 : Shared} {N' : List Str} {scope : Scope} {C : Addr} {s : Shared} {H : Hp} {fp : List Addr} {xe : Value → Shared → Prop}
theorem Inv.inE (I : Inv (compCx X N' scope C s H fp) pins τ H4 s4) (xe : Value → Shared → Prop) : Inv (compCxE X N' scope C s H fp xe) pins τ H4 s4 :=
  ⟨⟨I.ok.mod, I.ok.kind, I.ok.glob, I.ok.blt, I.ok.above, I.ok.inj, I.ok.has, I.ok.cab, I.ok.hd, I.ok.frames, I.ok.stk, I.ok.exf, I.ok.bs, I.ok.bsz, I.ok.noex, I.ok.exfs, I.ok.funs, I.ok.frf⟩, I.os, I.bare, I.base, I.loc, I.cell, I.free, I.freeC, I.pin, I.hok, I.len⟩
theorem Inv.outE (I : Inv (compCxE X N' scope C s H fp xe) pins τ H4 s4) : Inv (compCx X N' scope C s H fp) pins τ H4 s4 :=
  ⟨⟨I.ok.mod, I.ok.kind, I.ok.glob, I.ok.blt, I.ok.above, I.ok.inj, I.ok.has, I.ok.cab, I.ok.hd, I.ok.frames, I.ok.stk, I.ok.exf, I.ok.bs, I.ok.bsz, I.ok.noex, I.ok.exfs, I.ok.funs, I.ok.frf⟩, I.os, I.bare, I.base, I.loc, I.cell, I.free, I.freeC, I.pin, I.hok, I.len⟩
end
theorem comp_blockZ {it : Addr} {Z : Addr → Value → Shared → Prop} {fp : List Addr} {tn : Nat → Heap → Prop} {J : It} {pins : List (Addr × Obj)} {σ : St} {H : Hp} {s₂ : Shared} {E : Value → Shared → Prop} {RR : Value → Addr → Result → Shared → Prop} {Q : VK}
    {HP : Hp → Prop} (hkind : scope.kind = .function) (hcell : ∀ y ∈ scope.names, y.2 ≠ .cell) (hfree : ∀ y ∈ scope.names, y.2 = .free → ∃ c, X.env.cells.lookup y.1 = some c) (hcaps : Caps X scope caps capN)
    (hg : ∀ C s H fp, PG (compCx X (own ++ capN) scope C s H fp) tg g) (ht : ∀ C s H fp, PTs (compCx X (own ++ capN) scope C s H fp) ifs tt) (he : ∀ C, PE (compCxE X (own ++ capN) scope C s₂ H fp (Z C)) elt te) (hgo : GOwn own.length g)
    (I : Inv X pins σ H s₂) (T : TurnC X.prog X.w X.K X.A HP tg J fp it tn) (st : tn 0 s₂.heap) (hf : ∀ b ∈ fp, FpOk X pins H b)
    {W : Nat → Nat → List V → Hp → Prop} {m0 : Nat} (hw : ∀ i m ys H, W i m ys H → HP H) (w0 : W 0 m0 [] H)
    (turn : ∀ i m ys H, W i m ys H → (J.stop i H ∧ CEnd Q ys H) ∨
      (J.go i H ∧ ys.length < sizeLine ∧ ∃ N : List V → Hp → Prop, (∀ ys H, N ys H → ∃ m', m' < m ∧ W (i + 1) m' ys H) ∧ ∀ x H', J.yld i H x H' → g x (cap σ own.length caps) H' fun τ2 H2 => tt τ2 H2 fun b H3 =>
        if b = true then te τ2 H3 fun y H4 => N (ys ++ [y]) H4 else N ys H3))
    (hRE : ∀ C e s5 (cenv : Env), s₂.heap.objs.size ≤ C → Z C e s5 → cenv.frame = X.env.frame → wpAny (model X.prog X.w) X.A (noteFrame e cenv) (fun _ s6 => RR (.ref s₂.heap.objs.size) C (.error e) s6) (fun e' s6 => RR (.ref s₂.heap.objs.size) C (.error e') s6) s5)
    (hRR : ∀ D C m' H' s', Inv X pins σ H' s' → s'.heap.Ns C m' → H' C = none → s₂.heap.objs.size ≤ C → Q (.ref D) H' → RR (.ref D) C (.ok .next) s') :
    wpAny (model X.prog X.w) X.A (newList []) (fun acc s₃ => wpAny (model X.prog X.w) X.A (newFunctionEnv scope X.env.globals (closGo X.env.cells scope.names []) [] X.env.qual none .none (some X.env)) (fun cenv s₄ =>
      codeAny (model X.prog X.w) X.A (.compStart (.ListComp elt [⟨tg, iter, ifs, 0⟩] scope pos) 0 (.ref it) acc { cenv with scope := relabel scope X.env }) (RR acc cenv.locals) s₄) E s₃) E s₂ := by
  refine wpAny_newObj_type (wpAny_newFunctionEnv hcell (by intro y hy; simp at hy) (fun h₁ hns₁ hsb₁ => ?_) hkind)
  dsimp only at hns₁ hsb₁ ⊢
  generalize hH2 : s₂.heap.push { cls := .type "list", dict := none, data := .seq ([] : List Value).toArray } = H2 at hns₁ hsb₁ ⊢
  have hC : H2.objs.size = s₂.heap.objs.size + 1 := by rw [← hH2, Heap.size_push]
  have hDC : s₂.heap.objs.size ≠ H2.objs.size := by rw [hC]; exact Nat.ne_of_lt (Nat.lt_succ_self _)
  have hCle : s₂.heap.objs.size ≤ H2.objs.size := by rw [hC]; exact Nat.le_succ _
  have below : ∀ b, b < s₂.heap.objs.size → b ≠ H2.objs.size ∧ b ≠ s₂.heap.objs.size := fun b hb => ⟨by rw [hC]; exact Nat.ne_of_lt (Nat.lt_succ_of_lt hb), Nat.ne_of_lt hb⟩
  have old : ∀ b o, s₂.heap.get? b = some o → h₁.get? b = some o := fun b o e => hsb₁.extBut b o (below b (Heap.lt_size e)).1 (Heap.get?_push_of_some _ (hH2 ▸ Heap.get?_push_of_some _ e))
  have hacc : h₁.get? s₂.heap.objs.size = some { cls := .type "list", data := .seq ([] : List Value).toArray } := hsb₁.extBut _ _ hDC (Heap.get?_push_of_some _ (hH2 ▸ Heap.get?_push_size _ rfl))
  -- the block's context
  let Y : Cx := compCx X (own ++ capN) scope H2.objs.size s₂ H fp
  have clIn : ∀ x c, (closGo X.env.cells scope.names []).lookup x = some c → X.env.cells.lookup x = some c := fun x c e => closGo_mem (fun p hp => by simp at hp) (x, c) (PySem.mem_of_lookup e)
  have fpLt : ∀ b ∈ fp, b < s₂.heap.objs.size := fun b hb => by
    obtain ⟨o, e, _⟩ := T.obj 0 _ st b hb
    exact Heap.lt_size e
  have clLt : ∀ x c, X.env.cells.lookup x = some c → c < s₂.heap.objs.size := fun x c e => by
    obtain ⟨v, q⟩ := I.cell x c e
    exact q.lt
  have okY : Y.Ok := {
    mod := I.ok.mod
    kind := hkind
    glob := I.ok.glob
    blt := I.ok.blt
    above := hCle
    inj := fun x y c e1 e2 => I.ok.inj x y c (clIn x c e1) (clIn y c e2)
    has := fun x hx => by
      have hm := relabel_has (env := X.env) hcell hx
      obtain ⟨c, e⟩ := hfree _ hm rfl
      exact lookup_of_mem (closGo_has e hm)
    cab := fun x c hx => by cases hx
    hd := I.ok.hd
    frames := I.ok.frames
    stk := .inl rfl
    exf := fun b hb => ⟨(below b (fpLt b hb)).1, fun x c e => (hf b hb).2.2.2.2.1 x c (clIn x c e)⟩
    bs := I.bs
    bsz := Nat.le_trans I.ok.bsz I.sz
    noex := fun b o e hb => by
      rcases (hf b hb).2.2.2.1 with z | z
      · exact I.ok.noex b o e z
      · exact absurd (Nat.lt_of_lt_of_le (Heap.lt_size e) (Nat.le_trans I.ok.bsz z)) (Nat.lt_irrefl _)
    exfs := fun b hb z => by
      rcases List.mem_cons.mp (I.stkSub b z) with z | z
      · exact (hf b hb).2.1 z
      · exact (hf b hb).2.2.1 z
    funs := I.stack
    frf := I.stkFree }
  have lenτ : (cap σ own.length caps).length = (own ++ capN).length := by
    unfold cap
    simp [hcaps.length]
  have IY0 : Inv Y [] (cap σ own.length caps) H { s₂ with heap := h₁, toks := s₂.toks + ([] : List (Str × Value)).length } := {
    ok := okY
    os := rfl
    bare := I.bare
    base := Un.kept old
    loc := ⟨_, hns₁, fun i x v e1 e2 e3 => by
      have e1' : (own ++ capN)[i]? = some x := e1
      unfold cap at e2
      rw [getElem_pre] at e1' e2
      rw [List.length_replicate] at e2
      by_cases hi : i < own.length
      · rw [if_pos hi, List.getElem?_replicate] at e2
        split at e2 <;> cases e2
      · rw [if_neg hi] at e1' e2
        obtain ⟨j, hj, hN, hfr, hvis⟩ := hcaps.get e1'
        rw [List.getElem?_map, hj] at e2
        have e2' : (σ[j]?).getD none = some v := Option.some.inj e2
        have e2'' : σ[j]? = some (some v) := by
          cases q : σ[j]? with
          | none => rw [q] at e2'; cases e2'
          | some z => rw [q] at e2'; exact congrArg some e2'
        obtain ⟨m, hn, hl⟩ := I.loc
        obtain ⟨u, r, l⟩ := hl j x v hN e2'' (.inr hvis)
        refine ⟨u, r, .inr ⟨relabel_free (env := X.env) hfr, ?_⟩⟩
        obtain ⟨c, e⟩ := hfree (x, .free) (PySem.mem_of_lookup hfr) rfl
        obtain ⟨d, ed⟩ := lookup_of_mem (closGo_has (names := scope.names) (cs := []) e (PySem.mem_of_lookup hfr))
        have ed' := clIn x d ed
        refine ⟨d, ed, ?_⟩
        rcases l with ⟨lk, lm⟩ | ⟨lk, c', lc, lz⟩
        · rw [lk] at hvis
          rcases hvis with z | z <;> cases z
        · rw [ed'] at lc
          cases lc
          obtain ⟨o, ho, hd⟩ := lz
          exact ⟨o, old _ _ ho, hd⟩⟩
    cell := fun x c e => by
      obtain ⟨v, o, ho, hd⟩ := I.cell x c (clIn x c e)
      exact ⟨v, o, old _ _ ho, hd⟩
    free := I.hok.fresh hCle
    freeC := fun x c e => I.freeC x c (clIn x c e)
    pin := fun p hp => absurd (show p ∈ ([] : List (Addr × Obj)) from hp) (by simp)
    hok := I.hok.kept old
    len := lenτ }
  have loop : ∀ s₃ : Shared, s₃ = { s₂ with heap := h₁, toks := s₂.toks + ([] : List (Str × Value)).length } →
      codeAny (model X.prog X.w) X.A (.compLoop (.ListComp elt [⟨tg, iter, ifs, 0⟩] scope pos) 0 (.ref it) (.ref s₂.heap.objs.size) Y.env) (RR (.ref s₂.heap.objs.size) H2.objs.size) s₃ := by
    rintro s₃ rfl
    have fpOk : ∀ {H' : Hp} {o : Obj}, (∀ b ∈ fp, H' b = none) → ∀ b ∈ fp, FpOk Y [(s₂.heap.objs.size, o)] H' b := fun {H' o} hn b hb =>
      ⟨hn b hb, (below b (fpLt b hb)).1, okY.exfs b hb, .inl hb, fun x c e => (hf b hb).2.2.2.2.1 x c (clIn x c e), fun p hp => by
        have hp' : p ∈ [(s₂.heap.objs.size, o)] := hp
        rw [List.mem_singleton.mp hp']
        exact Ne.symm (below b (fpLt b hb)).2⟩
    have nfsD : s₂.heap.objs.size ∉ Y.fs := fun z => by
      rcases List.mem_cons.mp (I.stkSub _ z) with z | z
      · exact absurd I.lt (by rw [← z]; exact Nat.lt_irrefl _)
      · exact I.nofs (Nat.le_refl _) z
    have pinD : ∀ {pl : List (Addr × Obj)} {τ : St} {H' : Hp} {s' : Shared} {o : Obj}, Inv Y pl τ H' s' → s'.heap.get? s₂.heap.objs.size = some o → H' s₂.heap.objs.size = none → (∀ v, o.data ≠ .cell v) → Inv Y [(s₂.heap.objs.size, o)] τ H' s' := fun {pl τ H' s' o} J' e n d =>
      J'.pins_of fun p hp => by
        rw [List.mem_singleton.mp hp]
        exact ⟨e, n, hDC, nfsD, d⟩
    refine compLoop_genE (Z := Z H2.objs.size) (hZ := fun e s5 hz => hRE _ e s5 _ hCle hz rfl) (fun k s' => ∃ (i : Nat) (ys : List V) (its : List Value) (n : Nat) (H' : Hp), Inv Y [] (cap σ own.length caps) H' s' ∧ tn i s'.heap ∧ (∀ b ∈ fp, H' b = none) ∧ s'.heap.get? s₂.heap.objs.size = some { cls := .type "list", data := .seq its.toArray n } ∧
      H' s₂.heap.objs.size = none ∧ Vals ys its ∧ ys.length ≤ sizeLine ∧ W i k ys H') ?_ m0
      ⟨0, [], [], 0, H, IY0, T.keep 0 _ _ st fun b _ o e => old b o e, fun b hb => (hf b hb).1, hacc, I.hok.fresh (Nat.le_refl _), .nil, Nat.zero_le _, w0⟩
    rintro k s' ⟨i, ys, its, n, H', I', st', fr', hD, nD, rv, hz, w'⟩
    have IP := pinD I' hD nD (fun v q => by cases q)
    rcases turn i k ys H' w' with ⟨stop, q⟩ | ⟨go, hlt, N, hN, step⟩
    · -- the end
      refine thn (T.done Y rfl rfl rfl rfl i _ s' _ H' _ (hw i k ys H' w') IP (fpOk fr') st' stop) fun r s4 hZ9 => ?_
      obtain ⟨hr, I4⟩ := hZ9
      subst hr
      have pD := I4.pin (s₂.heap.objs.size, _) (List.mem_append_right _ (List.mem_singleton.mpr rfl))
      have eD : s4.heap.get? s₂.heap.objs.size = some { cls := .type "list", data := .seq its.toArray n } := pD.1
      have u : Un (frs X.stack) fp H H' s₂.heap s4.heap := I4.base
      have nT : ∀ b u', H' b = some u' → b ≠ s₂.heap.objs.size := fun b u' e => ne_of_none e nD
      have uD : Un (frs X.stack) fp H (upd H' s₂.heap.objs.size (.lst ys)) s₂.heap s4.heap := {
        keep := u.keep
        slot := u.slot
        free := fun b o e1 e2 e3 => by
          rw [upd_ne (below b (Heap.lt_size e1)).2]
          exact u.free b o e1 e2 e3
        there := u.there
        tups := fun b xs e => by
          have e' := u.tups b xs e
          rw [upd_ne (nT b _ e')]
          exact e'
        frzs := fun b o xs e => by
          have e' := u.frzs b o xs e
          rw [upd_ne (nT b _ e')]
          exact e'
        tbls := fun b ps e => by
          obtain ⟨more, e'⟩ := u.tbls b ps e
          exact ⟨more, by rw [upd_ne (nT b _ e')]; exact e'⟩ }
      have hokD : HOk X.prog X.w (upd H' s₂.heap.objs.size (.lst ys)) s4.heap := fun b o e => by
        by_cases hb : b = s₂.heap.objs.size
        · subst hb
          rw [upd_same] at e
          cases e
          exact ⟨hz, its, n, rv, eD⟩
        · rw [upd_ne hb] at e
          exact (I4.hok b o e).stay (fun c v _ q => q) (fun c q => by rw [upd_ne (nT c _ q)]; exact q) fun c xs q => by rw [upd_ne (nT c _ q)]; exact q
      have IX : Inv X pins σ (upd H' s₂.heap.objs.size (.lst ys)) s4 := I.call' (s' := s4) I4.os uD hokD I4.bare fun b hb => by
        obtain ⟨f0, f1, f2, f3, f4, f5⟩ := hf b hb
        exact ⟨f3, f1, f4, f5⟩
      obtain ⟨m', hn', _⟩ := I4.loc
      exact hRR _ _ m' _ _ IX hn' (by rw [upd_ne (Ne.symm hDC)]; exact I4.free) hCle (q _ nD)
    · -- a turn
      refine thn (T.item Y rfl rfl rfl rfl i _ s' _ H' _ (hw i k ys H' w') IP (fpOk fr') st' go) fun r s4 hZ9 => ?_
      obtain ⟨u, hr, h4⟩ := hZ9
      subst hr
      refine thn h4 fun _ s5 hZ9 => ?_
      obtain ⟨x, H5, I5, r5, y5, st5, fr5⟩ := hZ9
      have I5' := I5.pinned (fpOk fr5) (T.obj _ _ st5)
      refine thn (hg H2.objs.size s₂ H fp _ s5 _ H5 x u _ I5' r5 (hgo _ _ _ _ (step x H5 y5))) fun _ s6 hZ9 => ?_
      obtain ⟨τ6, H6, I6, q6, l6, k6⟩ := hZ9
      refine thn (ht H2.objs.size s₂ H fp _ s6 τ6 H6 _ I6 q6) fun b s7 hZ9 => ?_
      obtain ⟨H7, I7, q7⟩ := hZ9
      have back : ∀ {τ : St} (i' : Nat) (v : V), (∀ j, own.length ≤ j → τ[j]? = (cap σ own.length caps)[j]?) → (cap σ own.length caps)[i']? = some (some v) → τ[i']? = some (some v) := fun {τ} i' v hk e => by
        by_cases hi : i' < own.length
        · exfalso
          unfold cap at e
          rw [getElem_pre, List.length_replicate, if_pos hi, List.getElem?_replicate] at e
          split at e <;> cases e
        · rw [hk i' (Nat.le_of_not_lt hi)]
          exact e
      cases b with
      | false =>
        rw [if_neg Bool.false_ne_true] at q7 ⊢
        obtain ⟨m', hm, w7⟩ := hN _ _ q7
        have z := I7.pin (s₂.heap.objs.size, _) (List.mem_append_right _ (List.mem_append_left _ (List.mem_singleton.mpr rfl)))
        refine ⟨m', hm, i + 1, ys, its, n, H7, (I7.pins_of (pins' := []) fun p hp => by simp at hp).weak l6.symm fun i' v e => back i' v k6 e, T.keep _ _ _ st5 fun b hb o e => (I7.pin (b, o) (List.mem_append_right _ (List.mem_append_right _ (mem_pinsAt hb e)))).1, fun b hb => ?_, z.1, z.2.1, rv, hz, w7⟩
        obtain ⟨o, e, d⟩ := T.obj _ _ st5 b hb
        exact (I7.pin (b, o) (List.mem_append_right _ (List.mem_append_right _ (mem_pinsAt hb e)))).2.1
      | true =>
        rw [if_pos rfl] at q7 ⊢
        refine wpAny_mono (he H2.objs.size _ s7 τ6 H7 _ (I7.inE _) q7) (fun vy s8 hq8 => ?_) fun e s5 z => z
        obtain ⟨y, H8, I8, r8, q8⟩ := hq8
        have I8 := I8.outE
        obtain ⟨m', hm, w8⟩ := hN _ _ q8
        have z := I8.pin (s₂.heap.objs.size, _) (List.mem_append_right _ (List.mem_append_left _ (List.mem_singleton.mpr rfl)))
        have zD : s8.heap.get? s₂.heap.objs.size = some { cls := .type "list", data := .seq its.toArray n } := z.1
        have ln : its.length = ys.length := rv.length.symm
        refine append_at (hsz := by rw [List.size_toArray, ln]; exact hz) zD fun h9 hs9 hD9 => ?_
        have fpN : ∀ b ∈ fp, b ≠ s₂.heap.objs.size := fun b hb => (below b (fpLt b hb)).2
        have I9 : Inv Y [] τ6 H8 { s8 with heap := h9, toks := s8.toks } := (I8.pins_of (pins' := []) fun p hp => by simp at hp).turned (it := s₂.heap.objs.size) (fun b o hb e => hs9.extBut b o hb e) z.2.1 hDC (.inr (Nat.le_refl _)) (fun x c e => Nat.ne_of_lt (clLt x c (clIn x c e))) fun p hp => by
          have hp' : p ∈ ([] : List (Addr × Obj)) := hp
          simp at hp'
        refine ⟨m', hm, i + 1, ys ++ [y], its ++ [vy], n + 1, H8, I9.weak l6.symm fun i' v e => back i' v k6 e, T.keep _ _ _ st5 fun b hb o e => hs9.extBut b o (fpN b hb) (I8.pin (b, o) (List.mem_append_right _ (List.mem_append_right _ (mem_pinsAt hb e)))).1, fun b hb => ?_, ?_, z.2.1, rv.append (.cons r8 .nil), ?_, w8⟩
        · obtain ⟨o, e, d⟩ := T.obj _ _ st5 b hb
          exact (I8.pin (b, o) (List.mem_append_right _ (List.mem_append_right _ (mem_pinsAt hb e)))).2.1
        · rw [hD9, List.push_toArray]
        · rw [List.length_append, List.length_singleton]
          exact hlt
  exact codeAny_compStart_list (loop _ rfl) (T.self 0 _ _ _ (T.keep 0 _ _ st fun b _ o e => old b o e) (loop _ rfl))


/-- [elt for tg in a list if ..], elt may raise -/
theorem comp_block {it : Addr} {fp : List Addr} {tn : Nat → Heap → Prop} {J : It} {pins : List (Addr × Obj)} {σ : St} {H : Hp} {s₂ : Shared} {E : Value → Shared → Prop} {RR : Value → Addr → Result → Shared → Prop} {Q : VK}
    {HP : Hp → Prop} (hkind : scope.kind = .function) (hcell : ∀ y ∈ scope.names, y.2 ≠ .cell) (hfree : ∀ y ∈ scope.names, y.2 = .free → ∃ c, X.env.cells.lookup y.1 = some c) (hcaps : Caps X scope caps capN)
    (hg : ∀ C s H fp, PG (compCx X (own ++ capN) scope C s H fp) tg g) (ht : ∀ C s H fp, PTs (compCx X (own ++ capN) scope C s H fp) ifs tt) (he : ∀ C s H fp, PE (compCx X (own ++ capN) scope C s H fp) elt te) (hgo : GOwn own.length g)
    (I : Inv X pins σ H s₂) (T : TurnC X.prog X.w X.K X.A HP tg J fp it tn) (st : tn 0 s₂.heap) (hf : ∀ b ∈ fp, FpOk X pins H b)
    {W : Nat → Nat → List V → Hp → Prop} {m0 : Nat} (hw : ∀ i m ys H, W i m ys H → HP H) (w0 : W 0 m0 [] H)
    (turn : ∀ i m ys H, W i m ys H → (J.stop i H ∧ CEnd Q ys H) ∨
      (J.go i H ∧ ys.length < sizeLine ∧ ∃ N : List V → Hp → Prop, (∀ ys H, N ys H → ∃ m', m' < m ∧ W (i + 1) m' ys H) ∧ ∀ x H', J.yld i H x H' → g x (cap σ own.length caps) H' fun τ2 H2 => tt τ2 H2 fun b H3 =>
        if b = true then te τ2 H3 fun y H4 => N (ys ++ [y]) H4 else N ys H3))
    (hRR : ∀ D C m' H' s', Inv X pins σ H' s' → s'.heap.Ns C m' → H' C = none → s₂.heap.objs.size ≤ C → Q (.ref D) H' → RR (.ref D) C (.ok .next) s') :
    wpAny (model X.prog X.w) X.A (newList []) (fun acc s₃ => wpAny (model X.prog X.w) X.A (newFunctionEnv scope X.env.globals (closGo X.env.cells scope.names []) [] X.env.qual none .none (some X.env)) (fun cenv s₄ =>
      codeAny (model X.prog X.w) X.A (.compStart (.ListComp elt [⟨tg, iter, ifs, 0⟩] scope pos) 0 (.ref it) acc { cenv with scope := relabel scope X.env }) (RR acc cenv.locals) s₄) E s₃) E s₂ :=
  comp_blockZ (Z := fun _ _ _ => False) hkind hcell hfree hcaps hg ht (fun C => he C s₂ H fp) hgo I T st hf hw w0 turn (fun _ _ _ _ _ h _ => h.elim) hRR
theorem free_has {pins : List (Addr × Obj)} {σ : St} {H : Hp} {s : Shared} (I : Inv X pins σ H s) (hfr : (scope.names.all fun y => !(y.2 == .free) || X.env.kindOf y.1 == some .cell || X.env.kindOf y.1 == some .free) = true) :
    ∀ y ∈ scope.names, y.2 = .free → ∃ c, X.env.cells.lookup y.1 = some c := fun y hy e => by
  have q := List.all_eq_true.mp hfr y hy
  rw [e] at q
  refine I.ok.has y.1 ?_
  simpa using q
theorem all_nocell {names : List (Str × NameKind)} (h : (names.all fun y => !(y.2 == .cell)) = true) : ∀ y ∈ names, y.2 ≠ .cell := fun y hy => by
  have q := List.all_eq_true.mp h y hy
  simpa using q
theorem all_names {names : List (Str × NameKind)} (h : (names.all fun y => !(y.2 == .local) || names.lookup y.1 == some .local) = true) : ∀ y ∈ names, y.2 = .local → names.lookup y.1 = some .local := fun y hy e => by
  have q := List.all_eq_true.mp h y hy
  rw [e] at q
  simpa using q

/-- [elt for tg in iter if ..] -/
theorem pe_comp (own : List Str) (capN : List Str) (caps : List Nat) (hcaps : Caps X scope caps capN) (hc : X.calm = true) (hi : PI X tg iter wi)
    (hg : ∀ C s H fp, PG (compCx X (own ++ capN) scope C s H fp) tg g) (ht : ∀ C s H fp, PTs (compCx X (own ++ capN) scope C s H fp) ifs tt) (he : ∀ C s H fp, PE (compCx X (own ++ capN) scope C s H fp) elt te) (hgo : GOwn own.length g)
    (hk : scope.kind = .function := by rfl) (hcl : (scope.names.all fun y => !(y.2 == .cell)) = true := by rfl) (hnm : (scope.names.all fun y => !(y.2 == .local) || scope.names.lookup y.1 == some .local) = true := by rfl)
    (hfr : (scope.names.all fun y => !(y.2 == .free) || X.env.kindOf y.1 == some .cell || X.env.kindOf y.1 == some .free) = true := by rfl) (hs : ∀ x, foldedSetIterable iter X.env x = pure x := by intro _; rfl) :
    PE X (.ListComp elt [⟨tg, iter, ifs, 0⟩] scope pos) (tComp wi own.length caps g tt te) := by
  refine .mk ?_
  intro pins s σ H Q I h
  rw [eval_ListComp]
  have hfree := free_has I hfr
  refine wpAny_comprehension_free (use := none) rfl hs (closureFor_is hfree) hk (all_names hnm) (thn (hi pins s σ H _ I h) fun v s1 h1 => thn h1 fun itv s2 h2 => ?_)
  obtain ⟨it, fp, tn, J, H2, e, I2, T, st2, f2, τ, rfl, W, ⟨m0, w0⟩, turn⟩ := h2
  subst e
  refine comp_block (Q := Q) hk (all_nocell hcl) (free_has I2 hfr) hcaps hg ht he hgo I2 (TurnC.of T (I2.ok.hd hc)) st2 f2 (fun _ _ _ _ _ => trivial) w0 turn ?_
  intro D C m' H' s' IX hn nC hC q
  refine ⟨m', hn, fun h' hs' => ⟨.ref D, H', IX.turned (t' := s'.toks) (it := C) (fun b o hb e => hs'.extBut b o hb e) nC (Nat.ne_of_gt (Nat.lt_of_lt_of_le I2.lt hC)) (.inr (Nat.le_trans I2.sz hC)) (fun x c e => ?_) (fun p hp => ?_), rfl, q⟩⟩
  · obtain ⟨v, z⟩ := I2.cell x c e
    exact Nat.ne_of_lt (Nat.lt_of_lt_of_le z.lt hC)
  · exact Nat.ne_of_lt (Nat.lt_of_lt_of_le (Heap.lt_size (I2.pin p hp).1) hC)

/-- name = [elt for tg in iter if ..] where the stores are exchanged (the name is a plain local) -/
theorem ps_setc {i : Nat} {x : Str} {pos' spos : Pos} (own : List Str) (capN : List Str) (caps : List Nat) (hN : X.N.Nodup) (hix : X.N[i]? = some x) (hx : Loc X.env.scope x) (hcaps : Caps X scope caps capN) (hc : X.calm = true) (hi : PI X tg iter wi)
    (hg : ∀ C s H fp, PG (compCx X (own ++ capN) scope C s H fp) tg g) (ht : ∀ C s H fp, PTs (compCx X (own ++ capN) scope C s H fp) ifs tt) (he : ∀ C s H fp, PE (compCx X (own ++ capN) scope C s H fp) elt te) (hgo : GOwn own.length g)
    (hsw : swapsWith (.ListComp elt [⟨tg, iter, ifs, 0⟩] scope pos) (some (.Name x pos')) spos.line X.env = pure true := by rfl)
    (hk : scope.kind = .function := by rfl) (hcl : (scope.names.all fun y => !(y.2 == .cell)) = true := by rfl) (hnm : (scope.names.all fun y => !(y.2 == .local) || scope.names.lookup y.1 == some .local) = true := by rfl)
    (hfr : (scope.names.all fun y => !(y.2 == .free) || X.env.kindOf y.1 == some .cell || X.env.kindOf y.1 == some .free) = true := by rfl) (hs : ∀ x, foldedSetIterable iter X.env x = pure x := by intro _; rfl)
    (hf : X.fn x = true ∨ X.env.scope.names.lookup x = some .local := by first | exact .inl rfl | exact .inr rfl | assumption) :
    PS X (.Assign [.Name x pos'] (.ListComp elt [⟨tg, iter, ifs, 0⟩] scope pos) spos) (tAsg (tComp wi own.length caps g tt te) (gName i)) := by
  refine .mk ?_
  intro pins s σ H D I h
  rw [exec_Assign_Name_used _ _ _ _ hsw]
  refine wpAny_bind (wpAny_standAt (wpAny_bind ?_))
  have hfree := free_has I hfr
  show wpAny _ X.A (do let _ ← comprehension (.ListComp elt [⟨tg, iter, ifs, 0⟩] scope pos) scope X.env _ (newList []) false (eval iter X.env) (some (assign (.Name x pos') X.env))) _ _ s
  refine wpAny_bind (wpAny_mono (wpAny_comprehension_free (use := some (assign (.Name x pos') X.env)) (Q := fun _ s' => SP X pins D .next s') rfl hs (closureFor_is hfree) hk (all_names hnm)
    (thn (hi pins s σ H _ I h) fun v s1 h1 => thn h1 fun itv s2 h2 => ?_)) (fun _ s' hq => wpAny_pure (wpAny_pure hq)) fun _ _ e => e)
  obtain ⟨it, fp, tn, J, H2, e, I2, T, st2, f2, τ, rfl, W, ⟨m0, w0⟩, turn⟩ := h2
  subst e
  refine comp_block (Q := fun v H' => D.nx (σ.set i (some v)) H') hk (all_nocell hcl) (free_has I2 hfr) hcaps hg ht he hgo I2 (TurnC.of T (I2.ok.hd hc)) st2 f2 (fun _ _ _ _ _ => trivial) w0 turn ?_
  intro Da C m' H' s' IX hn nC hC q
  show wpAny _ X.A (assign (.Name x pos') X.env (.ref Da)) _ _ _
  have nL : C ≠ X.env.locals := Nat.ne_of_gt (Nat.lt_of_lt_of_le I2.lt hC)
  have nCl : ∀ x c, X.env.cells.lookup x = some c → c ≠ C := fun x c e => by
    obtain ⟨v, z⟩ := I2.cell x c e
    exact Nat.ne_of_lt (Nat.lt_of_lt_of_le z.lt hC)
  refine wpAny_assign_Name (store_ok2 IX hN hix hx (show RelV (.ref Da) (.ref Da) from rfl) (fun s'' I'' hch => ?_) hf)
  obtain ⟨a, hs1, ha⟩ := hch
  have nCa : C ≠ a := by
    rcases ha with e | e
    · rw [e]; exact nL
    · exact Ne.symm (nCl _ _ e)
  refine ⟨m', hn.sameBut hs1 nCa, fun h' hs' => ⟨_, H', I''.turned (t' := s''.toks) (it := C) (fun b o hb e => hs'.extBut b o hb e) nC nL (.inr (Nat.le_trans I2.sz hC)) nCl (fun p hp => ?_), q⟩⟩
  exact Nat.ne_of_lt (Nat.lt_of_lt_of_le (Heap.lt_size (I2.pin p hp).1) hC)
end
end L2

set_option Elab.async false
set_option linter.all false
set_option maxRecDepth 100000
set_option maxHeartbeats 1000000
namespace L2
open PySem PySem.Spec PyProof.Rows
section
variable {X : Cx} {pins : List (Addr × Obj)} {σ : St} {H : Hp} {s : Shared} {h' : Heap}
/-- some untracked records of ours have turned -/
theorem Inv.turnL {t' : Nat} {ch : List Addr} (I : Inv X pins σ H s) (k : ∀ b o, b ∉ ch → s.heap.get? b = some o → h'.get? b = some o) (hf : ∀ b ∈ ch, FpOk X pins H b) : Inv X pins σ H { s with heap := h', toks := t' } := by
  have nit : ∀ b u, H b = some u → b ∉ ch := fun b u e z => by rw [(hf b z).1] at e; cases e
  refine I.step (g' := s.gens) (d' := s.drawn) (ch := ch) (fun b hb => ?_) (fun b o _ _ hc e _ => k b o hc e) (fun b o _ _ hc e _ => ⟨o.slots, k b o hc e⟩) (fun _ _ _ _ n => n)
    (fun b o hc e => ⟨o, k b o hc e⟩) (fun _ _ e => e) (fun _ _ _ e => e) (fun b ps e => ⟨#[], by rw [e]; simp⟩) (fun m hm => ?_) (fun b u e => ?_) I.bare
  · obtain ⟨_, f1, _, f3, f4, f5⟩ := hf b hb
    exact ⟨f3, f1, f4, f5⟩
  · obtain ⟨o, es, ep, ho, r⟩ := hm
    exact ⟨o, es, ep, k _ o (fun z => (hf _ z).2.1 rfl) ho, r⟩
  · refine (I.hok b u e).stay (fun c v hc q => k c v ?_ q) (fun _ q => q) fun _ _ q => q
    rcases hc with z | z
    · rw [z]; exact nit b u e
    · exact nit c _ z
/-- .. and a new object is tracked -/
theorem Inv.turnLaid {t' : Nat} {ch : List Addr} {a : Addr} {o : HO} (I : Inv X pins σ H s) (k : ∀ b o, b ∉ ch → s.heap.get? b = some o → h'.get? b = some o) (hf : ∀ b ∈ ch, FpOk X pins H b) (hp : s.heap.objs.size ≤ a)
    (new : ObjOk X.prog X.w (upd H a o) h' a o) : Inv X pins σ (upd H a o) { s with heap := h', toks := t' } := by
  have nit : ∀ b u, H b = some u → b ∉ ch := fun b u e z => by rw [(hf b z).1] at e; cases e
  have hn := I.hok.fresh hp
  have ne : ∀ b u, H b = some u → b ≠ a := fun b u e => ne_of_none e hn
  refine I.step (g' := s.gens) (d' := s.drawn) (ch := ch) (fun b hb => ?_) (fun b o _ _ hc e _ => k b o hc e) (fun b o _ _ hc e _ => ⟨o.slots, k b o hc e⟩) (fun b _ _ e n => ?_)
    (fun b o hc e => ⟨o, k b o hc e⟩) (fun b _ e => by rw [upd_ne (ne b _ e)]; exact e) (fun b _ _ e => by rw [upd_ne (ne b _ e)]; exact e) (fun b ps e => ⟨#[], by rw [upd_ne (ne b _ e), e]; simp⟩) (fun m hm => ?_) (fun b u e => ?_) I.bare
  · obtain ⟨_, f1, _, f3, f4, f5⟩ := hf b hb
    exact ⟨f3, f1, f4, f5⟩
  · rw [upd_ne (Nat.ne_of_lt (Nat.lt_of_lt_of_le (Heap.lt_size e) hp))]
    exact n
  · obtain ⟨o, es, ep, ho, r⟩ := hm
    exact ⟨o, es, ep, k _ o (fun z => (hf _ z).2.1 rfl) ho, r⟩
  · by_cases hb : b = a
    · subst hb
      rw [upd_same] at e
      cases e
      exact new
    · rw [upd_ne hb] at e
      refine (I.hok b u e).stay (fun c v hc q => k c v ?_ q) (fun c q => by rw [upd_ne (ne c _ q)]; exact q) fun c xs q => by rw [upd_ne (ne c _ q)]; exact q
      rcases hc with z | z
      · rw [z]; exact nit b u e
      · exact nit c _ z
end

/-! ### enumerate over a list -/
def Ite (K : PySem.W.Frag) (a : Addr) : It :=
  ⟨fun i H => ∃ xs x, SqL K H a xs ∧ xs[i]? = some x, fun i H x H' => ∃ t y, x = .ref t ∧ H t = none ∧ H' = upd H t (.tup [.int i, y]) ∧ ∀ xs, SqL K H a xs → xs[i]? = some y, fun i H => ∃ xs, SqL K H a xs ∧ xs.length ≤ i⟩
theorem turn_enum {P : Program} {w : World} {K : PySem.W.Frag} {elts : List Expr} {tk : Nat} {tp : Pos} (a e it : Addr) (hne : e ≠ it) : Turn P w K (.Tuple elts tk tp) (Ite K a) [e, it] e (fun i h => (∃ old, IsEnum h e it i old) ∧ h.IsListIter it a i) where
  mem := by simp
  obj := fun i h st b hb => by
    obtain ⟨⟨old, he⟩, hit⟩ := st
    rcases List.mem_cons.mp hb with z | z
    · subst z
      exact ⟨_, he, fun v q => by cases q⟩
    · rw [List.mem_singleton.mp z]
      obtain ⟨o, q, c, d⟩ := hit
      exact ⟨o, q, fun v z => by rw [d] at z; cases z⟩
  keep := fun i h h' st k => by
    obtain ⟨⟨old, he⟩, hit⟩ := st
    exact ⟨⟨old, k e (by simp) _ he⟩, hit.at fun o q => k it (by simp) o q⟩
  item := by
    intro X hP hw hK hc i pins s σ H E I hf st hg
    subst hP hw hK
    obtain ⟨⟨old, he⟩, hit⟩ := st
    obtain ⟨xs, x, hq, hx⟩ := hg
    obtain ⟨its, rv, p, hz⟩ := I.list hq
    obtain ⟨u, hu, ru⟩ := rv.get hx
    refine wpAny_pyNext_enum_item he hit p.isList (x := u) (by simpa using hu) hne fun h1 ho hit1 hT hsz hk => ?_
    have hn := I.hok.fresh (Nat.le_refl _)
    have I1 : Inv X pins σ (upd H s.heap.objs.size (.tup [.int i, x])) { s with heap := h1, toks := s.toks + 1 } :=
      I.turnLaid (ch := [e, it]) (fun b o hb q => hk b o (fun z => hb (by simp [z])) (fun z => hb (by simp [z])) q) hf (Nat.le_refl _)
        ⟨by show 2 ≤ sizeLine; decide, [.int i s.toks, u], .cons ⟨_, rfl⟩ (.cons ru .nil), _, hT, rfl, _, rfl⟩
    have fr1 : ∀ b ∈ [e, it], b ≠ s.heap.objs.size := fun b hb => by
      have : b < s.heap.objs.size := by
        rcases List.mem_cons.mp hb with z | z
        · rw [z]; exact Heap.lt_size he
        · rw [List.mem_singleton.mp z]
          obtain ⟨o, q, _⟩ := hit
          exact Heap.lt_size q
      exact Nat.ne_of_lt this
    have hf1 : ∀ b ∈ [e, it], FpOk X pins (upd H s.heap.objs.size (.tup [.int i, x])) b := fun b hb => ⟨by rw [upd_ne (fr1 b hb)]; exact (hf b hb).1, (hf b hb).2⟩
    refine ⟨_, rfl, wpAny_letOwnedTupleGo_enum (s := { s with heap := h1, toks := s.toks + 1 }) ho fun h2 he2 hs2 => ?_⟩
    refine ⟨.ref s.heap.objs.size, _, I1.turnL (ch := [e]) (t' := s.toks + 1) (fun b o hb q => hs2.extBut b o (fun z => hb (by simp [z])) q) (fun b hb => hf1 b (by rw [List.mem_singleton.mp hb]; simp)), rfl, ⟨_, x, rfl, hn, rfl, fun ys hy => by rw [I.list_inj hy hq]; exact hx⟩, ⟨⟨u, by simpa using he2⟩, ?_⟩, fun b hb => (hf1 b hb).1⟩
    exact hit1.at fun o q => hs2.extBut _ _ (Ne.symm hne) q
  done := by
    intro X hP hw hK hc i pins s σ H E I hf st hg
    subst hP hw hK
    obtain ⟨⟨old, he⟩, hit⟩ := st
    obtain ⟨xs, hq, hx⟩ := hg
    obtain ⟨its, rv, p, hz⟩ := I.list hq
    have hl := rv.length
    exact wpAny_pyNext_enum_end (I.ok.hd hc) he hit p.isList (by simp; omega) fun h' eb => ⟨rfl, I.turnL (ch := [it]) (t' := s.toks) (fun b o hb q => eb b o (fun z => hb (by simp [z])) q) (fun b hb => hf b (by rw [List.mem_singleton.mp hb]; simp))⟩
  self := fun _ _ _ _ _ st h => by
    obtain ⟨⟨old, he⟩, hit⟩ := st
    exact wpAny_pyIter_enum he h
section
variable {X : Cx} {tg : Expr}
def iEnum (K : PySem.W.Frag) (tl : TA) : TI := fun σ H R => tl σ H fun vs H1 => ∃ a, vs = [.ref a] ∧ (∃ xs, SqL K H1 a xs) ∧ R (Ite K a) H1
theorem pi_enum {elts : List Expr} {tk : Nat} {tp : Pos} {a : Expr} {ta : TA} {p pos : Pos} (hg : Gl X "enumerate") (hm : X.mg "enumerate" = none) (ha : PA X [a] ta) (hs : starEach [a] X.env = [(false, eval a X.env)] := by rfl) :
    PI X (.Tuple elts tk tp) (.Call (.Name "enumerate" p) [a] [] pos) (iEnum X.K ta) := by
  refine .mk ?_
  intro pins s σ H R I h
  refine Call_ (ld_blt I hg hm boot_enumerate (PyProof.Rows.callWith_type1 (thn (ha pos pins s σ H _ I h) fun us s1 ⟨vs, H1, I1, r1, q1⟩ => ?_) hs rfl))
  obtain ⟨l, e, ⟨xs, hq⟩, q⟩ := q1
  subst e
  cases r1 with
  | cons r rr =>
    cases rr
    cases r
    obtain ⟨its, rv, pl, hz⟩ := I1.list hq
    refine call_enumerate_list pl.isList fun h' he hit hsz k => ?_
    refine wpAny_pyIter_enum (s := { s1 with heap := h' }) he ?_
    have ne : s1.heap.objs.size + 1 ≠ s1.heap.objs.size := Nat.succ_ne_self _
    refine ⟨_, [s1.heap.objs.size + 1, s1.heap.objs.size], _, _, H1, rfl, I1.kept (t' := s1.toks) k, turn_enum l _ _ ne, ⟨⟨_, he⟩, hit⟩, fun b hb => ?_, q⟩
    have hb' : s1.heap.objs.size ≤ b := by
      rcases List.mem_cons.mp hb with z | z
      · rw [z]; exact Nat.le_succ _
      · rw [List.mem_singleton.mp z]; exact Nat.le_refl _
    exact I1.fpOk hb' (I1.hok.fresh hb')
end
end L2

set_option Elab.async false
set_option linter.all false
set_option maxRecDepth 100000
set_option maxHeartbeats 1000000
namespace L2
open PySem PySem.Spec PyProof.Rows

/-! ### data: what a value is, through lists and tuples -/
mutual
inductive Dt (K : PySem.W.Frag) (H : Hp) : V → PyData → Prop
  | non : Dt K H .non .none
  | bl (b : Bool) : Dt K H (.bl b) (.bool b)
  | int (i : Int) : Dt K H (.int i) (.int i)
  | str (x : Str) : Dt K H (.str x) (.str x)
  | lst {a : Addr} {xs : List V} {ds : List PyData} : SqL K H a xs → Dts K H xs ds → Dt K H (.ref a) (.list ds)
  | tup {a : Addr} {xs : List V} {ds : List PyData} : SqT K H a xs → Dts K H xs ds → Dt K H (.ref a) (.tuple ds)
inductive Dts (K : PySem.W.Frag) (H : Hp) : List V → List PyData → Prop
  | nil : Dts K H [] []
  | cons {x : V} {d : PyData} {xs : List V} {ds : List PyData} : Dt K H x d → Dts K H xs ds → Dts K H (x :: xs) (d :: ds)
end
section
variable {X : Cx} {pins : List (Addr × Obj)} {σ : St} {H : Hp} {s : Shared}
mutual
theorem Dt.reads (I : Inv X pins σ H s) : ∀ (d : PyData) {x : V} {v : Value}, Dt X.K H x d → RelV x v → ∃ as, Reads s.heap v d as
  | .none, _, _, h, r => by cases h; cases r; exact ⟨_, .none⟩
  | .bool b, _, _, h, r => by cases h; cases r; exact ⟨_, .bool b⟩
  | .int i, _, _, h, r => by cases h; obtain ⟨t, rfl⟩ := r; exact ⟨_, .int i t⟩
  | .str x, _, _, h, r => by cases h; obtain ⟨t, rfl⟩ := r; exact ⟨_, .str x t⟩
  | .list ds, _, _, h, r => by
    cases h with
    | lst hq hs =>
      cases r
      obtain ⟨its, rv, p, _⟩ := I.list hq
      obtain ⟨as, q⟩ := Dts.reads I ds hs rv
      obtain ⟨o, ho, hc, n, hd⟩ := p.isList
      exact ⟨_, .list ho hc hd (by simpa using q)⟩
  | .tuple ds, _, _, h, r => by
    cases h with
    | tup hq hs =>
      cases r
      obtain ⟨its, rv, p, _⟩ := I.tuple hq
      obtain ⟨as, q⟩ := Dts.reads I ds hs rv
      obtain ⟨o, ho, hc, n, hd⟩ := p
      exact ⟨_, .tuple ho hc hd (by simpa using q)⟩
  | .dict _, _, _, h, _ => nomatch h
theorem Dts.reads (I : Inv X pins σ H s) : ∀ (ds : List PyData) {xs : List V} {vs : List Value}, Dts X.K H xs ds → Vals xs vs → ∃ as, ReadsAll s.heap vs ds as
  | [], _, _, h, r => by cases h; cases r; exact ⟨_, .nil⟩
  | d :: ds, _, _, h, r => by
    cases h with
    | cons h1 h2 =>
      cases r with
      | cons r1 r2 =>
        obtain ⟨as, q1⟩ := Dt.reads I d h1 r1
        obtain ⟨bs, q2⟩ := Dts.reads I ds h2 r2
        exact ⟨_, .cons q1 q2⟩
end
/-- a == b, a != b of data -/
def rEqD (K : PySem.W.Frag) : R2 := fun x y H Q => ∃ d e, Dt K H x d ∧ Dt K H y e ∧ d.canLay0 = true ∧ e.canLay0 = true ∧ d.depth ≤ 60 ∧ Q (.bl (PyData.eqv d e)) H
def rNeD (K : PySem.W.Frag) : R2 := fun x y H Q => ∃ d e, Dt K H x d ∧ Dt K H y e ∧ d.canLay0 = true ∧ e.canLay0 = true ∧ d.depth ≤ 60 ∧ Q (.bl (!PyData.eqv d e)) H
theorem op_eqD (hu : X.A.units + 64 < cLine) : OpR X (compareOp .Eq) (rEqD X.K) := by
  intro pins s σ H x y v u Q I rx ry h
  obtain ⟨d, e, hx, hy, cx, cy, hd, q⟩ := h
  obtain ⟨as, r1⟩ := hx.reads I d rx
  obtain ⟨bs, r2⟩ := hy.reads I e ry
  have hm : min d.depth e.depth ≤ 60 := Nat.le_trans (Nat.min_le_left _ _) hd
  exact SeqAt.compareEq_reads r1 r2 cx cy (by omega) ⟨.bl _, H, I, rfl, q⟩
theorem op_neD (hu : X.A.units + 64 < cLine) : OpR X (compareOp .NotEq) (rNeD X.K) := by
  intro pins s σ H x y v u Q I rx ry h
  obtain ⟨d, e, hx, hy, cx, cy, hd, q⟩ := h
  obtain ⟨as, r1⟩ := hx.reads I d rx
  obtain ⟨bs, r2⟩ := hy.reads I e ry
  have hm : min d.depth e.depth ≤ 60 := Nat.le_trans (Nat.min_le_left _ _) hd
  exact SeqAt.compareNe_reads r1 r2 cx cy (by omega) ⟨.bl _, H, I, rfl, q⟩

/-! ### sorted, any, all, isinstance -/
theorem call_sorted : CallR X (.builtin "sorted") (fun xs H Q => ∃ (p : Addr) (ns : List Int), xs = [.ref p] ∧ SqL X.K H p (ns.map V.int) ∧ ns.length < 64 ∧ ∀ (l : Addr) (ns' : List Int), H l = none → ns'.Perm ns → ns'.Pairwise (· ≤ ·) → Q (.ref l) (upd H l (.lst (ns'.map V.int)))) := by
  intro pins s σ H xs us Q I r h
  obtain ⟨p, ns, rfl, hq, h64, q⟩ := h
  obtain ⟨u, rfl, rx⟩ := vals1 r
  cases rx
  obtain ⟨its, rv, pl, hz⟩ := I.list hq
  have hi := intsAre_of rv
  have hlen : its.length = ns.length := by have := rv.length; rw [List.length_map] at this; exact this.symm
  refine sorted_ints pl.isList hi (by omega) fun out ns' a1 a2 a3 => ?_
  obtain ⟨e, he⟩ := sortedAll_at s.heap its out
  refine ⟨.ref (s.heap.objs.size + 1), _, I.laid (t' := s.toks) (fun b o q => sortedAll_old q) (Nat.le_succ _) (show ObjOk X.prog X.w _ _ _ (.lst (ns'.map V.int)) from ⟨?_, out.toList, e, vals_ints a1, by simpa using he⟩), rfl, q _ ns' (I.hok.fresh (Nat.le_succ _)) a2 a3⟩
  rw [List.length_map, a2.length_eq]
  exact Nat.le_trans (Nat.le_of_lt h64) (by decide)
theorem bools_get {bs : List Bool} {vs : List Value} (r : Vals (bs.map V.bl) vs) {i : Nat} {v : Value} (e : vs[i]? = some v) : ∃ b, bs[i]? = some b ∧ v = .bool b := by
  have hl := r.length
  rw [List.length_map] at hl
  have hi : i < bs.length := by rw [hl]; exact (List.getElem?_eq_some_iff.mp e).1
  obtain ⟨u, hu, ru⟩ := r.get (i := i) (x := .bl bs[i]) (by simp [hi])
  rw [e] at hu
  cases hu
  exact ⟨bs[i], by simp [hi], ru⟩
theorem all_range {bs : List Bool} : ((List.range bs.length).all fun i => (bs[i]?).getD true) = bs.all id := by
  rw [Bool.eq_iff_iff, List.all_eq_true, List.all_eq_true]
  constructor
  · intro h b hb
    obtain ⟨i, hi, e⟩ := List.getElem_of_mem hb
    have := h i (List.mem_range.mpr hi)
    simpa [hi, e] using this
  · intro h i hi
    have hi' := List.mem_range.mp hi
    have := h bs[i] (List.getElem_mem hi')
    simpa [hi'] using this
theorem any_range {bs : List Bool} : ((List.range bs.length).any fun i => (bs[i]?).getD false) = bs.any id := by
  rw [Bool.eq_iff_iff, List.any_eq_true, List.any_eq_true]
  constructor
  · rintro ⟨i, hi, h⟩
    have hi' := List.mem_range.mp hi
    exact ⟨bs[i], List.getElem_mem hi', by simpa [hi'] using h⟩
  · rintro ⟨b, hb, h⟩
    obtain ⟨i, hi, e⟩ := List.getElem_of_mem hb
    exact ⟨i, List.mem_range.mpr hi, by simpa [hi, e] using h⟩
theorem keep_iter {h' : Heap} {o : Obj} (hk : ∀ b x, b ∉ [s.heap.objs.size] → (s.heap.push o).get? b = some x → h'.get? b = some x) : ∀ b x, s.heap.get? b = some x → h'.get? b = some x := fun b x e => by
  refine hk b x (fun hm => ?_) (Heap.get?_push_of_some _ e)
  rw [List.mem_singleton.mp hm] at e
  exact Nat.lt_irrefl _ (Heap.lt_size e)
theorem call_all (hc : X.calm = true) : CallR X (.builtin "all") (fun xs H Q => ∃ (p : Addr) (bs : List Bool), xs = [.ref p] ∧ SqL X.K H p (bs.map V.bl) ∧ Q (.bl (bs.all id)) H) := by
  intro pins s σ H xs us Q I r h
  obtain ⟨p, bs, rfl, hq, q⟩ := h
  obtain ⟨u, rfl, rx⟩ := vals1 r
  cases rx
  obtain ⟨its, rv, pl, hz⟩ := I.list hq
  have hl := pl.isList
  have hlen : its.length = bs.length := by have := rv.length; rw [List.length_map] at this; exact this.symm
  have hlt : p < s.heap.objs.size := by obtain ⟨_, e, _⟩ := hl; exact Heap.lt_size e
  refine call_all_walk (wpAny_pyIter_list hl ?_)
  refine ⟨s.heap.objs.size, [s.heap.objs.size, p], [s.heap.objs.size], its.toArray.size, _, _, fun i => (bs[i]?).getD true, rfl, Walks.list (A := X.A.in1) (I.ok.hd hc) _ p (Nat.ne_of_lt hlt) its.toArray,
    ⟨⟨_, Heap.get?_push_size _ rfl, rfl, rfl⟩, hl.push _⟩, fun i v s' Q' E' hP hQ => ?_, fun h' tk hk => ?_⟩
  · obtain ⟨b, e, rfl⟩ := bools_get rv (i := i) (v := v) (by simpa using hP)
    simp only [e, Option.getD_some] at hQ
    exact wpAny_truthy_bool hQ
  · rw [List.size_toArray, hlen, all_range]
    exact ⟨.bl _, H, I.kept (keep_iter hk), rfl, q⟩
theorem call_any (hc : X.calm = true) : CallR X (.builtin "any") (fun xs H Q => ∃ (p : Addr) (bs : List Bool), xs = [.ref p] ∧ SqL X.K H p (bs.map V.bl) ∧ Q (.bl (bs.any id)) H) := by
  intro pins s σ H xs us Q I r h
  obtain ⟨p, bs, rfl, hq, q⟩ := h
  obtain ⟨u, rfl, rx⟩ := vals1 r
  cases rx
  obtain ⟨its, rv, pl, hz⟩ := I.list hq
  have hl := pl.isList
  have hlen : its.length = bs.length := by have := rv.length; rw [List.length_map] at this; exact this.symm
  have hlt : p < s.heap.objs.size := by obtain ⟨_, e, _⟩ := hl; exact Heap.lt_size e
  refine call_any_walk (wpAny_pyIter_list hl ?_)
  refine ⟨s.heap.objs.size, [s.heap.objs.size, p], [s.heap.objs.size], its.toArray.size, _, _, fun i => (bs[i]?).getD false, rfl, Walks.list (A := X.A.in1) (I.ok.hd hc) _ p (Nat.ne_of_lt hlt) its.toArray,
    ⟨⟨_, Heap.get?_push_size _ rfl, rfl, rfl⟩, hl.push _⟩, fun i v s' Q' E' hP hQ => ?_, fun h' tk hk => ?_⟩
  · obtain ⟨b, e, rfl⟩ := bools_get rv (i := i) (v := v) (by simpa using hP)
    simp only [e, Option.getD_some] at hQ
    exact wpAny_truthy_bool hQ
  · rw [List.size_toArray, hlen, any_range]
    exact ⟨.bl _, H, I.kept (keep_iter hk), rfl, q⟩
/-- isinstance(x, T), T a built-in type -/
theorem call_isinst : CallR X (.builtin "isinstance") (fun xs H Q => ∃ x T t b, xs = [x, .ty T] ∧ TyOf X.K H x t ∧ PySem.W.kitOne X.K t (.type T) = some b ∧ Q (.bl b) H) := by
  intro pins s σ H xs us Q I r h
  obtain ⟨x, T, t, b, rfl, ty, e, q⟩ := h
  obtain ⟨u, w', rfl, rx, rT⟩ := vals2 r
  cases rT
  exact isinst_ok I rx ty e fun tk => ⟨.bl b, H, I.tok tk, rfl, q⟩
end
end L2

set_option Elab.async false
set_option linter.all false
set_option maxRecDepth 100000
set_option maxHeartbeats 1000000
namespace L2
open PySem PySem.Spec PyProof.Rows

section
variable {X : Cx} {pos : Pos} {a b : Expr} {ta tb : TE}
/-! ### more arithmetic -/
def CDivL (i j : Int) : Prop := 0 < j ∧ j < 2 ^ 200
theorem op_fdivL : OpR X (binaryOp .FloorDiv) (rI CDivL fun i j => .int (i / j)) := opI fun i j _ _ _ _ _ hc q => by
  have h1 : (0 : Int) < j := hc.1
  have h2 : j < 2 ^ 200 := hc.2
  refine floordiv_int (by omega) (by rw [Int.fdiv_eq_ediv_of_nonneg i (by omega)]; exact q) (.inl (PyProof.noPylong_of_log2 ?_))
  have h3 : j.natAbs < 2 ^ 200 := by omega
  have h4 : j.natAbs ≠ 0 := by omega
  exact Nat.lt_of_lt_of_le ((Nat.log2_lt h4).mpr h3) (by decide)
def CMulL (i j : Int) : Prop := (-(2 ^ 200) < i ∧ i < 2 ^ 200) ∧ (-(2 ^ 200) < j ∧ j < 2 ^ 200)
theorem bitsL {k : Int} (h1 : -(2 ^ 200) < k) (h2 : k < 2 ^ 200) : Builtin.Int.intBits k ≤ 2 ^ 20 := by
  unfold Builtin.Int.intBits
  have h3 : k.natAbs < 2 ^ 200 := by omega
  have e : (2 : Nat) ^ 20 = 1048576 := by decide
  split
  · omega
  · rename_i h
    have h4 : k.natAbs ≠ 0 := by
      intro z
      apply h
      first | exact z | simpa using z | omega
    have := (Nat.log2_lt h4).mpr h3
    omega
theorem op_mulL : OpR X (binaryOp .Mult) (rI CMulL fun i j => .int (i * j)) := opI fun _ _ _ _ _ _ _ hc q => mul_int q (.of_bits (bitsL hc.1.1 hc.1.2) (bitsL hc.2.1 hc.2.2))
/-- a written power -/
theorem pe_pow {i j c : Int} {k1 k2 : Nat} {p1 p2 : Pos} (h : i ^ j.toNat = c) (h0 : (decide (0 ≤ j) && decide (j ≤ 1000000) && decide (i.natAbs < 2 ^ 64)) = true := by decide) : PE X (.BinOp (.Constant (.int i) k1 p1) .Pow (.Constant (.int j) k2 p2) pos) (tC (.int c)) := by
  simp only [Bool.and_eq_true, decide_eq_true_eq] at h0
  refine .mk ?_
  intro pins s σ H Q I q
  refine pe_op op_pow pe_int pe_int pins s σ H Q I ⟨_, _, rfl, rfl, ⟨h0.1.1, h0.1.2, h0.2⟩, ?_⟩
  subst h
  exact q
/-- a written negative number -/
theorem pe_neg {i : Int} {k1 : Nat} {p1 : Pos} : PE X (.UnaryOp .USub (.Constant (.int i) k1 p1) pos) (tC (.int (-i))) := .mk <| fun pins s σ H Q I q => pe_un un_neg pe_int pins s σ H Q I ⟨_, rfl, q⟩
/-- -10 ** 9 is -(10 ** 9) -/
theorem pe_negpow {i j c : Int} {k1 k2 : Nat} {p1 p2 p3 : Pos} (h : -(i ^ j.toNat) = c) (h0 : (decide (0 ≤ j) && decide (j ≤ 1000000) && decide (i.natAbs < 2 ^ 64)) = true := by decide) :
    PE X (.UnaryOp .USub (.BinOp (.Constant (.int i) k1 p1) .Pow (.Constant (.int j) k2 p2) p3) pos) (tC (.int c)) := .mk <| fun pins s σ H Q I q =>
  pe_un un_neg (pe_pow (c := i ^ j.toNat) rfl h0) pins s σ H Q I ⟨_, rfl, by subst h; exact q⟩

/-! ### built-ins by name -/
def rAbs : List V → Hp → VK → Prop := fun xs H Q => ∃ i : Int, xs = [.int i] ∧ Q (.int (if i < 0 then -i else i)) H
theorem call_absN : CallR X (.builtin "abs") rAbs := call_abs
def rMax : List V → Hp → VK → Prop := fun xs H Q => ∃ i j : Int, xs = [.int i, .int j] ∧ Q (.int (if j > i then j else i)) H
theorem call_maxN (hc : X.calm = true) : CallR X (.builtin "max") rMax := call_max2 hc
def rMin : List V → Hp → VK → Prop := fun xs H Q => ∃ i j : Int, xs = [.int i, .int j] ∧ Q (.int (if j < i then j else i)) H
theorem call_minN (hc : X.calm = true) : CallR X (.builtin "min") rMin := call_min2 hc
def rLenS (K : PySem.W.Frag) : List V → Hp → VK → Prop := fun xs H Q => ∃ (p : Addr) (ys : List V), xs = [.ref p] ∧ (SqL K H p ys ∨ SqT K H p ys) ∧ Q (.int ys.length) H
theorem call_lenN : CallR X (.builtin "len") (rLenS X.K) := call_len_seq
end

/-! ### readings, step by step -/
section
variable {σ : St} {H H' : Hp} {Q : VK} {D : Ends} {t u : TS} {te ta tb tc : TE} {tt tt' : TT} {g : TG}
theorem rd_seq (h : t { D with nx := u D } σ H) : tSeq t u D σ H := h
theorem rd_next (h : D.nx σ H) : tNext D σ H := h
theorem rd_asg (h : te σ H fun x H1 => g x σ H1 D.nx) : tAsg te g D σ H := h
theorem rd_set {i : Nat} {v : V} {R : St → Hp → Prop} (h : R (σ.set i (some v)) H) : gName i v σ H R := h
theorem rd_ret (h : te σ H D.rt) : tRet te D σ H := h
theorem rd_retN (h : D.rt .non H) : tRetN D σ H := h
theorem rd_if (h : tt σ H fun b H1 => if b = true then t D σ H1 else u D σ H1) : tIfS tt t u D σ H := h
theorem rd_drop (h : te σ H fun _ H1 => D.nx σ H1) : tDrop te D σ H := h
theorem rd_var {i : Nat} {v : V} (e : σ[i]? = some (some v)) (h : Q v H) : tVar i σ H Q := ⟨v, e, h⟩
theorem rd_C {v : V} (h : Q v H) : tC v σ H Q := h
theorem rd_op {r : R2} (h : ta σ H fun x H1 => tb σ H1 fun y H2 => r x y H2 Q) : tOp r ta tb σ H Q := h
theorem rd_I0 {f : Int → Int → V} {i j : Int} (h : Q (f i j) H) : rI0 f (.int i) (.int j) H Q := ⟨i, j, rfl, rfl, h⟩
theorem rd_eqI {i j : Int} (h : Q (.bl (decide (i = j))) H) : rEq (.int i) (.int j) H Q := ⟨rfl, by rw [show (decide (V.int i = V.int j)) = decide (i = j) by simp]; exact h⟩
theorem rd_neI {i j : Int} (h : Q (.bl (!decide (i = j))) H) : rNe (.int i) (.int j) H Q := ⟨rfl, by rw [show (decide (V.int i = V.int j)) = decide (i = j) by simp]; exact h⟩
theorem rd_eqS {i j : Str} (h : Q (.bl (decide (i = j))) H) : rEq (.str i) (.str j) H Q := ⟨rfl, by rw [show (decide (V.str i = V.str j)) = decide (i = j) by simp]; exact h⟩
theorem rd_test {R : Bool → Hp → Prop} (h : te σ H fun x H' => ∃ k, x = .bl k ∧ R k H') : tTest te σ H R := h
theorem rd_B {R : Bool → Hp → Prop} (h : te σ H fun x H' => ∃ k, x = .bl k ∧ R k H') : tB te σ H R := h
theorem rd_bl {b : Bool} {R : Bool → Hp → Prop} (h : R b H) : ∃ k, V.bl b = .bl k ∧ R k H := ⟨b, rfl, h⟩
theorem rd_and {R : Bool → Hp → Prop} (h : tt σ H fun c H1 => if c = true then tt' σ H1 R else R false H1) : tAnd tt tt' σ H R := h
theorem rd_or {R : Bool → Hp → Prop} (h : tt σ H fun c H1 => if c = true then R true H1 else tt' σ H1 R) : tOr tt tt' σ H R := h
theorem rd_not {R : Bool → Hp → Prop} (h : tt σ H fun c H1 => R (!c) H1) : tNot tt σ H R := h
theorem rd_andV (h : ta σ H fun x H1 => ∃ c, x = .bl c ∧ if c = true then tb σ H1 Q else Q (.bl false) H1) : tAndV ta tb σ H Q := h
theorem rd_orV (h : ta σ H fun x H1 => ∃ c, x = .bl c ∧ if c = true then Q (.bl true) H1 else tb σ H1 Q) : tOrV ta tb σ H Q := h
theorem rd_notV (h : ta σ H fun x H1 => ∃ c, x = .bl c ∧ Q (.bl (!c)) H1) : tNotV ta σ H Q := h
theorem rd_isbl {b : Bool} {R : Bool → Prop} (h : R b) : ∃ c, V.bl b = .bl c ∧ R c := ⟨b, rfl, h⟩
theorem rd_ifx (h : tt σ H fun c H1 => if c = true then ta σ H1 Q else tb σ H1 Q) : tIf tt ta tb σ H Q := h
theorem rd_nil {R : List V → Hp → Prop} (h : R [] H) : tNil σ H R := h
theorem rd_cons {tr : TA} {R : List V → Hp → Prop} (h : ta σ H fun x H1 => tr σ H1 fun xs H2 => R (x :: xs) H2) : tCons ta tr σ H R := h
theorem rd_call {sp : Sp} {E : XK} {tr : TA} (h : tr σ H fun vs H1 => sp vs H1 Q E) : tCall sp [] E tr σ H Q := by
  show tr σ H fun vs H1 => sp (vs ++ []) H1 Q E
  simpa using h
theorem rd_cb {r : List V → Hp → VK → Prop} {tr : TA} (h : tr σ H fun vs H1 => r vs H1 Q) : tCB r tr σ H Q := h
theorem rd_abs {i : Int} (h : Q (.int (if i < 0 then -i else i)) H) : rAbs [.int i] H Q := ⟨i, rfl, h⟩
theorem rd_max {i j : Int} (h : Q (.int (if j > i then j else i)) H) : rMax [.int i, .int j] H Q := ⟨i, j, rfl, h⟩
theorem rd_min {i j : Int} (h : Q (.int (if j < i then j else i)) H) : rMin [.int i, .int j] H Q := ⟨i, j, rfl, h⟩
theorem rd_lst {tr : TA} (h : tr σ H fun xs H1 => xs.length ≤ sizeLine ∧ ∀ p, H1 p = none → Q (.ref p) (upd H1 p (.lst xs))) : tLst tr σ H Q := h
theorem rd_tup {tr : TA} (h : tr σ H fun xs H1 => xs.length ≤ sizeLine ∧ ∀ p, H1 p = none → Q (.ref p) (upd H1 p (.tup xs))) : tTup tr σ H Q := h
theorem rd_dec {p : Prop} [Decidable p] {A B : Prop} (h1 : p → A) (h2 : ¬ p → B) : if decide p = true then A else B := by
  by_cases h : p
  · rw [decide_eq_true h]; exact iteT (h1 h)
  · rw [decide_eq_false h]; exact iteF (h2 h)
theorem rd_ndec {p : Prop} [Decidable p] {A B : Prop} (h1 : ¬ p → A) (h2 : p → B) : if (!decide p) = true then A else B := by
  by_cases h : p
  · rw [decide_eq_true h]; exact iteF (h2 h)
  · rw [decide_eq_false h]; exact iteT (h1 h)
theorem rd_bool {b : Bool} {A B : Prop} (h1 : b = true → A) (h2 : b = false → B) : if b = true then A else B := by
  cases b with
  | true => exact iteT (h1 rfl)
  | false => exact iteF (h2 rfl)
theorem rd_nbool {b : Bool} {A B : Prop} (h1 : b = false → A) (h2 : b = true → B) : if (!b) = true then A else B := by
  cases b with
  | true => exact iteF (h2 rfl)
  | false => exact iteT (h1 rfl)
end

/-! ### heaps that grow -/
theorem Same.upd {H H' : Hp} {p : Addr} {o : HO} (e : Same H H') (hp : H' p = none) : Same H (upd H' p o) := fun b u h => by
  have q := e b u h
  rw [upd_ne (ne_of_none q hp)]
  exact q
theorem Same.tup {K : PySem.W.Frag} {H H' : Hp} {a : Addr} {xs : List V} (e : Same H H') (h : SqT K H a xs) : SqT K H' a xs := by
  rcases h with (h | ⟨o, h⟩) | h
  · exact .inl (.inl (e _ _ h))
  · exact .inl (.inr ⟨o, e _ _ h⟩)
  · exact .inr h
theorem rd_menu {K : PySem.W.Frag} {p : Addr} {xs : List V} {i : Int} {v : V} {H : Hp} {Q : VK} (hp : H p = none) (e : atI xs i = some v) (h : ∀ H', Same H H' → Q v H') : rIxL K (.ref p) (.int i) (upd H p (.lst xs)) Q :=
  ⟨p, xs, i, v, rfl, rfl, SqL.of upd_same, e, h _ ((Same.refl H).upd hp)⟩
theorem rd_ixL {K : PySem.W.Frag} {p : Addr} {xs : List V} {i : Int} {v : V} {H : Hp} {Q : VK} (hq : SqL K H p xs) (e : atI xs i = some v) (h : Q v H) : rIxL K (.ref p) (.int i) H Q := ⟨p, xs, i, v, rfl, rfl, hq, e, h⟩
theorem rd_ixT {K : PySem.W.Frag} {p : Addr} {xs : List V} {i : Int} {v : V} {H : Hp} {Q : VK} (hq : SqT K H p xs) (e : atI xs i = some v) (h : Q v H) : rIxT K (.ref p) (.int i) H Q := ⟨p, xs, i, v, rfl, rfl, hq, e, h⟩
theorem rd_lenL {K : PySem.W.Frag} {p : Addr} {xs : List V} {H : Hp} {Q : VK} (hq : SqL K H p xs) (h : Q (.int xs.length) H) : rLenS K [.ref p] H Q := ⟨p, xs, rfl, .inl hq, h⟩
theorem rd_lenT {K : PySem.W.Frag} {p : Addr} {xs : List V} {H : Hp} {Q : VK} (hq : SqT K H p xs) (h : Q (.int xs.length) H) : rLenS K [.ref p] H Q := ⟨p, xs, rfl, .inr hq, h⟩

/-! ### comprehensions: the forms one uses -/
section
variable {K : PySem.W.Frag} {a : Addr} {xs : List V} {own : Nat} {caps : List Nat} {g : TG} {tt : TT} {te : TE} {σ τ : St} {H1 : Hp} {Q : VK}
/-- over a list that the block leaves as it is, by an invariant -/
theorem comp_list (hτ : τ = cap σ own caps) (hz : xs.length ≤ sizeLine) (Pv : Nat → List V → Hp → Prop) (h0 : Pv 0 [] H1) (hl : ∀ i ys H, i ≤ xs.length → Pv i ys H → SqL K H a xs ∧ ys.length ≤ i)
    (hs : ∀ i x ys H, xs[i]? = some x → Pv i ys H → g x τ H fun τ2 H2 => tt τ2 H2 fun b H3 => if b = true then te τ2 H3 fun y H4 => Pv (i + 1) (ys ++ [y]) H4 else Pv (i + 1) ys H3)
    (hd : ∀ ys H, Pv xs.length ys H → CEnd Q ys H) :
    ∃ τ, τ = cap σ own caps ∧ ∃ W : Nat → Nat → List V → Hp → Prop, (∃ m, W 0 m [] H1) ∧ ∀ i m ys H, W i m ys H →
      ((Itl K a).stop i H ∧ CEnd Q ys H) ∨
      ((Itl K a).go i H ∧ ys.length < sizeLine ∧ ∃ N : List V → Hp → Prop, (∀ ys H, N ys H → ∃ m', m' < m ∧ W (i + 1) m' ys H) ∧ ∀ x H', (Itl K a).yld i H x H' → g x τ H' fun τ2 H2 => tt τ2 H2 fun b H3 =>
        if b = true then te τ2 H3 fun y H4 => N (ys ++ [y]) H4 else N ys H3) := by
  refine ⟨τ, hτ, fun i m ys H => m = xs.length - i ∧ i ≤ xs.length ∧ Pv i ys H, ⟨xs.length, by simp, Nat.zero_le _, h0⟩, ?_⟩
  rintro i m ys H ⟨rfl, hi, p⟩
  obtain ⟨q, ly⟩ := hl i ys H hi p
  by_cases hlt : i < xs.length
  · refine .inr ⟨⟨xs, xs[i], q, by simp [hlt]⟩, Nat.lt_of_le_of_lt ly (Nat.lt_of_lt_of_le hlt hz), Pv (i + 1), fun ys' H' p' => ⟨xs.length - (i + 1), by omega, rfl, hlt, p'⟩, fun x H' y => ?_⟩
    obtain ⟨e, y⟩ := y
    subst e
    exact hs i x ys _ (y xs q) p
  · have e : i = xs.length := by omega
    subst e
    exact .inl ⟨⟨xs, q, Nat.le_refl _⟩, hd ys H p⟩
/-- over a range -/
theorem comp_range {lo : Int} {n : Nat} (hτ : τ = cap σ own caps) (hz : n ≤ sizeLine) (Pv : Nat → List V → Hp → Prop) (h0 : Pv 0 [] H1) (hl : ∀ i ys H, i ≤ n → Pv i ys H → ys.length ≤ i)
    (hs : ∀ i ys H, i < n → Pv i ys H → g (.int (lo + i)) τ H fun τ2 H2 => tt τ2 H2 fun b H3 => if b = true then te τ2 H3 fun y H4 => Pv (i + 1) (ys ++ [y]) H4 else Pv (i + 1) ys H3)
    (hd : ∀ ys H, Pv n ys H → CEnd Q ys H) :
    ∃ τ, τ = cap σ own caps ∧ ∃ W : Nat → Nat → List V → Hp → Prop, (∃ m, W 0 m [] H1) ∧ ∀ i m ys H, W i m ys H →
      ((Itr lo n).stop i H ∧ CEnd Q ys H) ∨
      ((Itr lo n).go i H ∧ ys.length < sizeLine ∧ ∃ N : List V → Hp → Prop, (∀ ys H, N ys H → ∃ m', m' < m ∧ W (i + 1) m' ys H) ∧ ∀ x H', (Itr lo n).yld i H x H' → g x τ H' fun τ2 H2 => tt τ2 H2 fun b H3 =>
        if b = true then te τ2 H3 fun y H4 => N (ys ++ [y]) H4 else N ys H3) := by
  refine ⟨τ, hτ, fun i m ys H => m = n - i ∧ i ≤ n ∧ Pv i ys H, ⟨n, by simp, Nat.zero_le _, h0⟩, ?_⟩
  rintro i m ys H ⟨rfl, hi, p⟩
  have ly := hl i ys H hi p
  by_cases hlt : i < n
  · refine .inr ⟨hlt, Nat.lt_of_le_of_lt ly (Nat.lt_of_lt_of_le hlt hz), Pv (i + 1), fun ys' H' p' => ⟨n - (i + 1), by omega, rfl, hlt, p'⟩, fun x H' y => ?_⟩
    obtain ⟨e, y⟩ := y
    subst e y
    exact hs i ys _ hlt p
  · have e : i = n := by omega
    subst e
    exact .inl ⟨Nat.le_refl _, hd ys H p⟩
/-- over an enumerated list; the pair is a new tuple -/
theorem comp_enum (hτ : τ = cap σ own caps) (hz : xs.length ≤ sizeLine) (Pv : Nat → List V → Hp → Prop) (h0 : Pv 0 [] H1) (hl : ∀ i ys H, i ≤ xs.length → Pv i ys H → SqL K H a xs ∧ ys.length ≤ i)
    (hs : ∀ i x ys H t, xs[i]? = some x → Pv i ys H → H t = none → g (.ref t) τ (upd H t (.tup [.int i, x])) fun τ2 H2 => tt τ2 H2 fun b H3 => if b = true then te τ2 H3 fun y H4 => Pv (i + 1) (ys ++ [y]) H4 else Pv (i + 1) ys H3)
    (hd : ∀ ys H, Pv xs.length ys H → CEnd Q ys H) :
    ∃ τ, τ = cap σ own caps ∧ ∃ W : Nat → Nat → List V → Hp → Prop, (∃ m, W 0 m [] H1) ∧ ∀ i m ys H, W i m ys H →
      ((Ite K a).stop i H ∧ CEnd Q ys H) ∨
      ((Ite K a).go i H ∧ ys.length < sizeLine ∧ ∃ N : List V → Hp → Prop, (∀ ys H, N ys H → ∃ m', m' < m ∧ W (i + 1) m' ys H) ∧ ∀ x H', (Ite K a).yld i H x H' → g x τ H' fun τ2 H2 => tt τ2 H2 fun b H3 =>
        if b = true then te τ2 H3 fun y H4 => N (ys ++ [y]) H4 else N ys H3) := by
  refine ⟨τ, hτ, fun i m ys H => m = xs.length - i ∧ i ≤ xs.length ∧ Pv i ys H, ⟨xs.length, by simp, Nat.zero_le _, h0⟩, ?_⟩
  rintro i m ys H ⟨rfl, hi, p⟩
  obtain ⟨q, ly⟩ := hl i ys H hi p
  by_cases hlt : i < xs.length
  · refine .inr ⟨⟨xs, xs[i], q, by simp [hlt]⟩, Nat.lt_of_le_of_lt ly (Nat.lt_of_lt_of_le hlt hz), Pv (i + 1), fun ys' H' p' => ⟨xs.length - (i + 1), by omega, rfl, hlt, p'⟩, fun x H' y => ?_⟩
    obtain ⟨t, z, e, ht, e2, y⟩ := y
    subst e e2
    exact hs i z ys _ t (y xs q) p ht
  · have e : i = xs.length := by omega
    subst e
    exact .inl ⟨⟨xs, q, Nat.le_refl _⟩, hd ys H p⟩
end
end L2
namespace L2
open PySem PySem.Spec PyProof.Rows
section
variable {σ : St} {H H' : Hp} {Q : VK}
theorem rd_Ic {C : Int → Int → Prop} {f : Int → Int → V} {i j : Int} (h : Q (f i j) H) (hc : C i j) : rI C f (.int i) (.int j) H Q := ⟨i, j, rfl, rfl, hc, h⟩
theorem rd_ixLc {K : PySem.W.Frag} {p : Addr} {xs : List V} {i : Int} {v : V} (hq : SqL K H p xs) (h : Q v H) (e : atI xs i = some v) : rIxL K (.ref p) (.int i) H Q := ⟨p, xs, i, v, rfl, rfl, hq, e, h⟩
theorem cmul_r {i j : Int} (h : (decide (-(2 ^ 64) < j) && decide (j < 2 ^ 64)) = true) : CMul i j := by
  simp only [Bool.and_eq_true, decide_eq_true_eq] at h
  exact .inr h
theorem cmul_l {i j : Int} (h : (decide (-(2 ^ 64) < i) && decide (i < 2 ^ 64)) = true) : CMul i j := by
  simp only [Bool.and_eq_true, decide_eq_true_eq] at h
  exact .inl h
theorem cdivL {i j : Int} (h : (decide (0 < j) && decide (j < 2 ^ 200)) = true) : CDivL i j := by
  simp only [Bool.and_eq_true, decide_eq_true_eq] at h
  exact h
end
end L2
namespace L2
open PySem PySem.Spec PyProof.Rows
section
variable {σ : St} {H H' : Hp} {Q : VK} {D : Ends}
theorem rd_for {wi : TI} {g : TG} {tb : TS} (h : wi σ H fun J H1 => ∃ W : Nat → Nat → St → Hp → Prop, (∃ m, W 0 m σ H1) ∧ ∀ i m σ H, W i m σ H →
    (J.stop i H ∧ D.nx σ H) ∨ (J.go i H ∧ ∃ N : St → Hp → Prop, (∀ σ' H', N σ' H' → ∃ m', m' < m ∧ W (i + 1) m' σ' H') ∧ ∀ x H', J.yld i H x H' → g x σ H' fun σ2 H2 => tb { D with nx := N, ct := N, bk := D.nx } σ2 H2)) : tFor wi g tb D σ H := h
theorem rd_rng1 {ta : TA} {R : It → Hp → Prop} (h : ta σ H fun vs H1 => ∃ j : Int, vs = [.int j] ∧ -(2 ^ 62) ≤ j ∧ j < 2 ^ 62 ∧ R (Itr 0 j.toNat) H1) : iRng1 ta σ H R := h
theorem rd_iL {K : PySem.W.Frag} {tl : TE} {R : It → Hp → Prop} (h : tl σ H fun x H1 => ∃ a, x = .ref a ∧ (∃ xs, SqL K H1 a xs) ∧ R (Itl K a) H1) : iList K tl σ H R := h
theorem rd_iE {K : PySem.W.Frag} {tl : TA} {R : It → Hp → Prop} (h : tl σ H fun vs H1 => ∃ a, vs = [.ref a] ∧ (∃ xs, SqL K H1 a xs) ∧ R (Ite K a) H1) : iEnum K tl σ H R := h
theorem rd_comp {wi : TI} {own : Nat} {caps : List Nat} {g : TG} {tt : TT} {te : TE} (h : wi σ H fun J H1 =>
    ∃ τ, τ = cap σ own caps ∧ ∃ W : Nat → Nat → List V → Hp → Prop, (∃ m, W 0 m [] H1) ∧ ∀ i m ys H, W i m ys H →
    (J.stop i H ∧ CEnd Q ys H) ∨
    (J.go i H ∧ ys.length < sizeLine ∧ ∃ N : List V → Hp → Prop, (∀ ys H, N ys H → ∃ m', m' < m ∧ W (i + 1) m' ys H) ∧ ∀ x H', J.yld i H x H' → g x τ H' fun τ2 H2 => tt τ2 H2 fun b H3 =>
      if b = true then te τ2 H3 fun y H4 => N (ys ++ [y]) H4 else N ys H3)) : tComp wi own caps g tt te σ H Q := h
theorem rd_tt {R : Bool → Hp → Prop} (h : R true H) : tTrue σ H R := h
theorem rd_gtup {K : PySem.W.Frag} {n : Nat} {t : TGs} {a : Addr} {xs : List V} {R : St → Hp → Prop} (hq : SqT K H a xs) (hl : xs.length = n) (h : t xs σ H R) : gTup K n t (.ref a) σ H R := ⟨a, xs, rfl, hq, hl, h⟩
theorem rd_gcons {t : TG} {u : TGs} {v : V} {r : List V} {R : St → Hp → Prop} (h : t v σ H fun σ' H' => u r σ' H' R) : gCons t u (v :: r) σ H R := ⟨v, r, rfl, h⟩
theorem rd_gnil {R : St → Hp → Prop} (h : R σ H) : gNil [] σ H R := ⟨rfl, h⟩
theorem rd_bm {K : PySem.W.Frag} {T : String} {r : V → List V → Hp → VK → Prop} {to : TE} {t : TA} (h : to σ H fun x H1 => tyV K T x H1 ∧ t σ H1 fun xs H2 => r x xs H2 Q) : tBM K T r to t σ H Q := h
theorem rd_append {l : Addr} {xs : List V} {y : V} (hq : H l = some (.lst xs)) (hz : xs.length < sizeLine) (h : Q .non (upd H l (.lst (xs ++ [y])))) : rAppend (.ref l) [y] H Q := ⟨l, xs, y, rfl, rfl, hq, hz, h⟩
/-- data of ints -/
theorem Dts.ints {K : PySem.W.Frag} {H : Hp} : ∀ (ns : List Int), Dts K H (ns.map V.int) (ns.map PyData.int)
  | [] => .nil
  | n :: ns => .cons (.int n) (Dts.ints ns)
theorem canLay_ints : ∀ ns : List Int, PyData.canLayAll0 (ns.map PyData.int) = true
  | [] => by simp [PyData.canLayAll0]
  | n :: ns => by simp [PyData.canLayAll0, PyData.canLay0, canLay_ints ns]
theorem depth_ints : ∀ ns : List Int, PyData.depthAll (ns.map PyData.int) ≤ 1
  | [] => by simp [PyData.depthAll]
  | n :: ns => by simp [PyData.depthAll, PyData.depth, depth_ints ns]
theorem atI_ints {ns : List Int} {i : Int} (h0 : 0 ≤ i) (h1 : i < ns.length) : atI (ns.map V.int) i = some (.int (ns.getD i.toNat 0)) := by
  have e : i = ((i.toNat : Nat) : Int) := by omega
  have hl : i.toNat < ns.length := by omega
  rw [e]
  have q : (ns.map V.int)[i.toNat]? = some (.int (ns.getD i.toNat 0)) := by
    rw [List.getElem?_map, List.getElem?_eq_getElem hl, List.getD_eq_getElem?_getD, List.getElem?_eq_getElem hl]
    rfl
  exact atI_nat q
end
end L2
namespace L2
open PySem PySem.Spec PyProof.Rows
section
variable {σ : St} {H H' : Hp} {Q : VK} {D : Ends}
/-- two like data are equal -/
theorem rd_neSame {K : PySem.W.Frag} {x y : V} {d : PyData} (hx : Dt K H x d) (hy : Dt K H y d) (hc : d.canLay0 = true) (hd : d.depth ≤ 60) (h : Q (.bl false) H) : rNeD K x y H Q :=
  ⟨d, d, hx, hy, hc, hc, hd, by rw [SeqAt.eqv_refl d hc]; exact h⟩
theorem rd_eqSame {K : PySem.W.Frag} {x y : V} {d : PyData} (hx : Dt K H x d) (hy : Dt K H y d) (hc : d.canLay0 = true) (hd : d.depth ≤ 60) (h : Q (.bl true) H) : rEqD K x y H Q :=
  ⟨d, d, hx, hy, hc, hc, hd, by rw [SeqAt.eqv_refl d hc]; exact h⟩
theorem rd_false {A B : Prop} (h : B) : if false = true then A else B := iteF h
theorem rd_true {A B : Prop} (h : A) : if true = true then A else B := iteT h
theorem rd_nfalse {A B : Prop} (h : A) : if (!false) = true then A else B := iteT h
theorem rd_ntrue {A B : Prop} (h : B) : if (!true) = true then A else B := iteF h
end
end L2
namespace L2
open PySem PySem.Spec PyProof.Rows
section
variable {X : Cx} {pos : Pos}
def rInst (K : PySem.W.Frag) : List V → Hp → VK → Prop := fun xs H Q => ∃ x T t b, xs = [x, .ty T] ∧ TyOf K H x t ∧ PySem.W.kitOne K t (.type T) = some b ∧ Q (.bl b) H
theorem call_instN : CallR X (.builtin "isinstance") (rInst X.K) := call_isinst
def rSorted (K : PySem.W.Frag) : List V → Hp → VK → Prop := fun xs H Q => ∃ (p : Addr) (ns : List Int), xs = [.ref p] ∧ SqL K H p (ns.map V.int) ∧ ns.length < 64 ∧ ∀ (l : Addr) (ns' : List Int), H l = none → ns'.Perm ns → ns'.Pairwise (· ≤ ·) → Q (.ref l) (upd H l (.lst (ns'.map V.int)))
theorem call_sortedN : CallR X (.builtin "sorted") (rSorted X.K) := call_sorted
def rAllB (K : PySem.W.Frag) : List V → Hp → VK → Prop := fun xs H Q => ∃ (p : Addr) (bs : List Bool), xs = [.ref p] ∧ SqL K H p (bs.map V.bl) ∧ Q (.bl (bs.all id)) H
theorem call_allN (hc : X.calm = true) : CallR X (.builtin "all") (rAllB X.K) := call_all hc
def rAnyB (K : PySem.W.Frag) : List V → Hp → VK → Prop := fun xs H Q => ∃ (p : Addr) (bs : List Bool), xs = [.ref p] ∧ SqL K H p (bs.map V.bl) ∧ Q (.bl (bs.any id)) H
theorem call_anyN (hc : X.calm = true) : CallR X (.builtin "any") (rAnyB X.K) := call_any hc
def rListOf (K : PySem.W.Frag) : List V → Hp → VK → Prop := fun xs H Q => ∃ (p : Addr) (ys : List V), xs = [.ref p] ∧ (SqL K H p ys ∨ SqT K H p ys) ∧ ∀ l, H l = none → Q (.ref l) (upd H l (.lst ys))
theorem call_listN : CallR X (.type "list") (rListOf X.K) := call_list_of
def rInt1 : List V → Hp → VK → Prop := fun xs H Q => (∃ i : Int, xs = [.int i] ∧ Q (.int i) H) ∨ ∃ k : Bool, xs = [.bl k] ∧ Q (.int (if k then 1 else 0)) H
theorem call_intN : CallR X (.type "int") rInt1 := call_int1
def rIsN : R2 := fun x y H Q => y = .non ∧ Q (.bl (decide (x = .non))) H
theorem op_isNN : OpR X (compareOp .Is) rIsN := op_isN
def rNotN : R2 := fun x y H Q => y = .non ∧ Q (.bl (!decide (x = .non))) H
theorem op_notNN : OpR X (compareOp .IsNot) rNotN := op_notN
/-- o.f, the written part named -/
theorem pe_fldK {K : PySem.W.Frag} {e : Expr} {ta : TE} {f : Str} (he : PE X e ta) (hb : attributeBase e f X.env (eval e X.env) = eval e X.env) (hK : X.K = K := by rfl) : PE X (.Attribute e f pos) (tFld K ta f) := by
  subst hK
  exact pe_fld he hb
end
section
variable {σ : St} {H H' : Hp} {Q : VK}
theorem rd_instN {K : PySem.W.Frag} {x : V} {T : String} {t : Value} {b : Bool} (ty : TyOf K H x t) (e : PySem.W.kitOne K t (.type T) = some b) (h : Q (.bl b) H) : rInst K [x, .ty T] H Q := ⟨x, T, t, b, rfl, ty, e, h⟩
theorem rd_listN {K : PySem.W.Frag} {p : Addr} {ys : List V} (hq : SqL K H p ys) (h : ∀ l, H l = none → Q (.ref l) (upd H l (.lst ys))) : rListOf K [.ref p] H Q := ⟨p, ys, rfl, .inl hq, h⟩
theorem rd_intB {k : Bool} (h : Q (.int (if k then 1 else 0)) H) : rInt1 [.bl k] H Q := .inr ⟨k, rfl, h⟩
theorem rd_isNi {i : Int} (h : Q (.bl false) H) : rIsN (.int i) .non H Q := ⟨rfl, h⟩
theorem rd_isNn (h : Q (.bl true) H) : rIsN .non .non H Q := ⟨rfl, h⟩
theorem rd_notNi {i : Int} (h : Q (.bl true) H) : rNotN (.int i) .non H Q := ⟨rfl, h⟩
theorem rd_notNn (h : Q (.bl false) H) : rNotN .non .non H Q := ⟨rfl, h⟩
theorem rd_fld {K : PySem.W.Frag} {ta : TE} {f : Str} (h : ta σ H fun x H1 => ∃ a C dx fs v, x = .ref a ∧ H1 a = some (.ins C dx fs) ∧ Cls K C ∧ NoAttr K C f ∧ fs.lookup f = some v ∧ Q v H1) : tFld K ta f σ H Q := h
theorem rd_meth {C : Addr} {m : Str} {sp : Sp} {E : XK} {ta : TE} {t : TA} (h : ta σ H fun x H1 => ∃ a dx fs, x = .ref a ∧ H1 a = some (.ins C dx fs) ∧ fs.lookup m = none ∧ t σ H1 fun vs H2 => sp (x :: vs) H2 Q E) : tMeth C m sp [] E ta t σ H Q := by
  show ta σ H fun x H1 => ∃ a dx fs, x = .ref a ∧ H1 a = some (.ins C dx fs) ∧ fs.lookup m = none ∧ t σ H1 fun vs H2 => sp (x :: (vs ++ [])) H2 Q E
  simpa using h
theorem rd_make {C : Addr} {sp : Sp} {E : XK} {t : TA} (h : t σ H fun vs H1 => ∀ x dx, H1 x = none → H1 dx = none → dx ≠ x → sp (.ref x :: vs) (upd (upd H1 dx (.own x)) x (.ins C dx [])) (fun v H2 => v = .non ∧ Q (.ref x) H2) E) : tMake C sp [] E t σ H Q := by
  show t σ H fun vs H1 => ∀ x dx, H1 x = none → H1 dx = none → dx ≠ x → sp (.ref x :: (vs ++ [])) (upd (upd H1 dx (.own x)) x (.ins C dx [])) (fun v H2 => v = .non ∧ Q (.ref x) H2) E
  simpa using h
end
end L2
namespace L2
open PySem PySem.Spec PyProof.Rows
/-- a written menu of ints, at a place that lies in it -/
theorem rd_menuI {K : PySem.W.Frag} {p : Addr} {ns : List Int} {i : Int} {H : Hp} {Q : VK} (hp : H p = none) (h0 : 0 ≤ i) (h1 : i < ns.length) (h : ∀ (z : Int) (H' : Hp), z ∈ ns → Same H H' → Q (.int z) H') : rIxL K (.ref p) (.int i) (upd H p (.lst (ns.map V.int))) Q := by
  have hi : i.toNat < ns.length := by omega
  refine rd_menu hp (atI_ints h0 h1) fun H' hs => h _ H' ?_ hs
  rw [List.getD_eq_getElem?_getD, List.getElem?_eq_getElem hi]
  exact List.getElem_mem hi
end L2
namespace L2
open PySem PySem.Spec PyProof.Rows
theorem kit_int_bool {K : PySem.W.Frag} : PySem.W.kitOne K (.type "int") (.type "bool") = some false := by first | rfl | (with_unfolding_all rfl) | decide
theorem kit_int_int {K : PySem.W.Frag} : PySem.W.kitOne K (.type "int") (.type "int") = some true := by first | rfl | (with_unfolding_all rfl) | decide
theorem kit_list_list {K : PySem.W.Frag} : PySem.W.kitOne K (.type "list") (.type "list") = some true := by first | rfl | (with_unfolding_all rfl) | decide
theorem kit_tuple_tuple {K : PySem.W.Frag} : PySem.W.kitOne K (.type "tuple") (.type "tuple") = some true := by first | rfl | (with_unfolding_all rfl) | decide
end L2

set_option Elab.async false
set_option linter.all false
set_option maxRecDepth 100000
/-! THE HAND LAYER, for ints, bools, texts, own classes, DICTS (int and text keys), calls, loops. Paste it whole ahead of your own text; what your proof does not reach may be deleted. -/
namespace L2
open PySem PySem.Spec PyProof.Rows

end L2

namespace L2
open PySem PySem.Spec PyProof.Rows

section
variable (P : Program) (w : World)
end

section
variable {P : Program} {w : World} {H H' : Hp} {h h' : Heap} {a : Addr} {o : HO}
end

section
variable {P : Program} {w : World} {H : Hp} {h h' : Heap} {x e : Addr} {o' : HO}
end

/-! ### kept unless tracked; of the frames at fs (the callers') the slots may change (an exception that passes writes there); of the records at ex (iterators) nothing is said -/
section
variable {fs fs' ex ex' : List Addr} {H H1 H2 : Hp} {h h1 h2 h' : Heap} {a x e : Addr} {o : HO}
end

/-! ### the heap without what is tracked -/
/-! ### OpenK's ledger, filled with every new object but one -/
end L2

namespace L2
open PySem PySem.Spec PyProof.Rows

section
variable {X : Cx} {pins : List (Addr × Obj)} {σ : List (Option V)} {H H' : Hp} {s : Shared} {h' : Heap}

end

/-! ### the judgements -/
end L2

namespace L2
open PySem PySem.Spec PyProof.Rows
section
variable {X : Cx}

/-! ### names and constants -/
/-! ### arithmetic -/
variable {a b : Expr} {ta tb : TE} {pos : Pos}
/-! ### comparisons -/
/-! ### and, or, not -/
variable {tA tB' : TT} {rest : List Expr}
end
end L2

namespace L2
open PySem PySem.Spec PyProof.Rows

/-! ### a list, a tuple that is read: tracked, frozen, or an object of the module -/
section
variable {X : Cx} {pins : List (Addr × Obj)} {σ : St} {H : Hp} {s : Shared} {a : Addr} {xs ys : List V}
end

/-! ### another wish about exceptions -/
section
variable {X : Cx} {pins : List (Addr × Obj)} {σ : St} {H : Hp} {s : Shared} {E : Value → Shared → Prop}
end

/-! ### blocks and small statements -/
section
variable {X : Cx} {st : Stmt} {rest : List Stmt} {t u : TS} {e : Expr} {te : TE} {pos : Pos}
end

/-! ### targets -/
section
variable {X : Cx} {pos : Pos}
end

/-! ### while -/
section
variable {X : Cx} {pos : Pos}
end

/-! ### what a loop or a comprehension walks -/
end L2

namespace L2
open PySem PySem.Spec PyProof.Rows
section
variable {X : Cx} {tg : Expr}
/-! ### for -/
end

/-! ### the forms one uses -/
end L2

namespace L2
open PySem PySem.Spec PyProof.Rows

section
variable {X : Cx} {a b c : Expr} {ta tb tc : TE} {pos : Pos}

/-! ### ints -/
/-! ### bools among ints: n += (a < b) -/
end

/-! ### comparisons -/
section
variable {X : Cx} {a b c : Expr} {ta tb tc : TE} {pos : Pos}
/-! ### truth -/
/-! ### strs and bytes -/
/-! ### scalar builtins, by CallR -/
end
end L2

namespace L2
open PySem PySem.Spec PyProof.Rows

/-! ### an instance, its attributes a map -/
section
variable {prog : Program} {w : World} {A : Around} {E : Value → Shared → Prop} {s : Shared} {K : PySem.W.Frag} {x dx C f : Addr} {mA : Str → Option Value} {name : Str} {v : Value}

end

/-! ### the attributes as a list of pairs -/
section
variable {P : Program} {w : World} {H H' : Hp} {h h' : Heap} {a C dx : Addr} {fs fs' : List (Str × V)}
end

/-! ### what of the text a class must have -/
section
variable {X : Cx} {pins : List (Addr × Obj)} {σ : St} {H : Hp} {s : Shared} {a C dx : Addr} {fs : List (Str × V)} {f : Str} {v : V} {A : Around} {E : Value → Shared → Prop}

end

/-! ### readings and rules -/
section
variable {X : Cx} {o e value : Expr} {f : Str} {pos pos' tpos : Pos} {ta tv : TE}
end

/-! ### isinstance -/
section
variable {X : Cx} {pins : List (Addr × Obj)} {σ : St} {H : Hp} {s : Shared} {A : Around} {E : Value → Shared → Prop} {Q : Value → Shared → Prop} {c : Value} {b : Bool}
end
end L2

namespace L2
open PySem PySem.Spec PyProof.Rows

/-! ### room -/
/-! ### argument lists and displays -/
section
variable {X : Cx} {e : Expr} {es : List Expr} {te : TE} {t : TA} {pos : Pos}
end

/-! ### what a def promises -/
section
variable {X : Cx} {pins : List (Addr × Obj)} {σ : St} {H : Hp} {s s' : Shared}
end

/-! ### calls -/
section
variable {X : Cx} {CX : CXT} {k : Nat} {f C : Addr} {fd : FuncData} {ps : List Str} {sp : Sp} {dvs : List V} {ds : List Value} {E : XK} {x m : Str} {p pos apos : Pos} {e o : Expr} {es : List Expr} {ta : TE} {t : TA}

end

/-! ### keywords -/
section
variable {X : Cx} {CX : CXT} {k : Nat} {f C : Addr} {fd : FuncData} {ps ks : List Str} {sp : Sp} {E : XK} {x m : Str} {p pos apos kpos : Pos} {e o : Expr} {es : List Expr} {kws : List Keyword} {te ta : TE} {t tk : TA} {nm : Option Str}
variable {g : List Value → List Value → List Value} {gV : List V → List V → List V}
end

/-! ### a def's body keeps its promise -/
end L2

namespace L2
open PySem PySem.Spec PyProof.Rows
section
variable {X : Cx} {x : Str} {p pos : Pos} {e : Expr} {es : List Expr} {t : TA} {id T : String} {r : List V → Hp → VK → Prop}

end
end L2

namespace L2
open PySem PySem.Spec PyProof.Rows

/-! ### lists of pairs as tables -/
section
variable {κ : Type} [DecidableEq κ]
def valV (kvs : List (κ × V)) (k : κ) : Option V := (kvs.find? fun kv => decide (kv.1 = k)).map (·.2)
/-- in its place, or at the end -/
def putK (kvs : List (κ × V)) (k : κ) (v : V) : List (κ × V) :=
  if (kvs.any fun kv => decide (kv.1 = k)) = true then kvs.map (fun kv => if kv.1 = k then (kv.1, v) else kv) else kvs ++ [(k, v)]
def dropK (kvs : List (κ × V)) (k : κ) : List (κ × V) := kvs.filter fun kv => decide (kv.1 ≠ k)

end


/-! ### a tracked dict, its keys ints and texts or tuples of these -/
/-- raw entries of a dict with tuple keys -/
abbrev KT (H : Hp) : List (List Key × V) → List (List Key × Addr × Value) → Prop := Paired fun p q => p.1 = q.1 ∧ H q.2.1 = some (.tup (p.1.map kV)) ∧ RelV p.2 q.2.2
section
variable {P : Program} {w : World} {H : Hp} {h : Heap} {a : Addr}
end

/-- what the dict at a holds at the key y -/
def DGet (H : Hp) (a : Addr) (y : V) (r : Option V) : Prop :=
  (∃ kvs k, Rd H a (.dK kvs) ∧ y = kV k ∧ r = valV kvs k) ∨ ∃ kvs k b, Rd H a (.dT kvs) ∧ y = .ref b ∧ H b = some (.tup (k.map kV)) ∧ r = valV kvs k
/-- the heap behind a[y] = v -/
def DPut (H : Hp) (a : Addr) (y v : V) (H' : Hp) : Prop :=
  (∃ kvs k, H a = some (.dK kvs) ∧ y = kV k ∧ kvs.length < sizeLine ∧ H' = upd H a (.dK (putK kvs k v))) ∨
  ∃ kvs k b, H a = some (.dT kvs) ∧ y = .ref b ∧ H b = some (.tup (k.map kV)) ∧ kvs.length < sizeLine ∧ H' = upd H a (.dT (putK kvs k v))
section
variable {X : Cx} {pins : List (Addr × Obj)} {σ : St} {H : Hp} {s : Shared} {a : Addr} {y v : V} {u r : Value} {o : Option V} {A : Around} {E : Value → Shared → Prop}

end

section
variable {X : Cx} {pins : List (Addr × Obj)} {σ : St} {H : Hp} {s : Shared} {a : Addr} {kvs : List (Key × V)} {k : Key} {u : Value} {A : Around} {E : Value → Shared → Prop}
end


/-! ### readings and rules -/
/-- the element of a subscription, not a slice -/
def NoSl (i : Expr) : Prop := ∀ ov iv, subscripted i false ov iv = operate [ov, iv] (getItem ov iv)
/-- d[y] -/
def tDGet (td ty : TE) : TE := fun σ H Q => td σ H fun x H1 => ty σ H1 fun y H2 => ∃ a v, x = .ref a ∧ DGet H2 a y (some v) ∧ Q v H2
/-- y in d, y not in d -/
def tDIn (ty td : TE) : TE := fun σ H Q => ty σ H fun y H1 => td σ H1 fun x H2 => ∃ a o, x = .ref a ∧ DGet H2 a y o ∧ Q (.bl o.isSome) H2
def tDNotIn (ty td : TE) : TE := fun σ H Q => ty σ H fun y H1 => td σ H1 fun x H2 => ∃ a o, x = .ref a ∧ DGet H2 a y o ∧ Q (.bl (!o.isSome)) H2
/-- d[y] = v -/
def sDPut (td ty tv : TE) : TS := fun D σ H => tv σ H fun v H1 => td σ H1 fun x H2 => ty σ H2 fun y H3 => ∃ a H4, x = .ref a ∧ DPut H3 a y v H4 ∧ D.nx σ H4
/-- d[y] op= v -/
def sDAug (td ty tv : TE) (rd : V → V → Hp → VK → Prop) : TS := fun D σ H => td σ H fun x H1 => ty σ H1 fun y H2 => ∃ a v, x = .ref a ∧ DGet H2 a y (some v) ∧
  tv σ H2 fun y2 H3 => rd v y2 H3 fun z H4 => ∃ H5, DPut H4 a y z H5 ∧ D.nx σ H5
/-- del d[y] -/
def sDDel (td ty : TE) : TS := fun D σ H => td σ H fun x H1 => ty σ H1 fun y H2 => ∃ a kvs k, x = .ref a ∧ H2 a = some (.dK kvs) ∧ y = kV k ∧ (valV kvs k).isSome = true ∧ D.nx σ (upd H2 a (.dK (dropK kvs k)))

section
variable {X : Cx} {o i e value : Expr} {pos pos' tpos : Pos} {td ty tv : TE}
end


/-! ### displays -/
/-- {}, to be a dict of the kind that is wanted -/
def tDNewK : TE := fun _ H Q => ∀ p, H p = none → Q (.ref p) (upd H p (.dK []))
def tDNewT : TE := fun _ H Q => ∀ p, H p = none → Q (.ref p) (upd H p (.dT []))
section
variable {X : Cx} {pos : Pos}
end

/-- the pairs of a display, from the left -/
def tPairs : List (TE × TE) → St → Hp → (List (V × V) → Hp → Prop) → Prop
  | [], _, H, Q => Q [] H
  | (tk, tv) :: r, σ, H, Q => tk σ H fun x H1 => tv σ H1 fun y H2 => tPairs r σ H2 fun ps H3 => Q ((x, y) :: ps) H3
abbrev VV : List (V × V) → List (Value × Value) → Prop := Paired fun p q => RelV p.1 q.1 ∧ RelV p.2 q.2
def PPs (X : Cx) (pos : Pos) (keys : List (Option Expr)) (values : List Expr) (trs : List (TE × TE)) : Prop :=
  ∀ (pins : List (Addr × Obj)) (s : Shared) (σ : St) (H : Hp) (Q : List (V × V) → Hp → Prop), Inv X pins σ H s → tPairs trs σ H Q →
    wpAny (model X.prog X.w) X.A (evalPairs (pairTrees keys values X.env pos)) (fun vs s' => ∃ ps H', Inv X pins σ H' s' ∧ VV ps vs ∧ Q ps H') X.xe s
def mergeK (kvs more : List (Key × V)) : List (Key × V) := more.foldl (fun acc kv => putK acc kv.1 kv.2) kvs
/-- {k: v, ..} with keys ints and texts; the new dict stands empty while the pairs are made -/
def tDisp (trs : List (TE × TE)) : TE := fun σ H Q => ∀ p, H p = none → tPairs trs σ (upd H p (.dK [])) fun ps H2 => H2 p = some (.dK []) ∧ ∃ kvs : List (Key × V), ps = kvs.map (fun kv => (kV kv.1, kv.2)) ∧ kvs.length ≤ 15 ∧ Q (.ref p) (upd H2 p (.dK (mergeK [] kvs)))
/-! ### methods -/
/-- a method call o.m(e) of a built-in, with one argument: what must be seen of the text -/
structure M1 (X : Cx) (o : Expr) (m : Str) (apos : Pos) (e : Expr) (cpos : Pos) : Prop where
  base : attributeBase o m X.env (eval o X.env) = eval o X.env
  few : ((backTo cpos (starEach [e] X.env)).all (fun x => !x.1) && (backToKw cpos (keywordEach [] X.env)).all (fun x => x.1.isSome)
    && decide (([e] : List Expr).length + ([] : List Keyword).length + (if ([] : List Keyword).isEmpty then 0 else 1) < 30)) = true
  line : (apos.endLine == cpos.line) = true
  trees : backTo cpos (starEach [e] X.env) = [(false, eval e X.env)]
structure M2 (X : Cx) (o : Expr) (m : Str) (apos : Pos) (e f : Expr) (cpos : Pos) : Prop where
  base : attributeBase o m X.env (eval o X.env) = eval o X.env
  few : ((backTo cpos (starEach [e, f] X.env)).all (fun x => !x.1) && (backToKw cpos (keywordEach [] X.env)).all (fun x => x.1.isSome)
    && decide (([e, f] : List Expr).length + ([] : List Keyword).length + (if ([] : List Keyword).isEmpty then 0 else 1) < 30)) = true
  line : (apos.endLine == cpos.line) = true
  trees : backTo cpos (starEach [e, f] X.env) = [(false, eval e X.env), (false, eval f X.env)]

/-- a is a dict, whatever its keys -/
def IsD (H : Hp) (a : Addr) : Prop := (∃ kvs, Rd H a (.dK kvs)) ∨ ∃ kvs, Rd H a (.dT kvs)
section
variable {X : Cx} {pins : List (Addr × Obj)} {σ : St} {H : Hp} {s : Shared} {a : Addr} {y d : V} {u r : Value} {o : Option V} {A : Around} {E : Value → Shared → Prop}
end

def tDGet1 (td ty : TE) : TE := fun σ H Q => td σ H fun x H1 => ∃ a, x = .ref a ∧ IsD H1 a ∧ ty σ H1 fun y H2 => ∃ o, DGet H2 a y o ∧ Q (o.getD .non) H2
def tDGet2 (td ty tx : TE) : TE := fun σ H Q => td σ H fun x H1 => ∃ a, x = .ref a ∧ IsD H1 a ∧ ty σ H1 fun y H2 => tx σ H2 fun z H3 => ∃ o, DGet H3 a y o ∧ Q (o.getD z) H3
/-- d.pop(k): there; d.pop(k, x): there or not -/
def tDPop1 (td ty : TE) : TE := fun σ H Q => td σ H fun x H1 => ∃ a, x = .ref a ∧ IsD H1 a ∧ ty σ H1 fun y H2 => ∃ kvs k v, H2 a = some (.dK kvs) ∧ y = kV k ∧ valV kvs k = some v ∧ Q v (upd H2 a (.dK (dropK kvs k)))
def tDPop2 (td ty tx : TE) : TE := fun σ H Q => td σ H fun x H1 => ∃ a, x = .ref a ∧ IsD H1 a ∧ ty σ H1 fun y H2 => tx σ H2 fun z H3 => ∃ kvs k, H3 a = some (.dK kvs) ∧ y = kV k ∧
  (∀ v, valV kvs k = some v → Q v (upd H3 a (.dK (dropK kvs k)))) ∧ (valV kvs k = none → Q z H3)
section
variable {X : Cx} {o e f : Expr} {apos cpos : Pos} {td ty tx : TE}
end

/-! ### dict(d): a copy -/
section
variable {X : Cx} {pins : List (Addr × Obj)} {σ : St} {H : Hp} {s : Shared} {a : Addr} {kvs : List (Key × V)} {A : Around} {E : Value → Shared → Prop}
end


section
variable {X : Cx} {pins : List (Addr × Obj)} {σ : St} {H : Hp} {s : Shared} {a : Addr} {y : V} {u : Value} {A : Around} {E : Value → Shared → Prop}
end
end L2

namespace Att
open PySem PySem.W PySem.Calls PyProof.Rows

/-! ### the script -/
/-! ### the attachment: holds_open's last premise (the goal 'hc' behind k_head) from a wpAny of the law's body -/
/-! ### rules over ANY heap (no ledger) from facts about the written part K: the library's own take a ledger (News) for what they write -/
section
variable {prog : Program} {w : World} {A : Around} {E : Value → Shared → Prop} {s : Shared} {K : Frag}

/-! the whole heap as the ledger: makes every rule that writes through a ledger a rule over any heap -/
end
end Att

namespace L2
open PySem PySem.Spec PyProof.Rows

end L2

namespace L2
open PySem PySem.Spec PyProof.Rows

end L2



/-! SHORT WORDS over the layer: a def of the text, its body, what a loop and a test want. -/
namespace L2
open PySem PySem.Spec PyProof.Rows

/-! ### the text by places -/
/-! ### no exception leaves a def -/
/-! ### a def (or method) of the text as it stands behind the top -/
section
variable {P : Program} {w : World} {K : PySem.W.Frag} {mg : Str → Option Value} {base : Heap}
end
/-! ### expressions in short: the name that stands in the i-th slot -/
section
variable {X : Cx}
end

/-! ### tests -/
/-! ### heaps -/
/-! ### a dict's pairs: keys that differ -/
section
variable {κ : Type} [DecidableEq κ]
end
end L2

set_option Elab.async false
set_option linter.all false
set_option maxRecDepth 100000
set_option maxHeartbeats 1000000
namespace L2
open PySem PySem.Spec PyProof.Rows
section
variable {prog : Program} {w : World} {A : Around} {E : Value → Shared → Prop} {s : Shared}
/-! ### what zip draws from -/
structure ItS (prog : Program) (w : World) (it fr : Addr) (S : Nat → Heap → Prop) (get : Nat → Option Value) : Prop where
  stay : ∀ k h h', S k h → (∀ o, h.get? it = some o → h'.get? it = some o) → (∀ o, h.get? fr = some o → h'.get? fr = some o) → S k h'
  lt : ∀ k h, S k h → it < h.objs.size
  next : ∀ k x (A : Around) (E : Value → Shared → Prop) (s : Shared) (Q : Value → Shared → Prop), get k = some x → S k s.heap → (∀ h', S (k + 1) h' → Heap.SameBut it s.heap h' → Q x { s with heap := h' }) → wpAny (model prog w) A (Builtin.SmallTypes.nextOf (.ref it)) Q E s
  fin : ∀ k (A : Around) (E : Value → Shared → Prop) (s : Shared) (Q : Value → Shared → Prop), A.handled = none → get k = none → S k s.heap →
    (∀ h' e, Heap.ExtBut it s.heap h' → (∃ o, h'.get? e = some o ∧ o.cls = .type "StopIteration") → E (.ref e) { s with heap := h' }) → wpAny (model prog w) A (Builtin.SmallTypes.nextOf (.ref it)) Q E s

theorem its_list (it l : Addr) (hne : l ≠ it) (items : Array Value) : ItS prog w it l (fun k h => h.IsListIter it l k ∧ h.IsList l items) (fun k => items[k]?) where
  stay := fun k h h' st k1 k2 => ⟨st.1.at k1, st.2.at k2⟩
  lt := fun k h st => by obtain ⟨⟨o, e, _⟩, _⟩ := st; exact Heap.lt_size e
  next := fun k x A E s Q hx st hQ => wpAny_nextOf_list_item st.1 st.2 hx fun h' st' sb => hQ h' ⟨st', st.2.extBut sb.extBut hne⟩ sb
  fin := fun k A E s Q hh hx st hE => wpAny_nextOf_list_end hh st.1 st.2 hx hE

/-- the next one of a tuple's iterator -/
theorem nextOf_tup {it t : Addr} {i : Nat} {items : Array Value} {x : Value} {Q : Value → Shared → Prop} (hit : s.heap.IsTupleIter it t i) (ht : s.heap.IsTuple t items) (hx : items[i]? = some x)
    (hQ : ∀ h', h'.IsTupleIter it t (i + 1) → Heap.SameBut it s.heap h' → Q x { s with heap := h' }) : wpAny (model prog w) A (Builtin.SmallTypes.nextOf (.ref it)) Q E s := by
  obtain ⟨oI, eI, cI, dI⟩ := id hit
  obtain ⟨oT, eT, cT, nT, dT⟩ := ht
  unfold Builtin.SmallTypes.nextOf
  refine wpAny_bind (wpAny_callSpecial?_slot (name := Str.ofString "__next__") hit.typeIs F.slot_tuple_iterator_next (wpAny_call_entry F.slot_tuple_iterator_next hit.typeIs F.entry_tuple_iterator_next ?_ (F.args_tuple_iterator_next_1 _)))
  show wpAny (model prog w) _ (field (.ref it) 0 >>= _) _ _ s
  refine wpAny_bind (wpAny_field eI dI (x := .ref t) rfl ?_)
  show wpAny (model prog w) _ (if (Value.ref t == Value.none) = true then _ else _) _ _ s
  rw [if_neg (show ¬ (Value.ref t == Value.none) = true from Bool.false_ne_true)]
  show wpAny (model prog w) _ (field (.ref it) 1 >>= _) _ _ s
  refine wpAny_bind (wpAny_field eI dI (x := .int i 0) rfl ?_)
  show wpAny (model prog w) _ (seqItems? (.ref t) >>= _) _ _ s
  refine wpAny_bind (wpAny_seqItems eT dT ?_)
  simp only [Int.toNat_natCast, hx]
  refine wpAny_bind (wpAny_setField eI dI (by simp) (wpAny_pure ⟨x, rfl, wpAny_pure (hQ _ ⟨_, Heap.get?_update_self _ eI (Obj.isFreed_of_fields (Obj.data_mapFields dI _)), (Obj.cls_mapFields ..).trans cI, ?_⟩ (Heap.SameBut.update ..))⟩))
  rw [Obj.data_mapFields dI]
  simp [rawInt]
theorem nextOf_tup_end {it t : Addr} {i : Nat} {items : Array Value} {Q : Value → Shared → Prop} (hh : A.handled = none) (hit : s.heap.IsTupleIter it t i) (ht : s.heap.IsTuple t items) (hx : items[i]? = none)
    (hE : ∀ h' e, Heap.ExtBut it s.heap h' → (∃ o, h'.get? e = some o ∧ o.cls = .type "StopIteration") → E (.ref e) { s with heap := h' }) : wpAny (model prog w) A (Builtin.SmallTypes.nextOf (.ref it)) Q E s := by
  obtain ⟨oI, eI, cI, dI⟩ := id hit
  obtain ⟨oT, eT, cT, nT, dT⟩ := ht
  unfold Builtin.SmallTypes.nextOf
  refine wpAny_bind (wpAny_callSpecial?_slot (name := Str.ofString "__next__") hit.typeIs F.slot_tuple_iterator_next (wpAny_call_entry F.slot_tuple_iterator_next hit.typeIs F.entry_tuple_iterator_next ?_ (F.args_tuple_iterator_next_1 _)))
  show wpAny (model prog w) _ (field (.ref it) 0 >>= _) _ _ s
  refine wpAny_bind (wpAny_field eI dI (x := .ref t) rfl ?_)
  show wpAny (model prog w) _ (if (Value.ref t == Value.none) = true then _ else _) _ _ s
  rw [if_neg (show ¬ (Value.ref t == Value.none) = true from Bool.false_ne_true)]
  show wpAny (model prog w) _ (field (.ref it) 1 >>= _) _ _ s
  refine wpAny_bind (wpAny_field eI dI (x := .int i 0) rfl ?_)
  show wpAny (model prog w) _ (seqItems? (.ref t) >>= _) _ _ s
  refine wpAny_bind (wpAny_seqItems eT dT ?_)
  simp only [Int.toNat_natCast, hx]
  refine wpAny_bind (wpAny_rule (wpAny_bind (wpAny_setField eI dI (by simp) ?_)))
  show wpAny (model prog w) _ (newExc (.type "StopIteration") [] >>= _) _ _ _
  refine wpAny_bind ?_
  simp only [newExc, newTuple]
  refine wpAny_bind (wpAny_newObj_type ?_ (by size_fits))
  refine wpAny_bind (m := firstArgMember _ _) (wpAny_of_eq (a := Value.none) (by first | rfl | (simp only [firstArgMember] ; rfl)) ?_)
  refine wpAny_newObj_type ?_ (by size_fits)
  simp only [raiseNew]
  refine wpAny_bind (wpAny_handled ?_)
  first | rw [show A.in1.handled = none from hh] | rw [show A.handled = none from hh]
  exact wpAny_bind (wpAny_pure (wpAny_throw (hE _ _ (((Heap.SameBut.update ..).extBut.push _).push _) ⟨_, Heap.get?_push_size _ rfl, rfl⟩)))
theorem its_tup (it t : Addr) (hne : t ≠ it) (items : Array Value) : ItS prog w it t (fun k h => h.IsTupleIter it t k ∧ h.IsTuple t items) (fun k => items[k]?) where
  stay := fun k h h' st k1 k2 => ⟨st.1.at k1, st.2.at k2⟩
  lt := fun k h st => by obtain ⟨⟨o, e, _⟩, _⟩ := st; exact Heap.lt_size e
  next := fun k x A E s Q hx st hQ => nextOf_tup st.1 st.2 hx fun h' st' sb => hQ h' ⟨st', st.2.extBut sb.extBut hne⟩ sb
  fin := fun k A E s Q hh hx st hE => nextOf_tup_end hh st.1 st.2 hx hE

/-- a zip's own objects stand apart, and apart from what it draws from -/
structure ZAp (z TI TO i1 i2 l1 l2 : Addr) : Prop where
  a1 : TI ≠ z
  a2 : TO ≠ z
  a3 : i1 ≠ z
  a4 : i2 ≠ z
  a5 : TI ≠ TO
  a6 : TI ≠ i1
  a7 : TI ≠ i2
  a8 : TO ≠ i1
  a9 : TO ≠ i2
  a10 : i1 ≠ i2
  b1 : l1 ≠ z
  b2 : l1 ≠ TO
  b3 : l1 ≠ i2
  b4 : l2 ≠ z
  b5 : l2 ≠ TO
  b6 : l2 ≠ i1
theorem zip_turn {z TI TO i1 i2 l1 l2 : Addr} {S1 S2 : Nat → Heap → Prop} {g1 g2 : Nat → Option Value} {k : Nat} {x y a b : Value} {Q : Option Value → Shared → Prop} (D : ZAp z TI TO i1 i2 l1 l2) (Z1 : ItS prog w i1 l1 S1 g1) (Z2 : ItS prog w i2 l2 S2 g2)
    (hz : IsZip s.heap z TI TO .none) (hTI : IsPair s.heap TI (.ref i1) (.ref i2)) (hTO : IsPair s.heap TO a b) (h1 : S1 k s.heap) (h2 : S2 k s.heap) (hx : g1 k = some x) (hy : g2 k = some y)
    (hQ : ∀ h', IsZip h' z TI TO (rawInt s.heap.objs.size) → IsPair h' TO x y → S1 (k + 1) h' → S2 (k + 1) h' → IsPair h' s.heap.objs.size x y →
      (∀ c o, c ∉ [z, TO, i1, i2] → s.heap.get? c = some o → h'.get? c = some o) → Q (some (.ref s.heap.objs.size)) { s with heap := h' }) :
    wpAny (model prog w) A (pyNext (.ref z)) Q E s := by
  have ty : s.TypeIs (.ref z) "zip" := ⟨_, hz, rfl⟩
  unfold pyNext
  refine wpAny_bind (wpAny_attempt (wpAny_callSpecial?_slot (name := Str.ofString "__next__") ty F.slot_zip_next (wpAny_call_entry F.slot_zip_next ty F.entry_zip_next ?_ (F.args_zip_next_1 _))))
  show wpAny (model prog w) _ (field (.ref z) 2 >>= _) _ _ _
  refine wpAny_bind (wpAny_field hz rfl (x := .bool false) rfl ?_)
  show wpAny (model prog w) _ (field (.ref z) 3 >>= _) _ _ _
  refine wpAny_bind (wpAny_field hz rfl (x := .ref TI) rfl ?_)
  refine wpAny_bind (wpAny_seqItems hTI rfl ?_)
  show wpAny (model prog w) _ (Builtin.SmallTypes.ownedTupleIsFree (.ref z) >>= _) _ _ _
  refine wpAny_bind ?_
  unfold Builtin.SmallTypes.ownedTupleIsFree
  refine wpAny_bind (wpAny_field hz rfl (x := .none) rfl (wpAny_pure ?_))
  simp only [if_true]
  refine wpAny_bind (wpAny_rule ?_)
  refine wpAny_bind (wpAny_field hz rfl (x := .ref TO) rfl ?_)
  refine wpAny_bind (wpAny_setField_rec hz (by simp) fun ha hza sa => ?_)
  replace hza : IsZip ha z TI TO .ellipsis := hza
  refine wpAny_bind ?_
  simp only [List.zipIdx_cons, List.zipIdx_nil, List.forIn_cons, List.forIn_nil]
  -- the first
  refine wpAny_bind (wpAny_bind (wpAny_onRaise ?_))
  show wpAny (model prog w) _ (Builtin.SmallTypes.nextOf (.ref i1) >>= _) _ _ _
  have h1a : S1 k ha := Z1.stay _ _ _ h1 (fun o e => sa.extBut _ _ D.a3 e) fun o e => sa.extBut _ _ D.b1 e
  refine wpAny_bind (Z1.next k x _ _ _ _ hx h1a fun hb h1b sb => wpAny_pure ?_)
  have tob : IsPair hb TO a b := sb.extBut _ _ D.a8 (sa.extBut _ _ D.a2 hTO)
  refine wpAny_bind (wpAny_seqItems tob rfl ?_)
  refine wpAny_bind (wpAny_updateSeq_pair tob fun hc toc sc => ?_)
  replace toc : IsPair hc TO x b := toc
  refine wpAny_bind (wpAny_letGo (wpAny_pure ?_))
  -- the second
  refine wpAny_bind (wpAny_bind (wpAny_onRaise ?_))
  show wpAny (model prog w) _ (Builtin.SmallTypes.nextOf (.ref i2) >>= _) _ _ _
  have h2c : S2 k hc := Z2.stay _ _ _ h2 (fun o e => sc.extBut _ _ (Ne.symm D.a9) (sb.extBut _ _ (Ne.symm D.a10) (sa.extBut _ _ D.a4 e))) fun o e => sc.extBut _ _ D.b5 (sb.extBut _ _ D.b6 (sa.extBut _ _ D.b4 e))
  refine wpAny_bind (Z2.next k y _ _ _ _ hy h2c fun hd h2d sd => wpAny_pure ?_)
  have tod : IsPair hd TO x b := sd.extBut _ _ D.a9 toc
  refine wpAny_bind (wpAny_seqItems tod rfl ?_)
  refine wpAny_bind (wpAny_updateSeq_pair tod fun he toe se => ?_)
  replace toe : IsPair he TO x y := toe
  refine wpAny_bind (wpAny_letGo (wpAny_pure (wpAny_pure ?_)))
  -- the pair
  refine wpAny_bind (wpAny_seqItems toe rfl ?_)
  refine wpAny_bind (wpAny_newTuple ?_)
  have hsz : he.objs.size = s.heap.objs.size := by rw [se.1, sd.1, sc.1, sb.1, sa.1]
  have ze : IsZip he z TI TO .ellipsis := se.extBut _ _ (Ne.symm D.a2) (sd.extBut _ _ (Ne.symm D.a4) (sc.extBut _ _ (Ne.symm D.a2) (sb.extBut _ _ (Ne.symm D.a3) hza)))
  have kept : ∀ c o, c ∉ [z, TO, i1, i2] → s.heap.get? c = some o → he.get? c = some o := fun c o hc e => by
    simp only [List.mem_cons, List.not_mem_nil, or_false, not_or] at hc
    exact se.extBut _ _ hc.2.1 (sd.extBut _ _ hc.2.2.2 (sc.extBut _ _ hc.2.1 (sb.extBut _ _ hc.2.2.1 (sa.extBut _ _ hc.1 e))))
  have h1e : S1 (k + 1) he := Z1.stay _ _ _ h1b (fun o e => se.extBut _ _ (Ne.symm D.a8) (sd.extBut _ _ D.a10 (sc.extBut _ _ (Ne.symm D.a8) e))) fun o e => se.extBut _ _ D.b2 (sd.extBut _ _ D.b3 (sc.extBut _ _ D.b2 e))
  have h2e : S2 (k + 1) he := Z2.stay _ _ _ h2d (fun o e => se.extBut _ _ (Ne.symm D.a9) e) fun o e => se.extBut _ _ D.b5 e
  have zlt : z < he.objs.size := Heap.lt_size ze
  show wpAny (model prog w) _ (Builtin.SmallTypes.ownedTupleHandOut (.ref z) (.ref he.objs.size) >>= _) _ _ _
  refine wpAny_bind ?_
  unfold Builtin.SmallTypes.ownedTupleHandOut
  have zf : IsZip (he.push { cls := .type "tuple", data := .seq #[x, y] }) z TI TO .ellipsis := Heap.get?_push_of_some _ ze
  refine wpAny_bind (wpAny_setField_rec zf (by simp) fun hg zg sg => ?_)
  replace zg : IsZip hg z TI TO (rawInt he.objs.size) := zg
  refine wpAny_setField_rec zg (by simp) fun hk zk sk => ?_
  replace zk : IsZip hk z TI TO (rawInt he.objs.size) := zk
  have up : ∀ c o, c ≠ z → he.get? c = some o → hk.get? c = some o := fun c o c1 e => sk.extBut _ _ c1 (sg.extBut _ _ c1 (Heap.get?_push_of_some _ e))
  have tk : IsPair hk he.objs.size x y := sk.extBut _ _ (Nat.ne_of_gt zlt) (sg.extBut _ _ (Nat.ne_of_gt zlt) (Heap.get?_push_size _ rfl))
  rw [hsz] at zk tk
  refine wpAny_pure ⟨_, rfl, wpAny_pure ?_⟩
  show Q (some (.ref he.objs.size)) _
  rw [hsz]
  refine hQ hk zk (up _ _ D.a2 toe) (Z1.stay _ _ _ h1e (fun o e => up _ o D.a3 e) fun o e => up _ o D.b1 e) (Z2.stay _ _ _ h2e (fun o e => up _ o D.a4 e) fun o e => up _ o D.b4 e) tk fun c o hc e => up c o ?_ (kept c o hc e)
  intro q
  exact hc (by simp [q])
theorem zip_stop {z TI TO i1 i2 l1 l2 : Addr} {S1 S2 : Nat → Heap → Prop} {g1 g2 : Nat → Option Value} {k : Nat} {a b : Value} {Q : Option Value → Shared → Prop} (hh : A.handled = none) (D : ZAp z TI TO i1 i2 l1 l2) (Z1 : ItS prog w i1 l1 S1 g1) (Z2 : ItS prog w i2 l2 S2 g2)
    (hz : IsZip s.heap z TI TO .none) (hTI : IsPair s.heap TI (.ref i1) (.ref i2)) (hTO : IsPair s.heap TO a b) (h1 : S1 k s.heap) (h2 : S2 k s.heap) (hend : g1 k = none ∨ g2 k = none)
    (hQ : ∀ h', (∀ c o, c ∉ [z, TO, i1, i2] → s.heap.get? c = some o → h'.get? c = some o) → Q none { s with heap := h' }) :
    wpAny (model prog w) A (pyNext (.ref z)) Q E s := by
  have ty : s.TypeIs (.ref z) "zip" := ⟨_, hz, rfl⟩
  unfold pyNext
  have hin : A.in1.handled = none := hh
  refine wpAny_bind (wpAny_attempt (wpAny_callSpecial?_slot (name := Str.ofString "__next__") ty F.slot_zip_next (wpAny_call_entry F.slot_zip_next ty F.entry_zip_next ?_ (F.args_zip_next_1 _))))
  have last : ∀ (h' : Heap) (e : Addr), (∀ c o, c ∉ [z, TO, i1, i2] → s.heap.get? c = some o → h'.get? c = some o) → (∃ o, h'.get? e = some o ∧ o.cls = .type "StopIteration") →
      wpAny (model prog w) A (isInstance (.ref e) (.type "StopIteration") >>= fun b => if b = true then pure none else throw (.ref e)) Q E { s with heap := h' } := fun h' e kp ⟨o, ho, hc⟩ =>
    wpAny_bind (wpAny_isInstance (T := "StopIteration") (b := true) ⟨o, ho, hc⟩ isSubtype_stop (wpAny_pure (hQ _ kp)))
  show wpAny (model prog w) _ (field (.ref z) 2 >>= _) _ _ _
  refine wpAny_bind (wpAny_field hz rfl (x := .bool false) rfl ?_)
  show wpAny (model prog w) _ (field (.ref z) 3 >>= _) _ _ _
  refine wpAny_bind (wpAny_field hz rfl (x := .ref TI) rfl ?_)
  refine wpAny_bind (wpAny_seqItems hTI rfl ?_)
  show wpAny (model prog w) _ (Builtin.SmallTypes.ownedTupleIsFree (.ref z) >>= _) _ _ _
  refine wpAny_bind ?_
  unfold Builtin.SmallTypes.ownedTupleIsFree
  refine wpAny_bind (wpAny_field hz rfl (x := .none) rfl (wpAny_pure ?_))
  simp only [if_true]
  refine wpAny_bind (wpAny_rule ?_)
  refine wpAny_bind (wpAny_field hz rfl (x := .ref TO) rfl ?_)
  refine wpAny_bind (wpAny_setField_rec hz (by simp) fun ha hza sa => ?_)
  replace hza : IsZip ha z TI TO .ellipsis := hza
  refine wpAny_bind ?_
  simp only [List.zipIdx_cons, List.zipIdx_nil, List.forIn_cons, List.forIn_nil]
  refine wpAny_bind (wpAny_bind (wpAny_onRaise ?_))
  show wpAny (model prog w) _ (Builtin.SmallTypes.nextOf (.ref i1) >>= _) _ _ _
  have h1a : S1 k ha := Z1.stay _ _ _ h1 (fun o e => sa.extBut _ _ D.a3 e) fun o e => sa.extBut _ _ D.b1 e
  cases hx : g1 k with
  | none =>
    refine wpAny_bind (Z1.fin k _ _ _ _ (by first | exact hin | exact hh) hx h1a fun hb e sb he => ?_)
    obtain ⟨oe, hoe, hce⟩ := he
    have zb : IsZip hb z TI TO .ellipsis := sb _ _ (Ne.symm D.a3) hza
    have ez : e ≠ z := fun q => by subst q; rw [zb] at hoe; cases hoe; simp at hce
    refine wpAny_setField_rec zb (by simp) fun hc _ sc => last hc e (fun c o hcc q => ?_) ⟨oe, sc.extBut _ _ ez hoe, hce⟩
    simp only [List.mem_cons, List.not_mem_nil, or_false, not_or] at hcc
    exact sc.extBut _ _ hcc.1 (sb _ _ hcc.2.2.1 (sa.extBut _ _ hcc.1 q))
  | some x =>
    have hy : g2 k = none := by
      rcases hend with q | q
      · rw [hx] at q; cases q
      · exact q
    refine wpAny_bind (Z1.next k x _ _ _ _ hx h1a fun hb h1b sb => wpAny_pure ?_)
    have tob : IsPair hb TO a b := sb.extBut _ _ D.a8 (sa.extBut _ _ D.a2 hTO)
    refine wpAny_bind (wpAny_seqItems tob rfl ?_)
    refine wpAny_bind (wpAny_updateSeq_pair tob fun hc toc sc => ?_)
    refine wpAny_bind (wpAny_letGo (wpAny_pure ?_))
    refine wpAny_bind (wpAny_bind (wpAny_onRaise ?_))
    show wpAny (model prog w) _ (Builtin.SmallTypes.nextOf (.ref i2) >>= _) _ _ _
    have h2c : S2 k hc := Z2.stay _ _ _ h2 (fun o e => sc.extBut _ _ (Ne.symm D.a9) (sb.extBut _ _ (Ne.symm D.a10) (sa.extBut _ _ D.a4 e))) fun o e => sc.extBut _ _ D.b5 (sb.extBut _ _ D.b6 (sa.extBut _ _ D.b4 e))
    refine wpAny_bind (Z2.fin k _ _ _ _ (by first | exact hin | exact hh) hy h2c fun hd e sd he => ?_)
    obtain ⟨oe, hoe, hce⟩ := he
    have zd : IsZip hd z TI TO .ellipsis := sd _ _ (Ne.symm D.a4) (sc.extBut _ _ (Ne.symm D.a2) (sb.extBut _ _ (Ne.symm D.a3) hza))
    have ez : e ≠ z := fun q => by subst q; rw [zd] at hoe; cases hoe; simp at hce
    refine wpAny_setField_rec zd (by simp) fun hf _ sf => last hf e (fun c o hcc q => ?_) ⟨oe, sf.extBut _ _ ez hoe, hce⟩
    simp only [List.mem_cons, List.not_mem_nil, or_false, not_or] at hcc
    exact sf.extBut _ _ hcc.1 (sd _ _ hcc.2.2.2 (sc.extBut _ _ hcc.2.1 (sb.extBut _ _ hcc.2.2.1 (sa.extBut _ _ hcc.1 q))))
end
end L2

set_option Elab.async false
set_option linter.all false
set_option maxRecDepth 100000
set_option maxHeartbeats 1000000
namespace L2
open PySem PySem.Spec PyProof.Rows
/-! ### zip of two lists, of two tuples -/
structure Src (P : Program) (w : World) (K : PySem.W.Frag) (sq : Hp → Addr → List V → Prop) (ti : Heap → Addr → Addr → Nat → Prop) : Prop where
  read : ∀ (X : Cx), X.prog = P → X.w = w → X.K = K → ∀ (pins : List (Addr × Obj)) (σ : St) (H : Hp) (s : Shared) (l : Addr) (xs : List V), Inv X pins σ H s → sq H l xs →
    ∃ (its : List Value) (S : Addr → Nat → Heap → Prop), Vals xs its ∧ (∀ it, l ≠ it → ItS P w it l (S it) (fun k => its.toArray[k]?)) ∧ (∀ it k, ti s.heap it l k → S it k s.heap) ∧ ∀ it k h, S it k h → ti h it l k
  uniq : ∀ (X : Cx), X.prog = P → X.w = w → X.K = K → ∀ (pins : List (Addr × Obj)) (σ : St) (H : Hp) (s : Shared) (l : Addr) (xs ys : List V), Inv X pins σ H s → sq H l xs → sq H l ys → xs = ys
  obj : ∀ h it l k, ti h it l k → ∃ o, h.get? it = some o ∧ ∀ v, o.data ≠ .cell v
  keep : ∀ h h' it l k, ti h it l k → (∀ o, h.get? it = some o → h'.get? it = some o) → ti h' it l k
theorem src_list {P : Program} {w : World} {K : PySem.W.Frag} : Src P w K (SqL K) (fun h it l k => h.IsListIter it l k) where
  read := fun X hP hw hK pins σ H s l xs I h => by
    subst hP hw hK
    obtain ⟨its, rv, p, _⟩ := I.list h
    exact ⟨its, fun it k h => h.IsListIter it l k ∧ h.IsList l its.toArray, rv, fun it hne => its_list it l hne its.toArray, fun it k q => ⟨q, p.isList⟩, fun it k h q => q.1⟩
  uniq := fun X hP hw hK pins σ H s l xs ys I h h' => by
    subst hP hw hK
    exact I.list_inj h h'
  obj := fun h it l k q => by
    obtain ⟨o, e, c, d⟩ := q
    exact ⟨o, e, fun v z => by rw [d] at z; cases z⟩
  keep := fun h h' it l k q e => q.at e
theorem src_tup {P : Program} {w : World} {K : PySem.W.Frag} : Src P w K (SqT K) (fun h it l k => h.IsTupleIter it l k) where
  read := fun X hP hw hK pins σ H s l xs I h => by
    subst hP hw hK
    obtain ⟨its, rv, p, _⟩ := I.tuple h
    exact ⟨its, fun it k h => h.IsTupleIter it l k ∧ h.IsTuple l its.toArray, rv, fun it hne => its_tup it l hne its.toArray, fun it k q => ⟨q, p⟩, fun it k h q => q.1⟩
  uniq := fun X hP hw hK pins σ H s l xs ys I h h' => by
    subst hP hw hK
    exact I.tuple_inj h h'
  obj := fun h it l k q => by
    obtain ⟨o, e, c, d⟩ := q
    exact ⟨o, e, fun v z => by rw [d] at z; cases z⟩
  keep := fun h h' it l k q e => q.at e
def Itz (sq : Hp → Addr → List V → Prop) (l1 l2 : Addr) : It :=
  ⟨fun i H => ∃ xs ys x y, sq H l1 xs ∧ sq H l2 ys ∧ xs[i]? = some x ∧ ys[i]? = some y,
   fun i H v H' => ∃ t x y, v = .ref t ∧ H t = none ∧ H' = upd H t (.tup [x, y]) ∧ (∀ xs, sq H l1 xs → xs[i]? = some x) ∧ ∀ ys, sq H l2 ys → ys[i]? = some y,
   fun i H => ∃ xs ys, sq H l1 xs ∧ sq H l2 ys ∧ (xs.length ≤ i ∨ ys.length ≤ i)⟩
theorem mem5 {z TI TO i1 i2 b : Addr} (h : b ∈ [z, TO, i1, i2]) : b ∈ [z, TI, TO, i1, i2] := by
  simp only [List.mem_cons, List.not_mem_nil, or_false] at h ⊢
  rcases h with h | h | h | h <;> simp [h]
theorem turn_zip {P : Program} {w : World} {K : PySem.W.Frag} {sq : Hp → Addr → List V → Prop} {ti : Heap → Addr → Addr → Nat → Prop} (R : Src P w K sq ti) {elts : List Expr} {tk : Nat} {tp : Pos} {z TI TO i1 i2 l1 l2 : Addr} (D : ZAp z TI TO i1 i2 l1 l2) (n1 : l1 ≠ i1) (n2 : l2 ≠ i2) :
    Turn P w K (.Tuple elts tk tp) (Itz sq l1 l2) [z, TI, TO, i1, i2] z (fun i h => IsZip h z TI TO .none ∧ IsPair h TI (.ref i1) (.ref i2) ∧ (∃ a b, IsPair h TO a b) ∧ ti h i1 l1 i ∧ ti h i2 l2 i) where
  mem := by simp
  obj := fun i h st b hb => by
    obtain ⟨hz, hTI, ⟨a, c, hTO⟩, h1, h2⟩ := st
    simp only [List.mem_cons, List.not_mem_nil, or_false] at hb
    rcases hb with rfl | rfl | rfl | rfl | rfl
    · exact ⟨_, hz, fun v q => by cases q⟩
    · exact ⟨_, hTI, fun v q => by cases q⟩
    · exact ⟨_, hTO, fun v q => by cases q⟩
    · exact R.obj _ _ _ _ h1
    · exact R.obj _ _ _ _ h2
  keep := fun i h h' st k => by
    obtain ⟨hz, hTI, ⟨a, c, hTO⟩, h1, h2⟩ := st
    exact ⟨k z (by simp) _ hz, k TI (by simp) _ hTI, ⟨a, c, k TO (by simp) _ hTO⟩, R.keep _ _ _ _ _ h1 fun o e => k i1 (by simp) o e, R.keep _ _ _ _ _ h2 fun o e => k i2 (by simp) o e⟩
  item := by
    intro X hP hw hK hc i pins s σ H E I hf st hg
    obtain ⟨hz, hTI, ⟨a, c, hTO⟩, h1, h2⟩ := st
    obtain ⟨xs, ys, x, y, q1, q2, hx, hy⟩ := hg
    obtain ⟨is1, S1, rv1, Z1, in1, out1⟩ := R.read X hP hw hK pins σ H s l1 xs I q1
    obtain ⟨is2, S2, rv2, Z2, in2, out2⟩ := R.read X hP hw hK pins σ H s l2 ys I q2
    obtain ⟨u1, hu1, ru1⟩ := rv1.get hx
    obtain ⟨u2, hu2, ru2⟩ := rv2.get hy
    refine zip_turn D (Z1 i1 n1) (Z2 i2 n2) hz hTI hTO (in1 _ _ h1) (in2 _ _ h2) (x := u1) (y := u2) (by simpa using hu1) (by simpa using hu2) fun h' z' to' s1' s2' pr kp => ?_
    have hn := I.hok.fresh (Nat.le_refl _)
    have hf4 : ∀ b ∈ [z, TO, i1, i2], FpOk X pins H b := fun b hb => hf b (mem5 hb)
    have I1 : Inv X pins σ (upd H s.heap.objs.size (.tup [x, y])) { s with heap := h', toks := s.toks } :=
      I.turnLaid (ch := [z, TO, i1, i2]) (fun b o hb e => kp b o hb e) hf4 (Nat.le_refl _) ⟨by show 2 ≤ sizeLine; decide, [u1, u2], .cons ru1 (.cons ru2 .nil), _, pr, rfl, _, rfl⟩
    have lt5 : ∀ b ∈ [z, TI, TO, i1, i2], b < s.heap.objs.size := fun b hb => by
      simp only [List.mem_cons, List.not_mem_nil, or_false] at hb
      rcases hb with rfl | rfl | rfl | rfl | rfl
      · exact Heap.lt_size hz
      · exact Heap.lt_size hTI
      · exact Heap.lt_size hTO
      · obtain ⟨o, e, _⟩ := R.obj _ _ _ _ h1; exact Heap.lt_size e
      · obtain ⟨o, e, _⟩ := R.obj _ _ _ _ h2; exact Heap.lt_size e
    have hf1 : ∀ b ∈ [z, TI, TO, i1, i2], FpOk X pins (upd H s.heap.objs.size (.tup [x, y])) b := fun b hb => ⟨by rw [upd_ne (Nat.ne_of_lt (lt5 b hb))]; exact (hf b hb).1, (hf b hb).2⟩
    have ti' : IsPair h' TI (.ref i1) (.ref i2) := kp _ _ (by
      have := D.a1; have := D.a5; have := D.a6; have := D.a7
      simp only [List.mem_cons, List.not_mem_nil, or_false, not_or]
      exact ⟨D.a1, D.a5, D.a6, D.a7⟩) hTI
    subst hP hw hK
    refine ⟨_, rfl, wpAny_letOwnedTupleGo_zip (s := { s with heap := h' }) z' fun h2' z2 sb2 => ?_⟩
    refine ⟨.ref s.heap.objs.size, _, I1.turnL (ch := [z]) (t' := s.toks) (fun b o hb e => sb2.extBut b o (fun q => hb (by simp [q])) e) (fun b hb => hf1 b (by rw [List.mem_singleton.mp hb]; simp)), rfl,
      ⟨_, x, y, rfl, hn, rfl, fun xs' e => by rw [R.uniq X rfl rfl rfl pins σ H s l1 xs' xs I e q1]; exact hx, fun ys' e => by rw [R.uniq X rfl rfl rfl pins σ H s l2 ys' ys I e q2]; exact hy⟩,
      ⟨z2, sb2.extBut _ _ D.a1 ti', ⟨_, _, sb2.extBut _ _ D.a2 to'⟩, R.keep _ _ _ _ _ (out1 _ _ _ s1') fun o e => sb2.extBut _ _ D.a3 e, R.keep _ _ _ _ _ (out2 _ _ _ s2') fun o e => sb2.extBut _ _ D.a4 e⟩, fun b hb => (hf1 b hb).1⟩
  done := by
    intro X hP hw hK hc i pins s σ H E I hf st hg
    obtain ⟨hz, hTI, ⟨a, c, hTO⟩, h1, h2⟩ := st
    obtain ⟨xs, ys, q1, q2, hend⟩ := hg
    obtain ⟨is1, S1, rv1, Z1, in1, out1⟩ := R.read X hP hw hK pins σ H s l1 xs I q1
    obtain ⟨is2, S2, rv2, Z2, in2, out2⟩ := R.read X hP hw hK pins σ H s l2 ys I q2
    have e1 := rv1.length
    have e2 := rv2.length
    refine zip_stop (I.ok.hd hc) D (Z1 i1 n1) (Z2 i2 n2) hz hTI hTO (in1 _ _ h1) (in2 _ _ h2) ?_ fun h' kp => ⟨rfl, I.turnL (ch := [z, TO, i1, i2]) (t' := s.toks) (fun b o hb e => kp b o hb e) fun b hb => hf b (mem5 hb)⟩
    rcases hend with q | q
    · exact .inl (by simp; omega)
    · exact .inr (by simp; omega)
  self := fun _ _ _ _ _ st h => wpAny_pyIter_zip st.1 h
/-- zip of two tuples is made -/
theorem meets_zipT (l1 l2 : Addr) (xs ys : Array Value) :
    Meets (Builtin.«zip.__new__» ⟨[.type "zip", .ref l1, .ref l2], []⟩) (fun _ R s => s.heap.IsTuple l1 xs ∧ s.heap.IsTuple l2 ys ∧ ∃ hA hB hC hD hE : Heap, hA = s.heap.push { cls := .type "tuple_iterator", data := .fields #[.ref l1, .int 0 0] } ∧ hB = hA.push { cls := .type "tuple_iterator", data := .fields #[.ref l2, .int 0 0] } ∧
      hC = hB.push { cls := .type "tuple", data := .seq #[.ref s.heap.objs.size, .ref hA.objs.size] } ∧ hD = hC.push { cls := .type "tuple", data := .seq #[.none, .none] } ∧
      hE = hD.push { cls := .type "zip", data := .fields #[.none, .bool false, .bool false, .ref hB.objs.size, .ref hC.objs.size] } ∧ R (.ok (.ret (.ref hD.objs.size))) { s with heap := hE }) :=
  .of_wp fun prog w A R s h => by
    obtain ⟨hp, g, d, tk, os⟩ := s
    obtain ⟨t1, t2, hA, hB, hC, hD, hE, rfl, rfl, rfl, rfl, rfl, h⟩ := h
    have hsub := sub_zip
    have T1 : Heap.IsTuple (Shared.heap ⟨hp, g, d, tk, os⟩) l1 xs := t1
    have T2 : Heap.IsTuple (Shared.heap ⟨hp.push { cls := .type "tuple_iterator", data := .fields #[.ref l1, .int 0 0] }, g, d, tk, os⟩) l2 ys := Heap.IsTuple.push t2 _
    wp_walk using wpAny_pyIter_tuple T1, wpAny_pyIter_tuple T2
    exact ⟨_, rfl, h⟩
section
variable {prog : Program} {w : World} {A : Around} {E : Value → Shared → Prop} {s : Shared}
theorem call_zipT {l1 l2 : Addr} {xs ys : Array Value} {Q : Value → Shared → Prop} (hl1 : s.heap.IsTuple l1 xs) (hl2 : s.heap.IsTuple l2 ys)
    (h : ∀ h', IsZip h' (s.heap.objs.size + 4) (s.heap.objs.size + 2) (s.heap.objs.size + 3) .none → IsPair h' (s.heap.objs.size + 2) (.ref s.heap.objs.size) (.ref (s.heap.objs.size + 1)) → IsPair h' (s.heap.objs.size + 3) .none .none →
      h'.IsTupleIter s.heap.objs.size l1 0 → h'.IsTupleIter (s.heap.objs.size + 1) l2 0 → (∀ c o, s.heap.get? c = some o → h'.get? c = some o) → Q (.ref (s.heap.objs.size + 4)) { s with heap := h' }) :
    wpAny (model prog w) A (call (.type "zip") [.ref l1, .ref l2]) Q E s := by
  refine callType_new F.called_zip (by decide) (F.typeCall_zip_2 _ _) (F.newCall_zip_2 _ _) (fun obj => F.args_object_init_3 obj _ _) F.entry_zip_new (meets_zipT l1 l2 xs ys) ⟨hl1, hl2, _, _, _, _, _, rfl, rfl, rfl, rfl, rfl, ?_⟩
  generalize eA : s.heap.push { cls := .type "tuple_iterator", data := .fields #[.ref l1, .int 0 0] } = hA
  generalize eB : hA.push { cls := .type "tuple_iterator", data := .fields #[.ref l2, .int 0 0] } = hB
  have zA : hA.objs.size = s.heap.objs.size + 1 := by rw [← eA, Heap.size_push]
  have zB : hB.objs.size = s.heap.objs.size + 2 := by rw [← eB, Heap.size_push, zA]
  generalize eC : hB.push { cls := .type "tuple", data := .seq #[.ref s.heap.objs.size, .ref hA.objs.size] } = hC
  have zC : hC.objs.size = s.heap.objs.size + 3 := by rw [← eC, Heap.size_push, zB]
  generalize eD : hC.push { cls := .type "tuple", data := .seq #[.none, .none] } = hD
  have zD : hD.objs.size = s.heap.objs.size + 4 := by rw [← eD, Heap.size_push, zC]
  generalize eE : hD.push { cls := .type "zip", data := .fields #[.none, .bool false, .bool false, .ref hB.objs.size, .ref hC.objs.size] } = hE
  have uE : ∀ c o, hD.get? c = some o → hE.get? c = some o := fun c o q => by rw [← eE]; exact Heap.get?_push_of_some _ q
  have uD : ∀ c o, hC.get? c = some o → hD.get? c = some o := fun c o q => by rw [← eD]; exact Heap.get?_push_of_some _ q
  have uC : ∀ c o, hB.get? c = some o → hC.get? c = some o := fun c o q => by rw [← eC]; exact Heap.get?_push_of_some _ q
  have uB : ∀ c o, hA.get? c = some o → hB.get? c = some o := fun c o q => by rw [← eB]; exact Heap.get?_push_of_some _ q
  have uA : ∀ c o, s.heap.get? c = some o → hA.get? c = some o := fun c o q => by rw [← eA]; exact Heap.get?_push_of_some _ q
  have g5 : hE.get? hD.objs.size = some { cls := .type "zip", data := .fields #[.none, .bool false, .bool false, .ref hB.objs.size, .ref hC.objs.size] } := by rw [← eE]; exact Heap.get?_push_size _ rfl
  have g4 : hD.get? hC.objs.size = some { cls := .type "tuple", data := .seq #[.none, .none] } := by rw [← eD]; exact Heap.get?_push_size _ rfl
  have g3 : hC.get? hB.objs.size = some { cls := .type "tuple", data := .seq #[.ref s.heap.objs.size, .ref hA.objs.size] } := by rw [← eC]; exact Heap.get?_push_size _ rfl
  have g2 : hB.get? hA.objs.size = some { cls := .type "tuple_iterator", data := .fields #[.ref l2, .int 0 0] } := by rw [← eB]; exact Heap.get?_push_size _ rfl
  have g1 : hA.get? s.heap.objs.size = some { cls := .type "tuple_iterator", data := .fields #[.ref l1, .int 0 0] } := by rw [← eA]; exact Heap.get?_push_size _ rfl
  show _ ∧ _
  rw [zD, zB, zC] at g5
  rw [zC] at g4
  rw [zB, zA] at g3
  rw [zA] at g2
  rw [zD]
  exact ⟨⟨_, g5, rfl⟩, h hE g5 (uE _ _ (uD _ _ g3)) (uE _ _ g4) ⟨_, uE _ _ (uD _ _ (uC _ _ (uB _ _ g1))), rfl, rfl⟩ ⟨_, uE _ _ (uD _ _ (uC _ _ g2)), rfl, rfl⟩ fun c o q => uE _ _ (uD _ _ (uC _ _ (uB _ _ (uA _ _ q))))⟩
end
section
variable {X : Cx} {tg : Expr}
def iZip (sq : Hp → Addr → List V → Prop) (tl : TA) : TI := fun σ H R => tl σ H fun vs H1 => ∃ a b, vs = [.ref a, .ref b] ∧ (∃ xs, sq H1 a xs) ∧ (∃ ys, sq H1 b ys) ∧ R (Itz sq a b) H1
theorem zap_new {n a b : Nat} (ha : a < n) (hb : b < n) : ZAp (n + 4) (n + 2) (n + 3) n (n + 1) a b :=
  ⟨(show (n + 2 : Nat) ≠ n + 4 by omega), (show (n + 3 : Nat) ≠ n + 4 by omega), (show (n : Nat) ≠ n + 4 by omega), (show (n + 1 : Nat) ≠ n + 4 by omega), (show (n + 2 : Nat) ≠ n + 3 by omega), (show (n + 2 : Nat) ≠ n by omega), (show (n + 2 : Nat) ≠ n + 1 by omega), (show (n + 3 : Nat) ≠ n by omega), (show (n + 3 : Nat) ≠ n + 1 by omega), (show (n : Nat) ≠ n + 1 by omega), (show (a : Nat) ≠ n + 4 by omega), (show (a : Nat) ≠ n + 3 by omega), (show (a : Nat) ≠ n + 1 by omega), (show (b : Nat) ≠ n + 4 by omega), (show (b : Nat) ≠ n + 3 by omega), (show (b : Nat) ≠ n by omega)⟩
theorem pi_zipL {elts : List Expr} {tk : Nat} {tp : Pos} {a b : Expr} {ta : TA} {p pos : Pos} (hg : Gl X "zip") (hm : X.mg "zip" = none) (ha : PA X [a, b] ta) (hs : starEach [a, b] X.env = [(false, eval a X.env), (false, eval b X.env)] := by rfl) (hs2 : starEach [b] X.env = [(false, eval b X.env)] := by rfl) :
    PI X (.Tuple elts tk tp) (.Call (.Name "zip" p) [a, b] [] pos) (iZip (SqL X.K) ta) := by
  refine .mk ?_
  intro pins s σ H R I h
  refine Call_ (ld_blt I hg hm boot_zip (PyProof.Rows.callWith_type1 (thn (ha pos pins s σ H _ I h) fun us s1 ⟨vs, H1, I1, r1, q1⟩ => ?_) (by rw [hs, hs2]) (by rw [hs2]; rfl)))
  obtain ⟨l1, l2, e, ⟨xs, hx⟩, ⟨ys, hy⟩, q⟩ := q1
  subst e
  obtain ⟨u1, u2, rfl, ru1, ru2⟩ := vals2 r1
  cases ru1
  cases ru2
  obtain ⟨is1, rv1, p1, _⟩ := I1.list hx
  obtain ⟨is2, rv2, p2, _⟩ := I1.list hy
  have lt1 : l1 < s1.heap.objs.size := by obtain ⟨_, e, _⟩ := p1.isList; exact Heap.lt_size e
  have lt2 : l2 < s1.heap.objs.size := by obtain ⟨_, e, _⟩ := p2.isList; exact Heap.lt_size e
  refine call_zip_2 p1.isList p2.isList fun h' hz hTI hTO hi1 hi2 hsz k => ?_
  refine wpAny_pyIter_zip (s := { s1 with heap := h' }) hz ?_
  refine ⟨_, [s1.heap.objs.size + 4, s1.heap.objs.size + 2, s1.heap.objs.size + 3, s1.heap.objs.size, s1.heap.objs.size + 1], _, _, H1, rfl, I1.kept (t' := s1.toks) k, turn_zip src_list (zap_new lt1 lt2) (Nat.ne_of_lt lt1) (Nat.ne_of_lt (Nat.lt_succ_of_lt lt2)), ⟨hz, hTI, ⟨_, _, hTO⟩, hi1, hi2⟩, fun b hb => ?_, q⟩
  have hb' : s1.heap.objs.size ≤ b := by
    simp only [List.mem_cons, List.not_mem_nil, or_false] at hb
    have hb2 : b = s1.heap.objs.size + 4 ∨ b = s1.heap.objs.size + 2 ∨ b = s1.heap.objs.size + 3 ∨ b = s1.heap.objs.size ∨ b = s1.heap.objs.size + 1 := hb
    rcases hb2 with rfl | rfl | rfl | rfl | rfl
    · exact Nat.le_add_right _ _
    · exact Nat.le_add_right _ _
    · exact Nat.le_add_right _ _
    · exact Nat.le_refl _
    · exact Nat.le_add_right _ _
  exact I1.fpOk hb' (I1.hok.fresh hb')
theorem pi_zipT {elts : List Expr} {tk : Nat} {tp : Pos} {a b : Expr} {ta : TA} {p pos : Pos} (hg : Gl X "zip") (hm : X.mg "zip" = none) (ha : PA X [a, b] ta) (hs : starEach [a, b] X.env = [(false, eval a X.env), (false, eval b X.env)] := by rfl) (hs2 : starEach [b] X.env = [(false, eval b X.env)] := by rfl) :
    PI X (.Tuple elts tk tp) (.Call (.Name "zip" p) [a, b] [] pos) (iZip (SqT X.K) ta) := by
  refine .mk ?_
  intro pins s σ H R I h
  refine Call_ (ld_blt I hg hm boot_zip (PyProof.Rows.callWith_type1 (thn (ha pos pins s σ H _ I h) fun us s1 ⟨vs, H1, I1, r1, q1⟩ => ?_) (by rw [hs, hs2]) (by rw [hs2]; rfl)))
  obtain ⟨l1, l2, e, ⟨xs, hx⟩, ⟨ys, hy⟩, q⟩ := q1
  subst e
  obtain ⟨u1, u2, rfl, ru1, ru2⟩ := vals2 r1
  cases ru1
  cases ru2
  obtain ⟨is1, rv1, p1, _⟩ := I1.tuple hx
  obtain ⟨is2, rv2, p2, _⟩ := I1.tuple hy
  have lt1 : l1 < s1.heap.objs.size := by obtain ⟨_, e, _⟩ := p1; exact Heap.lt_size e
  have lt2 : l2 < s1.heap.objs.size := by obtain ⟨_, e, _⟩ := p2; exact Heap.lt_size e
  refine call_zipT p1 p2 fun h' hz hTI hTO hi1 hi2 k => ?_
  refine wpAny_pyIter_zip (s := { s1 with heap := h' }) hz ?_
  refine ⟨_, [s1.heap.objs.size + 4, s1.heap.objs.size + 2, s1.heap.objs.size + 3, s1.heap.objs.size, s1.heap.objs.size + 1], _, _, H1, rfl, I1.kept (t' := s1.toks) k, turn_zip src_tup (zap_new lt1 lt2) (Nat.ne_of_lt lt1) (Nat.ne_of_lt (Nat.lt_succ_of_lt lt2)), ⟨hz, hTI, ⟨_, _, hTO⟩, hi1, hi2⟩, fun b hb => ?_, q⟩
  have hb' : s1.heap.objs.size ≤ b := by
    simp only [List.mem_cons, List.not_mem_nil, or_false] at hb
    have hb2 : b = s1.heap.objs.size + 4 ∨ b = s1.heap.objs.size + 2 ∨ b = s1.heap.objs.size + 3 ∨ b = s1.heap.objs.size ∨ b = s1.heap.objs.size + 1 := hb
    rcases hb2 with rfl | rfl | rfl | rfl | rfl
    · exact Nat.le_add_right _ _
    · exact Nat.le_add_right _ _
    · exact Nat.le_add_right _ _
    · exact Nat.le_refl _
    · exact Nat.le_add_right _ _
  exact I1.fpOk hb' (I1.hok.fresh hb')
end
end L2

set_option Elab.async false
set_option linter.all false
set_option maxRecDepth 100000
set_option maxHeartbeats 1000000
namespace L2
open PySem PySem.Spec PyProof.Rows
/-! ### zip: the forms one uses -/
section
variable {sq : Hp → Addr → List V → Prop} {l1 l2 : Addr} {xs ys : List V} {g : TG} {tb : TS} {D : Ends} {σ : St} {H : Hp}
theorem for_zip (Pv : Nat → St → Hp → Prop) (h0 : Pv 0 σ H) (he : xs.length = ys.length) (hl : ∀ i σ H, i ≤ xs.length → Pv i σ H → sq H l1 xs ∧ sq H l2 ys)
    (hs : ∀ i x y σ H t, xs[i]? = some x → ys[i]? = some y → Pv i σ H → H t = none → g (.ref t) σ (upd H t (.tup [x, y])) fun σ2 H2 => tb { D with nx := Pv (i + 1), ct := Pv (i + 1), bk := D.nx } σ2 H2) (hd : ∀ σ H, Pv xs.length σ H → D.nx σ H) :
    ∃ W : Nat → Nat → St → Hp → Prop, (∃ m, W 0 m σ H) ∧ ∀ i m σ H, W i m σ H →
      ((Itz sq l1 l2).stop i H ∧ D.nx σ H) ∨ ((Itz sq l1 l2).go i H ∧ ∃ N : St → Hp → Prop, (∀ σ' H', N σ' H' → ∃ m', m' < m ∧ W (i + 1) m' σ' H') ∧ ∀ x H', (Itz sq l1 l2).yld i H x H' → g x σ H' fun σ2 H2 => tb { D with nx := N, ct := N, bk := D.nx } σ2 H2) := by
  refine ⟨fun i m σ H => m = xs.length - i ∧ i ≤ xs.length ∧ Pv i σ H, ⟨xs.length, by simp, Nat.zero_le _, h0⟩, ?_⟩
  rintro i m σ H ⟨rfl, hi, p⟩
  obtain ⟨q1, q2⟩ := hl i σ H hi p
  by_cases hlt : i < xs.length
  · have hlt2 : i < ys.length := by omega
    refine .inr ⟨⟨xs, ys, xs[i], ys[i], q1, q2, by simp [hlt], by simp [hlt2]⟩, Pv (i + 1), fun σ' H' p' => ⟨xs.length - (i + 1), by omega, rfl, hlt, p'⟩, fun v H' y => ?_⟩
    obtain ⟨t, x, y', e, ht, e2, y1, y2⟩ := y
    subst e e2
    exact hs i x y' σ _ t (y1 xs q1) (y2 ys q2) p ht
  · have e : i = xs.length := by omega
    subst e
    exact .inl ⟨⟨xs, ys, q1, q2, .inl (Nat.le_refl _)⟩, hd σ H p⟩
end
section
variable {sq : Hp → Addr → List V → Prop} {l1 l2 : Addr} {xs ys : List V} {own : Nat} {caps : List Nat} {g : TG} {tt : TT} {te : TE} {σ τ : St} {H1 : Hp} {Q : VK}
theorem comp_zip (hτ : τ = cap σ own caps) (hz : xs.length ≤ sizeLine) (he : xs.length = ys.length) (Pv : Nat → List V → Hp → Prop) (h0 : Pv 0 [] H1) (hl : ∀ i zs H, i ≤ xs.length → Pv i zs H → sq H l1 xs ∧ sq H l2 ys ∧ zs.length ≤ i)
    (hs : ∀ i x y zs H t, xs[i]? = some x → ys[i]? = some y → Pv i zs H → H t = none → g (.ref t) τ (upd H t (.tup [x, y])) fun τ2 H2 => tt τ2 H2 fun b H3 => if b = true then te τ2 H3 fun y H4 => Pv (i + 1) (zs ++ [y]) H4 else Pv (i + 1) zs H3)
    (hd : ∀ zs H, Pv xs.length zs H → CEnd Q zs H) :
    ∃ τ, τ = cap σ own caps ∧ ∃ W : Nat → Nat → List V → Hp → Prop, (∃ m, W 0 m [] H1) ∧ ∀ i m ys H, W i m ys H →
      ((Itz sq l1 l2).stop i H ∧ CEnd Q ys H) ∨
      ((Itz sq l1 l2).go i H ∧ ys.length < sizeLine ∧ ∃ N : List V → Hp → Prop, (∀ ys H, N ys H → ∃ m', m' < m ∧ W (i + 1) m' ys H) ∧ ∀ x H', (Itz sq l1 l2).yld i H x H' → g x τ H' fun τ2 H2 => tt τ2 H2 fun b H3 =>
        if b = true then te τ2 H3 fun y H4 => N (ys ++ [y]) H4 else N ys H3) := by
  refine ⟨τ, hτ, fun i m zs H => m = xs.length - i ∧ i ≤ xs.length ∧ Pv i zs H, ⟨xs.length, by simp, Nat.zero_le _, h0⟩, ?_⟩
  rintro i m zs H ⟨rfl, hi, p⟩
  obtain ⟨q1, q2, ly⟩ := hl i zs H hi p
  by_cases hlt : i < xs.length
  · have hlt2 : i < ys.length := by omega
    refine .inr ⟨⟨xs, ys, xs[i], ys[i], q1, q2, by simp [hlt], by simp [hlt2]⟩, Nat.lt_of_le_of_lt ly (Nat.lt_of_lt_of_le hlt hz), Pv (i + 1), fun ys' H' p' => ⟨xs.length - (i + 1), by omega, rfl, hlt, p'⟩, fun v H' y => ?_⟩
    obtain ⟨t, x, y', e, ht, e2, y1, y2⟩ := y
    subst e e2
    exact hs i x y' zs _ t (y1 xs q1) (y2 ys q2) p ht
  · have e : i = xs.length := by omega
    subst e
    exact .inl ⟨⟨xs, ys, q1, q2, .inl (Nat.le_refl _)⟩, hd zs H p⟩
end
/-! ### list.count, list.clear -/
section
variable {X : Cx}
def rCount (K : PySem.W.Frag) : V → List V → Hp → VK → Prop := fun x vs H Q => ∃ l xs y, x = .ref l ∧ vs = [y] ∧ SqL K H l xs ∧ flatV y = true ∧ xs.all flatV = true ∧ Q (.int (xs.countP fun z => eqV z y : Nat)) H
end
/-! ### more readings -/
section
variable {σ : St} {H H' : Hp} {Q : VK} {D : Ends}
theorem rd_iZ {sq : Hp → Addr → List V → Prop} {tl : TA} {R : It → Hp → Prop} (h : tl σ H fun vs H1 => ∃ a b, vs = [.ref a, .ref b] ∧ (∃ xs, sq H1 a xs) ∧ (∃ ys, sq H1 b ys) ∧ R (Itz sq a b) H1) : iZip sq tl σ H R := h
theorem rd_sfld {K : PySem.W.Frag} {ta tv : TE} {f : Str} (h : tv σ H fun y H1 => ta σ H1 fun x H2 => ∃ a C dx fs, x = .ref a ∧ H2 a = some (.ins C dx fs) ∧ Cls K C ∧ NoAttr K C f ∧ fs.length < 1000 ∧ D.nx σ (upd H2 a (.ins C dx (putF f y fs)))) : sFld K ta tv f D σ H := h
theorem rd_gsub {to ti : TE} {t : TSet} {v : V} {R : St → Hp → Prop} (h : to σ H fun o H1 => ti σ H1 fun i H2 => t o i v H2 fun H3 => R σ H3) : gSub to ti t v σ H R := h
theorem rd_setL {p : Addr} {xs : List V} {k : Int} {j : Nat} {v : V} {R : Hp → Prop} (hq : H p = some (.lst xs)) (hi : ixN xs.length k = some j) (h : R (upd H p (.lst (xs.set j v)))) : rSetL (.ref p) (.int k) v H R := ⟨p, xs, k, j, rfl, rfl, hq, hi, h⟩
theorem ixN_nat {n : Nat} {k : Int} (h0 : 0 ≤ k) (h1 : k < n) : ixN n k = some k.toNat := by
  unfold ixN
  rw [if_pos h0, if_pos h1]
theorem rd_rep {l : Addr} {k : Int} {xs : List V} (hq : H l = some (.lst xs)) (h0 : 0 ≤ k) (h1 : xs.length * k.toNat ≤ sizeLine) (h2 : k < 2 ^ 63) (h : ∀ p, H p = none → Q (.ref p) (upd H p (.lst (List.replicate k.toNat xs).flatten))) : rRep (.ref l) (.int k) H Q :=
  ⟨l, k, xs, rfl, rfl, hq, by omega, h2, h1, h⟩
theorem rd_sl {r : V → Option Int → Option Int → Hp → VK → Prop} {te : TE} {tl th : TO} (h : te σ H fun x H1 => tl σ H1 fun l H2 => th σ H2 fun u H3 => r x l u H3 Q) : tSl r te tl th σ H Q := h
theorem rd_nopart {R : Option Int → Hp → Prop} (h : R none H) : tNoPart σ H R := h
theorem rd_part {te : TE} {R : Option Int → Hp → Prop} (h : te σ H fun x H1 => ∃ i, x = .int i ∧ R (some i) H1) : tPart te σ H R := h
theorem rd_isint {i : Int} {R : Int → Prop} (h : R i) : ∃ k, V.int i = .int k ∧ R k := ⟨i, rfl, h⟩
end
end L2

set_option Elab.async false
set_option linter.all false
set_option maxRecDepth 100000
set_option maxHeartbeats 1000000
namespace L2
open PySem PySem.Spec PyProof.Rows
section
variable {K : PySem.W.Frag} {a : Addr} {xs : List V} {g : TG} {tb : TS} {D : Ends} {σ : L2.St} {H : Hp}
/-- for over an enumerated list -/
theorem for_enum (Pv : Nat → L2.St → Hp → Prop) (h0 : Pv 0 σ H) (hl : ∀ i σ H, i ≤ xs.length → Pv i σ H → SqL K H a xs)
    (hs : ∀ i x σ H t, xs[i]? = some x → Pv i σ H → H t = none → g (.ref t) σ (upd H t (.tup [.int i, x])) fun σ2 H2 => tb { D with nx := Pv (i + 1), ct := Pv (i + 1), bk := D.nx } σ2 H2) (hd : ∀ σ H, Pv xs.length σ H → D.nx σ H) :
    ∃ W : Nat → Nat → L2.St → Hp → Prop, (∃ m, W 0 m σ H) ∧ ∀ i m σ H, W i m σ H →
      ((Ite K a).stop i H ∧ D.nx σ H) ∨ ((Ite K a).go i H ∧ ∃ N : L2.St → Hp → Prop, (∀ σ' H', N σ' H' → ∃ m', m' < m ∧ W (i + 1) m' σ' H') ∧ ∀ x H', (Ite K a).yld i H x H' → g x σ H' fun σ2 H2 => tb { D with nx := N, ct := N, bk := D.nx } σ2 H2) := by
  refine ⟨fun i m σ H => m = xs.length - i ∧ i ≤ xs.length ∧ Pv i σ H, ⟨xs.length, by simp, Nat.zero_le _, h0⟩, ?_⟩
  rintro i m σ H ⟨rfl, hi, p⟩
  have q := hl i σ H hi p
  by_cases hlt : i < xs.length
  · refine .inr ⟨⟨xs, xs[i], q, by simp [hlt]⟩, Pv (i + 1), fun σ' H' p' => ⟨xs.length - (i + 1), by omega, rfl, hlt, p'⟩, fun v H' y => ?_⟩
    obtain ⟨t, y', e, ht, e2, y1⟩ := y
    subst e e2
    exact hs i y' σ _ t (y1 xs q) p ht
  · have e : i = xs.length := by omega
    subst e
    exact .inl ⟨⟨xs, q, Nat.le_refl _⟩, hd σ H p⟩
end
section
variable {σ : L2.St} {H : Hp} {Q : VK}
theorem rd_extend {l b : Addr} {xs zs : List V} (hl : H l = some (.lst xs)) (hb : H b = some (.lst zs)) (hz : xs.length + zs.length ≤ sizeLine) (h : Q .non (upd H l (.lst (xs ++ zs)))) : rExtend (.ref l) [.ref b] H Q := ⟨l, b, xs, zs, rfl, rfl, hl, hb, hz, h⟩
theorem rd_neB {i j : Bool} (h : Q (.bl (!decide (i = j))) H) : rNe (.bl i) (.bl j) H Q := ⟨rfl, by rw [show (decide (V.bl i = V.bl j)) = decide (i = j) by simp]; exact h⟩
end
end L2

set_option Elab.async false
set_option linter.all false
set_option maxRecDepth 100000
set_option maxHeartbeats 1000000
namespace L2
open PySem PySem.Spec PyProof.Rows
/-! ### a thing is tracked from here on -/
section
variable {X : Cx} {pins : List (Addr × Obj)} {σ : L2.St} {H : Hp} {s : Shared}
end
/-! ### a lambda's body -/
def lamCx (X : Cx) (N' : List Str) (qual : Str) (scope : Scope) (L f : Addr) (cd : Value) (A : Around) (s : Shared) (H : Hp) : Cx where
  prog := X.prog
  w := X.w
  K := X.K
  mg := X.mg
  base := X.base
  A := A.deeper (PySem.W.envX qual scope L f cd (closGo X.env.cells scope.names []))
  N := N'
  s₀ := s
  H₀ := H
  env := PySem.W.envX qual scope L f cd (closGo X.env.cells scope.names [])
  outer := X.stack
  stack := PySem.W.envX qual scope L f cd (closGo X.env.cells scope.names []) :: X.stack
  ex := []
  fn := fun _ => false
  calm := true
  pn := []
  xe := fun _ _ => False
/-- the names in a lambda's body: its parameter, the captured ones -/
def capL (σ : L2.St) (v : V) (caps : List Nat) : L2.St := some v :: caps.map fun j => (σ[j]?).getD none
section
variable {X : Cx} {pins : List (Addr × Obj)} {σ : L2.St} {H : Hp} {s : Shared} {A : Around} {f c' : Addr} {name qual x : Str} {params : Arguments} {body : Expr} {scope : Scope} {pm ctv u : Value} {v : V} {caps : List Nat} {capN : List Str} {te : TE} {Q : VK} {E : Value → Shared → Prop}
end
/-! ### a lambda is made -/
/-- the made code -/
def LamC (c' : Addr) (qual : Str) : Heap → Prop := fun h => h.CodeRec (.ref c') qual
/-- the table of the code that makes it -/
def LamT (P : Addr) (pos : Pos) (qual : Str) (H : Hp) : Prop := ∃ ps, H P = some (.tbl ps) ∧ TriplesOk ps.toList ∧ (codeAmong pos ps.toList = none ∨ ∃ c', codeAmong pos ps.toList = some (.ref c') ∧ H c' = some (.ext (LamC c' qual)))
/-- all that was tracked is as it was, but the table -/
def SameB (P : Addr) (H H' : Hp) : Prop := ∀ b o, b ≠ P → H b = some o → H' b = some o
/-- the builtins' module -/
def BmAt (mg : Str → Option Value) (base : Heap) : Prop := ∃ bm ob, mg "__builtins__" = some (.ref bm) ∧ bm ≠ builtinsNs ∧ base.get? bm = some ob ∧ ob.cls = .type "module" ∧ ob.dict = some builtinsNs ∧ ob.data = .plain
section
variable {X : Cx} {pins : List (Addr × Obj)} {σ : L2.St} {H : Hp} {s : Shared} {A : Around} {c P : Addr} {qual : Str} {params : Arguments} {body : Expr} {scope : Scope} {pos : Pos} {fl : Nat} {Q : Value → Shared → Prop} {E : Value → Shared → Prop} {clos : List (Str × Addr)} {M : Model}
end
end L2

set_option Elab.async false
set_option linter.all false
set_option maxRecDepth 100000
set_option maxHeartbeats 1000000
namespace L2
open PySem PySem.Spec PyProof.Rows
/-! ### sorted by a key -/
section
variable {X : Cx} {pins : List (Addr × Obj)} {σ : L2.St} {H : Hp} {s : Shared} {l f : Addr} {xs : List V} {its : List Value} {J : Hp → Prop} {Q : Value → Shared → Prop} {E : Value → Shared → Prop}
end
/-! ### sorted(e, key=lambda x: body) -/
def tSortK (K : PySem.W.Frag) (P : Addr) (lpos : Pos) (qual : Str) (caps : List Nat) (tl te : TE) : TE := fun σ H Q => tl σ H fun v H1 => ∃ (l : Addr) (xs : List V), v = .ref l ∧ SqL K H1 l xs ∧ xs.length < 64 ∧ LamT P lpos qual H1 ∧
  ∀ H2, LamT P lpos qual H2 → SameB P H1 H2 → (∀ (H' : Hp) (x : V), Same H2 H' → x ∈ xs → te (capL σ x caps) H' fun k H3 => Same H' H3 ∧ ∃ n : Int, k = .int n) ∧
    ∀ (H3 : Hp) (D : Addr) (ys : List V), Same H2 H3 → H3 D = none → ys.Perm xs → Q (.ref D) (upd H3 D (.lst ys))
section
variable {X : Cx} {c P : Addr} {k : Nat} {e body : Expr} {params : Arguments} {scope : Scope} {p pos kpos lpos : Pos} {x : Str} {capN : List Str} {caps : List Nat} {tl te : TE}
end
end L2

set_option Elab.async false
set_option linter.all false
set_option maxRecDepth 100000
set_option maxHeartbeats 1000000
namespace L2
open PySem PySem.Spec PyProof.Rows
/-! ### the head of a law whose text makes a lambda: one code table is tracked -/
section
variable {P : Program} {w : World} {K : PySem.W.Frag} {mg : Str → Option Value} {base : Heap}
end
end L2

set_option Elab.async false
set_option linter.all false
set_option maxRecDepth 100000
namespace L2
open PySem PySem.Spec PyProof.Rows
/-! ### the greatest and the least of a list, a range as a list, how often -/
theorem ints_items : ∀ {us : List Value} {ns : List Int}, IntsAre us ns → ∃ l : List (Int × Tok), us = l.map (fun p => Value.int p.1 p.2) ∧ l.map (·.1) = ns
  | _, _, .nil => ⟨[], rfl, rfl⟩
  | _, _, .cons n t h => by
    obtain ⟨l, e1, e2⟩ := ints_items h
    exact ⟨(n, t) :: l, by rw [List.map_cons, e1], by rw [List.map_cons, e2]⟩
theorem items_eq {l : List (Int × Tok)} : (l.map (fun p => Value.int p.1 p.2)).toArray = intItems l.toArray := by simp [intItems]
theorem num_eq {l : List (Int × Tok)} {i : Nat} : numAt l.toArray i = (l.map (·.1)).getD i 0 := by
  unfold numAt
  rw [List.getElem?_toArray, List.getD_eq_getElem?_getD, List.getElem?_map]
section
variable {X : Cx} {pos : Pos}
def rMaxL (K : PySem.W.Frag) : List V → Hp → VK → Prop := fun xs H Q => ∃ (p : Addr) (ns : List Int), xs = [.ref p] ∧ SqL K H p (ns.map V.int) ∧ ns ≠ [] ∧ ∀ M : Int, M ∈ ns → (∀ a ∈ ns, a ≤ M) → Q (.int M) H
def rMinL (K : PySem.W.Frag) : List V → Hp → VK → Prop := fun xs H Q => ∃ (p : Addr) (ns : List Int), xs = [.ref p] ∧ SqL K H p (ns.map V.int) ∧ ns ≠ [] ∧ ∀ M : Int, M ∈ ns → (∀ a ∈ ns, M ≤ a) → Q (.int M) H
/-- range(n), held -/
def rRng1 : List V → Hp → VK → Prop := fun xs H Q => ∃ n : Int, xs = [.int n] ∧ ∀ r, H r = none → Q (.ref r) (upd H r (.rng 0 n))
def rListR : List V → Hp → VK → Prop := fun xs H Q => ∃ (r : Addr) (n : Nat), xs = [.ref r] ∧ H r = some (.rng 0 n) ∧ n ≤ 1000 ∧ ∀ l, H l = none → Q (.ref l) (upd H l (.lst ((List.range n).map fun (j : Nat) => V.int (j : Int))))
end
end L2

set_option Elab.async false
set_option linter.all false
set_option maxRecDepth 100000
set_option maxHeartbeats 1000000
namespace L2
open PySem PySem.Spec PyProof.Rows
theorem dict_mapFields (o : Obj) (f : Array Value → Array Value) : (o.mapFields f).dict = o.dict := by
  unfold Obj.mapFields
  split <;> rfl
/-! ### what is noted in an exception's record -/
/-- an exception's record: its class, its fields; field 1 its entry, field 2 what it came behind -/
structure RecE (h : Heap) (e : Addr) (oe : Obj) (vs : Array Value) : Prop where
  at_ : h.get? e = some oe
  fld : oe.data = .fields vs
  sz : 2 < vs.size
  dct : oe.dict = none
theorem RecE.nofr {h B : Heap} {l : List Env} {e : Addr} {oe : Obj} {vs : Array Value} (r : RecE h e oe vs) (ff : h.FunFrames B l) : e ∉ frs l := fun hm => by
  obtain ⟨_, o, eo, nf⟩ := ff.mem hm
  rw [r.at_] at eo
  cases eo
  exact nf vs r.fld
/-- the entry that a frame gets -/
structure Noted (l : List Env) (e : Addr) (oe : Obj) (fl : Value) (h h' : Heap) : Prop where
  kept : ∀ b o, b ≠ e → b ∉ frs l → h.get? b = some o → h'.get? b = some o
  slot : ∀ b o, b ∈ frs l → h.get? b = some o → ∃ sl, h'.get? b = some { o with slots := sl }
  ent : ∃ (T : Addr) (oT : Obj) (ts : Array Value), h.get? T = none ∧ T ≠ e ∧ h'.get? e = some (oe.mapFields (·.setIfInBounds 1 (.ref T))) ∧ h'.get? T = some oT ∧ oT.data = .fields ts ∧ ts[3]? = some fl
section
variable {M : Model} {A : Around} {E : Value → Shared → Prop} {s : Shared}
theorem entry_new {B : Heap} {env : Env} {l : List Env} {L e : Addr} {oe : Obj} {vs : Array Value} {hd0 : Value} {nx : Bool} {Q : Unit → Shared → Prop} (hfr : A.frames = some (env :: l)) (ff : s.heap.FunFrames B (env :: l)) (hf : env.frame = some L) (r : RecE s.heap e oe vs)
    (k : ∀ h', Noted (env :: l) e oe (rawInt L) s.heap h' → Q () { s with heap := h' }) :
    wpAny M A (do let a ← frameOf env; let pl ← entryPlaceOf L nx; let b ← EntryCells.newEntry hd0 a .none (rawInt L) .none pl; setField (.ref e) 1 b) Q E s := by
  have ne := r.nofr ff
  refine wpAny_bind (wpAny_frameOf_fun hfr ff hf fun g hg => ?_)
  refine wpAny_bind (wpAny_entryPlaceOf fun qq hqq => ?_)
  unfold EntryCells.newEntry newFields
  refine wpAny_bind (wpAny_newObj_type ?_ (hqq.sizeOk5 _ _ _ _ _))
  have eg : g.get? e = some oe := (hg.2.1 e ne).trans r.at_
  generalize hT : ({ cls := .type "traceback", dict := none, data := .fields ([hd0, .ref L, .none, rawInt L, .none] ++ (if qq.isEmpty then List.replicate 6 Value.none else qq)).toArray } : Obj) = oT
  have dT : oT.data = .fields ([hd0, .ref L, .none, rawInt L, .none] ++ (if qq.isEmpty then List.replicate 6 Value.none else qq)).toArray := by rw [← hT]
  have ep : (g.push oT).get? e = some oe := Heap.get?_push_of_some _ eg
  have nT : g.objs.size ≠ e := Nat.ne_of_gt (Heap.lt_size eg)
  have fT : oT.isFreed = false := Obj.isFreed_of_fields dT
  refine wpAny_setField ep r.fld (Nat.lt_trans (by decide) r.sz) (k _ ⟨fun b o be bf eb => ?_, fun b o bf eb => ?_, g.objs.size, oT, _, ?_, nT, ?_, ?_, dT, ?_⟩)
  · rw [Heap.get?_update_other _ _ (Ne.symm be)]
    exact Heap.get?_push_of_some _ ((hg.2.1 b bf).trans eb)
  · obtain ⟨sl, es⟩ := hg.2.2 b o eb
    have be : e ≠ b := fun z => ne (z ▸ bf)
    exact ⟨sl, by rw [Heap.get?_update_other _ _ be]; exact Heap.get?_push_of_some _ es⟩
  · exact Heap.get?_none_of_le (by rw [hg.1]; exact Nat.le_refl _)
  · exact Heap.get?_update_self _ ep (Obj.isFreed_of_fields (Obj.data_mapFields r.fld _))
  · rw [Heap.get?_update_other _ _ (Ne.symm nT)]
    exact Heap.get?_push_size _ fT
  · simp
theorem flight_set {fr : Option Addr} {e T : Addr} {oe oT : Obj} {vs ts : Array Value} {Q : Unit → Shared → Prop} (he : s.heap.get? e = some oe) (hd : oe.data = .fields vs) (h1 : vs[1]? = some (.ref T)) (hT : s.heap.get? T = some oT) (dT : oT.data = .fields ts) (h3 : 3 < ts.size)
    (k : ∀ h', (∀ b o, b ≠ T → s.heap.get? b = some o → h'.get? b = some o) → (∃ o2 ts2, h'.get? T = some o2 ∧ o2.data = .fields ts2 ∧ ts2[3]? = some (fr.elim .none fun f => rawInt f)) → Q () { s with heap := h' }) : wpAny M A (setFlight (.ref e) fr) Q E s := by
  unfold setFlight
  refine wpAny_bind (wpAny_field he hd h1 ?_)
  rw [if_pos (show (Value.ref T != Value.none) = true from by simp)]
  refine wpAny_setField hT dT h3 (k _ (fun b o nb eb => ?_) ⟨_, _, Heap.get?_update_self _ hT (Obj.isFreed_of_fields (Obj.data_mapFields dT _)), Obj.data_mapFields dT _, ?_⟩)
  · rw [Heap.get?_update_other _ _ (Ne.symm nb)]
    exact eb
  · simp [h3]
end
/-! ### an exception in the air -/
structure Air (fl : Value) (B : Heap) (l : List Env) (e C : Addr) (h : Heap) : Prop where
  st : B.StaysIn h
  new : B.get? e = none
  ff : h.FunFrames B l
  rec_ : ∃ (oe : Obj) (vs : Array Value) (T : Addr) (oT : Obj) (ts : Array Value), RecE h e oe vs ∧ oe.cls = .ref C ∧ vs[2]? = some .none ∧ vs[1]? = some (.ref T) ∧ B.get? T = none ∧ T ≠ e ∧ h.get? T = some oT ∧ oT.data = .fields ts ∧ ts[3]? = some fl
def SlotR (l : List Env) (h h' : Heap) : Prop := ∀ b o, b ∈ frs l → h.get? b = some o → ∃ sl, h'.get? b = some { o with slots := sl }
theorem SlotR.trans {l : List Env} {h h1 h2 : Heap} (a : SlotR l h h1) (b : SlotR l h1 h2) : SlotR l h h2 := fun c o m e => by
  obtain ⟨sl, e1⟩ := a c o m e
  obtain ⟨sl2, e2⟩ := b c _ m e1
  exact ⟨sl2, e2⟩
theorem ff_slots {B h h' : Heap} : ∀ {l : List Env}, h.FunFrames B l → SlotR l h h' → h'.FunFrames B l
  | [], _, _ => trivial
  | env :: l, ⟨k, ⟨L, o, hf, hb, ho, nf⟩, r⟩, sr => by
    have hm : L ∈ frs (env :: l) := List.mem_filterMap.mpr ⟨env, List.mem_cons_self, hf⟩
    obtain ⟨sl, es⟩ := sr L o hm ho
    refine ⟨k, ⟨L, _, hf, hb, es, fun vs => nf vs⟩, ff_slots r fun b o2 m e => sr b o2 ?_ e⟩
    obtain ⟨env2, h1, h2⟩ := List.mem_filterMap.mp m
    exact List.mem_filterMap.mpr ⟨env2, List.mem_cons_of_mem _ h1, h2⟩
theorem ff_tail {B h : Heap} {env : Env} {l : List Env} (f : h.FunFrames B (env :: l)) : h.FunFrames B l := f.2.2
section
variable {M : Model} {A : Around} {E : Value → Shared → Prop} {s : Shared}
/-- noting a frame on an exception that is in the air -/
theorem air_note {fl : Value} {B : Heap} {env : Env} {l : List Env} {L e C : Addr} {Q : Unit → Shared → Prop} (hfr : A.frames = some (env :: l)) (hf : env.frame = some L) (a : Air fl B (env :: l) e C s.heap)
    (k : ∀ h', Air (rawInt L) B (env :: l) e C h' → SlotR (env :: l) s.heap h' → Q () { s with heap := h' }) : wpAny M A (noteFrame (.ref e) env) Q E s := by
  obtain ⟨oe, vs, T, oT, ts, r, hc, h2, h1, nT, Te, eT, dT, h3⟩ := a.rec_
  have T3 : 3 < ts.size := (Array.getElem?_eq_some_iff.mp h3).1
  unfold noteFrame
  simp only [hf]
  refine wpAny_bind (wpAny_field r.at_ r.fld h1 ?_)
  rw [if_pos (show (Value.ref T != Value.none) = true by simp)]
  refine wpAny_bind (wpAny_field eT dT h3 ?_)
  by_cases hfl : (fl == rawInt L) = true
  · rw [if_pos hfl]
    obtain rfl := beq_iff_eq.mp hfl
    exact wpAny_pure (k s.heap a fun b o m eo => ⟨o.slots, eo⟩)
  rw [if_neg hfl]
  refine wpAny_bind (wpAny_setField eT dT T3 ?_)
  have oth : ∀ b, b ≠ T → (s.heap.update T (Obj.mapFields (·.setIfInBounds 3 Value.none))).get? b = s.heap.get? b := fun b nb => Heap.get?_update_other _ _ (Ne.symm nb)
  have fT : ∀ b ∈ frs (env :: l), b ≠ T := fun b hb z => by
    obtain ⟨_, o, eo, nf⟩ := a.ff.mem hb
    rw [z, eT] at eo
    cases eo
    exact nf ts dT
  have sr : SlotR (env :: l) s.heap (s.heap.update T (Obj.mapFields (·.setIfInBounds 3 Value.none))) := fun b o m eo => ⟨o.slots, by rw [oth b (fT b m)]; exact eo⟩
  have r2 : RecE (s.heap.update T (Obj.mapFields (·.setIfInBounds 3 Value.none))) e oe vs := ⟨by rw [oth e (Ne.symm Te)]; exact r.at_, r.fld, r.sz, r.dct⟩
  refine entry_new (s := { s with heap := s.heap.update T (Obj.mapFields (·.setIfInBounds 3 Value.none)) }) hfr (ff_slots a.ff sr) hf r2 fun h' n => k h' ?_ (sr.trans fun b o m eo => n.slot b o m eo)
  obtain ⟨T2, oT2, ts2, q1, q2, q3, q4, q5, q6⟩ := n.ent
  have st : B.StaysIn h' := fun b o eb => n.kept b o (fun z => by rw [z, a.new] at eb; cases eb) (fun hm => by rw [(a.ff.mem hm).1] at eb; cases eb) (by rw [oth b (fun z => by rw [z, nT] at eb; cases eb)]; exact a.st b o eb)
  refine ⟨st, a.new, ff_slots (ff_slots a.ff sr) fun b o m eo => n.slot b o m eo, ?_⟩
  refine ⟨_, _, T2, oT2, ts2, ⟨q3, Obj.data_mapFields r.fld _, by simp; exact r.sz, (dict_mapFields _ _).trans r.dct⟩, (Obj.cls_mapFields _ _).trans hc, ?_, ?_, ?_, q2, q4, q5, q6⟩
  · rw [Array.getElem?_setIfInBounds_ne (by decide)]
    exact h2
  · have : 1 < vs.size := Nat.lt_trans (by decide) r.sz
    simp [this]
  · cases z : B.get? T2 with
    | none => rfl
    | some o =>
      have e1 : (s.heap.update T (Obj.mapFields (·.setIfInBounds 3 Value.none))).get? T2 = some o := by rw [oth T2 (fun w => by rw [w, nT] at z; cases z)]; exact a.st _ _ z
      rw [show (s.heap.update T (Obj.mapFields (·.setIfInBounds 3 Value.none))).get? T2 = none from q1] at e1
      cases e1
/-- its flight is noted -/
theorem air_set {fr : Option Addr} {fl : Value} {B : Heap} {l : List Env} {e C : Addr} {Q : Unit → Shared → Prop} (a : Air fl B l e C s.heap) (k : ∀ h', Air (fr.elim .none fun f => rawInt f) B l e C h' → SlotR l s.heap h' → Q () { s with heap := h' }) : wpAny M A (setFlight (.ref e) fr) Q E s := by
  obtain ⟨oe, vs, T, oT, ts, r, hc, h2, h1, nT, Te, eT, dT, h3⟩ := a.rec_
  refine flight_set r.at_ r.fld h1 eT dT (Array.getElem?_eq_some_iff.mp h3).1 fun h' kp tt => ?_
  have fT : ∀ b ∈ frs l, b ≠ T := fun b hb z => by
    obtain ⟨_, o, eo, nf⟩ := a.ff.mem hb
    rw [z, eT] at eo
    cases eo
    exact nf ts dT
  have sr : SlotR l s.heap h' := fun b o m eo => ⟨o.slots, kp b o (fT b m) eo⟩
  obtain ⟨o2, ts2, w1, w2, w3⟩ := tt
  exact k h' ⟨fun b o eb => kp b o (fun z => by rw [z, nT] at eb; cases eb) (a.st b o eb), a.new, ff_slots a.ff sr, oe, vs, T, o2, ts2, ⟨kp _ _ (Ne.symm Te) r.at_, r.fld, r.sz, r.dct⟩, hc, h2, h1, nT, Te, w1, w2, w3⟩ sr
/-- it is let go of -/
theorem air_land {fl : Value} {B : Heap} {l : List Env} {e C : Addr} {Q : Unit → Shared → Prop} (a : Air fl B l e C s.heap) (k : ∀ h', Air .none B l e C h' → SlotR l s.heap h' → Q () { s with heap := h' }) : wpAny M A (setFlight (.ref e) none) Q E s := air_set a k
/-- it leaves a frame -/
theorem air_leave {fl : Value} {B : Heap} {env : Env} {l : List Env} {L e C : Addr} {Q : Unit → Shared → Prop} (hfr : A.frames = some (env :: l)) (hf : env.frame = some L) (a : Air fl B (env :: l) e C s.heap)
    (k : ∀ h', Air .none B l e C h' → SlotR (env :: l) s.heap h' → Q () { s with heap := h' }) : wpAny M A (leaving env (.ref e)) Q E s := by
  unfold leaving
  refine wpAny_bind (air_note hfr hf a fun h1 a1 s1 => ?_)
  refine air_land (s := { s with heap := h1 }) a1 fun h2 a2 s2 => k h2 ⟨a2.st, a2.new, ff_tail a2.ff, a2.rec_⟩ (s1.trans s2)
/-- a new one leaves the frame that made it -/
theorem air_made {B h0 : Heap} {env : Env} {l : List Env} {L e C : Addr} {us : List Value} {Q : Unit → Shared → Prop} (hfr : A.frames = some (env :: l)) (hf : env.frame = some L) (st : B.StaysIn h0) (ff : h0.FunFrames B (env :: l)) (hm : Heap.MadeExcOf h0 s.heap e (.ref C) us)
    (k : ∀ h', Air .none B l e C h' → SlotR (env :: l) h0 h' → Q () { s with heap := h' }) : wpAny M A (leaving env (.ref e)) Q E s := by
  obtain ⟨t, he, htn, ht⟩ := hm.there
  have ff1 : s.heap.FunFrames B (env :: l) := ff_slots ff fun b o m eo => ⟨o.slots, hm.keeps b o eo⟩
  have r : RecE s.heap e _ _ := ⟨he, rfl, by show 2 < 6; decide, rfl⟩
  have fresh : ∀ b, h0.get? b = none → B.get? b = none := fun b hb => by
    cases z : B.get? b with
    | none => rfl
    | some o => have := st b o z; rw [hb] at this; cases this
  unfold leaving noteFrame
  simp only [hf]
  refine wpAny_bind (wpAny_bind (wpAny_field he rfl (x := .none) rfl ?_))
  rw [if_neg (by decide)]
  refine entry_new hfr ff1 hf r fun h1 n => ?_
  obtain ⟨T, oT, ts, q1, q2, q3, q4, q5, q6⟩ := n.ent
  have d1 : ((⟨.ref C, none, .fields #[.ref t, .none, .none, .none, .bool false, .none], #[]⟩ : Obj).mapFields (·.setIfInBounds 1 (.ref T))).data = .fields (#[Value.ref t, .none, .none, .none, .bool false, .none].setIfInBounds 1 (.ref T)) := Obj.data_mapFields rfl _
  have sr : SlotR (env :: l) s.heap h1 := fun b o m eo => n.slot b o m eo
  have nT : B.get? T = none := by
    cases z : B.get? T with
    | none => rfl
    | some o => have := hm.keeps _ _ (st _ _ z); rw [q1] at this; cases this
  have a1 : Air (rawInt L) B (env :: l) e C h1 := ⟨fun b o eb => n.kept b o (fun z => by rw [z, fresh e hm.new] at eb; cases eb) (fun hmem => by rw [(ff.mem hmem).1] at eb; cases eb) (hm.keeps b o (st b o eb)), fresh e hm.new, ff_slots ff1 sr,
    _, _, T, oT, ts, ⟨q3, Obj.data_mapFields rfl _, by simp, dict_mapFields _ _⟩, Obj.cls_mapFields _ _, by simp, by simp, nT, q2, q4, q5, q6⟩
  refine air_land (s := { s with heap := h1 }) a1 fun h2 a2 s2 => k h2 ⟨a2.st, a2.new, ff_tail a2.ff, a2.rec_⟩ ?_
  exact fun b o m eo => (sr.trans s2) b o m (hm.keeps b o eo)
end
end L2

set_option Elab.async false
set_option linter.all false
set_option maxRecDepth 100000
set_option maxHeartbeats 1000000
namespace L2
open PySem PySem.Spec PyProof.Rows
/-! ### how an exception lies behind a call -/
theorem ObjOk.is {P : Program} {w : World} {H : Hp} {h : Heap} {a : Addr} {o : HO} (x : ObjOk P w H h a o) : ∃ ob, h.get? a = some ob := by
  cases o with
  | lst xs => obtain ⟨_, _, _, _, e⟩ := x; exact ⟨_, e⟩
  | tup xs => obtain ⟨_, _, _, ob, e, _⟩ := x; exact ⟨_, e⟩
  | dK kvs => obtain ⟨_, _, _, _, ob, _, _, e, _⟩ := x; exact ⟨_, e⟩
  | dT kvs => obtain ⟨_, _, _, _, ob, _, _, e, _⟩ := x; exact ⟨_, e⟩
  | set S n => obtain ⟨ob, _, _, _, e, _⟩ := x; exact ⟨_, e⟩
  | ins C dx fs => obtain ⟨_, _, _, e, _⟩ := x; exact ⟨_, e⟩
  | own y => exact x
  | xd fs => obtain ⟨_, ⟨_, _, _, e, _⟩, _⟩ := x; exact ⟨_, e⟩
  | rng lo hi => obtain ⟨_, _, _, e⟩ := x; exact ⟨_, e⟩
  | frz ob u => exact ⟨_, x.1⟩
  | tbl ps => exact ⟨_, show h.get? a = some _ from x⟩
  | met f y => exact ⟨_, show h.get? a = some _ from x⟩
  | ext φ => exact x.2.1
/-- all that is no frame of l, and is tracked or old, lies in B -/
def Cov (l : List Env) (H : Hp) (h0 h B : Heap) : Prop := ∀ b o, h.get? b = some o → b ∉ frs l → (H b ≠ none ∨ ∃ o0, h0.get? b = some o0) → B.get? b = some o
def Fly (P : Program) (w : World) : CXT := fun l H s E e s' => ∃ (ea C : Addr) (H' : Hp) (B : Heap), e = .ref ea ∧ s'.os = s.os ∧ AllBare s'.gens ∧ Un (frs l) [] H H' s.heap s'.heap ∧ HOk P w H' s'.heap ∧
  (∃ fl, Air fl B l ea C s'.heap) ∧ Cov l H' s.heap s'.heap B ∧ E (.ref C) none H'
section
variable {X : Cx} {pins : List (Addr × Obj)} {σ : L2.St} {H : Hp} {s : Shared}
/-- an exception that was made in a body leaves its frame -/
theorem fly_made {l : List Env} {E : XK} {ea C : Addr} {us : List Value} {h1 : Heap} {EE : Value → Shared → Prop} (I : Inv X pins σ H s) (hst : X.stack = X.env :: l) (ho : X.outer = l) (hfr : X.env.frame = some X.env.locals) (hx : X.ex = [])
    (hm : Heap.MadeExcOf s.heap h1 ea (.ref C) us) (hE : E (.ref C) none H) :
    wpAny (model X.prog X.w) X.A (leaving X.env (.ref ea)) (fun _ s2 => Fly X.prog X.w l X.H₀ X.s₀ E (.ref ea) s2) EE { s with heap := h1 } := by
  have fr := I.ok.frames
  rw [hst] at fr
  have ff := I.stack
  rw [hst] at ff
  have hmem : ∀ env ∈ X.env :: l, ∀ b, env.frame = some b → b ∈ frs (X.env :: l) := fun env he b hb => List.mem_filterMap.mpr ⟨env, he, hb⟩
  have free := I.stkFree
  rw [hst] at free
  have hfs : X.fs = frs l := by show frs X.outer = _; rw [ho]
  have sub : ∀ b, b ∈ frs (X.env :: l) → b = X.env.locals ∨ b ∈ frs l := fun b hb => by
    obtain ⟨env, he, hf⟩ := List.mem_filterMap.mp hb
    rcases List.mem_cons.mp he with rfl | he
    · rw [hfr] at hf
      exact .inl (Option.some.inj hf).symm
    · exact .inr (List.mem_filterMap.mpr ⟨env, he, hf⟩)
  refine air_made (B := PySem.W.hideAll s.heap (frs (X.env :: l))) (h0 := s.heap) fr hfr (fun b o q => PySem.W.of_hideAll _ q) (PySem.W.funFrames_hide ff hmem) hm fun h2 f1 f4 => ?_
  have kb : ∀ b o, s.heap.get? b = some o → b ∉ frs (X.env :: l) → h2.get? b = some o := fun b o e n => f1.st b o (PySem.W.hideAll_get _ e n)
  have lN : ∀ b o, X.s₀.heap.get? b = some o → b ≠ X.env.locals := fun b o e z => Nat.lt_irrefl _ (Nat.lt_of_lt_of_le (z ▸ Heap.lt_size e) I.ok.above)
  have ex0 : ∀ b : Addr, b ∉ X.ex := fun b z => by rw [hx] at z; cases z
  have slot : ∀ b o, s.heap.get? b = some o → b ∈ frs l → ∃ sl, h2.get? b = some { o with slots := sl } := fun b o e hb => by
    refine f4 b o ?_ e
    obtain ⟨env, he, hf⟩ := List.mem_filterMap.mp hb
    exact List.mem_filterMap.mpr ⟨env, List.mem_cons_of_mem _ he, hf⟩
  have un := I.base
  rw [hfs, hx] at un
  have tnf : ∀ b, H b ≠ none → b ∉ frs (X.env :: l) := fun b hb hm' => hb (free b hm')
  refine ⟨ea, C, H, _, rfl, I.os, I.bare, ⟨fun b o e n hb _ => ?_, fun b o e n hb _ => ?_, fun b o e n _ => un.free b o e n (by simp), fun b o e _ => ?_, un.tups, un.frzs, un.tbls⟩, fun b o q => ?_, ⟨_, f1⟩, fun b o e n hc => ?_, hE⟩
  · refine kb b o (un.keep b o e n hb (by simp)) fun z => ?_
    rcases sub b z with z | z
    · exact lN b o e z
    · exact hb z
  · obtain ⟨sl, e2⟩ := un.slot b o e n hb (by simp)
    obtain ⟨sl2, e3⟩ := slot b _ e2 hb
    exact ⟨sl2, e3⟩
  · obtain ⟨o2, e2⟩ := un.there b o e (by simp)
    by_cases hb : b ∈ frs l
    · obtain ⟨sl, e3⟩ := slot b o2 e2 hb
      exact ⟨_, e3⟩
    · exact ⟨o2, kb b o2 e2 fun z => by
        rcases sub b z with z | z
        · exact lN b o e z
        · exact hb z⟩
  · refine (I.hok b o q).stay (fun c u hc e => kb c u e (tnf c ?_)) (fun _ z => z) fun _ _ z => z
    rcases hc with rfl | hc
    · rw [q]; exact fun z => by cases z
    · rw [hc]; exact fun z => by cases z
  · have hb2 : b ∉ frs (X.env :: l) := by
      rcases hc with hc | ⟨o0, e0⟩
      · exact tnf b hc
      · intro z
        rcases sub b z with z | z
        · exact lN b o0 e0 z
        · exact n z
    have ⟨o2, e2⟩ : ∃ o2, s.heap.get? b = some o2 := by
      rcases hc with hc | ⟨o0, e0⟩
      · cases q : H b with
        | none => exact absurd q hc
        | some u => exact (I.hok b u q).is
      · exact un.there b o0 e0 (by simp)
    have e3 := kb b o2 e2 hb2
    rw [e] at e3
    cases e3
    exact PySem.W.hideAll_get _ e2 hb2
/-- one that came from a callee leaves the frame -/
theorem fly_on {l : List Env} {E E' : XK} {e : Value} {s1 : Shared} {EE : Value → Shared → Prop} (I : Inv X pins σ H s) (hst : X.stack = X.env :: l) (ho : X.outer = l) (hfr : X.env.frame = some X.env.locals) (hx : X.ex = [])
    (hf : Fly X.prog X.w X.stack H s E' e s1) (hE : ∀ c d H', E' c d H' → E c d H') :
    wpAny (model X.prog X.w) X.A (leaving X.env e) (fun _ s2 => Fly X.prog X.w l X.H₀ X.s₀ E e s2) EE s1 := by
  obtain ⟨ea, C, H', B, rfl, os, bare, u1, hok, ⟨fl0, fl⟩, cov, he⟩ := hf
  have fr := I.ok.frames
  rw [hst] at fr fl cov u1
  have ff := I.stack
  rw [hst] at ff
  have free := I.stkFree
  rw [hst] at free
  have hfs : X.fs = frs l := by show frs X.outer = _; rw [ho]
  have sub : ∀ b, b ∈ frs (X.env :: l) → b = X.env.locals ∨ b ∈ frs l := fun b hb => by
    obtain ⟨env, he, hf⟩ := List.mem_filterMap.mp hb
    rcases List.mem_cons.mp he with rfl | he
    · rw [hfr] at hf
      exact .inl (Option.some.inj hf).symm
    · exact .inr (List.mem_filterMap.mpr ⟨env, he, hf⟩)
  have sup : ∀ b, b ∈ frs l → b ∈ frs (X.env :: l) := fun b hb => by
    obtain ⟨env, he, hf⟩ := List.mem_filterMap.mp hb
    exact List.mem_filterMap.mpr ⟨env, List.mem_cons_of_mem _ he, hf⟩
  have free' : ∀ b ∈ frs (X.env :: l), H' b = none := fun b hb => by
    obtain ⟨_, o, e, _⟩ := ff.mem hb
    exact u1.free b o e (free b hb) (by simp)
  have lN : ∀ b o, X.s₀.heap.get? b = some o → b ≠ X.env.locals := fun b o e z => Nat.lt_irrefl _ (Nat.lt_of_lt_of_le (z ▸ Heap.lt_size e) I.ok.above)
  have un := I.base
  rw [hfs, hx] at un
  refine air_leave fr hfr fl fun h2 f1 f4 => ?_
  have old : ∀ b o, X.s₀.heap.get? b = some o → b ∉ frs l → b ∉ frs (X.env :: l) := fun b o e n z => by
    rcases sub b z with z | z
    · exact lN b o e z
    · exact n z
  have slot : ∀ b o, s1.heap.get? b = some o → b ∈ frs l → ∃ sl, h2.get? b = some { o with slots := sl } := fun b o e hb => by
    exact f4 b o (sup b hb) e
  refine ⟨ea, C, H', B, rfl, os.trans I.os, bare, ⟨fun b o e n hb _ => ?_, fun b o e n hb _ => ?_, fun b o e n _ => ?_, fun b o e _ => ?_, fun b xs q => u1.tups b xs (un.tups b xs q), fun b ob v q => u1.frzs b ob v (un.frzs b ob v q), fun b ps q => ?_⟩, fun b o q => ?_, ⟨_, f1⟩, fun b o e n hc => ?_, hE _ _ _ he⟩
  · have e1 := un.keep b o e n hb (by simp)
    have e2 := u1.keep b o e1 (un.free b o e n (by simp)) (old b o e hb) (by simp)
    exact f1.st b o (cov b o e2 (old b o e hb) (.inr ⟨o, e1⟩))
  · obtain ⟨sl, e1⟩ := un.slot b o e n hb (by simp)
    obtain ⟨sl2, e2⟩ := u1.slot b _ e1 (un.free b o e n (by simp)) (sup b hb) (by simp)
    obtain ⟨sl3, e3⟩ := slot b _ e2 hb
    exact ⟨sl3, e3⟩
  · obtain ⟨o1, e1⟩ := un.there b o e (by simp)
    exact u1.free b o1 e1 (un.free b o e n (by simp)) (by simp)
  · obtain ⟨o1, e1⟩ := un.there b o e (by simp)
    obtain ⟨o2, e2⟩ := u1.there b o1 e1 (by simp)
    by_cases hb : b ∈ frs l
    · obtain ⟨sl, e3⟩ := slot b o2 e2 hb
      exact ⟨_, e3⟩
    · exact ⟨o2, f1.st b o2 (cov b o2 e2 (old b o e hb) (.inr ⟨o1, e1⟩))⟩
  · obtain ⟨m1, e1⟩ := un.tbls b ps q
    obtain ⟨m2, e2⟩ := u1.tbls b _ e1
    exact ⟨m1 ++ m2, by rw [e2, Array.append_assoc]⟩
  · refine (hok b o q).stay (fun c u hc e => f1.st c u (cov c u e (fun z => ?_) (.inl ?_))) (fun _ z => z) fun _ _ z => z
    · have := free' c z
      rcases hc with rfl | hc
      · rw [q] at this; cases this
      · rw [hc] at this; cases this
    · rcases hc with rfl | hc
      · rw [q]; exact fun z => by cases z
      · rw [hc]; exact fun z => by cases z
  · have hb2 : b ∉ frs (X.env :: l) := by
      rcases hc with hc | ⟨o0, e0⟩
      · exact fun z => hc (free' b z)
      · exact old b o0 e0 n
    have ⟨o2, e2, hc2⟩ : ∃ o2, s1.heap.get? b = some o2 ∧ (H' b ≠ none ∨ ∃ o0, s.heap.get? b = some o0) := by
      rcases hc with hc | ⟨o0, e0⟩
      · cases q : H' b with
        | none => exact absurd q hc
        | some u =>
          obtain ⟨o2, e2⟩ := (hok b u q).is
          exact ⟨o2, e2, .inl (fun z => by cases z)⟩
      · obtain ⟨o1, e1⟩ := un.there b o0 e0 (by simp)
        obtain ⟨o2, e2⟩ := u1.there b o1 e1 (by simp)
        exact ⟨o2, e2, .inr ⟨o1, e1⟩⟩
    have e3 := cov b o2 e2 hb2 hc2
    have e4 := f1.st b o2 e3
    rw [e] at e4
    cases e4
    exact e3
end
/-! ### what a context does with exceptions -/
structure Flier (X : Cx) (E : XK) : Prop where
  made : ∀ (pins : List (Addr × Obj)) (σ : L2.St) (H : Hp) (s : Shared) (ea C : Addr) (us : List Value) (h1 : Heap), Inv X pins σ H s → Heap.MadeExcOf s.heap h1 ea (.ref C) us → E (.ref C) none H → X.xe (.ref ea) { s with heap := h1 }
  pass : Passes (Fly X.prog X.w) X E
  own : PassesOwn (model X.prog X.w) X.A X.env X.xe
theorem flier_def {P : Program} {w : World} {K : PySem.W.Frag} {mg : Str → Option Value} {base : Heap} {N : List Str} {qual : Str} {scope : Scope} {f : Addr} {cd : Value} {A : Around} {outer : List Env} {s : Shared} {H : Hp} {E : XK} :
    Flier (cxOf (Fly P w) P w K mg base N qual scope f cd A outer s H E) E where
  made := fun pins σ H' s' ea C us h1 I hm hE => fly_made I rfl rfl rfl rfl hm hE
  pass := fun pins σ H' s' e s1 I hf => fly_on I rfl rfl rfl rfl hf fun _ _ _ z => z
  own := PassesOwn.leaving
/-! ### raise C(..), C an own class below ValueError -/
abbrev veBm : List Value := [.type "ValueError", .type "Exception", .type "BaseException", .type "object"]
def ExcC (K : PySem.W.Frag) (C : Addr) : Prop := PySem.W.excIn K C veBm "ValueError.__new__" = true
theorem ExcC.parts {K : PySem.W.Frag} {h : Heap} {C : Addr} (KX : K.In h) (z : ExcC K C) :
    ∃ tl N nm qn bs hs sn sub ab col dd k0 k1 k2 k3 k5 mN, h.get? C = some (excClassObj nm qn C N bs tl hs sn sub ab col dd k0 k1 k2 k3 k5 "ValueError.__new__") ∧ h.Ns N mN ∧ mN "__init__" = none ∧ OwnTail h veBm tl := by
  unfold ExcC PySem.W.excIn at z
  split at z
  case h_2 => cases z
  case h_1 dd cd sl look =>
    split at z
    case h_2 => cases z
    case h_1 C2 tl k0 k1 k2 k3 nn k5 hmro hslots =>
      simp only [Bool.and_eq_true, beq_iff_eq, Bool.not_eq_true'] at z
      obtain ⟨⟨⟨⟨⟨zc, zn⟩, zd⟩, zt⟩, zo⟩, zi⟩ := z
      subst zc
      subst zn
      have e := KX _ _ look
      obtain ⟨nm, bs, mr, nsA, qn, hs, sn, sub, ab, col, del⟩ := cd
      simp only at hmro zd zo zi
      subst hmro
      subst zd
      have es : sl = #[k0, k1, k2, k3, some (.builtin "ValueError.__new__"), k5] := by
        cases sl with
        | mk ll => simp only at hslots; rw [hslots]
      subst es
      exact ⟨tl, nsA, nm, qn, bs, hs, sn, sub, ab, col, dd, k0, k1, k2, k3, k5, h.nsMap nsA, e, .of_isNs (PySem.W.isNs_of_in KX zo), PySem.W.nsMap_none_of_in KX zo zi, PySem.W.tail_of_in KX zt⟩
def tRaise (C : Addr) (E : XK) (t : TA) : TS := fun _ σ H => t σ H fun vs H1 => vs.length ≤ sizeLine ∧ E (.ref C) none H1
section
variable {X : Cx} {E : XK} {x : Str} {C : Addr} {e : Expr} {es : List Expr} {t : TA} {np cpos pos : Pos}
theorem ps_raise (fl : Flier X E) (hc : X.calm = true) (hg : Gl X x) (hm : X.mg x = some (.ref C)) (hC : ExcC X.K C) (ha : PA X (e :: es) t) (hdb : (x == ("__debug__" : Str)) = false := by decide)
    (he : starEach (e :: es) X.env = (false, eval e X.env) :: starEach es X.env := by rfl) (hpl : (backTo cpos (starEach es X.env)).any (·.1) = false := by rfl) :
    PS X (.Raise (some (.Call (.Name x np) (e :: es) [] cpos)) none pos) (tRaise C E t) := by
  refine .mk ?_
  intro pins s σ H D I h
  obtain ⟨tl, N, nm, qn, bs, hs, sn, sub, ab, col, dd, k0, k1, k2, k3, k5, mN, oC, oN, oi, oT⟩ := hC.parts I.ok.mod.kin
  refine wpAny_Raise_call_subU (C := C) (nm := nm) (q := qn) (N := N) (bs := bs) (bm := tl) (hdct := hs) (sn := sn) (sub := sub) (ab := ab) (col := col) (dd := dd) (k0 := k0) (k1 := k1) (k2 := k2) (k3 := k3) (k5 := k5)
    PySem.F.excBase_ValueError (by decide) PySem.F.excBase_ValueError (mN := mN) (oT.hasType (by decide)) (I.ok.hd hc) ?hp oi (ld_glob I hg hm ⟨rfl, ?_⟩ hdb)
  case hp =>
    rw [he]
    show (false || (backTo cpos (starEach es X.env)).any (·.1)) = false
    rw [hpl]
    rfl
  have hr := ha cpos pins s σ H _ I h
  rw [he] at hr ⊢
  refine Calls.evalArgs_plain (wpAny_mono hr (fun us s2 hq => ?_) fun _ _ z => z)
  obtain ⟨vs, H1, I1, rv, hz, hE⟩ := hq
  refine ⟨rfl, by rw [← rv.length]; exact hz, I1.bk _ _ oC, oN.keeps I1.bk, oT.keeps I1.bk, fun h1 ea hm' => ?_⟩
  exact fl.made pins σ H1 s2 ea C us h1 I1 hm' hE
end
end L2

set_option Elab.async false
set_option linter.all false
set_option maxRecDepth 100000
set_option maxHeartbeats 1000000
namespace L2
open PySem PySem.Spec PyProof.Rows
/-! ### does an own exception match an own class -/
theorem kit_sub {K : PySem.W.Frag} {M : Model} {h : Heap} {C V : Addr} {b : Bool} (KX : K.In h) (zC : ExcC K C) (hk : PySem.W.kitOne K (.ref C) (.ref V) = some b) : PySem.W.Looks M h (isSubtype (.ref C) (.ref V)) b := by
  unfold PySem.W.kitOne at hk
  split at hk
  · rename_i e
    have e2 : C = V := by
      have := beq_iff_eq.mp e
      cases this
      rfl
    subst e2
    cases hk
    intro A Q E s kp q
    obtain ⟨tl, N, nm, qn, bs, hs, sn, sub, ab, col, dd, k0, k1, k2, k3, k5, mN, oC, oN, oi, oT⟩ := zC.parts (KX.keeps kp)
    obtain ⟨hp, g, d, t, os⟩ := s
    refine wpAny_isSubtype_exc oC ?_
    rw [show (Value.ref C :: tl).contains (.ref C) = true by simp]
    exact q
  · exact (PySem.W.kit_cls KX hk).2.2
theorem exc_match {K : PySem.W.Frag} {M : Model} {A : Around} {E : Value → Shared → Prop} {s : Shared} {C V e : Addr} {oe : Obj} {b : Bool} {Q : Bool → Shared → Prop} (KX : K.In s.heap) (zC : ExcC K C) (zV : ExcC K V) (hk : PySem.W.kitOne K (.ref C) (.ref V) = some b)
    (he : s.heap.get? e = some oe) (hcls : oe.cls = .ref C) (hq : Q b s) : wpAny M A (excMatches (.ref e) (.ref V)) Q E s := by
  obtain ⟨tl, N, nm, qn, bs, hs, sn, sub, ab, col, dd, k0, k1, k2, k3, k5, mN, oV, oN, oi, oT⟩ := zV.parts KX
  have lk := kit_sub (M := M) KX zC hk
  obtain ⟨hp, g, d, t, os⟩ := s
  have hb : (Value.ref V :: tl).contains (.type "BaseException") = true := by rw [List.contains_cons, oT.hasType (show veBm.contains (.type "BaseException") = true by decide), Bool.or_true]
  have nt := tc_notTuple
  unfold excMatches
  repeat (first | (with_reducible refine wpAny_loadPart_at he ?_; rw [hcls]) | with_reducible refine wpAny_loadPart_at oV ?_ | (with_reducible refine wpAny_isSubtype_exc oV ?_; rw [hb]) | wp_step)
  refine lk _ _ _ _ (fun _ _ z => z) ?_
  cases b <;> (wp_walk; exact hq)
/-! ### while it is looked at -/
theorem fly_turn {P : Program} {w : World} {l : List Env} {H H' : Hp} {s s1 : Shared} {b0 B h5 : Heap} (ff : s.heap.FunFrames b0 l) (free : ∀ b ∈ frs l, H b = none) (u1 : Un (frs l) [] H H' s.heap s1.heap) (hok : HOk P w H' s1.heap)
    (cov : Cov l H' s.heap s1.heap B) (a5 : B.StaysIn h5) (sr : SlotR l s1.heap h5) : Un (frs l) [] H H' s.heap h5 ∧ HOk P w H' h5 ∧ Cov l H' s.heap h5 B := by
  have free' : ∀ b ∈ frs l, H' b = none := fun b hb => by
    obtain ⟨_, o, e, _⟩ := ff.mem hb
    exact u1.free b o e (free b hb) (by simp)
  refine ⟨⟨fun b o e n hb _ => ?_, fun b o e n hb _ => ?_, u1.free, fun b o e _ => ?_, u1.tups, u1.frzs, u1.tbls⟩, fun b o q => ?_, fun b o e n hc => ?_⟩
  · exact a5 b o (cov b o (u1.keep b o e n hb (by simp)) hb (.inr ⟨o, e⟩))
  · obtain ⟨sl, e1⟩ := u1.slot b o e n hb (by simp)
    obtain ⟨sl2, e2⟩ := sr b _ hb e1
    exact ⟨sl2, e2⟩
  · obtain ⟨o1, e1⟩ := u1.there b o e (by simp)
    by_cases hb : b ∈ frs l
    · obtain ⟨sl, e2⟩ := sr b o1 hb e1
      exact ⟨_, e2⟩
    · exact ⟨o1, a5 b o1 (cov b o1 e1 hb (.inr ⟨o, e⟩))⟩
  · refine (hok b o q).stay (fun c u hc e => a5 c u (cov c u e (fun z => ?_) (.inl ?_))) (fun _ z => z) fun _ _ z => z
    · have := free' c z
      rcases hc with rfl | hc
      · rw [q] at this; cases this
      · rw [hc] at this; cases this
    · rcases hc with rfl | hc
      · rw [q]; exact fun z => by cases z
      · rw [hc]; exact fun z => by cases z
  · have ⟨o2, e2⟩ : ∃ o2, s1.heap.get? b = some o2 := by
      rcases hc with hc | ⟨o0, e0⟩
      · cases q : H' b with
        | none => exact absurd q hc
        | some u => exact (hok b u q).is
      · exact u1.there b o0 e0 (by simp)
    have e3 := cov b o2 e2 n hc
    have e4 := a5 b o2 e3
    rw [e] at e4
    cases e4
    exact e3
/-- an exception that is held: its class, and that it came behind nothing -/
def IsExc (C ea : Addr) : Heap → Prop := fun h => ∃ (oe : Obj) (vs : Array Value), RecE h ea oe vs ∧ oe.cls = .ref C ∧ vs[2]? = some .none
section
variable {X : Cx} {pins : List (Addr × Obj)} {σ : L2.St} {H : Hp} {s : Shared}
/-- it is tracked from here on -/
theorem Inv.track {C ea : Addr} (I : Inv X pins σ H s) (hn : H ea = none) (h0 : X.s₀.heap.get? ea = none) (hx : IsExc C ea s.heap) (hp : ∀ p ∈ X.pn ++ pins, p.1 ≠ ea) : Inv X pins σ (upd H ea (.ext (IsExc C ea))) s := by
  obtain ⟨oe, vs, r, hc, h2⟩ := id hx
  have ne : ∀ b o, H b = some o → b ≠ ea := fun b o e => ne_of_none e hn
  have old : ∀ b o, X.s₀.heap.get? b = some o → b ≠ ea := fun b o e z => by rw [z, h0] at e; cases e
  refine ⟨I.ok, I.os, I.bare, ⟨I.base.keep, I.base.slot, fun b o e n hb => ?_, I.base.there, fun b xs q => ?_, fun b o u q => ?_, fun b ps q => ?_⟩, I.loc, I.cell, ?_, fun x c e => ?_, fun p hm => ?_, fun b o q => ?_, I.len⟩
  · rw [upd_ne (old b o e)]
    exact I.base.free b o e n hb
  · have := I.base.tups b xs q
    rw [upd_ne (ne _ _ this)]
    exact this
  · have := I.base.frzs b o u q
    rw [upd_ne (ne _ _ this)]
    exact this
  · obtain ⟨m, e⟩ := I.base.tbls b ps q
    exact ⟨m, by rw [upd_ne (ne _ _ e)]; exact e⟩
  · obtain ⟨m, hm, _⟩ := I.loc
    have : X.env.locals ≠ ea := fun z => by
      obtain ⟨o, es, ep, eo, hd, _⟩ := hm
      rw [z, r.at_] at eo
      cases eo
      have := r.fld
      rw [hd] at this
      cases this
    rw [upd_ne this]
    exact I.free
  · have : c ≠ ea := fun z => by
      obtain ⟨v, o, eo, hd⟩ := I.cell x c e
      rw [z, r.at_] at eo
      cases eo
      have q := r.fld
      rw [hd] at q
      cases q
    rw [upd_ne this]
    exact I.freeC x c e
  · obtain ⟨a, b, c⟩ := I.pin p hm
    exact ⟨a, by rw [upd_ne (hp p hm)]; exact b, c⟩
  · by_cases hb : b = ea
    · subst hb
      rw [upd_same] at q
      cases q
      refine ⟨hx, ⟨oe, r.at_⟩, fun h1 h2 z k => ?_⟩
      obtain ⟨oe, vs, r, c1, c2⟩ := z
      exact ⟨oe, vs, ⟨k _ r.at_, r.fld, r.sz, r.dct⟩, c1, c2⟩
    · rw [upd_ne hb] at q
      exact (I.hok b o q).stay (fun c u _ e => e) (fun c e => by rw [upd_ne (ne _ _ e)]; exact e) fun c xs e => by rw [upd_ne (ne _ _ e)]; exact e
end
/-! ### try: .. except V as n: (the suite returns) -/
abbrev Cx.inTry (X : Cx) (pn : List (Addr × Obj)) (xe : Value → Shared → Prop) : Cx := { X with pn := pn, xe := xe }
abbrev Cx.inExc (X : Cx) (ea : Addr) : Cx := { X with A := X.A.mark (some (.ref ea)), calm := false, xe := fun _ _ => False }
section
variable {X : Cx} {pins pins' : List (Addr × Obj)} {σ : L2.St} {H : Hp} {s : Shared}
theorem Cx.Ok.inTry (ok : X.Ok) (pn : List (Addr × Obj)) (xe : Value → Shared → Prop) : (X.inTry pn xe).Ok :=
  ⟨ok.mod, ok.kind, ok.glob, ok.blt, ok.above, ok.inj, ok.has, ok.cab, ok.hd, ok.frames, ok.stk, ok.exf, ok.bs, ok.bsz, ok.noex, ok.exfs, ok.funs, ok.frf⟩
theorem Cx.Ok.inExc (ok : X.Ok) (ea : Addr) : (X.inExc ea).Ok :=
  ⟨ok.mod, ok.kind, ok.glob, ok.blt, ok.above, ok.inj, ok.has, ok.cab, fun z => (by cases z), ok.frames, ok.stk, ok.exf, ok.bs, ok.bsz, ok.noex, ok.exfs, ok.funs, ok.frf⟩
theorem Inv.inTry (I : Inv X pins σ H s) (xe : Value → Shared → Prop) : Inv (X.inTry (X.pn ++ pins) xe) [] σ H s :=
  ⟨I.ok.inTry _ _, I.os, I.bare, I.base, I.loc, I.cell, I.free, I.freeC, fun p hp => I.pin p (by simpa using hp), I.hok, I.len⟩
theorem Inv.outTry {xe : Value → Shared → Prop} (ok : X.Ok) (I : Inv (X.inTry (X.pn ++ pins) xe) pins' σ H s) : Inv X pins σ H s :=
  ⟨ok, I.os, I.bare, I.base, I.loc, I.cell, I.free, I.freeC, fun p hp => I.pin p (List.mem_append_left _ hp), I.hok, I.len⟩
theorem Inv.inExc (I : Inv X pins σ H s) (ea : Addr) : Inv (X.inExc ea) pins σ H s :=
  ⟨I.ok.inExc ea, I.os, I.bare, I.base, I.loc, I.cell, I.free, I.freeC, I.pin, I.hok, I.len⟩
theorem Inv.outExc {ea : Addr} (ok : X.Ok) (I : Inv (X.inExc ea) pins σ H s) : Inv X pins σ H s :=
  ⟨ok, I.os, I.bare, I.base, I.loc, I.cell, I.free, I.freeC, I.pin, I.hok, I.len⟩
theorem SP.outTry {xe : Value → Shared → Prop} {D : Ends} {f : Flow} {s' : Shared} (ok : X.Ok) (h : SP (X.inTry (X.pn ++ pins) xe) pins' D f s') : SP X pins D f s' := by
  cases f with
  | next => obtain ⟨σ', H', I, q⟩ := h; exact ⟨σ', H', I.outTry ok, q⟩
  | brk => obtain ⟨σ', H', I, q⟩ := h; exact ⟨σ', H', I.outTry ok, q⟩
  | cont => obtain ⟨σ', H', I, q⟩ := h; exact ⟨σ', H', I.outTry ok, q⟩
  | ret u => obtain ⟨v, σ', H', I, r, q⟩ := h; exact ⟨v, σ', H', I.outTry ok, r, q⟩
/-- a name of the frame goes: of the names nothing is said any more -/
theorem Inv.goes {h' : Heap} {m' : Str → Option Value} {tk : Nat} (I : Inv X pins σ H s) (hn : h'.Ns X.env.locals m') (sb : Heap.SameBut X.env.locals s.heap h') : Inv X pins (List.replicate X.N.length none) H { s with heap := h', toks := tk } := by
  have kp : ∀ b o, b ≠ X.env.locals → s.heap.get? b = some o → h'.get? b = some o := fun b o nb e => sb.extBut b o nb e
  have lN : ∀ b o, X.s₀.heap.get? b = some o → b ≠ X.env.locals := fun b o e z => Nat.lt_irrefl _ (Nat.lt_of_lt_of_le (z ▸ Heap.lt_size e) I.ok.above)
  obtain ⟨m, hm, _⟩ := I.loc
  refine ⟨I.ok, I.os, I.bare, ⟨fun b o e n hb hx => kp b o (lN b o e) (I.base.keep b o e n hb hx), fun b o e n hb hx => ?_, I.base.free, fun b o e hx => ?_, I.base.tups, I.base.frzs, I.base.tbls⟩, ⟨m', hn, fun i x v _ z => ?_⟩, fun x c e => ?_, I.free, I.freeC, fun p hp => ?_, fun b o q => ?_, List.length_replicate⟩
  · obtain ⟨sl, e1⟩ := I.base.slot b o e n hb hx
    exact ⟨sl, kp b _ (lN b o e) e1⟩
  · obtain ⟨o1, e1⟩ := I.base.there b o e hx
    exact ⟨o1, kp b _ (lN b o e) e1⟩
  · rw [List.getElem?_replicate] at z
    split at z <;> cases z
  · obtain ⟨v, o, eo, hd⟩ := I.cell x c e
    refine ⟨v, o, kp c o (fun z => ?_) eo, hd⟩
    obtain ⟨o2, es, ep, e2, hd2, _⟩ := hm
    rw [z, e2] at eo
    cases eo
    rw [hd2] at hd
    cases hd
  · obtain ⟨a, b, c⟩ := I.pin p hp
    exact ⟨kp _ _ c.1 a, b, c⟩
  · refine (I.hok b o q).stay (fun c u hc e => kp c u (fun z => ?_) e) (fun _ z => z) fun _ _ z => z
    have := I.free
    rcases hc with rfl | hc
    · rw [← z, q] at this; cases this
    · rw [← z, hc] at this; cases this
end
def exB (K : PySem.W.Frag) (V : Addr) (i n : Nat) (th : Addr → TS) (D : Ends) : XK := fun cls _ H1 => ∃ C, cls = .ref C ∧ ExcC K C ∧ PySem.W.kitOne K (.ref C) (.ref V) = some true ∧
  ∀ (ea : Addr) (σ' : L2.St), H1 ea = none → σ'.length = n → th ea { D with nx := fun _ _ => False, bk := fun _ _ => False, ct := fun _ _ => False } (σ'.set i (some (.ref ea))) (upd H1 ea (.ext (IsExc C ea)))
def tTryAs (K : PySem.W.Frag) (V : Addr) (i n : Nat) (tb : XK → TS) (th : Addr → TS) : TS := fun D σ H => tb (exB K V i n th D) D σ H
section
variable {X : Cx} {x n : Str} {V : Addr} {i : Nat} {body : List Stmt} {b0 : Stmt} {suite : List Stmt} {tb : XK → TS} {th : Addr → TS} {np hp pos : Pos} {l : List Env}
theorem ps_tryAs (hst : X.stack = X.env :: l) (hex : X.ex = []) (hfr : X.env.frame = some X.env.locals) (hg : Gl X x) (hm : X.mg x = some (.ref V)) (zV : ExcC X.K V) (hN : X.N.Nodup) (hi : X.N[i]? = some n) (hl : X.env.kindOf n = some .local)
    (hb : ∀ (EB : XK) (pn : List (Addr × Obj)) (xe : Value → Shared → Prop), Passes (Fly X.prog X.w) (X.inTry pn xe) EB → PSs (X.inTry pn xe) body (tb EB))
    (hs : ∀ ea, PSs (X.inExc ea) (b0 :: suite) (th ea)) (hdb : (x == ("__debug__" : Str)) = false := by decide) :
    PS X (.Try body [.ExceptHandler (some (.Name x np)) (some n) (b0 :: suite) hp] [] [] pos) (tTryAs X.K V i X.N.length tb th) := by
  refine .mk ?_
  intro pins s σ H D I h
  have ok := I.ok
  have hloc : Loc X.env.scope n := .inl hl
  refine wpAny_Try_except (wpAny_mono (hb (exB X.K V i X.N.length th D) (X.pn ++ pins) _ (fun pins' σ' H' s' e s1 I' hf => ?_) [] s σ H D (I.inTry _) h) (fun f s1 hq => ?_) fun e s1 z => z)
  rotate_left
  · have hq := hq.outTry ok
    cases f with
    | next =>
      obtain ⟨σ', H', I', q⟩ := hq
      exact wpAny_execs_nil ⟨σ', H', I', q⟩
    | brk => exact hq
    | cont => exact hq
    | ret u => exact hq
  obtain ⟨ea, C, H1, B, rfl, os, bare, u1, hok, ⟨fl0, a⟩, cov, C', eC, zC, hk, rd⟩ := hf
  cases eC
  have fr : X.A.frames = some (X.env :: l) := by rw [← hst]; exact ok.frames
  have a : Air fl0 B (X.env :: l) ea C s1.heap := by rw [← hst]; exact a
  have ff : s'.heap.FunFrames X.base X.stack := I'.stack
  have free : ∀ b ∈ frs X.stack, H' b = none := I'.stkFree
  -- the exception is no old thing
  have ne0 : s'.heap.get? ea = none := by
    cases z : s'.heap.get? ea with
    | none => rfl
    | some o =>
      obtain ⟨o1, e1⟩ := u1.there ea o z (by simp)
      obtain ⟨oe, vs, T, oT, ts, r, _⟩ := a.rec_
      have := cov ea o1 e1 (by rw [hst]; exact r.nofr a.ff) (.inr ⟨o, z⟩)
      rw [a.new] at this
      cases this
  have hn1 : H1 ea = none := by
    cases z : H1 ea with
    | none => rfl
    | some o =>
      obtain ⟨o1, e1⟩ := (hok ea o z).is
      obtain ⟨oe, vs, T, oT, ts, r, _⟩ := a.rec_
      have := cov ea o1 e1 (by rw [hst]; exact r.nofr a.ff) (.inl (by rw [z]; exact fun w => by cases w))
      rw [a.new] at this
      cases this
  have n0 : X.s₀.heap.get? ea = none := by
    cases z : X.s₀.heap.get? ea with
    | none => rfl
    | some o =>
      obtain ⟨o1, e1⟩ := I'.base.there ea o z (by rw [show (X.inTry (X.pn ++ pins) _).ex = X.ex from rfl, hex]; simp)
      rw [ne0] at e1
      cases e1
  have np : ∀ p ∈ X.pn ++ pins, p.1 ≠ ea := fun p hp z => by
    have := (I'.pin p (List.mem_append_left _ hp)).1
    rw [z, ne0] at this
    cases this
  refine air_note fr hfr a fun h4 a4 s4 => ?_
  refine air_land (s := { s1 with heap := h4 }) a4 fun h5 a5 s5 => ?_
  have turn : ∀ (h6 : Heap), Air .none B (X.env :: l) ea C h6 → SlotR (X.env :: l) s1.heap h6 → Inv X pins σ' H1 { s1 with heap := h6 } := fun h6 a6 s6 => by
    obtain ⟨u6, hok6, _⟩ := fly_turn (l := X.stack) ff free u1 hok cov a6.st (by rw [hst]; exact s6)
    exact (I'.call' (s' := { s1 with heap := h6 }) (ch := []) os u6 hok6 bare (fun b z => absurd z (by simp))).outTry ok
  have J5 := turn h5 a5 (s4.trans s5)
  have K5 := J5.inExc ea
  obtain ⟨oe, vs, T, oT, ts, r, hc, _⟩ := id a5.rec_
  refine wpAny_handleBy_cons (codeAny_handlers_test (ld_glob K5 hg hm ?_ hdb)) (by intro q; cases q)
  refine exc_match (K := X.K) K5.kIn zC zV hk r.at_ hc ?_
  refine codeAny_handlers_suite_as ?_
  refine air_land (s := { s1 with heap := h5 }) a5 fun h6 a6 s6 => ?_
  have J6 := turn h6 a6 ((s4.trans s5).trans s6)
  have hx6 : IsExc C ea h6 := by
    obtain ⟨oe, vs, T, oT, ts, r, hc, h2, _⟩ := a6.rec_
    exact ⟨oe, vs, r, hc, h2⟩
  have E6 := J6.track hn1 n0 hx6 np
  refine store_ok E6 hN hi hloc (v := .ref ea) rfl (fun s7 I7 => ?_) (.inr hl)
  have q := hs ea pins s7 (σ'.set i (some (.ref ea))) _ { D with nx := fun _ _ => False, bk := fun _ _ => False, ct := fun _ _ => False } (I7.inExc ea) (rd ea σ' hn1 J5.len)
  refine wpAny_mono q (fun f s8 hq => ?_) (fun _ _ z => z.elim)
  cases f with
  | next => obtain ⟨_, _, _, z⟩ := hq; exact z.elim
  | brk => obtain ⟨_, _, _, z⟩ := hq; exact z.elim
  | cont => obtain ⟨_, _, _, z⟩ := hq; exact z.elim
  | ret u =>
    obtain ⟨v, σ8, H8, I8, rv, qv⟩ := hq
    have J8 := I8.outExc ok
    obtain ⟨m8, hn8, _⟩ := J8.loc
    refine wpAny_nameGoes hl hn8 (by rw [ok.kind]; rfl) fun h9 m9 hn9 sb9 => ?_
    exact ⟨v, _, H8, J8.goes hn9 sb9, rv, qv⟩
end
end L2

set_option Elab.async false
set_option linter.all false
set_option maxRecDepth 100000
set_option maxHeartbeats 1000000
namespace L2
open PySem PySem.Spec PyProof.Rows
/-! ### an iteration's end while an exception is handled -/
theorem IsExc.at {C ea : Addr} {h h' : Heap} (x : IsExc C ea h) (k : ∀ o, h.get? ea = some o → h'.get? ea = some o) : IsExc C ea h' := by
  obtain ⟨oe, vs, r, c1, c2⟩ := x
  exact ⟨oe, vs, ⟨k _ r.at_, r.fld, r.sz, r.dct⟩, c1, c2⟩
theorem entry_unchain : entryFor table "proto.unchain" = some Builtin.«proto.unchain» := entryFor_of_fast (by kernel_rfl)
section
variable {prog : Program} {w : World} {A : Around} {E : Value → Shared → Prop} {s : Shared}
theorem unchain_none {C ea : Addr} {v : Value} {Q : Value → Shared → Prop} (x : IsExc C ea s.heap) (k : Q .none s) : wpAny (model prog w) A (runValue (.builtin "proto.unchain" ⟨[v, .ref ea, .ref ea, .bool false], []⟩)) Q E s := by
  obtain ⟨oe, vs, r, c1, c2⟩ := x
  refine wpAny_runValue (codeAny_builtin entry_unchain ?_)
  show wpAny _ _ (Builtin.«proto.unchain» _) _ _ _
  unfold Builtin.«proto.unchain»
  dsimp only
  refine wpAny_bind (wpAny_field r.at_ r.fld c2 ?_)
  rw [if_pos (show (Value.none == Value.none) = true by rfl)]
  exact wpAny_pure k
theorem next_end {C ea it l : Addr} {i : Nat} {items : Array Value} {Q : Option Value → Shared → Prop} (hh : A.handled = some (.ref ea)) (x : IsExc C ea s.heap) (hne : ea ≠ it) (hit : s.heap.IsListIter it l i) (hl : s.heap.IsList l items) (hx : items[i]? = none)
    (k : ∀ h', Heap.ExtBut it s.heap h' → Q none { s with heap := h' }) : wpAny (model prog w) A (pyNext (.ref it)) Q E s := by
  obtain ⟨o, ho, hc, hd⟩ := id hit
  obtain ⟨ol, hol, _, nl, hdl⟩ := hl
  have lt : ea < s.heap.objs.size := by
    obtain ⟨oe, vs, r, _⟩ := x
    exact Heap.lt_size r.at_
  unfold pyNext
  refine wpAny_bind (wpAny_attempt (wpAny_callSpecial?_slot (name := Str.ofString "__next__") hit.typeIs slot_listiter_next (wpAny_call_entry slot_listiter_next hit.typeIs entry_listiter_next ?_ (args_listiter_next _))))
  show wpAny _ _ (field (.ref it) 0 >>= fun _ => _) _ _ s
  refine wpAny_bind (wpAny_field ho hd (x := .ref l) rfl ?_)
  show wpAny _ _ (if (Value.ref l == Value.none) = true then _ else _) _ _ s
  rw [if_neg (by exact Bool.false_ne_true)]
  show wpAny _ _ (field (.ref it) 1 >>= fun _ => _) _ _ s
  refine wpAny_bind (wpAny_field ho hd (x := .int i 0) rfl ?_)
  show wpAny _ _ (seqItems? (.ref l) >>= fun _ => _) _ _ s
  refine wpAny_bind (wpAny_seqItems hol hdl ?_)
  simp only [Int.toNat_natCast, hx]
  refine wpAny_bind (wpAny_rule (wpAny_bind (wpAny_setField ho hd (by simp) ?_)))
  have x1 : IsExc C ea (s.heap.update it (Obj.mapFields (·.setIfInBounds 0 Value.none))) := x.at fun o e => by rw [Heap.get?_update_other _ _ (Ne.symm hne)]; exact e
  show wpAny _ _ (newExc (.type "StopIteration") [] >>= fun _ => _) _ _ _
  refine wpAny_bind ?_
  simp only [newExc, newTuple]
  refine wpAny_bind (wpAny_newObj_type ?_ (by size_fits))
  refine wpAny_bind (m := firstArgMember _ _) (wpAny_of_eq (a := Value.none) (by first | rfl | (simp only [firstArgMember]; rfl)) ?_)
  refine wpAny_newObj_type ?_ (by size_fits)
  simp only [raiseNew]
  refine wpAny_bind (wpAny_handled ?_)
  rw [show A.in1.handled = some (.ref ea) from hh]
  dsimp only
  generalize hg : s.heap.update it (Obj.mapFields (·.setIfInBounds 0 Value.none)) = g at x1 ⊢
  have ge : Heap.ExtBut it s.heap g := by rw [← hg]; exact (Heap.SameBut.update ..).extBut
  generalize hn : (g.push { cls := .type "tuple", data := .seq #[] }).objs.size = n
  have ltn : ea < n := by
    obtain ⟨oe, vs, r, _⟩ := x1
    rw [← hn, Heap.size_push]
    exact Nat.lt_succ_of_lt (Heap.lt_size r.at_)
  rw [if_pos (show (Value.ref ea != Value.ref n) = true by simp; exact Nat.ne_of_lt ltn)]
  generalize hg2 : (g.push { cls := .type "tuple", data := .seq #[] }).push _ = g2
  have kp : ∀ b o, g.get? b = some o → g2.get? b = some o := fun b o e => by rw [← hg2]; exact Heap.get?_push_of_some _ (Heap.get?_push_of_some _ e)
  have en : ∃ o vs, g2.get? n = some o ∧ o.data = .fields vs ∧ o.cls = .type "StopIteration" ∧ 2 < vs.size := ⟨_, _, by rw [← hg2, ← hn]; exact Heap.get?_push_size _ rfl, rfl, rfl, by simp; omega⟩
  obtain ⟨on, vn, e1, e2, e3, e4⟩ := en
  have x2 : IsExc C ea g2 := x1.at fun o e => kp _ _ e
  refine wpAny_bind (wpAny_holding (unchain_none (s := { s with heap := g2 }) x2 ?_))
  refine wpAny_bind (m := updateField n 2 (.ref ea)) ?_
  unfold updateField
  refine wpAny_bind (wpAny_load e1 ?_)
  simp only [e2]
  rw [if_pos e4]
  refine wpAny_update e1 ?_
  refine wpAny_throw ?_
  refine wpAny_bind (wpAny_isInstance (T := "StopIteration") (b := true) ⟨_, Heap.get?_update_self _ e1 (Obj.isFreed_of_fields (Obj.data_mapFields e2 _)), (Obj.cls_mapFields _ _).trans e3⟩ isSubtype_stop ?_)
  refine wpAny_pure (k _ fun b o nb e => ?_)
  have nn : n ≠ b := by
    rw [← hn, Heap.size_push]
    exact Nat.ne_of_gt (Nat.lt_succ_of_lt (Heap.lt_size (ge b o nb e)))
  rw [Heap.get?_update_other _ _ nn]
  exact kp _ _ (ge b o nb e)
end
end L2

set_option Elab.async false
set_option linter.all false
set_option maxRecDepth 100000
set_option maxHeartbeats 1000000
namespace L2
open PySem PySem.Spec PyProof.Rows
/-! ### a call within an except suite -/
structure RoomX (k : Nat) (A : Around) : Prop where
  dp : A.depth + 3 * k + 5 < recursionLimit
  un : A.units + 16 * k + 200 < cLine
theorem Room.x {k : Nat} {A : Around} (r : Room k A) : RoomX k A := ⟨r.dp, r.un⟩
theorem RoomX.mark {k : Nat} {A : Around} {v : Option Value} (r : RoomX k A) : RoomX k (A.mark v) := ⟨r.dp, r.un⟩
theorem RoomX.mono {j k : Nat} {A : Around} (r : RoomX k A) (h : j ≤ k) : RoomX j A := ⟨by have := r.dp; omega, by have := r.un; omega⟩
theorem RoomX.deeper {k : Nat} {A : Around} (r : RoomX (k + 1) A) (env : Env) : RoomX k (A.deeper env) :=
  ⟨by have := r.dp; show A.depth + 1 + 3 * k + 5 < _; omega, by have := r.un; show A.units + 3 + 16 * k + 200 < _; omega⟩
theorem RoomX.depth {k : Nat} {A : Around} (r : RoomX k A) : A.depth < recursionLimit := by have := r.dp; omega
/-- an exception is held -/
def Held (ea : Addr) (H : Hp) : Prop := ∃ C, H ea = some (.ext (IsExc C ea))
/-- what a def promises where an exception is handled -/
structure FnX (P : Program) (w : World) (K : PySem.W.Frag) (mg : Str → Option Value) (base : Heap) (k : Nat) (f : Addr) (fd : FuncData) (ps : List Str) (sp : Sp) : Prop where
  len : ∀ vs H Q E, sp vs H Q E → vs.length = ps.length
  run : ∀ (A : Around) (ea : Addr) (outer : List Env) (s : Shared) (H : Hp) (args : Args) (us : List Value) (vs : List V) (Q : VK) (E : XK), RoomX k A → A.handled = some (.ref ea) → Held ea H → Env0 P w K mg base A outer s H → BindsTo s fd args (ps.zip us) → Vals vs us → sp vs H Q E →
    codeAny (model P w) A (.call (.ref f) args) (CR CX0 outer P w H s Q E) s
section
variable {P : Program} {w : World} {K : PySem.W.Frag} {mg : Str → Option Value} {base : Heap}
theorem Fun.okX {x qual : Str} {st : Stmt} {f : Addr} {fd : FuncData} {N ps : List Str} {k : Nat} {sp : Sp} (F : Fun K x qual st f fd) (S : FnScope N ps (defScope st)) (len : ∀ vs H Q E, sp vs H Q E → vs.length = ps.length)
    (hbody : ∀ (cdv : Value) (A : Around) (outer : List Env) (s : Shared) (H : Hp) (vs : List V) (Q : VK) (E : XK) (ea : Addr), RoomX k (A.deeper (envOfC qual (defScope st) s.heap.objs.size f cdv)) → Held ea H → sp vs H Q E →
      ∃ t, PSs ((cxOf CX0 P w K mg base N qual (defScope st) f cdv A outer s H E).inExc ea) (defBody st) t ∧ t { nx := fun _ H' => Q .non H', rt := Q } (start N vs) H) : FnX P w K mg base (k + 1) f fd ps sp := by
  obtain ⟨oc, od, kV, doc, pm, an, cdv, ct, osl, rfl, lk, hcd⟩ := F.ex
  refine ⟨len, fun A ea outer s H args us vs Q E hr hh hea e0 hb r hsp => ?_⟩
  obtain ⟨A0, rfl, hA0⟩ : ∃ A0 : Around, A = A0.mark (some (.ref ea)) ∧ A0.handled = none := ⟨{ A with handled := none }, by cases A; cases hh; rfl, rfl⟩
  have hl := len _ _ _ _ hsp
  have KX : K.In s.heap := e0.mod.kin.keeps fun b o e => (e0.bs b o e).1
  have lim : s.heap.NoLimit := e0.mod.nolimit.keeps fun b o e => (e0.bs b o e).1
  have hkind : ∀ y ∈ ps.zip us, (defScope st).names.lookup y.1 = some .local ∨ ((defScope st).names.lookup y.1 = some .cell ∧ ((cellsFrom (s.heap.objs.size + 1) (defScope st).names []).lookup y.1).isSome = true) := fun ⟨n, v⟩ hy => by
    rcases S.par n (List.of_mem_zip hy).1 with q | q
    · exact .inl q
    · exact .inr ⟨q, PySem.W.cellsFrom_some _ _ _ (.inl q)⟩
  refine codeAny_call_function hr.depth (KX _ _ lk) rfl S.co S.gen rfl (PySem.W.codeRec_of KX hcd) (hb _ _ _ _ ?_)
  refine wpAny_newFunctionEnv_cells S.kind hkind fun env he s1 x => ?_
  subst he
  refine ⟨lim.keeps x.toInCall.keep, codeAny_func ?_⟩
  obtain ⟨t, ht, hq⟩ := hbody cdv A0 outer s H vs Q E ea (RoomX.deeper (A := A0) ⟨hr.dp, hr.un⟩ _) hea hsp
  have I : Inv (cxOf CX0 P w K mg base N qual (defScope st) f cdv A0 outer s H E) [] (start N vs) H s1 := inv_start S hA0 ⟨e0.frames, e0.mod, e0.bs, e0.bsz, e0.funs, e0.frf, e0.hok, e0.bare⟩ hl r x
  refine wpAny_mono (ht [] s1 (start N vs) H _ (I.inExc ea) hq) (fun fl s' hs => ?_) fun e s' hs => hs.elim
  have fin : ∀ {σ' : L2.St} {H' : Hp} {v : V} {u : Value}, Inv ((cxOf CX0 P w K mg base N qual (defScope st) f cdv A0 outer s H E).inExc ea) [] σ' H' s' → RelV v u → Q v H' → CE outer P w H s Q u s' :=
    fun {σ' H' v u} J rv q => ⟨v, H', J.os, J.bare, J.base, J.hok, rv, q⟩
  cases fl with
  | ret u =>
    obtain ⟨v, σ', H', J, rv, q⟩ := hs
    exact fin J rv q
  | next =>
    obtain ⟨σ', H', J, q⟩ := hs
    exact fin (v := V.non) (u := Value.none) J rfl q
  | brk =>
    obtain ⟨_, _, _, q⟩ := hs
    exact False.elim q
  | cont =>
    obtain ⟨_, _, _, q⟩ := hs
    exact False.elim q
theorem Fun.okF {x qual : Str} {st : Stmt} {f : Addr} {fd : FuncData} {N ps : List Str} {k : Nat} {sp : Sp} (F : Fun K x qual st f fd) (S : FnScope N ps (defScope st)) (len : ∀ vs H Q E, sp vs H Q E → vs.length = ps.length)
    (hbody : ∀ (cdv : Value) (A : Around) (outer : List Env) (s : Shared) (H : Hp) (vs : List V) (Q : VK) (E : XK), Room k (A.deeper (envOfC qual (defScope st) s.heap.objs.size f cdv)) → sp vs H Q E →
      ∃ t, PSs (cxOf (Fly P w) P w K mg base N qual (defScope st) f cdv A outer s H E) (defBody st) t ∧ t { nx := fun _ H' => Q .non H', rt := Q } (start N vs) H) : FnOk P w K mg base (Fly P w) (k + 1) f fd ps sp := by
  obtain ⟨oc, od, kV, doc, pm, an, cdv, ct, osl, rfl, lk, hcd⟩ := F.ex
  exact fn_of lk hcd S len fun A outer s H vs Q E hr hsp => hbody cdv A outer s H vs Q E hr hsp
end
theorem hh_exc {X : Cx} (ea : Addr) : (X.inExc ea).A.handled = some (.ref ea) := rfl
def tCallX (ea : Addr) (sp : Sp) (t : TA) : TE := fun σ H Q => t σ H fun vs H1 => Held ea H1 ∧ sp vs H1 Q fun _ _ _ => False
section
variable {X : Cx} {k : Nat} {f C ea : Addr} {fd : FuncData} {ps : List Str} {sp : Sp} {x m : Str} {p pos apos : Pos} {e o : Expr} {es : List Expr} {ta : TE} {t : TA}
theorem pe_callX (hh : X.A.handled = some (.ref ea)) (F : FnX X.prog X.w X.K X.mg X.base k f fd ps sp) (hr : RoomX k X.A) (hg : Gl X x) (hm : X.mg x = some (.ref f)) (hk : PySem.W.keepIn X.K (.ref f) = true) (hb : Binds X.K fd ps [])
    (ha : PA X (e :: es) t) (hdb : (x == ("__debug__" : Str)) = false := by decide) (he : starEach (e :: es) X.env = (false, eval e X.env) :: starEach es X.env := by rfl) (hpl : (backTo pos (starEach es X.env)).any (·.1) = false := by rfl) :
    PE X (.Call (.Name x p) (e :: es) [] pos) (tCallX ea sp t) := by
  refine .mk ?_
  intro pins s σ H Q I h
  refine wpAny_Call_Name_kw (ld_glob I hg hm ?_ hdb)
  refine PySem.W.callWith_K (h₀ := X.base) I.ok.mod.kin hk (thn (ha pos pins s σ H _ I h) fun us s1 ⟨vs, H1, I1, r, hd, q⟩ => ⟨I1.kIn, ?_⟩) he hpl
  have hl : us.length = ps.length := by rw [← r.length]; exact F.len _ _ _ _ q
  have r2 : Vals vs (us ++ []) := by rw [List.append_nil]; exact r
  refine wpAny_call (codeAny_mono (F.run X.A ea X.stack s1 H1 ⟨us, []⟩ (us ++ []) vs Q _ hr hh hd I1.env0 (hb s1 us I1.kIn (by rw [List.append_nil]; exact hl)) r2 q) fun r s' hq => ?_)
  cases r with
  | error e => exact False.elim hq
  | ok fl =>
    cases fl with
    | ret u => exact I1.after hq
    | next => exact False.elim hq
    | brk => exact False.elim hq
    | cont => exact False.elim hq
end
/-! ### what class an exception has -/
section
variable {K : PySem.W.Frag}
/-- the written part of an exception's class: __class__ is found as of any object -/
structure ExcI (K : PySem.W.Frag) (D : Addr) : Prop where
  ga : PySem.W.findIn K (.ref D) "__getattribute__" = some (some (.builtin "BaseException.__getattribute__"))
  hk : PySem.W.findIn K (.ref D) "__getattr__" = some none
  cls : (PySem.W.clsIn K D).isSome = true
  at_ : PySem.W.findIn K (.ref D) "__class__" = some (some (.builtin "object.__class__"))
  get : PySem.W.specialIn K (.builtin "object.__class__") "__get__" = some (some (.builtin "getset_descriptor.__get__"))
  tk : PySem.W.takesIn K (.builtin "object.__class__") = some true
  mro : PySem.W.mroIn K D (.type "object") = some true
  sub : PySem.W.subIn K (.ref D) (.type "BaseException") = some true
theorem exc_class {prog : Program} {w : World} {A : Around} {E : Value → Shared → Prop} {Q : Option Value → Shared → Prop} {s : Shared} {x D : Addr} {ox : Obj} (z : ExcI K D) (X : K.In s.heap) (I : PySem.W.InstAt s.heap x ox D none) (k : Q (some (.ref D)) { s with toks := s.toks + 1 }) :
    wpAny (model prog w) A (getAttr? (.ref x) "__class__") Q E s := by
  have hf : PySem.W.findObj K D none "__class__" = some (.bind (.builtin "getset_descriptor.__get__") (.builtin "object.__class__")) := by
    obtain ⟨cd, hc⟩ := Option.isSome_iff_exists.mp z.cls
    unfold PySem.W.findObj
    rw [hc, Option.bind_some, z.at_, Option.bind_some]
    simp [z.get, z.tk]
  obtain ⟨hh, g, d, t, os⟩ := s
  have L0 := I.type (M := model prog w)
  have L1 := PySem.W.looks_findIn (M := model prog w) X z.ga
  have L2 := PySem.W.looks_findIn (M := model prog w) X z.hk
  have L3 := PySem.W.looks_find (M := model prog w) X I hf
  have L4 := PySem.W.looks_subIn (M := model prog w) X z.sub
  have hx2 : (Value.builtin "BaseException.__getattribute__" == Value.builtin "object.__getattribute__") = false := by decide +kernel
  unfold getAttr? getAttrBy? getAttrBy
  refine wpAny_bind (wpAny_mkText (wpAny_bind (wpAny_attempt (wpAny_holding (wpAny_bind (L0.at (wpAny_bind (L1.at ?_))))))))
  dsimp only
  rw [if_neg (by rw [hx2, Bool.and_false]; exact Bool.false_ne_true)]
  unfold getAttrByItsOwn hookBefore
  refine wpAny_bind ?_
  rw [if_pos (show onTheHeap (Value.ref D) = true from rfl)]
  refine L2.at ?_
  refine wpAny_bind (wpAny_attempt (wpAny_holding ?_))
  unfold callGetattribute
  rw [if_neg (by rw [Bool.false_and]; exact Bool.false_ne_true)]
  unfold boundAndCalled
  refine wpAny_bind (wpAny_of_eq (PySem.F.attrBase_ValueError.ga.bind (.ref x)) ?_)
  refine wpAny_call (codeAny_call_builtin PySem.F.attrBase_ValueError.ga.plain F.entry_bexc_ga ?_)
  have hk : builtinKind "BaseException.__getattribute__" = some .slot := by decide +kernel
  have hsplit : splitId "BaseException.__getattribute__" = some ("BaseException", "__getattribute__") := by decide +kernel
  have ha := F.args_bexc_ga (.ref x) (.str "__class__" t)
  have LI : PySem.W.Looks (model prog w) hh (isInstance (.ref x) (.type "BaseException")) true := L0.andThen L4
  show wpAny _ _ (checkBuiltinCall "BaseException.__getattribute__" ⟨[.ref x, .str "__class__" t], []⟩) _ _ _
  simp only [checkBuiltinCall, hk, hsplit]
  refine wpAny_bind (LI.at ?_)
  rw [if_neg (show ¬ ((!true) = true) by decide)]
  have ent : ∀ (P : Value → Shared → Prop) (E' : Value → Shared → Prop), P (.ref D) ⟨hh, g, d, t + 1, os⟩ → wpAny (model prog w) A.in1 (Builtin.«object.__getattribute__» ⟨[.ref x, .str "__class__" t], []⟩) (fun fin s' => match fin with | .done (.ret v) => P v s' | _ => False) E' ⟨hh, g, d, t + 1, os⟩ := fun P E' hP => by
    unfold Builtin.«object.__getattribute__»
    refine wpAny_bind (wpAny_pure ?_)
    refine wpAny_bind (wpAny_pure ?_)
    refine wpAny_bind (L0.at ?_)
    refine wpAny_bind (L3.at ?_)
    dsimp only
    show wpAny _ _ (holding [.builtin "object.__class__"] (call (.builtin "getset_descriptor.__get__") [.builtin "object.__class__", .ref x, .ref D]) >>= ret) _ _ _
    refine wpAny_bind (wpAny_holding (wpAny_call (PySem.W.class_get (ox := ox) (od := none) X I z.mro ?_)))
    exact wpAny_pure hP
  have post : wpAny (model prog w) A.in1 (Builtin.«object.__getattribute__» ⟨[.ref x, .str "__class__" t], []⟩) (fun fin s' => match fin with | .done (.ret v) => wpAny (model prog w) A (handedOut v) (fun a s' => wpAny (model prog w) A (pure (some a)) Q E s') (fun _ _ => False) s' | _ => False) (fun _ _ => False) ⟨hh, g, d, t + 1, os⟩ := ent _ _ (PySem.W.handed_on rfl (wpAny_pure k))
  cases hsig : Manifest.signature? "BaseException.__getattribute__" with
  | none =>
    refine wpAny_pure (wpAny_mono post (fun fin s' h => ?_) fun _ _ h => h.elim)
    rcases fin with (_ | _ | _ | _) | _ <;> first | exact wpAny_mono h (fun v s'' hv => hv) (fun _ _ z => z.elim) | exact h.elim
  | some sig =>
    have ha' : Bind.checkArgs "BaseException.__getattribute__" sig ⟨[.ref x, .str "__class__" t], []⟩ = pure () := by simpa only [argsOk, hsig] using ha
    simp only [ha']
    refine wpAny_pure (wpAny_mono post (fun fin s' h => ?_) fun _ _ h => h.elim)
    rcases fin with (_ | _ | _ | _) | _ <;> first | exact wpAny_mono h (fun v s'' hv => hv) (fun _ _ z => z.elim) | exact h.elim
theorem kitx_exc {x D : Addr} {ox : Obj} (z : ExcI K D) : PySem.W.KitX K (.ref x) (.ref D) (fun h => PySem.W.InstAt h x ox D none) where
  ty := fun _ _ _ I => I.type
  it := fun _ _ X _ => by
    have hcD := z.cls
    unfold PySem.W.clsIn at hcD
    split at hcD
    · rename_i c' d' cd' sl' ho
      intro A' Q' E' s' k q
      unfold isType loadHead
      exact wpAny_bind (wpAny_loadPart (k _ _ (X _ _ ho)) (wpAny_pure q))
    · cases hcD
  ne := fun h tp dd its n sl X htp => by
    have hcD := z.cls
    refine Bool.eq_false_iff.mpr fun q => ?_
    have e : D = tp := Value.ref.inj (beq_iff_eq.mp q)
    subst e
    unfold PySem.W.clsIn at hcD
    split at hcD
    · rename_i c' d' cd' sl' ho
      have z := (X _ _ ho).symm.trans htp
      cases z
    · cases hcD
  ca := fun {prog w A E Q s} X I k => exc_class z X I k
end
section
variable {X : Cx} {ea : Addr}
def rInstE (K : PySem.W.Frag) : List V → Hp → VK → Prop := fun xs H Q => ∃ (ea C : Addr) (y : V) (c : Value) (b : Bool), xs = [.ref ea, y] ∧ ((∃ D, y = .ref D ∧ c = .ref D) ∨ ∃ T, y = .ty T ∧ c = .type T) ∧ H ea = some (.ext (IsExc C ea)) ∧ ExcI K C ∧ PySem.W.kitOne K (.ref C) c = some b ∧ Q (.bl b) H
theorem call_instE : CallR X (.builtin "isinstance") (rInstE X.K) := by
  intro pins s σ H xs us Q I r h
  obtain ⟨ea, C, y, c, b, rfl, ry, he, z, hk, q⟩ := h
  obtain ⟨u, w', rfl, rx, ry'⟩ := vals2 r
  cases rx
  obtain ⟨⟨oe, vs, re, hc, _⟩, _⟩ := I.hok _ _ he
  have ew : w' = c := by
    rcases ry with ⟨D, rfl, rfl⟩ | ⟨T, rfl, rfl⟩
    · cases ry'
      rfl
    · cases ry'
      rfl
  subst ew
  exact PySem.W.kia_one (kitx_exc (ox := oe) z) I.kIn ⟨re.at_, hc, by unfold PySem.W.notCls; rw [re.fld], by rw [re.dct]; trivial⟩ hk (fun z => nomatch z) fun tk => ⟨.bl b, H, I.tok tk, rfl, q⟩
/-- sum of a list of ints, within an except suite -/
def rSumX (K : PySem.W.Frag) (ea : Addr) : List V → Hp → VK → Prop := fun xs H Q => ∃ (p : Addr) (ns : List Int), xs = [.ref p] ∧ SqL K H p (ns.map V.int) ∧ Held ea H ∧ Q (.int ns.sum) H
theorem walks_listX {prog : Program} {w : World} {A : Around} {C ea : Addr} (hh : A.handled = some (.ref ea)) (I ax : Addr) (hne : ax ≠ I) (hea : ea ≠ I) (items : Array Value) :
    Walks prog w A I [I, ax, ea] [I] items.size (fun i v => items[i]? = some v) (fun i h => h.IsListIter I ax i ∧ h.IsList ax items ∧ IsExc C ea h) where
  sub := fun b hb => by simp at hb; simp [hb]
  frame := fun _ _ _ st hk => ⟨st.1.at fun o e => hk I (by simp) o e, st.2.1.at fun o e => hk ax (by simp) o e, st.2.2.at fun o e => hk ea (by simp) o e⟩
  item := fun i s Q E hi st hQ => by
    refine wpAny_pyNext_list_item st.1 st.2.1 (x := items[i]) (by simp [hi]) fun h' hit' hs' => ?_
    exact hQ _ h' s.toks (by simp [hi]) ⟨hit', st.2.1.extBut hs'.extBut hne, st.2.2.at fun o e => hs'.extBut ea o hea e⟩ fun b o hb e => hs'.extBut b o (fun h => hb (by simp [h])) e
  done := fun s Q E st hQ => next_end hh st.2.2 hea st.1 st.2.1 (by simp) fun h' he' => hQ h' s.toks fun b o hb e => he' b o (fun h => hb (by simp [h])) e
  self := fun _ _ _ _ st hQ => wpAny_pyIter_listiter st.1 hQ
theorem sum_take {ns : List Int} : ∀ n, n ≤ ns.length → preSum (fun i => ns.getD i 0) n = (ns.take n).sum
  | 0, _ => rfl
  | n + 1, h => by
    show preSum (fun i => ns.getD i 0) n + ns.getD n 0 = _
    have e : ns.take (n + 1) = ns.take n ++ [ns.getD n 0] := by
      rw [List.take_add_one, List.getElem?_eq_getElem (by omega), List.getD_eq_getElem?_getD, List.getElem?_eq_getElem (by omega)]
      rfl
    rw [sum_take n (by omega), e, List.sum_append]
    simp
theorem call_sumX (hh : X.A.handled = some (.ref ea)) : CallR X (.builtin "sum") (rSumX X.K ea) := by
  intro pins s σ H xs us Q I r h
  obtain ⟨p, ns, rfl, hq, ⟨C, he⟩, q⟩ := h
  obtain ⟨u, rfl, rx⟩ := vals1 r
  cases rx
  obtain ⟨its, rv, pl, hz⟩ := I.list hq
  obtain ⟨l, rfl, rfl⟩ := ints_items (intsAre_of rv)
  have hl := pl.isList
  rw [items_eq] at hl
  have hx : IsExc C ea s.heap := (I.hok _ _ he).1
  have hlt : ea < s.heap.objs.size := by
    obtain ⟨oe, vs, r, _⟩ := hx
    exact Heap.lt_size r.at_
  refine call_sum_walkG (iter_intList hl fun s₂ e st hfp hlI => ?_)
  subst e
  refine ⟨_, _, _, _, _, _, fun i => (l.map (·.1)).getD i 0, rfl, walks_listX (A := X.A.in1) (C := C) (ea := ea) hh _ p hlI (Nat.ne_of_lt hlt) (intItems l.toArray), ⟨st.1, st.2, hx.at fun o e => Heap.get?_push_of_some _ e⟩, fun b hb => ?_, fun i v hv => ?_, fun h' tk t' hk => ?_⟩
  · rcases List.mem_cons.mp hb with rfl | hb
    · exact hfp _ (by simp)
    · rcases List.mem_cons.mp hb with rfl | hb
      · exact hfp _ (by simp)
      · rw [List.mem_singleton.mp hb]
        show ea < (s.heap.push _).objs.size
        rw [Heap.size_push]
        exact Nat.lt_succ_of_lt hlt
  · obtain ⟨t, e⟩ := intItems_at hv
    exact ⟨t, by rw [e, num_eq]⟩
  · refine ⟨.int _, H, I.kept (old_kept hk), ⟨_, rfl⟩, ?_⟩
    have e : (intItems l.toArray).size = (l.map (·.1)).length := by simp [intItems]
    rw [e, sum_take _ (Nat.le_refl _), List.take_length]
    exact q
/-- the place of the first -/
def rIndex (K : PySem.W.Frag) : V → List V → Hp → VK → Prop := fun x vs H Q => ∃ (l : Addr) (xs : List V) (y : V) (j : Nat), x = .ref l ∧ vs = [y] ∧ SqL K H l xs ∧ flatV y = true ∧ xs.all flatV = true ∧ j < xs.length ∧ xs.length ≤ 1000 ∧ (∀ z, xs[j]? = some z → eqV z y = true) ∧ (∀ m z, m < j → xs[m]? = some z → eqV z y = false) ∧ Q (.int (j : Nat)) H
theorem eqU_at {y : V} : ∀ {xs : List V} {us : List Value}, Vals xs us → xs.all flatV = true → ∀ (m : Nat) (u : Value), us[m]? = some u → ∃ z, xs[m]? = some z ∧ eqU y u = eqV z y
  | _, _, .nil, _ => fun m u e => by simp at e
  | x :: xs, v :: us, .cons r t, f => fun m u e => by
    rw [List.all_cons, Bool.and_eq_true] at f
    cases m with
    | zero =>
      cases e
      exact ⟨x, rfl, eqU_of r f.1⟩
    | succ m =>
      obtain ⟨z, e1, e2⟩ := eqU_at t f.2 m u (by simpa using e)
      exact ⟨z, by simpa using e1, e2⟩
theorem mt_index : MtR X "list.index" (rIndex X.K) := by
  intro pins s σ H x vs v us Q I rx rv h
  obtain ⟨l, xs, y, j, rfl, rfl, hq, fy, fs, hj, hx, hit, hno, q⟩ := h
  cases rx
  obtain ⟨u, rfl, ru⟩ := rv.one
  obtain ⟨its, r, pl, hz⟩ := I.list hq
  obtain ⟨⟨cls, dd, data, sl⟩, ho, hc, n, hd⟩ := id pl.isList
  simp only at hc hd
  subst hc hd
  have hl := r.length
  refine call_meets F.slot_list_index ⟨_, ho, rfl⟩ F.entry_list_index (F.args_list_index_2 _ _) (SeqAt.list_indexAt l its.toArray n dd sl u (eqU y) j (by rw [List.size_toArray]; omega) (by omega) ?_ ?_) ⟨ho, fun z hz' => mem_eqAt ru fy r fs z (by simpa using hz'), ?_⟩
  · obtain ⟨z, e1, e2⟩ := eqU_at (y := y) r fs j its[j] (List.getElem?_eq_getElem (by omega))
    rw [List.getElem_toArray, e2]
    exact hit z e1
  · intro m hm hmj
    obtain ⟨z, e1, e2⟩ := eqU_at (y := y) r fs m (its[m]'(by omega)) (List.getElem?_eq_getElem (by omega))
    rw [List.getElem_toArray, e2]
    exact hno m z hmj e1
  · exact ⟨.int (j : Nat), H, I.tok _, ⟨s.toks, rfl⟩, q⟩
end
/-! ### a comprehension over a list, within an except suite, its items untouched -/
section
variable {P : Program} {w : World} {K : PySem.W.Frag}
theorem turnC_listX {A : Around} {ea : Addr} {tg : Expr} (a it : Addr) (hh : A.handled = some (.ref ea)) (hne : ea ≠ it) : TurnC P w K A (Held ea) tg (Itl K a) [it] it (fun i h => h.IsListIter it a i) where
  obj := (turn_list (P := P) (w := w) (K := K) (tg := tg) a it).obj
  keep := (turn_list (P := P) (w := w) (K := K) (tg := tg) a it).keep
  item := by
    intro X hP hw hK hA i pins s σ H E hp I hf st hg
    subst hP hw hK hA
    obtain ⟨xs, x, hq, hx⟩ := hg
    obtain ⟨its, rv, p, hz⟩ := I.list hq
    obtain ⟨u, hu, ru⟩ := rv.get hx
    obtain ⟨f0, f1, f2, f3, f4, f5⟩ := hf it (by simp)
    refine wpAny_pyNext_list_item st p.isList (x := u) (by simpa using hu) fun h' st' sb => ?_
    have I1 : Inv X pins σ H { s with heap := h' } := I.turned (t' := s.toks) (fun b o hb e => (sb.2 b hb).trans e) f0 f1 f3 f4 f5
    obtain ⟨o, e, c, d⟩ := id st'
    exact ⟨u, rfl, go_of (s := { s with heap := h' }) e c d (by decide) ⟨x, H, I1, ru, ⟨rfl, fun ys hy => by rw [I.list_inj hy hq]; exact hx⟩, st', fun b hb => (hf b hb).1⟩⟩
  done := by
    intro X hP hw hK hA i pins s σ H E hp I hf st hg
    subst hP hw hK hA
    obtain ⟨xs, hq, hx⟩ := hg
    obtain ⟨its, rv, p, hz⟩ := I.list hq
    obtain ⟨f0, f1, f2, f3, f4, f5⟩ := hf it (by simp)
    have hl := rv.length
    obtain ⟨C, he⟩ := hp
    exact next_end hh (I.hok _ _ he).1 hne st p.isList (by simp; omega) fun h' eb => ⟨rfl, I.turned (t' := s.toks) (fun b o hb e => eb b o hb e) f0 f1 f3 f4 f5⟩
  self := fun _ _ _ _ st h => wpAny_pyIter_listiter st h
end
def tCompX (K : PySem.W.Frag) (ea : Addr) (tl : TE) (own : Nat) (caps : List Nat) (g : TG) (tt : TT) (te : TE) : TE := fun σ H Q => tl σ H fun v H1 => ∃ (a : Addr) (xs : List V) (f : V → V), v = .ref a ∧ SqL K H1 a xs ∧ xs.length < sizeLine ∧ Held ea H1 ∧
  (∀ x ∈ xs, g x (cap σ own caps) H1 fun τ2 H2 => tt τ2 H2 fun b H3 => b = true ∧ te τ2 H3 fun y H4 => H4 = H1 ∧ y = f x) ∧ ∀ D, H1 D = none → Q (.ref D) (upd H1 D (.lst (xs.map f)))
section
variable {X : Cx} {ea : Addr} {tg elt iter : Expr} {ifs : List Expr} {scope : Scope} {pos : Pos} {tl te : TE} {g : TG} {tt : TT}
theorem pe_compX (hh : X.A.handled = some (.ref ea)) (own : List Str) (capN : List Str) (caps : List Nat) (hcaps : Caps X scope caps capN) (hl : PE X iter tl)
    (hg : ∀ C s H fp, PG (compCx X (own ++ capN) scope C s H fp) tg g) (ht : ∀ C s H fp, PTs (compCx X (own ++ capN) scope C s H fp) ifs tt) (he : ∀ C s H fp, PE (compCx X (own ++ capN) scope C s H fp) elt te) (hgo : GOwn own.length g) (hgm : ∀ x τ H (R R' : L2.St → Hp → Prop), (∀ τ H, R τ H → R' τ H) → g x τ H R → g x τ H R')
    (htm : ∀ τ H (R R' : Bool → Hp → Prop), (∀ b H, R b H → R' b H) → tt τ H R → tt τ H R') (hem : ∀ τ H (R R' : VK), (∀ v H, R v H → R' v H) → te τ H R → te τ H R')
    (hk : scope.kind = .function := by rfl) (hcl : (scope.names.all fun y => !(y.2 == .cell)) = true := by rfl) (hnm : (scope.names.all fun y => !(y.2 == .local) || scope.names.lookup y.1 == some .local) = true := by rfl)
    (hfr : (scope.names.all fun y => !(y.2 == .free) || X.env.kindOf y.1 == some .cell || X.env.kindOf y.1 == some .free) = true := by rfl) (hs : ∀ x, foldedSetIterable iter X.env x = pure x := by intro _; rfl) :
    PE X (.ListComp elt [⟨tg, iter, ifs, 0⟩] scope pos) (tCompX X.K ea tl own.length caps g tt te) := by
  refine .mk ?_
  intro pins s σ H Q I h
  rw [eval_ListComp]
  have hfree := free_has I hfr
  refine wpAny_comprehension_free (use := none) rfl hs (closureFor_is hfree) hk (all_names hnm) (thn (hl pins s σ H _ I h) fun v s1 hZ9 => ?_)
  obtain ⟨x, H1, I1, r1, q1⟩ := hZ9
  obtain ⟨a, xs, f, rfl, hq, hz, hd, step, fin⟩ := q1
  cases r1
  obtain ⟨its, rv, p, hz'⟩ := I1.list hq
  refine wpAny_pyIter_list p.isList ?_
  have I2 : Inv X pins σ H1 { s1 with heap := s1.heap.push { cls := .type "list_iterator", data := .fields #[.ref a, .int 0 0] } } := I1.kept (t' := s1.toks) fun b o e => Heap.get?_push_of_some _ e
  have hne : ea ≠ s1.heap.objs.size := by
    obtain ⟨C, he⟩ := hd
    obtain ⟨⟨oe, vs, r, _⟩, _⟩ := I1.hok _ _ he
    exact Nat.ne_of_lt (Heap.lt_size r.at_)
  refine comp_block (Q := Q) (HP := Held ea) hk (all_nocell hcl) (free_has I2 hfr) hcaps hg ht he hgo I2 (turnC_listX a _ hh hne) ⟨_, Heap.get?_push_size _ rfl, rfl, rfl⟩ (fun b hb => by
    have e : b = s1.heap.objs.size := by simpa using hb
    subst e
    exact I1.fpOk (Nat.le_refl _) (I1.hok.fresh (Nat.le_refl _))) (W := fun i m ys H => H = H1 ∧ i + m = xs.length ∧ ys = (xs.take i).map f) (m0 := xs.length) (fun i m ys H w => by rw [w.1]; exact hd) ⟨rfl, Nat.zero_add _, rfl⟩ (fun i m ys H w => ?_) ?_
  · obtain ⟨rfl, hm, rfl⟩ := w
    by_cases hi : i < xs.length
    · right
      refine ⟨⟨xs, xs[i], hq, List.getElem?_eq_getElem hi⟩, ?_, fun ys H' => H' = H ∧ ys = (xs.take (i + 1)).map f, fun ys H' ⟨e1, e2⟩ => ⟨m - 1, by omega, e1, by omega, e2⟩, ?_⟩
      · rw [List.length_map, List.length_take]
        omega
      · rintro y H' ⟨rfl, hy⟩
        have ey : y = xs[i] := by
          have := hy xs hq
          rw [List.getElem?_eq_getElem hi] at this
          exact (Option.some.inj this).symm
        subst ey
        refine hgm _ _ _ _ _ (fun τ2 H2 q => ?_) (step _ (List.getElem_mem hi))
        refine htm _ _ _ _ (fun b H3 q => ?_) q
        obtain ⟨rfl, q⟩ := q
        rw [if_pos rfl]
        refine hem _ _ _ _ (fun y H4 q => ?_) q
        obtain ⟨rfl, rfl⟩ := q
        refine ⟨rfl, ?_⟩
        rw [List.take_add_one, List.getElem?_eq_getElem hi, List.map_append]
        rfl
    · left
      refine ⟨⟨xs, hq, by omega⟩, fun D hD => ?_⟩
      rw [List.take_of_length_le (by omega)]
      exact fin D hD
  · intro D C m' H' s' IX hn nC hC q
    refine ⟨m', hn, fun h' hs' => ⟨.ref D, H', IX.turned (t' := s'.toks) (it := C) (fun b o hb e => hs'.extBut b o hb e) nC (Nat.ne_of_gt (Nat.lt_of_lt_of_le I2.lt hC)) (.inr (Nat.le_trans I2.sz hC)) (fun x c e => ?_) (fun p hp => ?_), rfl, q⟩⟩
    · obtain ⟨v, z⟩ := I2.cell x c e
      exact Nat.ne_of_lt (Nat.lt_of_lt_of_le z.lt hC)
    · exact Nat.ne_of_lt (Nat.lt_of_lt_of_le (Heap.lt_size (I2.pin p hp).1) hC)
end
theorem mono_g {i : Nat} (x : V) (τ : L2.St) (H : Hp) (R R' : L2.St → Hp → Prop) (h : ∀ τ H, R τ H → R' τ H) (q : gName i x τ H R) : gName i x τ H R' := h _ _ q
theorem mono_t (τ : L2.St) (H : Hp) (R R' : Bool → Hp → Prop) (h : ∀ b H, R b H → R' b H) (q : tTrue τ H R) : tTrue τ H R' := h _ _ q
theorem mono_int (τ : L2.St) (H : Hp) (R R' : VK) (h : ∀ v H, R v H → R' v H) (q : tCB rInt1 (tCons (tVar 0) tNil) τ H R) : tCB rInt1 (tCons (tVar 0) tNil) τ H R' := by
  obtain ⟨v, e, q⟩ := q
  refine ⟨v, e, ?_⟩
  rcases q with ⟨i, e1, q⟩ | ⟨k, e1, q⟩
  · exact .inl ⟨i, e1, h _ _ q⟩
  · exact .inr ⟨k, e1, h _ _ q⟩
theorem rd_raise {C : Addr} {E : XK} {t : TA} {D : Ends} {σ : L2.St} {H : Hp} (h : t σ H fun vs H1 => vs.length ≤ sizeLine ∧ E (.ref C) none H1) : tRaise C E t D σ H := h
theorem rd_tryAs {K : PySem.W.Frag} {V : Addr} {i n : Nat} {tb : XK → TS} {th : Addr → TS} {D : Ends} {σ : L2.St} {H : Hp} (h : tb (exB K V i n th D) D σ H) : tTryAs K V i n tb th D σ H := h
theorem rd_callX {ea : Addr} {sp : Sp} {t : TA} {σ : L2.St} {H : Hp} {Q : VK} (h : t σ H fun vs H1 => Held ea H1 ∧ sp vs H1 Q fun _ _ _ => False) : tCallX ea sp t σ H Q := h
theorem rd_compX {K : PySem.W.Frag} {ea : Addr} {tl te : TE} {own : Nat} {caps : List Nat} {g : TG} {tt : TT} {σ : L2.St} {H : Hp} {Q : VK} (h : tl σ H fun v H1 => ∃ (a : Addr) (xs : List V) (f : V → V), v = .ref a ∧ SqL K H1 a xs ∧ xs.length < sizeLine ∧ Held ea H1 ∧
  (∀ x ∈ xs, g x (cap σ own caps) H1 fun τ2 H2 => tt τ2 H2 fun b H3 => b = true ∧ te τ2 H3 fun y H4 => H4 = H1 ∧ y = f x) ∧ ∀ D, H1 D = none → Q (.ref D) (upd H1 D (.lst (xs.map f)))) : tCompX K ea tl own caps g tt te σ H Q := h
end L2

set_option Elab.async false
set_option linter.all false
set_option maxRecDepth 100000
set_option maxHeartbeats 1000000
namespace L2
open PySem PySem.Spec PyProof.Rows
/-! ### a comprehension whose items may raise -/
section
variable {prog : Program} {w : World} {A : Around} {R : Result → Shared → Prop} {s : Shared}
end
theorem frameOf_frame {env env' : Env} (h : env'.frame = env.frame) : PySem.frameOf env' = PySem.frameOf env := by
  unfold PySem.frameOf
  rw [h]
theorem noteFrame_frame {e : Value} {env env' : Env} (h : env'.frame = env.frame) : noteFrame e env' = noteFrame e env := by
  unfold noteFrame
  rw [h, frameOf_frame h]
theorem ff_base {h B B' : Heap} (hb : ∀ L, B.get? L = none → B'.get? L = none) : ∀ {l : List Env}, h.FunFrames B l → h.FunFrames B' l
  | [], _ => trivial
  | _ :: _, ⟨a, ⟨L, o, b, c, d⟩, r⟩ => ⟨a, ⟨L, o, b, hb L c, d⟩, ff_base hb r⟩
section
variable {X : Cx} {pins : List (Addr × Obj)} {σ : L2.St}
theorem fly_comp {N' : List Str} {scope : Scope} {C : Addr} {fp : List Addr} {pins' : List (Addr × Obj)} {τ : L2.St} {H1 H4 : Hp} {s1 s2 s4 s5 : Shared} {EB : XK} {e acc : Value} {l : List Env} {cenv : Env} {Q : Value → Shared → Prop}
    (I1 : Inv X pins σ H1 s1) (hst : X.stack = X.env :: l) (hfr : X.env.frame = some X.env.locals) (px : Passes (Fly X.prog X.w) X EB)
    (k12 : ∀ b o, s1.heap.get? b = some o → s2.heap.get? b = some o) (os2 : s2.os = s1.os) (J : Inv (compCx X N' scope C s2 H1 fp) pins' τ H4 s4) (fpN : ∀ b ∈ fp, s1.heap.get? b = none) (cN : s1.heap.get? C = none) (cF : C ∉ frs X.stack)
    (hf : Fly X.prog X.w X.stack H4 s4 EB e s5) (hcf : cenv.frame = X.env.frame) :
    wpAny (model X.prog X.w) X.A (noteFrame e cenv) (fun _ s6 => compPost (model X.prog X.w) X.A X.xe none Q acc C (.error e) s6) (fun e' s6 => compPost (model X.prog X.w) X.A X.xe none Q acc C (.error e') s6) s5 := by
  obtain ⟨ea, D, H', B, rfl, os, bare, u1, hok, ⟨fl, a⟩, cov, he⟩ := hf
  have fr : X.A.frames = some (X.env :: l) := by rw [← hst]; exact I1.ok.frames
  have ff : s1.heap.FunFrames X.base X.stack := I1.stack
  have free : ∀ b ∈ frs X.stack, H1 b = none := I1.stkFree
  have uJ : Un (frs X.stack) fp H1 H4 s2.heap s4.heap := J.base
  have nfp : ∀ b o, s1.heap.get? b = some o → b ∉ fp := fun b o e z => by rw [fpN b z] at e; cases e
  have uX : Un (frs X.stack) [] H1 H' s1.heap s5.heap := by
    refine ⟨fun b o e n hb _ => ?_, fun b o e n hb _ => ?_, fun b o e n _ => ?_, fun b o e _ => ?_, fun b xs q => u1.tups b xs (uJ.tups b xs q), fun b ob v q => u1.frzs b ob v (uJ.frzs b ob v q), fun b ps q => ?_⟩
    · exact u1.keep b o (uJ.keep b o (k12 b o e) n hb (nfp b o e)) (uJ.free b o (k12 b o e) n (nfp b o e)) hb (by simp)
    · obtain ⟨sl, e1⟩ := uJ.slot b o (k12 b o e) n hb (nfp b o e)
      obtain ⟨sl2, e2⟩ := u1.slot b _ e1 (uJ.free b o (k12 b o e) n (nfp b o e)) hb (by simp)
      exact ⟨sl2, e2⟩
    · obtain ⟨o1, e1⟩ := uJ.there b o (k12 b o e) (nfp b o e)
      exact u1.free b o1 e1 (uJ.free b o (k12 b o e) n (nfp b o e)) (by simp)
    · obtain ⟨o1, e1⟩ := uJ.there b o (k12 b o e) (nfp b o e)
      exact u1.there b o1 e1 (by simp)
    · obtain ⟨m1, e1⟩ := uJ.tbls b ps q
      obtain ⟨m2, e2⟩ := u1.tbls b _ e1
      exact ⟨m1 ++ m2, by rw [e2, Array.append_assoc]⟩
  have covX : Cov X.stack H' s1.heap s5.heap B := fun b o e n hc => cov b o e n (by
    rcases hc with hc | ⟨o0, e0⟩
    · exact .inl hc
    · exact .inr (uJ.there b o0 (k12 b o0 e0) (nfp b o0 e0)))
  -- the block's names
  obtain ⟨m, hm, _⟩ := J.loc
  have hm : s4.heap.Ns C m := hm
  obtain ⟨oC, es, ep, eC, dC, rC⟩ := hm
  have hC4 : H4 C = none := J.free
  have hC' : H' C = none := u1.free C oC eC hC4 (by simp)
  have eC5 : s5.heap.get? C = some oC := u1.keep C oC eC hC4 cF (by simp)
  have bC : B.get? C = some oC := cov C oC eC5 cF (.inr ⟨oC, eC⟩)
  rw [noteFrame_frame hcf]
  refine air_note fr hfr (by rw [← hst]; exact a) fun h6 a6 s6 => ?_
  rw [← hst] at a6 s6
  obtain ⟨u6, hok6, cov6⟩ := fly_turn ff free uX hok covX a6.st s6
  have eC6 : h6.get? C = some oC := a6.st C oC bC
  refine ⟨m, ⟨oC, es, ep, eC6, dC, rC⟩, fun h' hs cenv' hcl => ?_⟩
  -- B without the block's names
  have bN : ∀ L, B.get? L = none → (PySem.W.hideAll B [C]).get? L = none := fun L hL => by
    cases q : (PySem.W.hideAll B [C]).get? L with
    | none => rfl
    | some o => rw [PySem.W.of_hideAll _ q] at hL; cases hL
  have bne : ∀ b o, (PySem.W.hideAll B [C]).get? b = some o → b ≠ C := fun b o q z => by
    rw [z, PySem.W.hideAll_none [C] (by simp)] at q
    cases q
  have fne : ∀ b ∈ frs X.stack, b ≠ C := fun b hb z => cF (z ▸ hb)
  have cov6' : Cov X.stack H' s1.heap h6 (PySem.W.hideAll B [C]) := fun b o e n hc => PySem.W.hideAll_get [C] (cov6 b o e n hc) (fun z => by
    rw [List.mem_singleton] at z
    subst z
    rcases hc with hc | ⟨o0, e0⟩
    · exact hc hC'
    · rw [cN] at e0; cases e0)
  have st7 : (PySem.W.hideAll B [C]).StaysIn h' := fun b o q => (hs.2 b (bne b o q)).trans (a6.st b o (PySem.W.of_hideAll _ q))
  have sr7 : SlotR X.stack h6 h' := fun b o hb e => ⟨o.slots, (hs.2 b (fne b hb)).trans e⟩
  obtain ⟨u7, hok7, cov7⟩ := fly_turn (s1 := { s5 with heap := h6 }) ff free u6 hok6 cov6' st7 sr7
  obtain ⟨oe, vs, T, oT, ts, r, hc, h2, h1, nT, Te, eT, dT, h3⟩ := a6.rec_
  have neE : ea ≠ C := fun z => by
    have q := r.at_
    rw [z, eC6] at q
    cases q
    have := r.fld
    rw [dC] at this
    cases this
  have neT : T ≠ C := fun z => by
    rw [z, eC6] at eT
    cases eT
    rw [dC] at dT
    cases dT
  have a7 : Air (rawInt X.env.locals) (PySem.W.hideAll B [C]) X.stack ea D h' :=
    ⟨st7, bN _ a6.new, ff_slots (ff_base bN a6.ff) sr7, oe, vs, T, oT, ts, ⟨(hs.2 ea neE).trans r.at_, r.fld, r.sz, r.dct⟩, hc, h2, h1, bN _ nT, Te, (hs.2 T neT).trans eT, dT, h3⟩
  unfold PySem.passOn
  refine wpAny_bind (wpAny_field ((hs.2 ea neE).trans r.at_) r.fld h1 ?_)
  rw [if_neg (show ¬ ((Value.ref T == Value.none) = true) by simp)]
  refine wpAny_bind (air_set (s := { s5 with heap := h' }) a7 fun h8 a8 s8 => ?_)
  obtain ⟨u8, hok8, cov8⟩ := fly_turn (s1 := { s5 with heap := h' }) ff free u7 hok7 cov7 a8.st s8
  refine wpAny_throw ?_
  exact px pins σ H1 s1 (.ref ea) _ I1 ⟨ea, D, H', _, rfl, by show s5.os = _; rw [os, J.os]; exact os2, bare, u8, hok8, ⟨_, a8⟩, cov8, he⟩
end
section
variable {X : Cx} {pins : List (Addr × Obj)} {τ : L2.St} {H4 : Hp} {s4 : Shared} {N' : List Str} {scope : Scope} {C : Addr} {s : Shared} {H : Hp} {fp : List Addr} {xe : Value → Shared → Prop}
end
section
variable {X : Cx} {tg iter elt : Expr} {ifs : List Expr} {scope : Scope} {pos : Pos} {own capN : List Str} {caps : List Nat} {g : TG} {tt : TT} {te tl : TE} {EB : XK}
theorem comp_blockE {it : Addr} {fp : List Addr} {tn : Nat → Heap → Prop} {J : It} {pins : List (Addr × Obj)} {σ : St} {H : Hp} {s₂ : Shared} {E : Value → Shared → Prop} {RR : Value → Addr → Result → Shared → Prop} {Q : VK} {EB : XK}
    {HP : Hp → Prop} (hkind : scope.kind = .function) (hcell : ∀ y ∈ scope.names, y.2 ≠ .cell) (hfree : ∀ y ∈ scope.names, y.2 = .free → ∃ c, X.env.cells.lookup y.1 = some c) (hcaps : Caps X scope caps capN)
    (hg : ∀ C s H fp, PG (compCx X (own ++ capN) scope C s H fp) tg g) (ht : ∀ C s H fp, PTs (compCx X (own ++ capN) scope C s H fp) ifs tt) (he : ∀ C s H fp xe, Passes (Fly X.prog X.w) (compCxE X (own ++ capN) scope C s H fp xe) EB → PE (compCxE X (own ++ capN) scope C s H fp xe) elt te) (hgo : GOwn own.length g)
    (I : Inv X pins σ H s₂) (T : TurnC X.prog X.w X.K X.A HP tg J fp it tn) (st : tn 0 s₂.heap) (hf : ∀ b ∈ fp, FpOk X pins H b)
    {W : Nat → Nat → List V → Hp → Prop} {m0 : Nat} (hw : ∀ i m ys H, W i m ys H → HP H) (w0 : W 0 m0 [] H)
    (turn : ∀ i m ys H, W i m ys H → (J.stop i H ∧ CEnd Q ys H) ∨
      (J.go i H ∧ ys.length < sizeLine ∧ ∃ N : List V → Hp → Prop, (∀ ys H, N ys H → ∃ m', m' < m ∧ W (i + 1) m' ys H) ∧ ∀ x H', J.yld i H x H' → g x (cap σ own.length caps) H' fun τ2 H2 => tt τ2 H2 fun b H3 =>
        if b = true then te τ2 H3 fun y H4 => N (ys ++ [y]) H4 else N ys H3))
    (hRE : ∀ C pins' τ H4 s4 e s5 (cenv : Env), Inv (compCx X (own ++ capN) scope C s₂ H fp) pins' τ H4 s4 → s₂.heap.objs.size ≤ C → Fly X.prog X.w X.stack H4 s4 EB e s5 → cenv.frame = X.env.frame → wpAny (model X.prog X.w) X.A (noteFrame e cenv) (fun _ s6 => RR (.ref s₂.heap.objs.size) C (.error e) s6) (fun e' s6 => RR (.ref s₂.heap.objs.size) C (.error e') s6) s5)
    (hRR : ∀ D C m' H' s', Inv X pins σ H' s' → s'.heap.Ns C m' → H' C = none → s₂.heap.objs.size ≤ C → Q (.ref D) H' → RR (.ref D) C (.ok .next) s') :
    wpAny (model X.prog X.w) X.A (newList []) (fun acc s₃ => wpAny (model X.prog X.w) X.A (newFunctionEnv scope X.env.globals (closGo X.env.cells scope.names []) [] X.env.qual none .none (some X.env)) (fun cenv s₄ =>
      codeAny (model X.prog X.w) X.A (.compStart (.ListComp elt [⟨tg, iter, ifs, 0⟩] scope pos) 0 (.ref it) acc { cenv with scope := relabel scope X.env }) (RR acc cenv.locals) s₄) E s₃) E s₂ :=
  comp_blockZ (Z := fun C e s5 => ∃ pins' τ H4 s4, Inv (compCx X (own ++ capN) scope C s₂ H fp) pins' τ H4 s4 ∧ Fly X.prog X.w X.stack H4 s4 EB e s5) hkind hcell hfree hcaps hg ht (fun C => he C s₂ H fp _ (fun pins' τ H4 s4 e s5 J hf => ⟨pins', τ, H4, s4, J.outE, hf⟩)) hgo I T st hf hw w0 turn
    (fun C e s5 cenv hC h hcf => by
      obtain ⟨pins', τ, H4, s4, J, hf⟩ := h
      exact hRE C pins' τ H4 s4 e s5 cenv J hC hf hcf) hRR
theorem pe_compE {l : List Env} (hst : X.stack = X.env :: l) (hfr : X.env.frame = some X.env.locals) (px : Passes (Fly X.prog X.w) X EB) (own : List Str) (capN : List Str) (caps : List Nat) (hcaps : Caps X scope caps capN) (hc : X.calm = true) (hl : PE X iter tl)
    (hg : ∀ C s H fp, PG (compCx X (own ++ capN) scope C s H fp) tg g) (ht : ∀ C s H fp, PTs (compCx X (own ++ capN) scope C s H fp) ifs tt) (he : ∀ C s H fp xe, Passes (Fly X.prog X.w) (compCxE X (own ++ capN) scope C s H fp xe) EB → PE (compCxE X (own ++ capN) scope C s H fp xe) elt te) (hgo : GOwn own.length g)
    (hk : scope.kind = .function := by rfl) (hcl : (scope.names.all fun y => !(y.2 == .cell)) = true := by rfl) (hnm : (scope.names.all fun y => !(y.2 == .local) || scope.names.lookup y.1 == some .local) = true := by rfl)
    (hfr' : (scope.names.all fun y => !(y.2 == .free) || X.env.kindOf y.1 == some .cell || X.env.kindOf y.1 == some .free) = true := by rfl) (hs : ∀ x, foldedSetIterable iter X.env x = pure x := by intro _; rfl) :
    PE X (.ListComp elt [⟨tg, iter, ifs, 0⟩] scope pos) (tComp (iList X.K tl) own.length caps g tt te) := by
  refine .mk ?_
  intro pins s σ H Q I h
  rw [eval_ListComp]
  have hfree := free_has I hfr'
  refine wpAny_comprehension_free (use := none) rfl hs (closureFor_is hfree) hk (all_names hnm) (thn (hl pins s σ H _ I h) fun v s1 hZ9 => ?_)
  obtain ⟨x, H1, I1, r1, q1⟩ := hZ9
  obtain ⟨a, rfl, ⟨xs, hq⟩, τ, rfl, W, ⟨m0, w0⟩, turn⟩ := q1
  cases r1
  obtain ⟨its, rv, p, hz'⟩ := I1.list hq
  refine wpAny_pyIter_list p.isList ?_
  have I2 : Inv X pins σ H1 { s1 with heap := s1.heap.push { cls := .type "list_iterator", data := .fields #[.ref a, .int 0 0] } } := I1.kept (t' := s1.toks) fun b o e => Heap.get?_push_of_some _ e
  have hfp : ∀ b ∈ [s1.heap.objs.size], FpOk X pins H1 b := fun b hb => by
    have e : b = s1.heap.objs.size := by simpa using hb
    subst e
    exact I1.fpOk (Nat.le_refl _) (I1.hok.fresh (Nat.le_refl _))
  refine comp_blockE (Q := Q) (EB := EB) hk (all_nocell hcl) (free_has I2 hfr') hcaps hg ht he hgo I2 (TurnC.of (turn_list a _) (I2.ok.hd hc)) ⟨_, Heap.get?_push_size _ rfl, rfl, rfl⟩ hfp (fun _ _ _ _ _ => trivial) w0 turn ?_ ?_
  · intro C pins' τ H4 s4 e s5 cenv J hC hf hcf
    have hsz : s1.heap.objs.size + 1 ≤ C := by
      have : (s1.heap.push { cls := .type "list_iterator", data := .fields #[.ref a, .int 0 0] }).objs.size ≤ C := hC
      rw [Heap.size_push] at this
      exact this
    refine fly_comp (s2 := { s1 with heap := s1.heap.push { cls := .type "list_iterator", data := .fields #[.ref a, .int 0 0] } }) I1 hst hfr px (fun b o e => Heap.get?_push_of_some _ e) rfl J (fun b hb => ?_) (Heap.get?_none_of_le (by omega)) (fun hm => ?_) hf hcf
    · have e : b = s1.heap.objs.size := by simpa using hb
      rw [e]
      exact Heap.get?_none_of_le (Nat.le_refl _)
    · obtain ⟨_, o, eo, _⟩ := I1.stack.mem hm
      exact Nat.lt_irrefl _ (Nat.lt_of_lt_of_le (Heap.lt_size eo) (Nat.le_of_succ_le hsz))
  · intro D C m' H' s' IX hn nC hC q
    refine ⟨m', hn, fun h' hs' => ⟨.ref D, H', IX.turned (t' := s'.toks) (it := C) (fun b o hb e => hs'.extBut b o hb e) nC (Nat.ne_of_gt (Nat.lt_of_lt_of_le I2.lt hC)) (.inr (Nat.le_trans I2.sz hC)) (fun x c e => ?_) (fun p hp => ?_), rfl, q⟩⟩
    · obtain ⟨v, z⟩ := I2.cell x c e
      exact Nat.ne_of_lt (Nat.lt_of_lt_of_le z.lt hC)
    · exact Nat.ne_of_lt (Nat.lt_of_lt_of_le (Heap.lt_size (I2.pin p hp).1) hC)
end
/-- of one that may raise: where it does not -/
theorem FnOk.calm {P : Program} {w : World} {K : PySem.W.Frag} {mg : Str → Option Value} {base : Heap} {k : Nat} {f : Addr} {fd : FuncData} {ps : List Str} {sp : Sp} (F : FnOk P w K mg base (Fly P w) k f fd ps sp) : FnOk P w K mg base CX0 k f fd ps (fun vs H Q _ => sp vs H Q fun _ _ _ => False) :=
  ⟨fun vs H Q E h => F.len vs H Q _ h, fun A outer s H args us vs Q E hr e0 hb hv hs => codeAny_mono (F.run A outer s H args us vs Q _ hr e0 hb hv hs) fun r s' q => by
    cases r with
    | error e =>
      obtain ⟨_, _, _, _, _, _, _, _, _, _, _, z⟩ := q
      exact z.elim
    | ok fl => cases fl <;> exact q⟩
end L2

set_option linter.all false
namespace My
abbrev absI (i : Int) : Int := if i < 0 then -i else i
def midOf (ss : List Int) (near : Int) : Int :=
  if absI (ss.getD (ss.length / 2) 0 - near) < absI (ss.getD ((ss.length - 1) / 2) 0 - near) then ss.getD (ss.length / 2) 0 else ss.getD ((ss.length - 1) / 2) 0
def mayF (rs : List Int) (v : Int) : Bool := decide (2 * ((rs.filter fun x => decide (x < v)).length : Int) ≤ rs.length) && decide (2 * ((rs.filter fun x => decide (v < x)).length : Int) ≤ rs.length)
def bestF (near d : Int) (l : List Int) : Int := l.foldl (fun d x => if absI (x - near) < absI (d - near) then x else d) d
/-! ### sorted lists by place -/
/-! ### the nearest, the least of these -/
structure Best (near r : Int) (l : List Int) : Prop where
  mem : r ∈ l
  min : ∀ x ∈ l, absI (r - near) ≤ absI (x - near)
  lst : ∀ x ∈ l, absI (x - near) ≤ absI (r - near) → r ≤ x
end My

set_option linter.all false
namespace My
open PySem L2
/-! ### a voter, plainly -/
@[reducible] def toV : Option Int → V
  | none => .non
  | some i => .int i
def setOk (a b c d e : Int) : Bool := decide (3 ≤ a ∧ a ≤ 9 ∧ 0 ≤ b ∧ b ≤ 1000000 ∧ 1 ≤ c ∧ c ≤ 1000000 ∧ 1 ≤ d ∧ d ≤ 1000 ∧ 1 ≤ e ∧ e ≤ 1000)
def saidF : Option Int → Bool
  | none => true
  | some i => decide (absI i ≤ 1000000000)
structure VS where
  many : Nat
  thr : Int
  rate : Int
  misses : Int
  backs : Int
  last : Int
  outs : List Bool
  cnts : List Int
def sortI (l : List Int) : List Int := l.mergeSort fun a b => decide (a ≤ b)
theorem sortI_perm (l : List Int) : (sortI l).Perm l := List.mergeSort_perm l _
theorem sortI_pw (l : List Int) : (sortI l).Pairwise (· ≤ ·) := by
  have := List.pairwise_mergeSort (le := fun a b : Int => decide (a ≤ b)) (by intro a b c; simp; omega) (by intro a b; simp; omega) l
  simpa [sortI] using this
theorem srt_uniq : ∀ {a b : List Int}, a.Perm b → a.Pairwise (· ≤ ·) → b.Pairwise (· ≤ ·) → a = b
  | [], b, h, _, _ => (List.nil_perm.mp h).symm
  | x :: a, [], h, _, _ => by
    have := h.length_eq
    simp at this
  | x :: a, y :: b, h, ha, hb => by
    have hx : x ∈ y :: b := h.mem_iff.mp List.mem_cons_self
    have hy : y ∈ x :: a := h.mem_iff.mpr List.mem_cons_self
    have e : x = y := by
      have h1 : y ≤ x := by
        rcases List.mem_cons.mp hx with q | q
        · omega
        · exact (List.pairwise_cons.mp hb).1 x q
      have h2 : x ≤ y := by
        rcases List.mem_cons.mp hy with q | q
        · omega
        · exact (List.pairwise_cons.mp ha).1 y q
      omega
    subst e
    rw [srt_uniq (List.Perm.cons_inv h) (List.pairwise_cons.mp ha).2 (List.pairwise_cons.mp hb).2]
theorem srt_is {l ss : List Int} (h : ss.Perm l) (hw : ss.Pairwise (· ≤ ·)) : ss = sortI l := srt_uniq (h.trans (sortI_perm l).symm) hw (sortI_pw l)
def midE (l : List Int) (near : Int) : Int := if l.length = 0 then near else midOf (sortI l) near
def movF (one goal most : Int) : Int := if goal > one then (if goal < one + most then goal else one + most) else (if goal > one - most then goal else one - most)
/-- the numbers of those that are there -/
def thereF (vals : List (Option Int)) (outs : List Bool) (n : Nat) : List Int := (List.range n).filterMap fun j => if outs.getD j true = true then none else vals.getD j none
theorem filterMap_one {α β : Type} (f : α → Option β) (a : α) : [a].filterMap f = (f a).toList := by
  cases h : f a <;> simp [List.filterMap_cons, h]
theorem thereF_succ (vals : List (Option Int)) (outs : List Bool) (n : Nat) : thereF vals outs (n + 1) = thereF vals outs n ++ (if outs.getD n true = true then [] else (vals.getD n none).toList) := by
  unfold thereF
  rw [List.range_succ, List.filterMap_append, filterMap_one]
  congr 1
  by_cases h : outs.getD n true = true
  · rw [if_pos h, if_pos h]
    rfl
  · rw [if_neg h, if_neg h]
theorem thereF_len (vals : List (Option Int)) (outs : List Bool) (n : Nat) : (thereF vals outs n).length ≤ n := by
  unfold thereF
  exact Nat.le_trans (List.length_filterMap_le _ _) (by rw [List.length_range]; exact Nat.le_refl _)
def nearF (thr value : Int) : Option Int → Bool
  | none => false
  | some i => decide (absI (i - value) ≤ thr)
def anotherF (outs : List Bool) (j : Nat) : Bool := (List.range outs.length).any fun k => !decide (k = j) && !outs.getD k true
abbrev OC := List Bool × List Int
def turnF (misses backs : Int) (near : Bool) (some : Bool) (j : Nat) (s : OC) : OC :=
  if s.1.getD j true = true then
    (if (near && some) = true then (if s.2.getD j 0 + 1 = backs then (s.1.set j false, s.2.set j 0) else (s.1, s.2.set j (s.2.getD j 0 + 1))) else (s.1, s.2.set j 0))
  else
    (if near = true then (s.1, s.2.set j (if 0 > s.2.getD j 0 - 1 then 0 else s.2.getD j 0 - 1))
    else if s.2.getD j 0 + 1 ≥ misses ∧ anotherF s.1 j = true then (s.1.set j true, s.2.set j 0) else (s.1, s.2.set j (s.2.getD j 0 + 1)))
def loopF (misses backs thr value : Int) (some : Bool) (vals : List (Option Int)) : Nat → OC → OC
  | 0, s => s
  | n + 1, s => turnF misses backs (nearF thr value (vals.getD n none)) some n (loopF misses backs thr value some vals n s)
def closeF (ns : List Int) (value thr : Int) : Nat := (ns.filter fun x => decide (absI (x - value) ≤ thr)).length
def wordF (ns : List Int) (value thr : Int) (many : Nat) : Str :=
  if ns.length = 0 then "lost" else if ns.length = 1 then "single" else if closeF ns value thr * 2 ≤ ns.length then "split" else if closeF ns value thr = many then "all" else "most"
def VS.there (v : VS) (vals : List (Option Int)) : List Int := thereF vals v.outs v.many
def VS.value (v : VS) (vals : List (Option Int)) : Int := midE (v.there vals) v.last
def VS.oc (v : VS) (vals : List (Option Int)) : OC := loopF v.misses v.backs v.thr (v.value vals) (decide (0 < (v.there vals).length)) vals v.many (v.outs, v.cnts)
def VS.step (v : VS) (vals : List (Option Int)) : VS :=
  { v with last := movF v.last (v.value vals) v.rate, outs := (v.oc vals).1, cnts := (v.oc vals).2 }
def VS.word (v : VS) (vals : List (Option Int)) : Str := wordF (v.there vals) (v.value vals) v.thr v.many
/-- what holds of a voter between two steps -/
structure VS.Ok (v : VS) : Prop where
  m3 : 3 ≤ v.many
  m9 : v.many ≤ 9
  ol : v.outs.length = v.many
  cl : v.cnts.length = v.many
theorem turnF_len {misses backs : Int} {near some : Bool} {j : Nat} {s : OC} : (turnF misses backs near some j s).1.length = s.1.length ∧ (turnF misses backs near some j s).2.length = s.2.length := by
  unfold turnF
  repeat' split
  all_goals simp
theorem loopF_len {misses backs thr value : Int} {some : Bool} {vals : List (Option Int)} : ∀ {n : Nat} {s : OC}, (loopF misses backs thr value some vals n s).1.length = s.1.length ∧ (loopF misses backs thr value some vals n s).2.length = s.2.length
  | 0, s => ⟨rfl, rfl⟩
  | n + 1, s => by
    unfold loopF
    obtain ⟨a, b⟩ := turnF_len (misses := misses) (backs := backs) (near := nearF thr value (vals.getD n none)) (some := some) (j := n) (s := loopF misses backs thr value some vals n s)
    obtain ⟨c, d⟩ := loopF_len (misses := misses) (backs := backs) (thr := thr) (value := value) (some := some) (vals := vals) (n := n) (s := s)
    exact ⟨a.trans c, b.trans d⟩
theorem VS.Ok.step {v : VS} (h : v.Ok) (vals : List (Option Int)) : (v.step vals).Ok :=
  ⟨h.m3, h.m9, loopF_len.1.trans h.ol, loopF_len.2.trans h.cl⟩
end My

set_option Elab.async false
set_option linter.all false
set_option maxRecDepth 100000
namespace My
open PySem L2
/-! ### the two ways of a turn -/
def judgeF (misses : Int) (near : Bool) (j : Nat) (s : OC) : OC :=
  if near = true then (s.1, s.2.set j (if 0 > s.2.getD j 0 - 1 then 0 else s.2.getD j 0 - 1))
  else if s.2.getD j 0 + 1 ≥ misses ∧ anotherF s.1 j = true then (s.1.set j true, s.2.set j 0) else (s.1, s.2.set j (s.2.getD j 0 + 1))
def backF (backs : Int) (agrees : Bool) (j : Nat) (s : OC) : OC :=
  if agrees = true then (if s.2.getD j 0 + 1 = backs then (s.1.set j false, s.2.set j 0) else (s.1, s.2.set j (s.2.getD j 0 + 1))) else (s.1, s.2.set j 0)
theorem turn_out {misses backs : Int} {near some : Bool} {j : Nat} {s : OC} (h : s.1.getD j true = true) : turnF misses backs near some j s = backF backs (near && some) j s := by
  unfold turnF backF
  rw [if_pos h]
theorem turn_in {misses backs : Int} {near some : Bool} {j : Nat} {s : OC} (h : s.1.getD j true = false) : turnF misses backs near some j s = judgeF misses near j s := by
  unfold turnF judgeF
  rw [if_neg (by rw [h]; exact Bool.false_ne_true)]
/-! ### a voter with other marks -/
def VS.put (v : VS) (s : OC) : VS := { v with outs := s.1, cnts := s.2 }
theorem VS.Ok.put {v : VS} (h : v.Ok) {s : OC} (h1 : s.1.length = v.many) (h2 : s.2.length = v.many) : (v.put s).Ok := ⟨h.m3, h.m9, h1, h2⟩
/-! ### all but some objects stay -/
def SameX (l : List Addr) (H H' : Hp) : Prop := ∀ b o, b ∉ l → H b = some o → H' b = some o
theorem SameX.refl {l : List Addr} {H : Hp} : SameX l H H := fun _ _ _ h => h
theorem SameX.trans {l : List Addr} {H H1 H2 : Hp} (a : SameX l H H1) (b : SameX l H1 H2) : SameX l H H2 := fun c o n h => b c o n (a c o n h)
theorem SameX.wid {l l' : List Addr} {H H' : Hp} (a : SameX l H H') (h : ∀ b ∈ l, b ∈ l') : SameX l' H H' := fun c o n e => a c o (fun q => n (h c q)) e
theorem samex_of {H H' : Hp} {l : List Addr} (a : Same H H') : SameX l H H' := fun c o _ e => a c o e
theorem SameX.upd {l : List Addr} {H H' : Hp} {p : Addr} {o : HO} (e : SameX l H H') (hp : p ∈ l) : SameX l H (upd H' p o) := fun b u n h => by
  have : b ≠ p := fun q => n (q ▸ hp)
  rw [upd_ne this]
  exact e b u n h
theorem SameX.new {l : List Addr} {H H' : Hp} {p : Addr} {o : HO} (e : SameX l H H') (hp : H' p = none) : SameX l H (L2.upd H' p o) := fun b u n h => by
  have q := e b u n h
  have : b ≠ p := fun z => by rw [z, hp] at q; cases q
  rw [upd_ne this]
  exact q
theorem SameX.free {l : List Addr} {H H' : Hp} (e : SameX l H H') {p : Addr} (hp : p ∉ l) (h : H' p = none) : H p = none := by
  cases q : H p with
  | none => rfl
  | some o =>
    rw [e p o hp q] at h
    cases h
/-! ### a voter in the heap -/
def flds (v : VS) (lo co : Addr) : List (Str × V) := [("many", .int v.many), ("threshold", .int v.thr), ("rate", .int v.rate), ("misses", .int v.misses), ("backs", .int v.backs), ("last", .int v.last), ("left_out", .ref lo), ("counts", .ref co)]
structure VO (C : Addr) (H : Hp) (x dx lo co : Addr) (v : VS) : Prop where
  ins : H x = some (.ins C dx (flds v lo co))
  hlo : H lo = some (.lst (v.outs.map V.bl))
  hco : H co = some (.lst (v.cnts.map V.int))
  ok : v.Ok
  ne : lo ≠ co
section
variable {C : Addr} {H H' : Hp} {x dx lo co : Addr} {v : VS}
theorem VO.nl (h : VO C H x dx lo co v) : x ≠ lo := ne_of h.ins h.hlo (by intro z; cases z)
theorem VO.nc (h : VO C H x dx lo co v) : x ≠ co := ne_of h.ins h.hco (by intro z; cases z)
theorem VO.same (h : VO C H x dx lo co v) (e : Same H H') : VO C H' x dx lo co v := ⟨e _ _ h.ins, e _ _ h.hlo, e _ _ h.hco, h.ok, h.ne⟩
theorem VO.cnt (h : VO C H x dx lo co v) {cs : List Int} (hl : cs.length = v.many) : VO C (upd H co (.lst (cs.map V.int))) x dx lo co (v.put (v.outs, cs)) :=
  ⟨by rw [upd_ne h.nc]; exact h.ins, by rw [upd_ne h.ne]; exact h.hlo, upd_same, h.ok.put h.ok.ol hl, h.ne⟩
theorem VO.out (h : VO C H x dx lo co v) {bs : List Bool} (hl : bs.length = v.many) : VO C (upd H lo (.lst (bs.map V.bl))) x dx lo co (v.put (bs, v.cnts)) :=
  ⟨by rw [upd_ne h.nl]; exact h.ins, upd_same, by rw [upd_ne (Ne.symm h.ne)]; exact h.hco, h.ok.put hl h.ok.cl, h.ne⟩
theorem VO.len_o (h : VO C H x dx lo co v) : (v.outs.map V.bl).length = v.many := by rw [List.length_map]; exact h.ok.ol
theorem VO.len_c (h : VO C H x dx lo co v) : (v.cnts.map V.int).length = v.many := by rw [List.length_map]; exact h.ok.cl
end
theorem atI_bls {ns : List Bool} {i : Nat} (h1 : i < ns.length) : atI (ns.map V.bl) i = some (.bl (ns.getD i true)) := by
  have e : (ns.map V.bl)[i]? = some (.bl (ns.getD i true)) := by
    rw [List.getElem?_map, List.getElem?_eq_getElem h1, List.getD_eq_getElem?_getD, List.getElem?_eq_getElem h1]
    rfl
  exact atI_nat e
theorem atI_int {ns : List Int} {i : Nat} (h1 : i < ns.length) : atI (ns.map V.int) i = some (.int (ns.getD i 0)) := by
  have := atI_ints (ns := ns) (i := (i : Int)) (by omega) (by omega)
  rw [this, Int.toNat_natCast]
theorem atI_opt {ns : List (Option Int)} {i : Nat} (h1 : i < ns.length) : atI (ns.map toV) i = some (toV (ns.getD i none)) := by
  have e : (ns.map toV)[i]? = some (toV (ns.getD i none)) := by
    rw [List.getElem?_map, List.getElem?_eq_getElem h1, List.getD_eq_getElem?_getD, List.getElem?_eq_getElem h1]
    rfl
  exact atI_nat e
theorem map_set_bl {bs : List Bool} {j : Nat} {b : Bool} : (bs.map V.bl).set j (.bl b) = (bs.set j b).map V.bl := by rw [List.map_set]
theorem map_set_int {bs : List Int} {j : Nat} {b : Int} : (bs.map V.int).set j (.int b) = (bs.set j b).map V.int := by rw [List.map_set]
theorem getD_set_self {α : Type} {l : List α} {j : Nat} {a d : α} (h : j < l.length) : (l.set j a).getD j d = a := by
  rw [List.getD_eq_getElem?_getD, List.getElem?_set_self h]
  rfl
theorem set_set {α : Type} {l : List α} {j : Nat} {a b : α} : (l.set j a).set j b = l.set j b := List.set_set ..
def VS.state (v : VS) (j : Nat) : Str := if v.outs.getD j true = true then "out" else if v.cnts.getD j 0 > 0 then "suspect" else "good"
def fl6 (a b c d e st : Int) : List (Str × V) := [("many", .int a), ("threshold", .int b), ("rate", .int c), ("misses", .int d), ("backs", .int e), ("last", .int st)]
def fl7 (a b c d e st : Int) (lo : Addr) : List (Str × V) := [("many", .int a), ("threshold", .int b), ("rate", .int c), ("misses", .int d), ("backs", .int e), ("last", .int st), ("left_out", .ref lo)]
def VS.new (a b c d e start : Int) : VS := ⟨a.toNat, b, c, d, e, start, List.replicate a.toNat false, List.replicate a.toNat 0⟩
theorem flat_rep {α : Type} {n : Nat} {x : α} : (List.replicate n [x]).flatten = List.replicate n x := by
  induction n with
  | zero => rfl
  | succ n ih => rw [List.replicate_succ, List.flatten_cons, ih, List.replicate_succ]; rfl
end My
namespace My
open PySem L2
theorem ixN_j {n j : Nat} (h : j < n) : ixN n (j : Int) = some j := by
  have := ixN_nat (n := n) (k := (j : Int)) (by omega) (by omega)
  rw [this, Int.toNat_natCast]
theorem loopF_at {misses backs thr value : Int} {some : Bool} {vals : List (Option Int)} {n : Nat} {s : OC} : loopF misses backs thr value some vals (n + 1) s = turnF misses backs (nearF thr value (vals.getD n none)) some n (loopF misses backs thr value some vals n s) := rfl
theorem VO.nop {C : Addr} {H : Hp} {x dx lo co p : Addr} {v : VS} (h : VO C H x dx lo co v) {xs : List V} (hp : H p = some (.lst xs)) : p ≠ x := ne_of hp h.ins (by intro z; cases z)
end My

set_option linter.all false
set_option maxRecDepth 100000
namespace My
open PySem L2
/-! ### counts stay within their bounds -/
structure OcW (backs : Int) (s : OC) : Prop where
  b1 : 1 ≤ backs
  c0 : ∀ j, 0 ≤ s.2.getD j 0
  lt : ∀ j, j < s.1.length → s.1.getD j true = true → s.2.getD j 0 < backs
structure VS.Wf (v : VS) : Prop where
  ok : v.Ok
  oc : OcW v.backs (v.outs, v.cnts)
  r0 : 0 ≤ v.rate
  b3 : v.backs ≤ 1000
/-! ### the law's own turn is the voter's -/
def ltF (misses backs : Int) (near some : Bool) (j : Nat) (s : OC) : OC :=
  if s.1.getD j true = true then
    (if (s.2.getD j 0 + 1) * (if (near && some) = true then 1 else 0) ≥ backs then (s.1.set j false, (s.2.set j ((s.2.getD j 0 + 1) * (if (near && some) = true then 1 else 0))).set j 0) else (s.1, s.2.set j ((s.2.getD j 0 + 1) * (if (near && some) = true then 1 else 0))))
  else
    (if near = true then (s.1, s.2.set j (if s.2.getD j 0 - 1 > 0 then s.2.getD j 0 - 1 else 0))
    else if s.2.getD j 0 + 1 ≥ misses ∧ ((s.1.countP fun b => !b : Nat) : Int) > 1 then (s.1.set j true, (s.2.set j (s.2.getD j 0 + 1)).set j 0) else (s.1, s.2.set j (s.2.getD j 0 + 1)))
/-! ### the law's own word and way -/
/-! ### the middle of a sorted row, from both ends -/
def inner (ss : List Int) (i : Nat) : List Int := (ss.drop i).take (ss.length - 2 * i)
/-! ### the law's own voter in the heap -/
def dkv (p lo co : Addr) (g : Int) : List (Key × V) := [(Sum.inr "settings", .ref p), (Sum.inr "given", .int g), (Sum.inr "out", .ref lo), (Sum.inr "many", .ref co)]
structure DO (H : Hp) (d p lo co : Addr) (v : VS) : Prop where
  hd : H d = some (.dK (dkv p lo co v.last))
  hp : H p = some (.tup [.int v.many, .int v.thr, .int v.rate, .int v.misses, .int v.backs])
  hlo : H lo = some (.lst (v.outs.map V.bl))
  hco : H co = some (.lst (v.cnts.map V.int))
  ok : v.Ok
  ne : lo ≠ co
section
variable {H H' : Hp} {d p lo co : Addr} {v : VS}
end
/-! ### data -/
def toD : Option Int → PyData
  | none => .none
  | some i => .int i
theorem Dts_opts {K : PySem.W.Frag} {H : Hp} : ∀ (ns : List (Option Int)), Dts K H (ns.map toV) (ns.map toD)
  | [] => .nil
  | none :: r => .cons .non (Dts_opts r)
  | some i :: r => .cons (.int i) (Dts_opts r)
theorem canLay_opts : ∀ ns : List (Option Int), PyData.canLayAll0 (ns.map toD) = true
  | [] => by simp [PyData.canLayAll0]
  | none :: r => by simpa [PyData.canLayAll0, PyData.canLay0, toD] using canLay_opts r
  | some i :: r => by simpa [PyData.canLayAll0, PyData.canLay0, toD] using canLay_opts r
theorem depth_opts : ∀ ns : List (Option Int), PyData.depthAll (ns.map toD) ≤ 1
  | [] => by simp [PyData.depthAll]
  | none :: r => by have := depth_opts r; simp [PyData.depthAll, PyData.depth, toD] at *; omega
  | some i :: r => by have := depth_opts r; simp [PyData.depthAll, PyData.depth, toD] at *; omega
theorem lay_opts (ns : List (Option Int)) : (PyData.list (ns.map toD)).canLay0 = true := by simpa [PyData.canLay0] using canLay_opts ns
theorem Dt_opts {K : PySem.W.Frag} {H : Hp} {a : Addr} {ns : List (Option Int)} (h : SqL K H a (ns.map toV)) : Dt K H (.ref a) (.list (ns.map toD)) := .lst h (Dts_opts ns)
theorem sok_word (ns : List Int) (v t : Int) (m : Nat) : PyData.strOk (wordF ns v t m) = true := by
  unfold wordF
  repeat' split
  all_goals decide +kernel
/-! ### a voter beside the law's own -/
structure PA where
  x : Addr
  dx : Addr
  lo : Addr
  co : Addr
  d : Addr
  ld : Addr
  cd : Addr
def PA.foot (f : PA) : List Addr := [f.x, f.lo, f.co, f.d, f.ld, f.cd]
structure Pr (C : Addr) (H : Hp) (p : Addr) (f : PA) (v : VS) : Prop where
  vo : VO C H f.x f.dx f.lo f.co v
  dO : DO H f.d p f.ld f.cd v
  wf : v.Wf
  n1 : f.lo ≠ f.ld
  n2 : f.lo ≠ f.cd
  n3 : f.co ≠ f.ld
  n4 : f.co ≠ f.cd
end My
namespace My
open PySem L2
end My

set_option linter.all false
set_option maxRecDepth 100000
namespace My
open PySem L2
/-! ### runs -/
def vAt (v : VS) (rows : List (List (Option Int))) : Nat → VS
  | 0 => v
  | i + 1 => (vAt v rows i).step (rows.getD i [])
theorem vAt_ok {v : VS} (h : v.Ok) (rows : List (List (Option Int))) : ∀ i, (vAt v rows i).Ok
  | 0 => h
  | i + 1 => (vAt_ok h rows i).step _
theorem vAt_many {v : VS} (rows : List (List (Option Int))) : ∀ i, (vAt v rows i).many = v.many
  | 0 => rfl
  | i + 1 => vAt_many rows i
/-- the i-th pair of a run -/
def prAt (v : VS) (rows : List (List (Option Int))) (i : Nat) : Int × Str := ((vAt v rows (i + 1)).last, (vAt v rows i).word (rows.getD i []))
/-- who changes between two states -/
def chF (v v' : VS) (n : Nat) : List (Int × Bool) := (List.range n).filterMap fun j => if v'.outs.getD j true = v.outs.getD j true then none else some ((j : Int), v'.outs.getD j true)
theorem chF_succ (v v' : VS) (n : Nat) : chF v v' (n + 1) = chF v v' n ++ (if v'.outs.getD n true = v.outs.getD n true then [] else [((n : Int), v'.outs.getD n true)]) := by
  unfold chF
  rw [List.range_succ, List.filterMap_append, filterMap_one]
  congr 1
  by_cases h : v'.outs.getD n true = v.outs.getD n true
  · rw [if_pos h, if_pos h]
    rfl
  · rw [if_neg h, if_neg h]
    rfl
theorem chF_len (v v' : VS) (n : Nat) : (chF v v' n).length ≤ n := by
  unfold chF
  exact Nat.le_trans (List.length_filterMap_le _ _) (by rw [List.length_range]; exact Nat.le_refl _)
def trAt (v : VS) (rows : List (List (Option Int))) : Nat → List (Int × Int × Bool)
  | 0 => []
  | i + 1 => trAt v rows i ++ (chF (vAt v rows i) (vAt v rows (i + 1)) v.many).map fun c => ((i : Int), c.1, c.2)
theorem trAt_len (v : VS) (hm : v.many ≤ 9) (rows : List (List (Option Int))) : ∀ i, (trAt v rows i).length ≤ 9 * i
  | 0 => by simp [trAt]
  | i + 1 => by
    have := trAt_len v hm rows i
    have := chF_len (vAt v rows i) (vAt v rows (i + 1)) v.many
    simp only [trAt, List.length_append, List.length_map]
    omega
theorem state_out {v : VS} {j : Nat} : decide (v.state j = ("out" : Str)) = v.outs.getD j true := by
  unfold VS.state
  cases h : v.outs.getD j true
  · rw [if_neg Bool.false_ne_true]
    split <;> decide +kernel
  · rw [if_pos rfl]
    decide +kernel
theorem map_getD_range {α : Type} {l : List α} {d : α} : (List.range l.length).map (fun j => l.getD j d) = l := by
  apply List.ext_getElem
  · simp
  · intro i h1 h2
    rw [List.getElem_map, List.getElem_range, List.getD_eq_getElem?_getD, List.getElem?_eq_getElem h2]
    rfl
/-! ### a turn touches its own place alone -/
/-! ### one stays in -/
def InF (outs : List Bool) : Prop := ∃ j, j < outs.length ∧ outs.getD j true = false
end My
namespace My
open PySem L2
/-! ### rows, pairs and triples in the heap -/
structure RowsIn (H : Hp) (D : Addr) (as : List Addr) (rows : List (List (Option Int))) : Prop where
  lst : H D = some (.lst (as.map V.ref))
  len : as.length = rows.length
  row : ∀ (i : Nat) (a : Addr), as[i]? = some a → H a = some (.lst ((rows.getD i []).map toV))
def RowsOk (m : Nat) (rows : List (List (Option Int))) : Prop := ∀ i, i < rows.length → (rows.getD i []).length = m ∧ (rows.getD i []).all saidF = true
theorem RowsIn.keep {H H' : Hp} {D : Addr} {as : List Addr} {rows : List (List (Option Int))} (h : RowsIn H D as rows) (k : ∀ b o, H b = some o → (b = D ∨ b ∈ as) → H' b = some o) : RowsIn H' D as rows :=
  ⟨k _ _ h.lst (.inl rfl), h.len, fun i a e => k _ _ (h.row i a e) (.inr (List.mem_of_getElem? e))⟩
theorem RowsIn.same {H H' : Hp} {D : Addr} {as : List Addr} {rows : List (List (Option Int))} (h : RowsIn H D as rows) (e : Same H H') : RowsIn H' D as rows := h.keep fun b o q _ => e b o q
def KeepT (H H' : Hp) : Prop := ∀ a xs, H a = some (.tup xs) → H' a = some (.tup xs)
theorem KeepT.of {H H' : Hp} (e : Same H H') : KeepT H H' := fun a xs q => e a _ q
theorem KeepT.trans {H H1 H2 : Hp} (a : KeepT H H1) (b : KeepT H1 H2) : KeepT H H2 := fun c xs q => b c xs (a c xs q)
theorem VO.keepT {C : Addr} {H H' : Hp} {x dx lo co : Addr} {v : VS} (h : VO C H x dx lo co v) (e : SameX [x, lo, co] H H') : KeepT H H' := fun a xs q => e a _ (by
  simp only [List.mem_cons, List.not_mem_nil, or_false, not_or]
  exact ⟨ne_of q h.ins (by intro z; cases z), ne_of q h.hlo (by intro z; cases z), ne_of q h.hco (by intro z; cases z)⟩) q
def PrsIn (H : Hp) (xs : List V) (l : List (Int × Str)) : Prop := xs.length = l.length ∧ ∀ (i : Nat) (p : Int × Str), l[i]? = some p → ∃ a, xs[i]? = some (.ref a) ∧ H a = some (.tup [.int p.1, .str p.2])
theorem PrsIn.keep {H H' : Hp} {xs : List V} {l : List (Int × Str)} (h : PrsIn H xs l) (k : KeepT H H') : PrsIn H' xs l := ⟨h.1, fun i p e => by
  obtain ⟨a, e1, e2⟩ := h.2 i p e
  exact ⟨a, e1, k _ _ e2⟩⟩
theorem PrsIn.snoc {H : Hp} {xs : List V} {l : List (Int × Str)} (h : PrsIn H xs l) {t : Addr} {p : Int × Str} (ht : H t = some (.tup [.int p.1, .str p.2])) : PrsIn H (xs ++ [.ref t]) (l ++ [p]) := by
  refine ⟨by rw [List.length_append, List.length_append, h.1]; rfl, fun i q e => ?_⟩
  by_cases hi : i < l.length
  · rw [List.getElem?_append_left hi] at e
    obtain ⟨a, e1, e2⟩ := h.2 i q e
    exact ⟨a, by rw [List.getElem?_append_left (by rw [h.1]; exact hi)]; exact e1, e2⟩
  · rw [List.getElem?_append_right (by omega)] at e
    have h0 : i - l.length = 0 := by
      have := (List.getElem?_eq_some_iff.mp e).1
      simp at this
      omega
    rw [h0] at e
    cases e
    exact ⟨t, by rw [List.getElem?_append_right (by rw [h.1]; omega), h.1, h0]; rfl, ht⟩
def TrsIn (H : Hp) (xs : List V) (l : List (Int × Int × Bool)) : Prop := xs.length = l.length ∧ ∀ (i : Nat) (p : Int × Int × Bool), l[i]? = some p → ∃ a, xs[i]? = some (.ref a) ∧ H a = some (.tup [.int p.1, .int p.2.1, .bl p.2.2])
theorem TrsIn.keep {H H' : Hp} {xs : List V} {l : List (Int × Int × Bool)} (h : TrsIn H xs l) (k : KeepT H H') : TrsIn H' xs l := ⟨h.1, fun i p e => by
  obtain ⟨a, e1, e2⟩ := h.2 i p e
  exact ⟨a, e1, k _ _ e2⟩⟩
theorem TrsIn.nil {H : Hp} : TrsIn H [] [] := ⟨rfl, fun i p e => by simp at e⟩
theorem TrsIn.append {H : Hp} {xs ys : List V} {l m : List (Int × Int × Bool)} (h : TrsIn H xs l) (g : TrsIn H ys m) : TrsIn H (xs ++ ys) (l ++ m) := by
  refine ⟨by rw [List.length_append, List.length_append, h.1, g.1], fun i q e => ?_⟩
  by_cases hi : i < l.length
  · rw [List.getElem?_append_left hi] at e
    obtain ⟨a, e1, e2⟩ := h.2 i q e
    exact ⟨a, by rw [List.getElem?_append_left (by rw [h.1]; exact hi)]; exact e1, e2⟩
  · rw [List.getElem?_append_right (by omega)] at e
    obtain ⟨a, e1, e2⟩ := g.2 _ q e
    exact ⟨a, by rw [List.getElem?_append_right (by rw [h.1]; omega), h.1]; exact e1, e2⟩
theorem TrsIn.one {H : Hp} {t : Addr} {p : Int × Int × Bool} (ht : H t = some (.tup [.int p.1, .int p.2.1, .bl p.2.2])) : TrsIn H [.ref t] [p] := ⟨rfl, fun i q e => by
  have h0 : i = 0 := by
    have := (List.getElem?_eq_some_iff.mp e).1
    simp at this
    omega
  subst h0
  cases e
  exact ⟨t, rfl, ht⟩⟩
def ChIn (H : Hp) (xs : List V) (l : List (Int × Bool)) : Prop := xs.length = l.length ∧ ∀ (i : Nat) (p : Int × Bool), l[i]? = some p → ∃ a, xs[i]? = some (.ref a) ∧ H a = some (.tup [.int p.1, .bl p.2])
theorem KeepT.upd {H H' : Hp} (k : KeepT H H') {p : Addr} {o : HO} (hp : ∀ xs, H' p ≠ some (.tup xs)) : KeepT H (L2.upd H' p o) := fun a xs q => by
  have q2 := k a xs q
  rw [upd_ne (fun z => hp xs (by rw [← z]; exact q2))]
  exact q2
theorem refs_at {as : List Addr} {i : Nat} {x : V} (h : (as.map V.ref)[i]? = some x) : ∃ a, as[i]? = some a ∧ x = .ref a := by
  rw [List.getElem?_map] at h
  cases e : as[i]? with
  | none => rw [e] at h; cases h
  | some a => rw [e] at h; cases h; exact ⟨a, rfl, rfl⟩
end My
namespace My
open PySem L2
/-! ### the law's own rows -/
def RwIn (H : Hp) (xs : List V) (v v' : VS) (i : Nat) : Prop := xs.length = v.many ∧ ∀ j, j < v.many → ∃ a, xs[j]? = some (.ref a) ∧ H a = some (.tup [.bl (if j < i then v'.outs.getD j true else v.outs.getD j true), .int (if j < i then v'.cnts.getD j 0 else v.cnts.getD j 0)])
def cF (o nr sm : Bool) (c : Int) : Int := if o = true then (c + 1) * (if (nr && sm) = true then 1 else 0) else (if c + 1 - 2 * (if nr = true then 1 else 0) > 0 then c + 1 - 2 * (if nr = true then 1 else 0) else 0)
end My

set_option linter.all false
set_option maxRecDepth 100000
namespace My
open PySem L2
/-! ### data of rows, triples, pairs -/
theorem canLayAll_map {α : Type} {f : α → PyData} (h : ∀ a, (f a).canLay0 = true) : ∀ l : List α, PyData.canLayAll0 (l.map f) = true
  | [] => by simp [PyData.canLayAll0]
  | a :: r => by
    have := canLayAll_map h r
    simp [PyData.canLayAll0, h a, this]
theorem depthAll_map {α : Type} {f : α → PyData} {n : Nat} (h : ∀ a, (f a).depth ≤ n) : ∀ l : List α, PyData.depthAll (l.map f) ≤ n + 1
  | [] => by simp [PyData.depthAll]
  | a :: r => by
    have h1 := depthAll_map h r
    have h2 := h a
    simp [PyData.depthAll] at *
    omega
theorem lay_list {α : Type} {f : α → PyData} (h : ∀ a, (f a).canLay0 = true) (l : List α) : (PyData.list (l.map f)).canLay0 = true := by simpa [PyData.canLay0] using canLayAll_map h l
theorem dep_list {α : Type} {f : α → PyData} {n : Nat} (h : ∀ a, (f a).depth ≤ n) (hn : n ≤ 50) (l : List α) : (PyData.list (l.map f)).depth ≤ 60 := by
  have := depthAll_map h l
  simp only [PyData.depth]
  omega
def trD (p : Int × Int × Bool) : PyData := .tuple [.int p.1, .int p.2.1, .bool p.2.2]
theorem Dts_of {K : PySem.W.Frag} {H : Hp} {α : Type} {f : α → PyData} : ∀ {xs : List V} {l : List α}, xs.length = l.length → (∀ (i : Nat) (p : α), l[i]? = some p → ∃ v, xs[i]? = some v ∧ Dt K H v (f p)) → Dts K H xs (l.map f)
  | [], [], _, _ => .nil
  | [], _ :: _, h, _ => by simp at h
  | _ :: _, [], h, _ => by simp at h
  | x :: xs, a :: l, h, k => by
    obtain ⟨v, e1, e2⟩ := k 0 a rfl
    cases e1
    exact .cons e2 (Dts_of (by simpa using h) fun i p e => by
      obtain ⟨v, e1, e2⟩ := k (i + 1) p (by simpa using e)
      exact ⟨v, by simpa using e1, e2⟩)
def rwD (r : List (Option Int)) : PyData := .list (r.map toD)
theorem rwD_dep (r : List (Option Int)) : (rwD r).depth ≤ 10 := by
  have := depth_opts r
  simp only [rwD, PyData.depth]
  omega
theorem Dt_rows {K : PySem.W.Frag} {H : Hp} {D : Addr} {as : List Addr} {rows : List (List (Option Int))} (h : RowsIn H D as rows) : Dt K H (.ref D) (.list (rows.map rwD)) :=
  .lst (SqL.of h.lst) (Dts_of (by rw [List.length_map]; exact h.len) fun i p e => by
    have hi : i < as.length := by rw [h.len]; exact (List.getElem?_eq_some_iff.mp e).1
    have q := h.row i as[i] (List.getElem?_eq_getElem hi)
    rw [List.getD_eq_getElem?_getD, e] at q
    exact ⟨.ref as[i], by rw [List.getElem?_map, List.getElem?_eq_getElem hi]; rfl, Dt_opts (SqL.of q)⟩)
def biD (p : Bool × Int) : PyData := .tuple [.bool p.1, .int p.2]
def BiIn (H : Hp) (xs : List V) (l : List (Bool × Int)) : Prop := xs.length = l.length ∧ ∀ (i : Nat) (p : Bool × Int), l[i]? = some p → ∃ a, xs[i]? = some (.ref a) ∧ H a = some (.tup [.bl p.1, .int p.2])
/-- a list of numbers equal to another -/
theorem Rows_in {H H' : Hp} {D : Addr} {as : List Addr} {rows : List (List (Option Int))} {m : Int} (lst : H' D = some (.lst (as.map V.ref))) (len : as.length = rows.length) (row : ∀ (i : Nat) (a : Addr), as[i]? = some a → ∃ r, rows[i]? = some r ∧ H' a = some (.lst (r.map toV))) : RowsIn H' D as rows :=
  ⟨lst, len, fun i a e => by
    obtain ⟨r, e1, e2⟩ := row i a e
    rw [List.getD_eq_getElem?_getD, e1]
    exact e2⟩
theorem Rows_ok {rows : List (List (Option Int))} {m : Int} (h : ∀ r ∈ rows, (r.length : Int) = m ∧ r.all saidF = true) : RowsOk m.toNat rows := fun i hi => by
  have e : rows.getD i [] = rows[i] := by
    rw [List.getD_eq_getElem?_getD, List.getElem?_eq_getElem hi]
    rfl
  obtain ⟨a, b⟩ := h rows[i] (List.getElem_mem hi)
  rw [e]
  exact ⟨by omega, b⟩
end My

set_option linter.all false
set_option maxRecDepth 100000
namespace My
open PySem L2
/-! ### more than half within a stretch: so is the one in the middle -/
/-- those that are in -/
def inL (outs : List Bool) (n : Nat) : List Nat := (List.range n).filter fun j => !outs.getD j true
/-- what is said: more than half of those there lie within a stretch -/
structure Said (th : List Nat) (many : Nat) (lo hi : Int) (vals : List (Option Int)) : Prop where
  len : vals.length = many
  said : vals.all saidF = true
  maj : ∃ g : List Nat, g.Nodup ∧ (∀ p ∈ g, p ∈ th ∧ ∃ x, vals.getD p none = some x ∧ lo ≤ x ∧ x ≤ hi) ∧ th.length < 2 * g.length
/-- the first i of an order have been told: of these the first half and one more lie within -/
structure SaidI (od : List Nat) (many : Nat) (lo hi : Int) (i : Nat) (vals : List (Option Int)) : Prop where
  len : vals.length = many
  said : vals.all saidF = true
  at_ : ∀ k, k < i → 2 * k ≤ od.length → k < od.length → ∃ x, vals.getD (od.getD k 0) none = some x ∧ lo ≤ x ∧ x ≤ hi
end My

set_option linter.all false
set_option maxRecDepth 100000
namespace My
open PySem L2
/-! ### readings for the laws that sort by a lambda -/
/-- places, as a list of ints -/
abbrev natV (l : List Nat) : List V := l.map fun (j : Nat) => V.int (j : Int)
end My

set_option linter.all false
set_option maxRecDepth 100000
namespace My
open PySem L2
/-! ### rows, put together -/
structure RW (H : Hp) (as : List Addr) (rows : List (List (Option Int))) : Prop where
  len : as.length = rows.length
  row : ∀ (i : Nat) (a : Addr), as[i]? = some a → H a = some (.lst ((rows.getD i []).map toV))
theorem RowsIn.rw {H : Hp} {D : Addr} {as : List Addr} {rows : List (List (Option Int))} (h : RowsIn H D as rows) : RW H as rows := ⟨h.len, h.row⟩
theorem RW.in {H : Hp} {D : Addr} {as : List Addr} {rows : List (List (Option Int))} (h : RW H as rows) (hD : H D = some (.lst (as.map V.ref))) : RowsIn H D as rows := ⟨hD, h.len, h.row⟩
theorem RW.same {H H' : Hp} {as : List Addr} {rows : List (List (Option Int))} (h : RW H as rows) (e : Same H H') : RW H' as rows := ⟨h.len, fun i a q => e _ _ (h.row i a q)⟩
theorem RW.take {H : Hp} {as : List Addr} {rows : List (List (Option Int))} (h : RW H as rows) (k : Nat) : RW H (as.take k) (rows.take k) := by
  refine ⟨by rw [List.length_take, List.length_take, h.len], fun i a e => ?_⟩
  rw [List.getElem?_take] at e
  split at e
  · rename_i hi
    have := h.row i a e
    rw [List.getD_eq_getElem?_getD, List.getElem?_take, if_pos hi, ← List.getD_eq_getElem?_getD]
    exact this
  · cases e
theorem RW.drop {H : Hp} {as : List Addr} {rows : List (List (Option Int))} (h : RW H as rows) (k : Nat) : RW H (as.drop k) (rows.drop k) := by
  refine ⟨by rw [List.length_drop, List.length_drop, h.len], fun i a e => ?_⟩
  rw [List.getElem?_drop] at e
  have := h.row (k + i) a e
  rw [List.getD_eq_getElem?_getD, List.getElem?_drop, ← List.getD_eq_getElem?_getD]
  exact this
theorem RW.one {H : Hp} {a : Addr} {r : List (Option Int)} (h : H a = some (.lst (r.map toV))) : RW H [a] [r] := by
  refine ⟨rfl, fun i b e => ?_⟩
  match i, e with
  | 0, e =>
    cases e
    exact h
theorem RW.append {H : Hp} {as bs : List Addr} {rows rows' : List (List (Option Int))} (h : RW H as rows) (h' : RW H bs rows') : RW H (as ++ bs) (rows ++ rows') := by
  refine ⟨by rw [List.length_append, List.length_append, h.len, h'.len], fun i a e => ?_⟩
  by_cases hi : i < as.length
  · rw [List.getElem?_append_left hi] at e
    have := h.row i a e
    rw [List.getD_eq_getElem?_getD, List.getElem?_append_left (by rw [← h.len]; exact hi), ← List.getD_eq_getElem?_getD]
    exact this
  · rw [List.getElem?_append_right (by omega)] at e
    have := h'.row _ a e
    rw [List.getD_eq_getElem?_getD, List.getElem?_append_right (by rw [← h.len]; omega), ← h.len, ← List.getD_eq_getElem?_getD]
    exact this
theorem spoilt_bad {n k : Nat} {rows : List (List (Option Int))} {bad : List (Option Int)} (hk : k ≤ rows.length) (hb : ¬ (bad.length = n ∧ bad.all saidF = true)) : ¬ RowsOk n ((rows.take k ++ [bad]) ++ rows.drop k) := fun h => hb (by
  have hl : (rows.take k).length = k := by rw [List.length_take]; omega
  have e : ((rows.take k ++ [bad]) ++ rows.drop k).getD k [] = bad := by
    rw [List.getD_eq_getElem?_getD, List.getElem?_append_left (by rw [List.length_append, hl]; simp), List.getElem?_append_right (by omega), hl, Nat.sub_self]
    rfl
  have := h k (by rw [List.length_append, List.length_append, hl]; simp; omega)
  rw [e] at this
  exact this)
theorem spoilt_len {n k : Nat} {rows : List (List (Option Int))} {bad : List (Option Int)} (hr : RowsOk n rows) (hn : n ≤ 9) (hb : bad.length ≤ 1000) : ∀ i, i < ((rows.take k ++ [bad]) ++ rows.drop k).length → (((rows.take k ++ [bad]) ++ rows.drop k).getD i []).length ≤ 1000 := fun i hi => by
  have hm : ((rows.take k ++ [bad]) ++ rows.drop k).getD i [] ∈ ((rows.take k ++ [bad]) ++ rows.drop k) := by
    rw [List.getD_eq_getElem?_getD, List.getElem?_eq_getElem hi]
    exact List.getElem_mem hi
  have key : ∀ r ∈ rows, r.length ≤ 1000 := fun r hr' => by
    obtain ⟨j, hj, e⟩ := List.getElem_of_mem hr'
    have := (hr j hj).1
    rw [List.getD_eq_getElem?_getD, List.getElem?_eq_getElem hj] at this
    have h2 : rows[j].length = n := this
    rw [e] at h2
    omega
  rcases List.mem_append.mp hm with hm | hm
  · rcases List.mem_append.mp hm with hm | hm
    · exact key _ (List.mem_of_mem_take hm)
    · rw [List.mem_singleton.mp hm]
      exact hb
  · exact key _ (List.mem_of_mem_drop hm)
theorem spoilt_count {k : Nat} {rows : List (List (Option Int))} {bad : List (Option Int)} : ((rows.take k ++ [bad]) ++ rows.drop k).length = rows.length + 1 := by
  rw [List.length_append, List.length_append, List.length_take, List.length_drop]
  simp
  omega
/-- pairs of a number and a word, as data -/
def prD (p : Int × Str) : PyData := .tuple [.int p.1, .str p.2]
theorem prD_dep (p : Int × Str) : (prD p).depth ≤ 10 := by simp [prD, PyData.depth, PyData.depthAll]
theorem canLayAll_mem' {α : Type} {f : α → PyData} : ∀ {l : List α}, (∀ a ∈ l, (f a).canLay0 = true) → PyData.canLayAll0 (l.map f) = true
  | [], _ => by simp [PyData.canLayAll0]
  | a :: r, h => by
    have h1 := canLayAll_mem' (l := r) fun x hx => h x (List.mem_cons_of_mem _ hx)
    simp [PyData.canLayAll0, h a List.mem_cons_self, h1]
theorem lay_prs (v : VS) (rows : List (List (Option Int))) (n : Nat) : (PyData.list (((List.range n).map (prAt v rows)).map prD)).canLay0 = true := by
  have : PyData.canLayAll0 (((List.range n).map (prAt v rows)).map prD) = true := canLayAll_mem' fun p hp => by
    obtain ⟨j, _, rfl⟩ := List.mem_map.mp hp
    have := sok_word ((vAt v rows j).there (rows.getD j [])) ((vAt v rows j).value (rows.getD j [])) (vAt v rows j).thr (vAt v rows j).many
    simp [prD, PyData.canLay0, PyData.canLayAll0]
    exact this
  simpa [PyData.canLay0] using this
theorem Dt_prs {K : PySem.W.Frag} {H : Hp} {R : Addr} {xs : List V} {l : List (Int × Str)} (hR : SqL K H R xs) (h : PrsIn H xs l) : Dt K H (.ref R) (.list (l.map prD)) :=
  .lst hR (Dts_of h.1 fun i p e => by
    obtain ⟨a, e1, e2⟩ := h.2 i p e
    exact ⟨_, e1, .tup (SqT.of e2) (.cons (.int _) (.cons (.str _) .nil))⟩)
/-- the rows that are none -/
def oddF (n : Nat) : List (List (Option Int)) := [List.replicate (n - 1) (some 0), List.replicate (n + 1) (some 0), List.replicate n (some 1000000001), List.replicate (n - 1) none ++ [some (-1000000001)], []]
theorem odd_bad {n : Nat} (h3 : 3 ≤ n) {r : List (Option Int)} (hr : r ∈ oddF n) : ¬ (r.length = n ∧ r.all saidF = true) := by
  rintro ⟨h1, h2⟩
  unfold oddF at hr
  simp only [List.mem_cons, List.not_mem_nil, or_false] at hr
  rcases hr with rfl | rfl | rfl | rfl | rfl
  · rw [List.length_replicate] at h1
    omega
  · rw [List.length_replicate] at h1
    omega
  · rw [List.all_eq_true] at h2
    have := h2 (some 1000000001) (List.mem_replicate.mpr ⟨by omega, rfl⟩)
    have := of_decide_eq_true (show decide (absI 1000000001 ≤ 1000000000) = true from this)
    revert this
    decide
  · rw [List.all_eq_true] at h2
    have := h2 (some (-1000000001)) (List.mem_append_right _ (List.mem_singleton.mpr rfl))
    have := of_decide_eq_true (show decide (absI (-1000000001) ≤ 1000000000) = true from this)
    revert this
    decide
  · simp at h1
    omega
theorem odd_len {n : Nat} (h9 : n ≤ 9) {r : List (Option Int)} (hr : r ∈ oddF n) : r.length ≤ 1000 := by
  unfold oddF at hr
  simp only [List.mem_cons, List.not_mem_nil, or_false] at hr
  rcases hr with rfl | rfl | rfl | rfl | rfl <;> simp <;> omega
end My

set_option Elab.async false
set_option linter.all false
set_option maxRecDepth 100000
set_option maxHeartbeats 4000000
namespace My
open PySem L2 PyProof.Rows
/-! ### the text by places -/
def top (i : Nat) : Stmt := PySem.Challenge.pw_midvalue_k20_whole_runs.main.body.getD i (.Pass ⟨0, 0, 0, 0⟩)
abbrev s_is_whole : Stmt := top 8
theorem sc_is_whole : FnScope ["thing"] ["thing"] (defScope s_is_whole) := ⟨rfl, rfl, rfl, by decide +kernel, rfl, by decide +kernel, by decide +kernel⟩
abbrev s_is_within : Stmt := top 9
theorem sc_is_within : FnScope ["number", "value", "threshold"] ["number", "value", "threshold"] (defScope s_is_within) := ⟨rfl, rfl, rfl, by decide +kernel, rfl, by decide +kernel, by decide +kernel⟩
abbrev s_middle : Stmt := top 10
theorem sc_middle : FnScope ["numbers", "near", "ordered", "lesser", "greater"] ["numbers", "near"] (defScope s_middle) := ⟨rfl, rfl, rfl, by decide +kernel, rfl, by decide +kernel, by decide +kernel⟩
abbrev s_moved : Stmt := top 11
theorem sc_moved : FnScope ["one", "goal", "most"] ["one", "goal", "most"] (defScope s_moved) := ⟨rfl, rfl, rfl, by decide +kernel, rfl, by decide +kernel, by decide +kernel⟩
abbrev s_agree : Stmt := top 12
theorem sc_agree : FnScope ["numbers", "value", "threshold"] ["numbers", "value", "threshold"] (defScope s_agree) := ⟨rfl, rfl, rfl, by decide +kernel, rfl, by decide +kernel, by decide +kernel⟩
abbrev s_are_settings : Stmt := top 16
theorem sc_are_settings : FnScope ["settings", "setting", "bounds"] ["settings"] (defScope s_are_settings) := ⟨rfl, rfl, rfl, by decide +kernel, rfl, by decide +kernel, by decide +kernel⟩
abbrev s_can_be_said : Stmt := top 17
theorem sc_can_be_said : FnScope ["thing"] ["thing"] (defScope s_can_be_said) := ⟨rfl, rfl, rfl, by decide +kernel, rfl, by decide +kernel, by decide +kernel⟩
abbrev s_is_step : Stmt := top 18
theorem sc_is_step : FnScope ["values", "many"] ["values", "many"] (defScope s_is_step) := ⟨rfl, rfl, rfl, by decide +kernel, rfl, by decide +kernel, by decide +kernel⟩
abbrev s_word_of : Stmt := top 19
theorem sc_word_of : FnScope ["numbers", "value", "threshold", "many", "near"] ["numbers", "value", "threshold", "many"] (defScope s_word_of) := ⟨rfl, rfl, rfl, by decide +kernel, rfl, by decide +kernel, by decide +kernel⟩
abbrev s_Voter___init__ : Stmt := inClass (top 20) 0
theorem sc_Voter___init__ : FnScope ["self", "settings", "start"] ["self", "settings", "start"] (defScope s_Voter___init__) := ⟨rfl, rfl, rfl, by decide +kernel, rfl, by decide +kernel, by decide +kernel⟩
abbrev s_Voter_numbers_there : Stmt := inClass (top 20) 2
theorem sc_Voter_numbers_there : FnScope ["self", "values"] ["self", "values"] (defScope s_Voter_numbers_there) := ⟨rfl, rfl, rfl, by decide +kernel, rfl, by decide +kernel, by decide +kernel⟩
abbrev s_Voter_is_another_in : Stmt := inClass (top 20) 4
theorem sc_Voter_is_another_in : FnScope ["self", "place"] ["self", "place"] (defScope s_Voter_is_another_in) := ⟨rfl, rfl, rfl, by decide +kernel, rfl, by decide +kernel, by decide +kernel⟩
abbrev s_Voter_judge : Stmt := inClass (top 20) 3
theorem sc_Voter_judge : FnScope ["self", "place", "agrees"] ["self", "place", "agrees"] (defScope s_Voter_judge) := ⟨rfl, rfl, rfl, by decide +kernel, rfl, by decide +kernel, by decide +kernel⟩
abbrev s_Voter_try_back : Stmt := inClass (top 20) 5
theorem sc_Voter_try_back : FnScope ["self", "place", "agrees"] ["self", "place", "agrees"] (defScope s_Voter_try_back) := ⟨rfl, rfl, rfl, by decide +kernel, rfl, by decide +kernel, by decide +kernel⟩
abbrev s_Voter_step : Stmt := inClass (top 20) 1
theorem sc_Voter_step : FnScope ["self", "values", "numbers", "value", "place", "is_near"] ["self", "values"] (defScope s_Voter_step) := ⟨rfl, rfl, rfl, by decide +kernel, rfl, by decide +kernel, by decide +kernel⟩
abbrev s_Voter_given : Stmt := inClass (top 20) 6
abbrev s_Voter_ask_for : Stmt := inClass (top 20) 9
theorem sc_Voter_ask_for : FnScope ["self", "place"] ["self", "place"] (defScope s_Voter_ask_for) := ⟨rfl, rfl, rfl, by decide +kernel, rfl, by decide +kernel, by decide +kernel⟩
abbrev s_Voter_state : Stmt := inClass (top 20) 7
theorem sc_Voter_state : FnScope ["self", "place"] ["self", "place"] (defScope s_Voter_state) := ⟨rfl, rfl, rfl, by decide +kernel, rfl, by decide +kernel, by decide +kernel⟩
abbrev s_Voter_count : Stmt := inClass (top 20) 8
abbrev s_who_is_out : Stmt := top 24
theorem sc_who_is_out : FnScope ["voter"] ["voter"] (defScope s_who_is_out) := ⟨rfl, rfl, rfl, by decide +kernel, rfl, by decide +kernel, by decide +kernel⟩
abbrev s_run : Stmt := top 22
theorem sc_run : FnScope ["settings", "start", "steps", "voter"] ["settings", "start", "steps"] (defScope s_run) := ⟨rfl, rfl, rfl, by decide +kernel, rfl, by decide +kernel, by decide +kernel⟩
abbrev s_outs : Stmt := top 23
theorem sc_outs : FnScope ["settings", "start", "steps", "voter", "changes", "behind", "number", "values", "ahead"] ["settings", "start", "steps"] (defScope s_outs) := ⟨rfl, rfl, rfl, by decide +kernel, rfl, by decide +kernel, by decide +kernel⟩
abbrev s__law_cell : Stmt := top 26
theorem sc__law_cell : FnScope ["_law_script", "_law_k"] ["_law_script", "_law_k"] (defScope s__law_cell) := ⟨rfl, rfl, rfl, by decide +kernel, rfl, by decide +kernel, by decide +kernel⟩
abbrev s__law_drawn : Stmt := top 27
theorem sc__law_drawn : FnScope ["_law_cell_here", "_law_k", "_law_more"] ["_law_cell_here", "_law_k"] (defScope s__law_drawn) := ⟨rfl, rfl, rfl, by decide +kernel, rfl, by decide +kernel, by decide +kernel⟩
abbrev s__law_word : Stmt := top 28
theorem sc__law_word : FnScope ["_law_e", "_law_flags"] ["_law_e"] (defScope s__law_word) := ⟨rfl, rfl, rfl, by decide +kernel, rfl, by decide +kernel, by decide +kernel⟩
abbrev s__law_settings : Stmt := top 29
theorem sc__law_settings : FnScope ["_law_more", "_law_threshold", "_law_rate", "_law_misses", "_law_backs"] ["_law_more"] (defScope s__law_settings) := ⟨rfl, rfl, rfl, by decide +kernel, rfl, by decide +kernel, by decide +kernel⟩
abbrev s__law_values : Stmt := top 30
theorem sc__law_values : FnScope ["_law_script", "_law_k", "_law_settings_here", "_law_base", "_law_values_here", "_law_threshold", "_law_j", "_law_more", "_law_way"] ["_law_script", "_law_k", "_law_settings_here", "_law_base"] (defScope s__law_values) := ⟨rfl, rfl, rfl, by decide +kernel, rfl, by decide +kernel, by decide +kernel⟩
abbrev s__law_steps : Stmt := top 31
theorem sc__law_steps : FnScope ["_law_script", "_law_settings_here", "_law_many", "_law_base", "_law_steps_here", "_law_k", "_law_more"] ["_law_script", "_law_settings_here", "_law_many"] (defScope s__law_steps) := ⟨rfl, rfl, rfl, by decide +kernel, rfl, by decide +kernel, by decide +kernel⟩
abbrev s__law_told : Stmt := top 32
theorem sc__law_told : FnScope ["_law_way", "_law_settings_here", "_law_start", "_law_steps_here", "_law_e"] ["_law_way", "_law_settings_here", "_law_start", "_law_steps_here"] (defScope s__law_told) := ⟨rfl, rfl, rfl, by decide +kernel, rfl, by decide +kernel, by decide +kernel⟩
abbrev s_law : Stmt := top 33
theorem sc_law : FnScope ["_law_script", "_law_more", "_law_settings_here", "_law_start", "_law_steps_here", "_law_voter", "_law_due", "_law_handed", "_law_turn", "_law_found", "_law_many", "_law_odd", "_law_at", "_law_spoilt", "_law_bad", "_law_none"] ["_law_script"] (defScope s_law) := ⟨rfl, rfl, rfl, by decide +kernel, rfl, by decide +kernel, by decide +kernel⟩
set_option genInjectivity false in
set_option genSizeOf false in
structure Ad where
  a_is_whole : Addr
  d_is_whole : FuncData
  a_is_within : Addr
  d_is_within : FuncData
  a_middle : Addr
  d_middle : FuncData
  a_moved : Addr
  d_moved : FuncData
  a_agree : Addr
  d_agree : FuncData
  a_are_settings : Addr
  d_are_settings : FuncData
  a_can_be_said : Addr
  d_can_be_said : FuncData
  a_is_step : Addr
  d_is_step : FuncData
  a_word_of : Addr
  d_word_of : FuncData
  a_Voter___init__ : Addr
  d_Voter___init__ : FuncData
  a_Voter_numbers_there : Addr
  d_Voter_numbers_there : FuncData
  a_Voter_is_another_in : Addr
  d_Voter_is_another_in : FuncData
  a_Voter_judge : Addr
  d_Voter_judge : FuncData
  a_Voter_try_back : Addr
  d_Voter_try_back : FuncData
  a_Voter_step : Addr
  d_Voter_step : FuncData
  a_Voter_given : Addr
  d_Voter_given : FuncData
  a_Voter_ask_for : Addr
  d_Voter_ask_for : FuncData
  a_Voter_state : Addr
  d_Voter_state : FuncData
  a_Voter_count : Addr
  d_Voter_count : FuncData
  a_who_is_out : Addr
  d_who_is_out : FuncData
  a_run : Addr
  d_run : FuncData
  a_outs : Addr
  d_outs : FuncData
  a__law_cell : Addr
  d__law_cell : FuncData
  a__law_drawn : Addr
  d__law_drawn : FuncData
  a__law_word : Addr
  d__law_word : FuncData
  a__law_settings : Addr
  d__law_settings : FuncData
  a__law_values : Addr
  d__law_values : FuncData
  a__law_steps : Addr
  d__law_steps : FuncData
  a__law_told : Addr
  d__law_told : FuncData
  a_law : Addr
  d_law : FuncData
  C : Addr
  aB : Addr
  b0 : Addr
  b1 : Addr
  b2 : Addr
  b3 : Addr
  b4 : Addr
  tkF : Tok
  c_VoteError : Addr
  c_BadSettings : Addr
  c_BadStep : Addr
  c_NoSensor : Addr
  c_BadRow : Addr
structure Txt (K : PySem.W.Frag) (mg : Str → Option Value) (A : Ad) : Prop where
  F_is_whole : Fun K "is_whole" "is_whole" s_is_whole A.a_is_whole A.d_is_whole
  b_is_whole : Binds K A.d_is_whole ["thing"] []
  m_is_whole : mg "is_whole" = some (.ref A.a_is_whole)
  F_is_within : Fun K "is_within" "is_within" s_is_within A.a_is_within A.d_is_within
  b_is_within : Binds K A.d_is_within ["number", "value", "threshold"] []
  m_is_within : mg "is_within" = some (.ref A.a_is_within)
  F_middle : Fun K "middle" "middle" s_middle A.a_middle A.d_middle
  b_middle : Binds K A.d_middle ["numbers", "near"] []
  m_middle : mg "middle" = some (.ref A.a_middle)
  F_moved : Fun K "moved" "moved" s_moved A.a_moved A.d_moved
  b_moved : Binds K A.d_moved ["one", "goal", "most"] []
  m_moved : mg "moved" = some (.ref A.a_moved)
  F_agree : Fun K "agree" "agree" s_agree A.a_agree A.d_agree
  b_agree : Binds K A.d_agree ["numbers", "value", "threshold"] []
  m_agree : mg "agree" = some (.ref A.a_agree)
  F_are_settings : Fun K "are_settings" "are_settings" s_are_settings A.a_are_settings A.d_are_settings
  b_are_settings : Binds K A.d_are_settings ["settings"] []
  m_are_settings : mg "are_settings" = some (.ref A.a_are_settings)
  F_can_be_said : Fun K "can_be_said" "can_be_said" s_can_be_said A.a_can_be_said A.d_can_be_said
  b_can_be_said : Binds K A.d_can_be_said ["thing"] []
  m_can_be_said : mg "can_be_said" = some (.ref A.a_can_be_said)
  F_is_step : Fun K "is_step" "is_step" s_is_step A.a_is_step A.d_is_step
  b_is_step : Binds K A.d_is_step ["values", "many"] []
  m_is_step : mg "is_step" = some (.ref A.a_is_step)
  F_word_of : Fun K "word_of" "word_of" s_word_of A.a_word_of A.d_word_of
  b_word_of : Binds K A.d_word_of ["numbers", "value", "threshold", "many"] []
  m_word_of : mg "word_of" = some (.ref A.a_word_of)
  F_Voter___init__ : Fun K "__init__" "Voter.__init__" s_Voter___init__ A.a_Voter___init__ A.d_Voter___init__
  b_Voter___init__ : Binds K A.d_Voter___init__ ["self", "settings", "start"] []
  F_Voter_numbers_there : Fun K "numbers_there" "Voter.numbers_there" s_Voter_numbers_there A.a_Voter_numbers_there A.d_Voter_numbers_there
  b_Voter_numbers_there : Binds K A.d_Voter_numbers_there ["self", "values"] []
  mt_numbers_there : Meth K A.C "numbers_there" A.a_Voter_numbers_there
  F_Voter_is_another_in : Fun K "is_another_in" "Voter.is_another_in" s_Voter_is_another_in A.a_Voter_is_another_in A.d_Voter_is_another_in
  b_Voter_is_another_in : Binds K A.d_Voter_is_another_in ["self", "place"] []
  mt_is_another_in : Meth K A.C "is_another_in" A.a_Voter_is_another_in
  F_Voter_judge : Fun K "judge" "Voter.judge" s_Voter_judge A.a_Voter_judge A.d_Voter_judge
  b_Voter_judge : Binds K A.d_Voter_judge ["self", "place", "agrees"] []
  mt_judge : Meth K A.C "judge" A.a_Voter_judge
  F_Voter_try_back : Fun K "try_back" "Voter.try_back" s_Voter_try_back A.a_Voter_try_back A.d_Voter_try_back
  b_Voter_try_back : Binds K A.d_Voter_try_back ["self", "place", "agrees"] []
  mt_try_back : Meth K A.C "try_back" A.a_Voter_try_back
  F_Voter_step : Fun K "step" "Voter.step" s_Voter_step A.a_Voter_step A.d_Voter_step
  b_Voter_step : Binds K A.d_Voter_step ["self", "values"] []
  mt_step : Meth K A.C "step" A.a_Voter_step
  F_Voter_given : Fun K "given" "Voter.given" s_Voter_given A.a_Voter_given A.d_Voter_given
  b_Voter_given : Binds K A.d_Voter_given ["self"] []
  mt_given : Meth K A.C "given" A.a_Voter_given
  F_Voter_ask_for : Fun K "ask_for" "Voter.ask_for" s_Voter_ask_for A.a_Voter_ask_for A.d_Voter_ask_for
  b_Voter_ask_for : Binds K A.d_Voter_ask_for ["self", "place"] []
  mt_ask_for : Meth K A.C "ask_for" A.a_Voter_ask_for
  F_Voter_state : Fun K "state" "Voter.state" s_Voter_state A.a_Voter_state A.d_Voter_state
  b_Voter_state : Binds K A.d_Voter_state ["self", "place"] []
  mt_state : Meth K A.C "state" A.a_Voter_state
  F_Voter_count : Fun K "count" "Voter.count" s_Voter_count A.a_Voter_count A.d_Voter_count
  b_Voter_count : Binds K A.d_Voter_count ["self", "place"] []
  mt_count : Meth K A.C "count" A.a_Voter_count
  F_who_is_out : Fun K "who_is_out" "who_is_out" s_who_is_out A.a_who_is_out A.d_who_is_out
  b_who_is_out : Binds K A.d_who_is_out ["voter"] []
  m_who_is_out : mg "who_is_out" = some (.ref A.a_who_is_out)
  F_run : Fun K "run" "run" s_run A.a_run A.d_run
  b_run : Binds K A.d_run ["settings", "start", "steps"] []
  m_run : mg "run" = some (.ref A.a_run)
  F_outs : Fun K "outs" "outs" s_outs A.a_outs A.d_outs
  b_outs : Binds K A.d_outs ["settings", "start", "steps"] []
  m_outs : mg "outs" = some (.ref A.a_outs)
  F__law_cell : Fun K "_law_cell" "_law_cell" s__law_cell A.a__law_cell A.d__law_cell
  b__law_cell : Binds K A.d__law_cell ["_law_script", "_law_k"] []
  m__law_cell : mg "_law_cell" = some (.ref A.a__law_cell)
  F__law_drawn : Fun K "_law_drawn" "_law_drawn" s__law_drawn A.a__law_drawn A.d__law_drawn
  b__law_drawn : Binds K A.d__law_drawn ["_law_cell_here", "_law_k"] []
  m__law_drawn : mg "_law_drawn" = some (.ref A.a__law_drawn)
  F__law_word : Fun K "_law_word" "_law_word" s__law_word A.a__law_word A.d__law_word
  b__law_word : Binds K A.d__law_word ["_law_e"] []
  m__law_word : mg "_law_word" = some (.ref A.a__law_word)
  F__law_settings : Fun K "_law_settings" "_law_settings" s__law_settings A.a__law_settings A.d__law_settings
  b__law_settings : Binds K A.d__law_settings ["_law_more"] []
  m__law_settings : mg "_law_settings" = some (.ref A.a__law_settings)
  F__law_values : Fun K "_law_values" "_law_values" s__law_values A.a__law_values A.d__law_values
  b__law_values : Binds K A.d__law_values ["_law_script", "_law_k", "_law_settings_here", "_law_base"] []
  m__law_values : mg "_law_values" = some (.ref A.a__law_values)
  F__law_steps : Fun K "_law_steps" "_law_steps" s__law_steps A.a__law_steps A.d__law_steps
  b__law_steps : Binds K A.d__law_steps ["_law_script", "_law_settings_here", "_law_many"] []
  m__law_steps : mg "_law_steps" = some (.ref A.a__law_steps)
  F__law_told : Fun K "_law_told" "_law_told" s__law_told A.a__law_told A.d__law_told
  b__law_told : Binds K A.d__law_told ["_law_way", "_law_settings_here", "_law_start", "_law_steps_here"] []
  m__law_told : mg "_law_told" = some (.ref A.a__law_told)
  F_law : Fun K "law" "law" s_law A.a_law A.d_law
  b_law : Binds K A.d_law ["_law_script"] []
  m_law : mg "law" = some (.ref A.a_law)
  n_ValueError : mg "ValueError" = none
  n_abs : mg "abs" = none
  n_all : mg "all" = none
  n_any : mg "any" = none
  n_bool : mg "bool" = none
  n_enumerate : mg "enumerate" = none
  n_int : mg "int" = none
  n_isinstance : mg "isinstance" = none
  n_len : mg "len" = none
  n_list : mg "list" = none
  n_max : mg "max" = none
  n_min : mg "min" = none
  n_range : mg "range" = none
  n_sorted : mg "sorted" = none
  n_sum : mg "sum" = none
  n_tuple : mg "tuple" = none
  n_zip : mg "zip" = none
  cl : Cls K A.C
  M_Voter : Mk K A.C A.a_Voter___init__
  m_Voter : mg "Voter" = some (.ref A.C)
  na_many : NoAttr K A.C "many"
  na_threshold : NoAttr K A.C "threshold"
  na_rate : NoAttr K A.C "rate"
  na_misses : NoAttr K A.C "misses"
  na_backs : NoAttr K A.C "backs"
  na_last : NoAttr K A.C "last"
  na_left_out : NoAttr K A.C "left_out"
  na_counts : NoAttr K A.C "counts"
  g_BOUNDS : mg "BOUNDS" = some (.ref A.aB)
  g_FARTHEST : mg "FARTHEST" = some (.int 1000000000 A.tkF)
  bounds : ∀ H : Hp, SqT K H A.aB [.ref A.b0, .ref A.b1, .ref A.b2, .ref A.b3, .ref A.b4] ∧ SqT K H A.b0 [.int 3, .int 9] ∧ SqT K H A.b1 [.int 0, .int 1000000] ∧ SqT K H A.b2 [.int 1, .int 1000000] ∧ SqT K H A.b3 [.int 1, .int 1000] ∧ SqT K H A.b4 [.int 1, .int 1000]
  m_VoteError : mg "VoteError" = some (.ref A.c_VoteError)
  m_BadSettings : mg "BadSettings" = some (.ref A.c_BadSettings)
  m_BadStep : mg "BadStep" = some (.ref A.c_BadStep)
  m_NoSensor : mg "NoSensor" = some (.ref A.c_NoSensor)
  m_BadRow : mg "BadRow" = some (.ref A.c_BadRow)
  x_VoteError : ExcC K A.c_VoteError
  x_BadSettings : ExcC K A.c_BadSettings
  x_BadStep : ExcC K A.c_BadStep
  i_BadSettings : ExcI K A.c_BadSettings
  k_BadSettings_VoteError : PySem.W.kitOne K (.ref A.c_BadSettings) (.ref A.c_VoteError) = some true
  k_BadSettings_BadSettings : PySem.W.kitOne K (.ref A.c_BadSettings) (.ref A.c_BadSettings) = some true
  k_BadSettings_BadStep : PySem.W.kitOne K (.ref A.c_BadSettings) (.ref A.c_BadStep) = some false
  k_BadSettings_NoSensor : PySem.W.kitOne K (.ref A.c_BadSettings) (.ref A.c_NoSensor) = some false
  k_BadSettings_BadRow : PySem.W.kitOne K (.ref A.c_BadSettings) (.ref A.c_BadRow) = some false
  k_BadSettings_V : PySem.W.kitOne K (.ref A.c_BadSettings) (.type "ValueError") = some true
  i_BadStep : ExcI K A.c_BadStep
  k_BadStep_VoteError : PySem.W.kitOne K (.ref A.c_BadStep) (.ref A.c_VoteError) = some true
  k_BadStep_BadSettings : PySem.W.kitOne K (.ref A.c_BadStep) (.ref A.c_BadSettings) = some false
  k_BadStep_BadStep : PySem.W.kitOne K (.ref A.c_BadStep) (.ref A.c_BadStep) = some true
  k_BadStep_NoSensor : PySem.W.kitOne K (.ref A.c_BadStep) (.ref A.c_NoSensor) = some false
  k_BadStep_BadRow : PySem.W.kitOne K (.ref A.c_BadStep) (.ref A.c_BadRow) = some false
  k_BadStep_V : PySem.W.kitOne K (.ref A.c_BadStep) (.type "ValueError") = some true

local macro_rules | `(tactic| walk_at "rd1") => `(tactic| first
  | (with_reducible refine L2.rd_seq ?_)
  | (with_reducible refine L2.rd_asg ?_)
  | (with_reducible refine L2.rd_set ?_)
  | (with_reducible refine L2.rd_ret ?_)
  | (with_reducible refine L2.rd_retN ?_)
  | (with_reducible refine L2.rd_if ?_)
  | (with_reducible refine L2.rd_drop ?_)
  | (with_reducible refine L2.rd_next ?_)
  | ((with_reducible refine' L2.rd_var ?rdv ?_); (case rdv => exact rfl))
  | (with_reducible refine L2.rd_C ?_)
  | (with_reducible refine L2.rd_op ?_)
  | (with_reducible refine L2.rd_un ?_)
  | (with_reducible refine L2.rd_I0 ?_)
  | ((with_reducible refine L2.rd_Ic ?_ ?rdc); (case rdc => first | exact L2.cmul_r (by decide) | exact L2.cmul_l (by decide) | exact L2.cdivL (by decide) | (show (0 : Int) < _; first | decide | omega)))
  | (with_reducible refine L2.rd_Ic ?_ ?_)
  | (with_reducible refine L2.rd_U ?_)
  | (with_reducible refine L2.rd_eqI ?_)
  | (with_reducible refine L2.rd_neI ?_)
  | (with_reducible refine L2.rd_eqS ?_)
  | (with_reducible refine L2.rd_neS ?_)
  | (with_reducible refine L2.rd_test ?_)
  | (with_reducible refine L2.rd_B ?_)
  | (with_reducible refine L2.rd_bl ?_)
  | (with_reducible refine L2.rd_and ?_)
  | (with_reducible refine L2.rd_or ?_)
  | (with_reducible refine L2.rd_not ?_)
  | (with_reducible refine L2.rd_andV ?_)
  | (with_reducible refine L2.rd_orV ?_)
  | (with_reducible refine L2.rd_notV ?_)
  | (with_reducible refine L2.rd_isbl ?_)
  | (with_reducible refine L2.rd_ifx ?_)
  | (with_reducible refine L2.rd_nil ?_)
  | (with_reducible refine L2.rd_cons ?_)
  | (with_reducible refine L2.rd_call ?_)
  | (with_reducible refine L2.rd_cb ?_)
  | (with_reducible refine L2.rd_abs ?_)
  | (with_reducible refine L2.rd_max ?_)
  | (with_reducible refine L2.rd_min ?_)
  | (with_reducible refine L2.rd_lst ?_)
  | (with_reducible refine L2.rd_tup ?_)
  | (with_reducible refine L2.rd_for ?_)
  | (with_reducible refine L2.rd_rng1 ?_)
  | (with_reducible refine L2.rd_iL ?_)
  | (with_reducible refine L2.rd_iT ?_)
  | (with_reducible refine L2.rd_iE ?_)
  | (with_reducible refine L2.rd_comp ?_)
  | (with_reducible refine L2.rd_tt ?_)
  | (with_reducible refine L2.rd_gcons ?_)
  | (with_reducible refine L2.rd_gnil ?_)
  | (with_reducible refine L2.rd_bm ?_)
  | (with_reducible refine L2.rd_false ?_)
  | (with_reducible refine L2.rd_true ?_)
  | (with_reducible refine L2.rd_nfalse ?_)
  | (with_reducible refine L2.rd_ntrue ?_)
  | (with_reducible refine L2.rd_chain ?_)
  | (with_reducible refine L2.rd_intB ?_)
  | (with_reducible refine L2.rd_isNi ?_)
  | (with_reducible refine L2.rd_isNn ?_)
  | (with_reducible refine L2.rd_notNi ?_)
  | (with_reducible refine L2.rd_notNn ?_)
  | (with_reducible refine L2.rd_fld ?_)
  | (with_reducible refine L2.rd_meth ?_)
  | (with_reducible refine L2.rd_make ?_)
  | (with_reducible refine L2.rd_iZ ?_)
  | (with_reducible refine L2.rd_bm0 ?_)
  | (with_reducible refine L2.rd_sfld ?_)
  | (with_reducible refine L2.rd_gsub ?_)
  | (with_reducible refine L2.rd_dget ?_)
  | (with_reducible refine L2.rd_dput ?_)
  | (with_reducible refine L2.rd_while ?_)
  | (with_reducible refine L2.rd_sl ?_)
  | (with_reducible refine L2.rd_nopart ?_)
  | (with_reducible refine L2.rd_part ?_)
  | (with_reducible refine L2.rd_isint ?_)
  | (with_reducible refine L2.rd_isNr ?_)
  | (with_reducible refine L2.rd_notNr ?_)
  | (with_reducible refine L2.rd_eqB ?_)
  | (with_reducible refine L2.rd_neB ?_)
  | (with_reducible refine L2.rd_raise ?_)
  | (with_reducible refine L2.rd_tryAs ?_)
  | (with_reducible refine L2.rd_callX ?_)
  | (with_reducible refine L2.rd_compX ?_)
  | (with_reducible refine L2.rd_cont ?_))
local macro_rules | `(tactic| walk_at "rd") => `(tactic| (repeat (walk_at "rd1")))

/-! ### the promises -/
def sp_is_whole : Sp := fun vs H Q _ => ∃ i : Int, vs = [.int i] ∧ Q (.bl true) H
def sp_is_within : Sp := fun vs H Q _ => ∃ a b c : Int, vs = [.int a, .int b, .int c] ∧ Q (.bl (decide (absI (a - b) ≤ c))) H
def sp_middle (K : PySem.W.Frag) : Sp := fun vs H Q _ => ∃ (p : Addr) (ns : List Int) (near : Int), vs = [.ref p, .int near] ∧ SqL K H p (ns.map V.int) ∧ ns.length < 64 ∧ ∀ H' : Hp, Same H H' → Q (.int (midE ns near)) H'
def sp_moved : Sp := fun vs H Q _ => ∃ a b c : Int, vs = [.int a, .int b, .int c] ∧ Q (.int (movF a b c)) H
def agrF (ns : List Int) (v t : Int) (n : Nat) : List Int := ((List.range n).filter fun (i : Nat) => decide (absI (ns.getD i 0 - v) ≤ t)).map fun (i : Nat) => (i : Int)
def sp_agree (K : PySem.W.Frag) : Sp := fun vs H Q _ => ∃ (p : Addr) (ns : List Int) (v t : Int), vs = [.ref p, .int v, .int t] ∧ SqL K H p (ns.map V.int) ∧ ns.length ≤ 1000 ∧
  ∀ (H' : Hp) (D : Addr), Same H H' → H' D = none → Q (.ref D) (upd H' D (.lst ((agrF ns v t ns.length).map V.int)))
def sp_are_settings (K : PySem.W.Frag) : Sp := fun vs H Q _ => ∃ (p : Addr) (a b c d e : Int), vs = [.ref p] ∧ H p = some (.tup [.int a, .int b, .int c, .int d, .int e]) ∧ ∀ H' : Hp, Same H H' → Q (.bl (setOk a b c d e)) H'
def sp_can_be_said : Sp := fun vs H Q _ => ∃ o : Option Int, vs = [toV o] ∧ Q (.bl (saidF o)) H
def sp_is_step : Sp := fun vs H Q _ => ∃ (a : Addr) (vals : List (Option Int)) (many : Int), vs = [.ref a, .int many] ∧ H a = some (.lst (vals.map toV)) ∧ vals.length ≤ 1000 ∧ ∀ H' : Hp, Same H H' → Q (.bl (decide ((vals.length : Int) = many) && vals.all saidF)) H'
def sp_word_of (K : PySem.W.Frag) : Sp := fun vs H Q _ => ∃ (p : Addr) (ns : List Int) (v t : Int) (m : Nat), vs = [.ref p, .int v, .int t, .int m] ∧ SqL K H p (ns.map V.int) ∧ ns.length ≤ 1000 ∧ ∀ H' : Hp, Same H H' → Q (.str (wordF ns v t m)) H'
theorem agrF_succ (ns : List Int) (v t : Int) (i : Nat) : agrF ns v t (i + 1) = agrF ns v t i ++ (if absI (ns.getD i 0 - v) ≤ t then [(i : Int)] else []) := by
  unfold agrF
  rw [List.range_succ, List.filter_append, List.map_append]
  by_cases h : absI (ns.getD i 0 - v) ≤ t
  · rw [if_pos h, List.filter_cons_of_pos (by simpa using h)]
    rfl
  · rw [if_neg h, List.filter_cons_of_neg (by simpa using h)]
    rfl
theorem agrF_len (ns : List Int) (v t : Int) (i : Nat) : (agrF ns v t i).length ≤ i := by
  unfold agrF
  rw [List.length_map]
  exact Nat.le_trans (List.length_filter_le _ _) (by rw [List.length_range]; exact Nat.le_refl _)
theorem ints_at {ns : List Int} {i : Nat} {x : V} (h : (ns.map V.int)[i]? = some x) : i < ns.length ∧ x = .int (ns.getD i 0) := by
  have hi : i < ns.length := by
    have := (List.getElem?_eq_some_iff.mp h).1
    rwa [List.length_map] at this
  refine ⟨hi, ?_⟩
  rw [List.getElem?_map, List.getElem?_eq_getElem hi] at h
  rw [List.getD_eq_getElem?_getD, List.getElem?_eq_getElem hi]
  exact (Option.some.inj h).symm
theorem opts_at {ns : List (Option Int)} {i : Nat} {x : V} (h : (ns.map toV)[i]? = some x) : i < ns.length ∧ x = toV (ns.getD i none) := by
  have hi : i < ns.length := by
    have := (List.getElem?_eq_some_iff.mp h).1
    rwa [List.length_map] at this
  refine ⟨hi, ?_⟩
  rw [List.getElem?_map, List.getElem?_eq_getElem hi] at h
  rw [List.getD_eq_getElem?_getD, List.getElem?_eq_getElem hi]
  exact (Option.some.inj h).symm
theorem bls_at {ns : List Bool} {i : Nat} {x : V} (h : (ns.map V.bl)[i]? = some x) : i < ns.length ∧ x = .bl (ns.getD i true) := by
  have hi : i < ns.length := by
    have := (List.getElem?_eq_some_iff.mp h).1
    rwa [List.length_map] at this
  refine ⟨hi, ?_⟩
  rw [List.getElem?_map, List.getElem?_eq_getElem hi] at h
  rw [List.getD_eq_getElem?_getD, List.getElem?_eq_getElem hi]
  exact (Option.some.inj h).symm
theorem line1000 : 1000 ≤ sizeLine := by decide
theorem filter_succ {ns : List Int} {p : Int → Bool} {i : Nat} (hi : i < ns.length) : (ns.take (i + 1)).filter p = (ns.take i).filter p ++ (if p (ns.getD i 0) = true then [ns.getD i 0] else []) := by
  rw [List.take_add_one, List.getElem?_eq_getElem hi, List.filter_append, List.getD_eq_getElem?_getD, List.getElem?_eq_getElem hi]
  by_cases h : p ns[i] = true
  · rw [if_pos (by simpa using h)]
    simp [h]
  · rw [if_neg (by simpa using h)]
    simp [h]
theorem agrF_close {ns : List Int} {v t : Int} : ∀ {i : Nat}, i ≤ ns.length → (agrF ns v t i).length = ((ns.take i).filter fun x => decide (absI (x - v) ≤ t)).length
  | 0, _ => by simp [agrF]
  | i + 1, h => by
    have ih := agrF_close (ns := ns) (v := v) (t := t) (i := i) (by omega)
    rw [agrF_succ, filter_succ (by omega), List.length_append, List.length_append, ih]
    congr 1
    by_cases hc : absI (ns.getD i 0 - v) ≤ t
    · rw [if_pos hc, if_pos (by simpa using hc)]
      all_goals rfl
    · rw [if_neg hc, if_neg (by simpa using hc)]
      all_goals rfl
theorem agr_close (ns : List Int) (v t : Int) : (agrF ns v t ns.length).length = closeF ns v t := by
  rw [agrF_close (Nat.le_refl _), List.take_length]
  rfl
theorem opts_succ {ns : List (Option Int)} {f : Option Int → Bool} {i : Nat} (hi : i < ns.length) : (ns.take (i + 1)).map f = (ns.take i).map f ++ [f (ns.getD i none)] := by
  rw [List.take_add_one, List.getElem?_eq_getElem hi, List.map_append, List.getD_eq_getElem?_getD, List.getElem?_eq_getElem hi]
  rfl
section
variable {P : Program} {w : World} {K : PySem.W.Frag} {mg : Str → Option Value} {base : Heap} {A : Ad}
theorem ok_is_whole (T : Txt K mg A) : FnOk P w K mg base CX0 1 A.a_is_whole A.d_is_whole ["thing"] sp_is_whole := by
  refine T.F_is_whole.ok sc_is_whole (fun vs H Q E h => ?_) (fun cdv A' outer s H vs Q E hr h => ?_)
  · obtain ⟨i, rfl, _⟩ := h
    rfl
  · obtain ⟨i, rfl, k⟩ := h
    refine ⟨_, (pss_one (ps_ret (pe_and (pe_callB (r := rInst K) call_instN (by rfl) T.n_isinstance boot_isinstance (pa_cons (pv 0) (pa_cons (pe_bltn (v := .ty "int") rfl T.n_int boot_int rfl) pa_nil))) (pe_one (pe_not (pe_callB (r := rInst K) call_instN (by rfl) T.n_isinstance boot_isinstance (pa_cons (pv 0) (pa_cons (pe_bltn (v := .ty "bool") rfl T.n_bool boot_bool rfl) pa_nil)))))))), ?_⟩
    walk_at "rd"
    refine rd_instN (.int _) kit_int_int ?_
    walk_at "rd"
    refine rd_instN (.int _) kit_int_bool ?_
    walk_at "rd"
    exact k
theorem ok_is_within (T : Txt K mg A) : FnOk P w K mg base CX0 1 A.a_is_within A.d_is_within ["number", "value", "threshold"] sp_is_within := by
  refine T.F_is_within.ok sc_is_within (fun vs H Q E h => ?_) (fun cdv A' outer s H vs Q E hr h => ?_)
  · obtain ⟨a, b, c, rfl, _⟩ := h
    rfl
  · obtain ⟨a, b, c, rfl, k⟩ := h
    refine ⟨_, (pss_one (ps_ret (pe_cmpR op_le (pe_callB call_absN (by rfl) T.n_abs boot_abs (pa_cons (pe_op op_sub (pv 0) (pv 1)) pa_nil)) (pv 2) (nomark _)))), ?_⟩
    walk_at "rd"
    exact k
theorem ok_moved (T : Txt K mg A) : FnOk P w K mg base CX0 1 A.a_moved A.d_moved ["one", "goal", "most"] sp_moved := by
  refine T.F_moved.ok sc_moved (fun vs H Q E h => ?_) (fun cdv A' outer s H vs Q E hr h => ?_)
  · obtain ⟨a, b, c, rfl, _⟩ := h
    rfl
  · obtain ⟨a, b, c, rfl, k⟩ := h
    refine ⟨_, (pss_cons (ps_if (pt_cmpR op_gt (pv 1) (pv 0) (nomark _))
      (pss_one (ps_ret (pe_callB (call_minN rfl) (by rfl) T.n_min boot_min (pa_cons (pe_op op_add (pv 0) (pv 2)) (pa_cons (pv 1) pa_nil)))))
      pss_nil)
      (pss_one (ps_ret (pe_callB (call_maxN rfl) (by rfl) T.n_max boot_max (pa_cons (pe_op op_sub (pv 0) (pv 2)) (pa_cons (pv 1) pa_nil)))))), ?_⟩
    unfold movF at k
    walk_at "rd"
    refine rd_dec (fun h1 => ?_) (fun h1 => ?_)
    · rw [if_pos h1] at k
      walk_at "rd"
      exact k
    · rw [if_neg h1] at k
      walk_at "rd"
      exact k
theorem ok_middle (T : Txt K mg A) : FnOk P w K mg base CX0 1 A.a_middle A.d_middle ["numbers", "near"] (sp_middle K) := by
  refine T.F_middle.ok sc_middle (fun vs H Q E h => ?_) (fun cdv A' outer s H vs Q E hr h => ?_)
  · obtain ⟨p, ns, near, rfl, _⟩ := h
    rfl
  · obtain ⟨p, ns, near, rfl, hS, h64, k⟩ := h
    refine ⟨_, (pss_cons (ps_if (pt_cmpR op_eq (pe_callB (r := rLenS K) call_lenN (by rfl) T.n_len boot_len (pa_cons (pv 0) pa_nil)) pe_int (nomark _))
      (pss_one (ps_ret (pv 1)))
      pss_nil)
      (pss_cons (ps_set (i := 2) sc_middle.nd rfl (Or.inl rfl) (pe_callB (r := rSorted K) call_sortedN (by rfl) T.n_sorted boot_sorted (pa_cons (pv 0) pa_nil)))
      (pss_cons (ps_set (i := 3) sc_middle.nd rfl (Or.inl rfl) (pe_ix (r := rIxL K) ix_list (pv 2) (pe_op op_fdivL (pe_op op_sub (pe_callB (r := rLenS K) call_lenN (by rfl) T.n_len boot_len (pa_cons (pv 2) pa_nil)) pe_int) pe_int) (fun _ _ => rfl)))
      (pss_cons (ps_set (i := 4) sc_middle.nd rfl (Or.inl rfl) (pe_ix (r := rIxL K) ix_list (pv 2) (pe_op op_fdivL (pe_callB (r := rLenS K) call_lenN (by rfl) T.n_len boot_len (pa_cons (pv 2) pa_nil)) pe_int) (fun _ _ => rfl)))
      (pss_cons (ps_if (pt_cmpR op_lt (pe_callB call_absN (by rfl) T.n_abs boot_abs (pa_cons (pe_op op_sub (pv 4) (pv 1)) pa_nil)) (pe_callB call_absN (by rfl) T.n_abs boot_abs (pa_cons (pe_op op_sub (pv 3) (pv 1)) pa_nil)) (nomark _))
      (pss_one (ps_ret (pv 4)))
      pss_nil)
      (pss_one (ps_ret (pv 3)))))))), ?_⟩
    walk_at "rd"
    refine rd_lenL hS ?_
    walk_at "rd"
    unfold midE at k
    refine rd_dec (fun h1 => ?_) (fun h1 => ?_)
    · rw [List.length_map] at h1
      have k' := k H (Same.refl H)
      rw [if_pos (by omega)] at k'
      walk_at "rd"
      exact k'
    rw [List.length_map] at h1
    have hpos : 0 < ns.length := by omega
    walk_at "rd"
    refine ⟨p, ns, rfl, hS, h64, fun l ss hl hperm hpw => ?_⟩
    have hlen : ss.length = ns.length := hperm.length_eq
    have hS2 : SqL K (upd H l (.lst (ss.map V.int))) l (ss.map V.int) := SqL.of upd_same
    have k' := k (upd H l (.lst (ss.map V.int))) ((Same.refl H).upd hl)
    rw [if_neg (by omega), ← srt_is hperm hpw] at k'
    walk_at "rd"
    refine rd_lenL hS2 ?_
    walk_at "rd"
    refine rd_ixLc hS2 ?_ (atI_ints (by rw [List.length_map]; omega) (by rw [List.length_map]; omega))
    walk_at "rd"
    refine rd_lenL hS2 ?_
    walk_at "rd"
    refine rd_ixLc hS2 ?_ (atI_ints (by rw [List.length_map]; omega) (by rw [List.length_map]; omega))
    walk_at "rd"
    unfold midOf at k'
    have e1 : ((((List.map V.int ss).length : Int) - 1) / 2).toNat = (ss.length - 1) / 2 := by rw [List.length_map]; omega
    have e2 : (((List.map V.int ss).length : Int) / 2).toNat = ss.length / 2 := by rw [List.length_map]; omega
    rw [e1, e2]
    refine rd_dec (fun h1 => ?_) (fun h1 => ?_)
    · rw [if_pos h1] at k'
      walk_at "rd"
      exact k'
    · rw [if_neg h1] at k'
      walk_at "rd"
      exact k'
theorem ok_agree (T : Txt K mg A) : FnOk P w K mg base CX0 2 A.a_agree A.d_agree ["numbers", "value", "threshold"] (sp_agree K) := by
  have g_is_within : FnOk P w K mg base CX0 1 A.a_is_within A.d_is_within ["number", "value", "threshold"] sp_is_within := ok_is_within T
  refine T.F_agree.ok sc_agree (fun vs H Q E h => ?_) (fun cdv A' outer s H vs Q E hr h => ?_)
  · obtain ⟨p, ns, v, t, rfl, _⟩ := h
    rfl
  · obtain ⟨p, ns, v, t, rfl, hS, hlen, k⟩ := h
    refine ⟨_, (pss_one (ps_ret (pe_comp ["place", "number"] ["value", "threshold"] [1, 2] (.cons rfl rfl (.inl rfl) (.cons rfl rfl (.inl rfl) (.nil))) rfl (pi_enum rfl T.n_enumerate (pa_cons (pv 0) pa_nil)) (fun _ _ _ _ => pg_tup (n := 2) rfl (pgs_cons (pg_name (i := 0) (show (["place", "number", "value", "threshold"] : List Str).Nodup by decide +kernel) rfl (Or.inl rfl) (.inr rfl)) (pgs_cons (pg_name (i := 1) (show (["place", "number", "value", "threshold"] : List Str).Nodup by decide +kernel) rfl (Or.inl rfl) (.inr rfl)) pgs_nil))) (fun _ _ _ _ => pts_one (pt_val (pe_call g_is_within (hr.mono (by decide)) rfl T.m_is_within T.F_is_within.kp T.b_is_within .nil pass0 (pa_cons (pv 1) (pa_cons (pv 2) (pa_cons (pv 3) pa_nil)))))) (fun _ _ _ _ => (pv 0)) (gown_tup (gown_cons gmono_name (gmono_cons gmono_name gmono_nil) (gown_name (by decide)) (gown_cons gmono_name gmono_nil (gown_name (by decide)) gown_nil)))))), ?_⟩
    walk_at "rd"
    refine ⟨p, rfl, ⟨_, hS⟩, comp_enum (xs := ns.map V.int) (τ := [none, none, some (.int v), some (.int t)]) rfl (by rw [List.length_map]; exact Nat.le_trans hlen line1000)
      (fun i ys H2 => Same H H2 ∧ ys = (agrF ns v t i).map V.int) ⟨Same.refl H, rfl⟩ ?_ ?_ ?_⟩
    · rintro i ys H2 hi ⟨hs, rfl⟩
      exact ⟨hs.seq hS, by rw [List.length_map]; exact agrF_len _ _ _ _⟩
    · rintro i x ys H2 t0 hx ⟨hs, rfl⟩ ht
      obtain ⟨hi, rfl⟩ := ints_at hx
      refine rd_gtup (SqT.of upd_same) rfl ?_
      walk_at "rd"
      refine ⟨_, _, _, rfl, ?_⟩
      walk_at "rd"
      refine rd_dec (fun h1 => ?_) (fun h1 => ?_)
      · walk_at "rd"
        refine ⟨hs.upd ht, ?_⟩
        rw [agrF_succ, if_pos h1, List.map_append]
        rfl
      · refine ⟨hs.upd ht, ?_⟩
        rw [agrF_succ, if_neg h1, List.append_nil]
    · rintro ys H2 ⟨hs, rfl⟩ D hD
      rw [List.length_map]
      exact k H2 D hs hD
theorem ok_are_settings (T : Txt K mg A) : FnOk P w K mg base CX0 2 A.a_are_settings A.d_are_settings ["settings"] (sp_are_settings K) := by
  have g_is_whole : FnOk P w K mg base CX0 1 A.a_is_whole A.d_is_whole ["thing"] sp_is_whole := ok_is_whole T
  refine T.F_are_settings.ok sc_are_settings (fun vs H Q E h => ?_) (fun cdv A' outer s H vs Q E hr h => ?_)
  · obtain ⟨p, a, b, c, d, e, rfl, _⟩ := h
    rfl
  · obtain ⟨p, a, b, c, d, e, rfl, hS, k⟩ := h
    refine ⟨_, (pss_cons (ps_if (PW.pt (pw_or (pt_not (pt_val (pe_callB (r := rInst K) call_instN (by rfl) T.n_isinstance boot_isinstance (pa_cons (pv 0) (pa_cons (pe_bltn (v := .ty "tuple") rfl T.n_tuple boot_tuple rfl) pa_nil))))) (pw_or1 (pt_cmpR op_ne (pe_callB (r := rLenS K) call_lenN (by rfl) T.n_len boot_len (pa_cons (pv 0) pa_nil)) (pe_callB (r := rLenS K) call_lenN (by rfl) T.n_len boot_len (pa_cons (pe_glob (v := .ref A.aB) rfl T.g_BOUNDS rfl) pa_nil)) (nomark _)))))
      (pss_one (ps_ret pe_bl))
      pss_nil)
      (pss_cons (ps_for PassesOwn.never rfl (pi_zipT rfl T.n_zip (pa_cons (pv 0) (pa_cons (pe_glob (v := .ref A.aB) rfl T.g_BOUNDS rfl) pa_nil))) (pg_tup (n := 2) rfl (pgs_cons (pg_name (i := 1) sc_are_settings.nd rfl (Or.inl rfl)) (pgs_cons (pg_name (i := 2) sc_are_settings.nd rfl (Or.inl rfl)) pgs_nil)))
      (pss_one (ps_if (PW.pt (pw_or (pt_not (pt_val (pe_call g_is_whole (hr.mono (by decide)) rfl T.m_is_whole T.F_is_whole.kp T.b_is_whole .nil pass0 (pa_cons (pv 1) pa_nil)))) (pw_or (pt_cmpR op_lt (pv 1) (pe_ix (r := rIxT K) ix_tup (pv 2) pe_int (fun _ _ => rfl)) (nomark _)) (pw_or1 (pt_cmpR op_gt (pv 1) (pe_ix (r := rIxT K) ix_tup (pv 2) pe_int (fun _ _ => rfl)) (nomark _))))))
      (pss_one (ps_ret pe_bl))
      pss_nil)))
      (pss_one (ps_ret pe_bl)))), ?_⟩
    walk_at "rd"
    refine rd_instN (.tup hS) kit_tuple_tuple ?_
    walk_at "rd"
    refine rd_lenT (SqT.of hS) ?_
    walk_at "rd"
    refine rd_lenT (T.bounds H).1 ?_
    walk_at "rd"
    refine rd_ndec (fun h1 => absurd rfl h1) (fun _ => ?_)
    walk_at "rd"
    refine ⟨p, A.aB, rfl, ⟨_, SqT.of hS⟩, ⟨_, (T.bounds H).1⟩, for_zip (xs := [.int a, .int b, .int c, .int d, .int e]) (ys := [.ref A.b0, .ref A.b1, .ref A.b2, .ref A.b3, .ref A.b4])
      (fun i σ H2 => ∃ x y, σ = [some (.ref p), x, y] ∧ Same H H2 ∧ (1 ≤ i → 3 ≤ a ∧ a ≤ 9) ∧ (2 ≤ i → 0 ≤ b ∧ b ≤ 1000000) ∧ (3 ≤ i → 1 ≤ c ∧ c ≤ 1000000) ∧ (4 ≤ i → 1 ≤ d ∧ d ≤ 1000) ∧ (5 ≤ i → 1 ≤ e ∧ e ≤ 1000))
      ⟨none, none, rfl, Same.refl H, by omega, by omega, by omega, by omega, by omega⟩ rfl (fun i σ H2 _ ⟨_, _, _, hs, _⟩ => ⟨hs.tup (SqT.of hS), (T.bounds H2).1⟩) ?_ ?_⟩
    · rintro i x y σ H2 t hx hy ⟨x1, x2, rfl, hs, h1, h2, h3, h4, h5⟩ ht
      obtain ⟨_, B0, B1, B2, B3, B4⟩ := T.bounds (upd H2 t (.tup [x, y]))
      refine rd_gtup (SqT.of upd_same) rfl ?_
      have s3 : Same H (upd H2 t (.tup [x, y])) := hs.upd ht
      match i, hx, hy with
      | 0, hx, hy | 1, hx, hy | 2, hx, hy | 3, hx, hy | 4, hx, hy =>
        cases hx
        cases hy
        walk_at "rd"
        refine ⟨_, rfl, ?_⟩
        walk_at "rd"
        refine rd_ixT (by assumption) rfl ?_
        walk_at "rd"
        refine rd_dec (fun hlt => ?_) (fun hlt => ?_)
        · walk_at "rd"
          have k' := k _ s3
          unfold setOk at k'
          rw [decide_eq_false (by omega)] at k'
          exact k'
        walk_at "rd"
        refine rd_ixT (by assumption) rfl ?_
        walk_at "rd"
        refine rd_dec (fun hgt => ?_) (fun hgt => ?_)
        · walk_at "rd"
          have k' := k _ s3
          unfold setOk at k'
          rw [decide_eq_false (by omega)] at k'
          exact k'
        walk_at "rd"
        exact ⟨_, _, rfl, s3, by omega, by omega, by omega, by omega, by omega⟩
    · rintro σ H2 ⟨x1, x2, rfl, hs, h1, h2, h3, h4, h5⟩
      walk_at "rd"
      have k' := k _ hs
      unfold setOk at k'
      have q1 := h1 (by show 1 ≤ 5; decide)
      have q2 := h2 (by show 2 ≤ 5; decide)
      have q3 := h3 (by show 3 ≤ 5; decide)
      have q4 := h4 (by show 4 ≤ 5; decide)
      have q5 := h5 (by show 5 ≤ 5; decide)
      rw [decide_eq_true (by omega)] at k'
      exact k'
theorem ok_can_be_said (T : Txt K mg A) : FnOk P w K mg base CX0 2 A.a_can_be_said A.d_can_be_said ["thing"] sp_can_be_said := by
  have g_is_whole : FnOk P w K mg base CX0 1 A.a_is_whole A.d_is_whole ["thing"] sp_is_whole := ok_is_whole T
  refine T.F_can_be_said.ok sc_can_be_said (fun vs H Q E h => ?_) (fun cdv A' outer s H vs Q E hr h => ?_)
  · obtain ⟨o, rfl, _⟩ := h
    rfl
  · obtain ⟨o, rfl, k⟩ := h
    refine ⟨_, (pss_one (ps_ret (pe_or (pe_cmpR op_isNN (pv 0) pe_non (nomark _)) (pe_one (pe_and (pe_call g_is_whole (hr.mono (by decide)) rfl T.m_is_whole T.F_is_whole.kp T.b_is_whole .nil pass0 (pa_cons (pv 0) pa_nil)) (pe_one (pe_cmpR op_le (pe_callB call_absN (by rfl) T.n_abs boot_abs (pa_cons (pv 0) pa_nil)) (pe_glob (v := .int 1000000000) rfl T.g_FARTHEST ⟨_, rfl⟩) (nomark _)))))))), ?_⟩
    cases o with
    | none =>
      walk_at "rd"
      exact k
    | some i =>
      walk_at "rd"
      refine ⟨_, rfl, ?_⟩
      walk_at "rd"
      exact k
theorem ok_is_step (T : Txt K mg A) : FnOk P w K mg base CX0 3 A.a_is_step A.d_is_step ["values", "many"] sp_is_step := by
  have g_can_be_said : FnOk P w K mg base CX0 2 A.a_can_be_said A.d_can_be_said ["thing"] sp_can_be_said := ok_can_be_said T
  refine T.F_is_step.ok sc_is_step (fun vs H Q E h => ?_) (fun cdv A' outer s H vs Q E hr h => ?_)
  · obtain ⟨a, vals, many, rfl, _⟩ := h
    rfl
  · obtain ⟨a, vals, many, rfl, hS, hlen, k⟩ := h
    refine ⟨_, (pss_one (ps_ret (pe_and (pe_callB (r := rInst K) call_instN (by rfl) T.n_isinstance boot_isinstance (pa_cons (pv 0) (pa_cons (pe_bltn (v := .ty "list") rfl T.n_list boot_list rfl) pa_nil))) (pe_and (pe_cmpR op_eq (pe_callB (r := rLenS K) call_lenN (by rfl) T.n_len boot_len (pa_cons (pv 0) pa_nil)) (pv 1) (nomark _)) (pe_one (pe_callB (r := rAllB K) (call_allN rfl) (by rfl) T.n_all boot_all (pa_cons (pe_comp ["thing"] [] [] (.nil) rfl (pi_list (pv 0)) (fun _ _ _ _ => pg_name (i := 0) (show (["thing"] : List Str).Nodup by decide +kernel) rfl (Or.inl rfl) (.inr rfl)) (fun _ _ _ _ => pts_nil) (fun _ _ _ _ => (pe_call g_can_be_said (hr.mono (by decide)) rfl T.m_can_be_said T.F_can_be_said.kp T.b_can_be_said .nil pass0 (pa_cons (pv 0) pa_nil))) (gown_name (by decide))) pa_nil))))))), ?_⟩
    walk_at "rd"
    refine rd_instN (.lst hS) kit_list_list ?_
    walk_at "rd"
    refine rd_lenL (SqL.of hS) ?_
    rw [List.length_map]
    walk_at "rd"
    refine rd_dec (fun h1 => ?_) (fun h1 => ?_)
    · walk_at "rd"
      refine ⟨a, rfl, ⟨_, SqL.of hS⟩, comp_list (xs := vals.map toV) (τ := [none]) rfl (by rw [List.length_map]; exact Nat.le_trans hlen line1000)
        (fun i ys H2 => Same H H2 ∧ ys = ((vals.take i).map saidF).map V.bl) ⟨Same.refl H, by simp⟩ ?_ ?_ ?_⟩
      · rintro i ys H2 hi ⟨hs, rfl⟩
        refine ⟨hs.seq (SqL.of hS), ?_⟩
        rw [List.length_map, List.length_map]
        exact List.length_take_le _ _
      · rintro i x ys H2 hx ⟨hs, rfl⟩
        obtain ⟨hi, rfl⟩ := opts_at hx
        walk_at "rd"
        refine ⟨_, rfl, ?_⟩
        refine ⟨hs, ?_⟩
        rw [opts_succ hi, List.map_append]
        rfl
      · rintro ys H2 ⟨hs, rfl⟩ D hD
        rw [List.length_map, List.take_length]
        walk_at "rd"
        refine ⟨D, vals.map saidF, rfl, SqL.of upd_same, ?_⟩
        have k' := k _ (hs.upd (o := .lst ((vals.map saidF).map V.bl)) hD)
        rw [decide_eq_true h1, Bool.true_and] at k'
        rw [List.all_map]
        exact k'
    · have k' := k H (Same.refl H)
      rw [decide_eq_false h1, Bool.false_and] at k'
      exact k'
theorem ok_word_of (T : Txt K mg A) : FnOk P w K mg base CX0 3 A.a_word_of A.d_word_of ["numbers", "value", "threshold", "many"] (sp_word_of K) := by
  have g_agree : FnOk P w K mg base CX0 2 A.a_agree A.d_agree ["numbers", "value", "threshold"] (sp_agree K) := ok_agree T
  refine T.F_word_of.ok sc_word_of (fun vs H Q E h => ?_) (fun cdv A' outer s H vs Q E hr h => ?_)
  · obtain ⟨p, ns, v, t, m, rfl, _⟩ := h
    rfl
  · obtain ⟨p, ns, v, t, m, rfl, hS, hlen, k⟩ := h
    refine ⟨_, (pss_cons (ps_set (i := 4) sc_word_of.nd rfl (Or.inl rfl) (pe_callB (r := rLenS K) call_lenN (by rfl) T.n_len boot_len (pa_cons (pe_call g_agree (hr.mono (by decide)) rfl T.m_agree T.F_agree.kp T.b_agree .nil pass0 (pa_cons (pv 0) (pa_cons (pv 1) (pa_cons (pv 2) pa_nil)))) pa_nil)))
      (pss_cons (ps_if (pt_cmpR op_eq (pe_callB (r := rLenS K) call_lenN (by rfl) T.n_len boot_len (pa_cons (pv 0) pa_nil)) pe_int (nomark _))
      (pss_one (ps_ret pe_str))
      pss_nil)
      (pss_cons (ps_if (pt_cmpR op_eq (pe_callB (r := rLenS K) call_lenN (by rfl) T.n_len boot_len (pa_cons (pv 0) pa_nil)) pe_int (nomark _))
      (pss_one (ps_ret pe_str))
      pss_nil)
      (pss_cons (ps_if (pt_cmpR op_le (pe_op op_mul (pv 4) pe_int) (pe_callB (r := rLenS K) call_lenN (by rfl) T.n_len boot_len (pa_cons (pv 0) pa_nil)) (nomark _))
      (pss_one (ps_ret pe_str))
      pss_nil)
      (pss_cons (ps_if (pt_cmpR op_eq (pv 4) (pv 3) (nomark _))
      (pss_one (ps_ret pe_str))
      pss_nil)
      (pss_one (ps_ret pe_str))))))), ?_⟩
    walk_at "rd"
    refine ⟨p, ns, v, t, rfl, hS, hlen, fun H1 D s1 hD => ?_⟩
    have s2 := s1.upd (o := .lst ((agrF ns v t ns.length).map V.int)) hD
    walk_at "rd"
    refine rd_lenL (SqL.of upd_same) ?_
    rw [List.length_map, agr_close]
    generalize upd H1 D (.lst ((agrF ns v t ns.length).map V.int)) = H2 at s2 ⊢
    have k' := k H2 s2
    unfold wordF at k'
    walk_at "rd"
    refine rd_lenL (s2.seq hS) ?_
    rw [List.length_map]
    walk_at "rd"
    refine rd_dec (fun h1 => ?_) (fun h1 => ?_)
    · rw [if_pos (by omega)] at k'
      walk_at "rd"
      exact k'
    rw [if_neg (by omega)] at k'
    walk_at "rd"
    refine rd_lenL (s2.seq hS) ?_
    rw [List.length_map]
    walk_at "rd"
    refine rd_dec (fun h2 => ?_) (fun h2 => ?_)
    · rw [if_pos (by omega)] at k'
      walk_at "rd"
      exact k'
    rw [if_neg (by omega)] at k'
    walk_at "rd"
    refine rd_lenL (s2.seq hS) ?_
    rw [List.length_map]
    walk_at "rd"
    refine rd_dec (fun h3 => ?_) (fun h3 => ?_)
    · rw [if_pos (by omega)] at k'
      walk_at "rd"
      exact k'
    rw [if_neg (by omega)] at k'
    walk_at "rd"
    refine rd_dec (fun h4 => ?_) (fun h4 => ?_)
    · rw [if_pos (by omega)] at k'
      walk_at "rd"
      exact k'
    · rw [if_neg (by omega)] at k'
      walk_at "rd"
      exact k'
end

open PySem L2 PyProof.Rows


/-! ### the voter's promises -/
def sp_init (C : Addr) : Sp := fun vs H Q _ => ∃ (x dx p : Addr) (a b c d e st : Int), vs = [.ref x, .ref p, .int st] ∧ H x = some (.ins C dx []) ∧ H p = some (.tup [.int a, .int b, .int c, .int d, .int e]) ∧ setOk a b c d e = true ∧
  ∀ (H' : Hp) (lo co : Addr), SameX [x] H H' → H lo = none → H co = none → VO C H' x dx lo co (VS.new a b c d e st) → Q .non H'
def sp_initX (C B : Addr) : Sp := fun vs H Q E => ∃ (x dx p : Addr) (a b c d e st : Int), vs = [.ref x, .ref p, .int st] ∧ H x = some (.ins C dx []) ∧ H p = some (.tup [.int a, .int b, .int c, .int d, .int e]) ∧
  (setOk a b c d e = true → ∀ (H' : Hp) (lo co : Addr), SameX [x] H H' → H lo = none → H co = none → VO C H' x dx lo co (VS.new a b c d e st) → Q .non H') ∧ (setOk a b c d e = false → ∀ H' : Hp, Same H H' → E (.ref B) none H')
def sp_stepX (C B : Addr) : Sp := fun vs H Q E => ∃ (x dx lo co p : Addr) (v : VS) (vals : List (Option Int)), vs = [.ref x, .ref p] ∧ VO C H x dx lo co v ∧ H p = some (.lst (vals.map toV)) ∧ p ≠ lo ∧ p ≠ co ∧ vals.length ≤ 1000 ∧
  (vals.length = v.many → vals.all saidF = true → ∀ (H' : Hp) (t : Addr), SameX [x, lo, co] H H' → VO C H' x dx lo co (v.step vals) → H' t = none → Q (.ref t) (upd H' t (.tup [.int (v.step vals).last, .str (v.word vals)]))) ∧
  (¬ (vals.length = v.many ∧ vals.all saidF = true) → ∀ H' : Hp, Same H H' → E (.ref B) none H')
def sp_there (C : Addr) : Sp := fun vs H Q _ => ∃ (x dx lo co p : Addr) (v : VS) (vals : List (Option Int)), vs = [.ref x, .ref p] ∧ VO C H x dx lo co v ∧ H p = some (.lst (vals.map toV)) ∧ vals.length = v.many ∧
  ∀ (H' : Hp) (D : Addr), Same H H' → H' D = none → Q (.ref D) (upd H' D (.lst ((v.there vals).map V.int)))
def sp_another (C : Addr) : Sp := fun vs H Q _ => ∃ (x dx lo co : Addr) (v : VS) (j : Nat), vs = [.ref x, .int j] ∧ VO C H x dx lo co v ∧ j < v.many ∧ ∀ H' : Hp, Same H H' → Q (.bl (anotherF v.outs j)) H'
def sp_judge (C : Addr) : Sp := fun vs H Q _ => ∃ (x dx lo co : Addr) (v : VS) (j : Nat) (b : Bool), vs = [.ref x, .int j, .bl b] ∧ VO C H x dx lo co v ∧ j < v.many ∧
  ∀ H' : Hp, SameX [lo, co] H H' → VO C H' x dx lo co (v.put (judgeF v.misses b j (v.outs, v.cnts))) → Q .non H'
def sp_back (C : Addr) : Sp := fun vs H Q _ => ∃ (x dx lo co : Addr) (v : VS) (j : Nat) (b : Bool), vs = [.ref x, .int j, .bl b] ∧ VO C H x dx lo co v ∧ j < v.many ∧
  ∀ H' : Hp, SameX [lo, co] H H' → VO C H' x dx lo co (v.put (backF v.backs b j (v.outs, v.cnts))) → Q .non H'
def sp_step (C : Addr) : Sp := fun vs H Q _ => ∃ (x dx lo co p : Addr) (v : VS) (vals : List (Option Int)), vs = [.ref x, .ref p] ∧ VO C H x dx lo co v ∧ H p = some (.lst (vals.map toV)) ∧ p ≠ lo ∧ p ≠ co ∧ vals.length = v.many ∧ vals.all saidF = true ∧
  ∀ (H' : Hp) (t : Addr), SameX [x, lo, co] H H' → VO C H' x dx lo co (v.step vals) → H' t = none → Q (.ref t) (upd H' t (.tup [.int (v.step vals).last, .str (v.word vals)]))
def sp_given (C : Addr) : Sp := fun vs H Q _ => ∃ (x dx lo co : Addr) (v : VS), vs = [.ref x] ∧ VO C H x dx lo co v ∧ Q (.int v.last) H
def sp_ask (C : Addr) : Sp := fun vs H Q _ => ∃ (x dx lo co : Addr) (v : VS) (j : Nat), vs = [.ref x, .int j] ∧ VO C H x dx lo co v ∧ j < v.many ∧ Q .non H
def sp_state (C : Addr) : Sp := fun vs H Q _ => ∃ (x dx lo co : Addr) (v : VS) (j : Nat), vs = [.ref x, .int j] ∧ VO C H x dx lo co v ∧ j < v.many ∧ Q (.str (v.state j)) H
def sp_count (C : Addr) : Sp := fun vs H Q _ => ∃ (x dx lo co : Addr) (v : VS) (j : Nat), vs = [.ref x, .int j] ∧ VO C H x dx lo co v ∧ j < v.many ∧ Q (.int (v.cnts.getD j 0)) H
section
variable {P : Program} {w : World} {K : PySem.W.Frag} {mg : Str → Option Value} {base : Heap} {A : Ad}
theorem ok_init_x (T : Txt K mg A) : FnOk P w K mg base (Fly P w) 3 A.a_Voter___init__ A.d_Voter___init__ ["self", "settings", "start"] (sp_initX A.C A.c_BadSettings) := by
  have g_is_whole : FnOk P w K mg base CX0 1 A.a_is_whole A.d_is_whole ["thing"] sp_is_whole := ok_is_whole T
  have g_are_settings : FnOk P w K mg base CX0 2 A.a_are_settings A.d_are_settings ["settings"] (sp_are_settings K) := ok_are_settings T
  refine T.F_Voter___init__.okF sc_Voter___init__ (fun vs H Q E h => ?_) (fun cdv A' outer s H vs Q E hr h => ?_)
  · obtain ⟨x, dx, p, a, b, c, d, e, st, rfl, _⟩ := h
    rfl
  · obtain ⟨x, dx, p, a, b, c, d, e, st, rfl, hx, hp, k, kE⟩ := h
    refine ⟨_, (pss_cons (ps_if (pt_not (pt_val (pe_call g_are_settings (hr.mono (by decide)) rfl T.m_are_settings T.F_are_settings.kp T.b_are_settings .nil pass0 (pa_cons (pv 1) pa_nil))))
      (pss_one (ps_raise flier_def rfl rfl T.m_BadSettings T.x_BadSettings (pa_cons pe_str pa_nil)))
      pss_nil)
      (pss_cons (ps_if (pt_not (pt_val (pe_call g_is_whole (hr.mono (by decide)) rfl T.m_is_whole T.F_is_whole.kp T.b_is_whole .nil pass0 (pa_cons (pv 2) pa_nil))))
      (pss_one (ps_raise flier_def rfl rfl T.m_BadSettings T.x_BadSettings (pa_cons pe_str pa_nil)))
      pss_nil)
      (pss_cons (ps_fld (pv 0) (pe_ix (r := rIxT K) ix_tup (pv 1) pe_int (fun _ _ => rfl)) rfl)
      (pss_cons (ps_fld (pv 0) (pe_ix (r := rIxT K) ix_tup (pv 1) pe_int (fun _ _ => rfl)) rfl)
      (pss_cons (ps_fld (pv 0) (pe_ix (r := rIxT K) ix_tup (pv 1) pe_int (fun _ _ => rfl)) rfl)
      (pss_cons (ps_fld (pv 0) (pe_ix (r := rIxT K) ix_tup (pv 1) pe_int (fun _ _ => rfl)) rfl)
      (pss_cons (ps_fld (pv 0) (pe_ix (r := rIxT K) ix_tup (pv 1) pe_int (fun _ _ => rfl)) rfl)
      (pss_cons (ps_fld (pv 0) (pv 2) rfl)
      (pss_cons (ps_fld (pv 0) (pe_op op_rep (pe_lst (pa_cons pe_bl pa_nil)) (pe_fldK (K := K) (pv 0) rfl)) rfl)
      (pss_one (ps_fld (pv 0) (pe_op op_rep (pe_lst (pa_cons pe_int pa_nil)) (pe_fldK (K := K) (pv 0) rfl)) rfl))))))))))), ?_⟩
    cases hok : setOk a b c d e with
    | false =>
      walk_at "rd"
      refine ⟨p, a, b, c, d, e, rfl, hp, fun H1 s1 => ?_⟩
      rw [hok]
      walk_at "rd"
      exact ⟨by show 1 ≤ sizeLine; decide, kE hok H1 s1⟩
    | true =>
    have k := k hok
    have hpx : p ∉ [x] := by
      rw [List.mem_singleton]
      exact ne_of hp hx (by intro z; cases z)
    have hm : x ∈ [x] := List.mem_singleton.mpr rfl
    have a3 : 3 ≤ a ∧ a ≤ 9 := by
      unfold setOk at hok
      have := of_decide_eq_true hok
      omega
    walk_at "rd"
    refine ⟨p, a, b, c, d, e, rfl, hp, fun H1 s1 => ?_⟩
    rw [hok]
    walk_at "rd"
    refine ⟨_, rfl, ?_⟩
    have z1 : SameX [x] H H1 := samex_of s1
    have x1 := s1 _ _ hx
    walk_at "rd"
    refine rd_ixT (SqT.of (z1 _ _ hpx hp)) rfl ?_
    walk_at "rd"
    refine ⟨_, _, _, _, rfl, x1, T.cl, T.na_many, by show 0 < 1000; decide, ?_⟩
    have z2 := z1.upd (o := .ins A.C dx (putF "many" (.int a) [])) hm
    walk_at "rd"
    refine rd_ixT (SqT.of (z2 _ _ hpx hp)) rfl ?_
    walk_at "rd"
    refine ⟨_, _, _, _, rfl, upd_same, T.cl, T.na_threshold, by show 1 < 1000; decide, ?_⟩
    have z3 := z2.upd (o := .ins A.C dx (putF "threshold" (.int b) (putF "many" (.int a) []))) hm
    walk_at "rd"
    refine rd_ixT (SqT.of (z3 _ _ hpx hp)) rfl ?_
    walk_at "rd"
    refine ⟨_, _, _, _, rfl, upd_same, T.cl, T.na_rate, by show 2 < 1000; decide, ?_⟩
    have z4 := z3.upd (o := .ins A.C dx (putF "rate" (.int c) (putF "threshold" (.int b) (putF "many" (.int a) [])))) hm
    walk_at "rd"
    refine rd_ixT (SqT.of (z4 _ _ hpx hp)) rfl ?_
    walk_at "rd"
    refine ⟨_, _, _, _, rfl, upd_same, T.cl, T.na_misses, by show 3 < 1000; decide, ?_⟩
    have z5 := z4.upd (o := .ins A.C dx (putF "misses" (.int d) (putF "rate" (.int c) (putF "threshold" (.int b) (putF "many" (.int a) []))))) hm
    walk_at "rd"
    refine rd_ixT (SqT.of (z5 _ _ hpx hp)) rfl ?_
    walk_at "rd"
    refine ⟨_, _, _, _, rfl, upd_same, T.cl, T.na_backs, by show 4 < 1000; decide, ?_⟩
    walk_at "rd"
    refine ⟨_, _, _, _, rfl, upd_same, T.cl, T.na_last, by show 5 < 1000; decide, ?_⟩
    have z6 := (z5.upd (o := .ins A.C dx (putF "backs" (.int e) (putF "misses" (.int d) (putF "rate" (.int c) (putF "threshold" (.int b) (putF "many" (.int a) [])))))) hm).upd (o := .ins A.C dx (putF "last" (.int st) (putF "backs" (.int e) (putF "misses" (.int d) (putF "rate" (.int c) (putF "threshold" (.int b) (putF "many" (.int a) []))))))) hm
    have f6 : putF "last" (.int st) (putF "backs" (.int e) (putF "misses" (.int d) (putF "rate" (.int c) (putF "threshold" (.int b) (putF "many" (.int a) []))))) = (fl6 a b c d e st) := rfl
    rw [f6] at z6 ⊢
    generalize hH6 : upd _ x (HO.ins A.C dx (fl6 a b c d e st)) = H6 at z6 ⊢
    have x6 : H6 x = some (.ins A.C dx (fl6 a b c d e st)) := by rw [← hH6]; exact upd_same
    walk_at "rd"
    refine ⟨by show 1 ≤ sizeLine; decide, fun q1 hq1 => ?_⟩
    have n1 : x ≠ q1 := ne_of_none x6 hq1
    walk_at "rd"
    refine ⟨_, _, _, _, _, rfl, by rw [upd_ne n1]; exact x6, T.cl, T.na_many, rfl, ?_⟩
    walk_at "rd"
    refine rd_rep upd_same (by omega) (by show 1 * a.toNat ≤ sizeLine; have : (9 : Nat) ≤ sizeLine := by decide
                                          omega) (by omega) (fun lo hlo => ?_)
    rw [flat_rep]
    have z7 := (z6.new hq1 (o := .lst [.bl false])).new hlo (o := .lst (List.replicate a.toNat (V.bl false)))
    have nq : lo ≠ q1 := fun q => by rw [q, upd_same] at hlo; cases hlo
    have lo6 : H6 lo = none := by rw [upd_ne nq] at hlo; exact hlo
    have nlx : lo ≠ x := fun q => by rw [q, x6] at lo6; cases lo6
    have x7 : upd (upd H6 q1 (.lst [.bl false])) lo (.lst (List.replicate a.toNat (V.bl false))) x = some (.ins A.C dx (fl6 a b c d e st)) := by
      rw [upd_ne (Ne.symm nlx), upd_ne n1]
      exact x6
    walk_at "rd"
    refine ⟨_, _, _, _, rfl, x7, T.cl, T.na_left_out, by show 6 < 1000; decide, ?_⟩
    have z8 := z7.upd (o := .ins A.C dx (putF "left_out" (.ref lo) (fl6 a b c d e st))) hm
    have l8 : upd (upd (upd H6 q1 (.lst [.bl false])) lo (.lst (List.replicate a.toNat (V.bl false)))) x (.ins A.C dx (putF "left_out" (.ref lo) (fl6 a b c d e st))) lo = some (.lst (List.replicate a.toNat (V.bl false))) := by
      rw [upd_ne nlx]
      exact upd_same
    have x8 : upd (upd (upd H6 q1 (.lst [.bl false])) lo (.lst (List.replicate a.toNat (V.bl false)))) x (.ins A.C dx (putF "left_out" (.ref lo) (fl6 a b c d e st))) x = some (.ins A.C dx (fl7 a b c d e st lo)) := upd_same
    generalize upd (upd (upd H6 q1 (.lst [.bl false])) lo (.lst (List.replicate a.toNat (V.bl false)))) x (.ins A.C dx (putF "left_out" (.ref lo) (fl6 a b c d e st))) = H8 at z8 l8 x8 ⊢
    walk_at "rd"
    refine ⟨by show 1 ≤ sizeLine; decide, fun q2 hq2 => ?_⟩
    have n2 : x ≠ q2 := ne_of_none x8 hq2
    walk_at "rd"
    refine ⟨_, _, _, _, _, rfl, by rw [upd_ne n2]; exact x8, T.cl, T.na_many, rfl, ?_⟩
    walk_at "rd"
    refine rd_rep upd_same (by omega) (by show 1 * a.toNat ≤ sizeLine; have : (9 : Nat) ≤ sizeLine := by decide
                                          omega) (by omega) (fun co hco => ?_)
    rw [flat_rep]
    have z9 := (z8.new hq2 (o := .lst [.int 0])).new hco (o := .lst (List.replicate a.toNat (V.int 0)))
    have nq2 : co ≠ q2 := fun q => by rw [q, upd_same] at hco; cases hco
    have co8 : H8 co = none := by rw [upd_ne nq2] at hco; exact hco
    have ncx : co ≠ x := fun q => by rw [q, x8] at co8; cases co8
    have ncl : co ≠ lo := fun q => by rw [q, l8] at co8; cases co8
    have nlq2 : lo ≠ q2 := ne_of_none l8 hq2
    have x9 : upd (upd H8 q2 (.lst [.int 0])) co (.lst (List.replicate a.toNat (V.int 0))) x = some (.ins A.C dx (fl7 a b c d e st lo)) := by
      rw [upd_ne (Ne.symm ncx), upd_ne n2]
      exact x8
    walk_at "rd"
    refine ⟨_, _, _, _, rfl, x9, T.cl, T.na_counts, by show 7 < 1000; decide, ?_⟩
    have em : ((a.toNat : Nat) : Int) = a := Int.toNat_of_nonneg (by omega)
    refine k _ lo co (z9.upd hm) (z6.free (by rw [List.mem_singleton]; exact nlx) lo6) (z8.free (by rw [List.mem_singleton]; exact ncx) co8) ⟨?_, ?_, ?_, ?_, Ne.symm ncl⟩
    · rw [upd_same]
      show _ = some (HO.ins A.C dx [("many", .int ((a.toNat : Nat) : Int)), ("threshold", .int b), ("rate", .int c), ("misses", .int d), ("backs", .int e), ("last", .int st), ("left_out", .ref lo), ("counts", .ref co)])
      rw [em]
      rfl
    · rw [upd_ne nlx, upd_ne (Ne.symm ncl), upd_ne nlq2, l8]
      show _ = some (HO.lst ((List.replicate a.toNat false).map V.bl))
      rw [List.map_replicate]
    · rw [upd_ne ncx, upd_same]
      show _ = some (HO.lst ((List.replicate a.toNat (0 : Int)).map V.int))
      rw [List.map_replicate]
    · refine ⟨?_, ?_, List.length_replicate, List.length_replicate⟩
      · show 3 ≤ a.toNat
        omega
      · show a.toNat ≤ 9
        omega
theorem ok_Voter___init__ (T : Txt K mg A) : FnOk P w K mg base CX0 3 A.a_Voter___init__ A.d_Voter___init__ ["self", "settings", "start"] (sp_init A.C) :=
  (ok_init_x T).calm.imp fun vs H Q E h => by
    obtain ⟨x, dx, p, a, b, c, d, e, st, hv, hx, hp, hok, k⟩ := h
    exact ⟨x, dx, p, a, b, c, d, e, st, hv, hx, hp, fun _ => k, fun z => by rw [hok] at z; cases z⟩
theorem ok_Voter_numbers_there (T : Txt K mg A) : FnOk P w K mg base CX0 1 A.a_Voter_numbers_there A.d_Voter_numbers_there ["self", "values"] (sp_there A.C) := by
  refine T.F_Voter_numbers_there.ok sc_Voter_numbers_there (fun vs H Q E h => ?_) (fun cdv A' outer s H vs Q E hr h => ?_)
  · obtain ⟨x, dx, lo, co, p, v, vals, rfl, _⟩ := h
    rfl
  · obtain ⟨x, dx, lo, co, p, v, vals, rfl, hv, hp, hlen, k⟩ := h
    have m9 := hv.ok.m9
    have hol := hv.ok.ol
    refine ⟨_, (pss_one (ps_ret (pe_comp ["thing", "is_out"] [] [] (.nil) rfl (pi_zipL rfl T.n_zip (pa_cons (pv 1) (pa_cons (pe_fldK (K := K) (pv 0) rfl) pa_nil))) (fun _ _ _ _ => pg_tup (n := 2) rfl (pgs_cons (pg_name (i := 0) (show (["thing", "is_out"] : List Str).Nodup by decide +kernel) rfl (Or.inl rfl) (.inr rfl)) (pgs_cons (pg_name (i := 1) (show (["thing", "is_out"] : List Str).Nodup by decide +kernel) rfl (Or.inl rfl) (.inr rfl)) pgs_nil))) (fun _ _ _ _ => pts_one (PW.pt (pw_and (pt_cmpR op_notNN (pv 0) pe_non (nomark _)) (pw_and1 (pt_not (pt_val (pv 1))))))) (fun _ _ _ _ => (pv 0)) (gown_tup (gown_cons gmono_name (gmono_cons gmono_name gmono_nil) (gown_name (by decide)) (gown_cons gmono_name gmono_nil (gown_name (by decide)) gown_nil)))))), ?_⟩
    walk_at "rd"
    refine ⟨_, _, _, _, _, rfl, (hv).ins, T.cl, T.na_left_out, rfl, ?_⟩
    walk_at "rd"
    refine ⟨p, lo, rfl, ⟨_, SqL.of hp⟩, ⟨_, SqL.of hv.hlo⟩, comp_zip (xs := vals.map toV) (ys := v.outs.map V.bl) (τ := [none, none]) rfl (by rw [List.length_map, hlen]; exact Nat.le_trans m9 (by decide)) (by rw [List.length_map, List.length_map, hlen, hol])
      (fun i zs H2 => Same H H2 ∧ zs = (thereF vals v.outs i).map V.int) ⟨Same.refl H, rfl⟩ ?_ ?_ ?_⟩
    · rintro i zs H2 hi ⟨hs, rfl⟩
      exact ⟨SqL.of (hs _ _ hp), SqL.of (hs _ _ hv.hlo), by rw [List.length_map]; exact thereF_len _ _ _⟩
    · rintro i y z zs H2 t0 hy hz ⟨hs, rfl⟩ ht
      obtain ⟨hi, rfl⟩ := opts_at hy
      obtain ⟨hj, rfl⟩ := bls_at hz
      refine rd_gtup (SqT.of upd_same) rfl ?_
      have st := hs.upd ht (o := .tup [toV (vals.getD i none), .bl (v.outs.getD i true)])
      rw [thereF_succ]
      generalize v.outs.getD i true = bo at st ⊢
      generalize vals.getD i none = ov at st ⊢
      cases ov with
      | none =>
        walk_at "rd"
        cases bo <;> exact ⟨st, by simp⟩
      | some n =>
        walk_at "rd"
        cases bo
        · walk_at "rd"
          exact ⟨st, by simp⟩
        · walk_at "rd"
          exact ⟨st, by simp⟩
    · rintro zs H2 ⟨hs, rfl⟩ D hD
      have k' := k H2 D hs hD
      unfold VS.there at k'
      rw [List.length_map, hlen]
      exact k'
theorem ok_Voter_is_another_in (T : Txt K mg A) : FnOk P w K mg base CX0 1 A.a_Voter_is_another_in A.d_Voter_is_another_in ["self", "place"] (sp_another A.C) := by
  refine T.F_Voter_is_another_in.ok sc_Voter_is_another_in (fun vs H Q E h => ?_) (fun cdv A' outer s H vs Q E hr h => ?_)
  · obtain ⟨x, dx, lo, co, v, j, rfl, _⟩ := h
    rfl
  · obtain ⟨x, dx, lo, co, v, j, rfl, hv, hj, k⟩ := h
    have m9 := hv.ok.m9
    have hol := hv.ok.ol
    refine ⟨_, (pss_one (ps_ret (pe_callB (r := rAnyB K) (call_anyN rfl) (by rfl) T.n_any boot_any (pa_cons (pe_comp ["other", "is_out"] ["place"] [1] (.cons rfl rfl (.inl rfl) (.nil)) rfl (pi_enum rfl T.n_enumerate (pa_cons (pe_fldK (K := K) (pv 0) rfl) pa_nil)) (fun _ _ _ _ => pg_tup (n := 2) rfl (pgs_cons (pg_name (i := 0) (show (["other", "is_out", "place"] : List Str).Nodup by decide +kernel) rfl (Or.inl rfl) (.inr rfl)) (pgs_cons (pg_name (i := 1) (show (["other", "is_out", "place"] : List Str).Nodup by decide +kernel) rfl (Or.inl rfl) (.inr rfl)) pgs_nil))) (fun _ _ _ _ => pts_nil) (fun _ _ _ _ => (pe_and (pe_cmpR op_ne (pv 0) (pv 2) (nomark _)) (pe_one (pe_not (pv 1))))) (gown_tup (gown_cons gmono_name (gmono_cons gmono_name gmono_nil) (gown_name (by decide)) (gown_cons gmono_name gmono_nil (gown_name (by decide)) gown_nil)))) pa_nil)))), ?_⟩
    walk_at "rd"
    refine ⟨_, _, _, _, _, rfl, (hv).ins, T.cl, T.na_left_out, rfl, ?_⟩
    walk_at "rd"
    refine ⟨lo, rfl, ⟨_, SqL.of hv.hlo⟩, comp_enum (xs := v.outs.map V.bl) (τ := [none, none, some (.int j)]) rfl (by rw [List.length_map, hol]; exact Nat.le_trans m9 (by decide))
      (fun i ys H2 => Same H H2 ∧ ys = ((List.range i).map fun k => !decide (k = j) && !v.outs.getD k true).map V.bl) ⟨Same.refl H, rfl⟩ ?_ ?_ ?_⟩
    · rintro i ys H2 hi ⟨hs, rfl⟩
      exact ⟨SqL.of (hs _ _ hv.hlo), by rw [List.length_map, List.length_map, List.length_range]; exact Nat.le_refl _⟩
    · rintro i y ys H2 t0 hy ⟨hs, rfl⟩ ht
      obtain ⟨hi, rfl⟩ := bls_at hy
      refine rd_gtup (SqT.of upd_same) rfl ?_
      have st := hs.upd ht (o := .tup [.int i, .bl (v.outs.getD i true)])
      have e : decide ((i : Int) = (j : Int)) = decide (i = j) := by
        by_cases hc : i = j
        · rw [decide_eq_true hc, decide_eq_true (by omega)]
        · rw [decide_eq_false hc, decide_eq_false (by omega)]
      have fin : ∀ b : Bool, b = (!decide (i = j) && !v.outs.getD i true) → ((List.range i).map fun k => !decide (k = j) && !v.outs.getD k true).map V.bl ++ [V.bl b] = ((List.range (i + 1)).map fun k => !decide (k = j) && !v.outs.getD k true).map V.bl := fun b hb => by
        rw [List.range_succ, List.map_append, List.map_append, hb]
        rfl
      walk_at "rd"
      rw [e]
      refine rd_ndec (fun h1 => ?_) (fun h1 => ?_)
      · walk_at "rd"
        exact ⟨st, fin _ (by rw [decide_eq_false h1]; rfl)⟩
      · exact ⟨st, fin _ (by rw [decide_eq_true h1]; rfl)⟩
    · rintro ys H2 ⟨hs, rfl⟩ D hD
      rw [List.length_map]
      refine ⟨D, _, rfl, SqL.of upd_same, ?_⟩
      have k' := k _ (hs.upd hD (o := .lst (((List.range v.outs.length).map fun k => !decide (k = j) && !v.outs.getD k true).map V.bl)))
      unfold anotherF at k'
      rw [List.any_map]
      exact k'
end

open PySem L2 PyProof.Rows


section
variable {P : Program} {w : World} {K : PySem.W.Frag} {mg : Str → Option Value} {base : Heap} {A : Ad}
theorem ok_Voter_judge (T : Txt K mg A) : FnOk P w K mg base CX0 2 A.a_Voter_judge A.d_Voter_judge ["self", "place", "agrees"] (sp_judge A.C) := by
  have g_Voter_is_another_in : FnOk P w K mg base CX0 1 A.a_Voter_is_another_in A.d_Voter_is_another_in ["self", "place"] (sp_another A.C) := ok_Voter_is_another_in T
  refine T.F_Voter_judge.ok sc_Voter_judge (fun vs H Q E h => ?_) (fun cdv A' outer s H vs Q E hr h => ?_)
  · obtain ⟨x, dx, lo, co, v, j, b, rfl, _⟩ := h
    rfl
  · obtain ⟨x, dx, lo, co, v, j, b, rfl, hv, hj, k⟩ := h
    have hol := hv.ok.ol
    have hcl := hv.ok.cl
    have mco : co ∈ [lo, co] := by simp
    have mlo : lo ∈ [lo, co] := by simp
    unfold judgeF at k
    refine ⟨_, (pss_cons (ps_if (pt_val (pv 2))
      (pss_cons (ps_asg (pe_callB (call_maxN rfl) (by rfl) T.n_max boot_max (pa_cons (pe_op op_sub (pe_ix (r := rIxL K) ix_list (pe_fldK (K := K) (pv 0) rfl) (pv 1) (fun _ _ => rfl)) pe_int) (pa_cons pe_int pa_nil))) (pg_sub (pe_fldK (K := K) (pv 0) rfl) (pv 1) set_list))
      (pss_one ps_retN))
      pss_nil)
      (pss_cons (ps_asg (pe_op op_add (pe_ix (r := rIxL K) ix_list (pe_fldK (K := K) (pv 0) rfl) (pv 1) (fun _ _ => rfl)) pe_int) (pg_sub (pe_fldK (K := K) (pv 0) rfl) (pv 1) set_list))
      (pss_one (ps_if (PW.pt (pw_and (pt_cmpR op_ge (pe_ix (r := rIxL K) ix_list (pe_fldK (K := K) (pv 0) rfl) (pv 1) (fun _ _ => rfl)) (pe_fldK (K := K) (pv 0) rfl) (nomark _)) (pw_and1 (pt_val (pe_meth (pv 0) T.cl T.mt_is_another_in g_Voter_is_another_in (hr.mono (by decide)) T.b_Voter_is_another_in .nil pass0 (pa_cons (pv 1) pa_nil))))))
      (pss_cons (ps_asg pe_bl (pg_sub (pe_fldK (K := K) (pv 0) rfl) (pv 1) set_list))
      (pss_one (ps_asg pe_int (pg_sub (pe_fldK (K := K) (pv 0) rfl) (pv 1) set_list))))
      pss_nil)))), ?_⟩
    walk_at "rd"
    refine rd_bool (fun hb => ?_) (fun hb => ?_)
    · rw [if_pos hb] at k
      walk_at "rd"
      refine ⟨_, _, _, _, _, rfl, (hv).ins, T.cl, T.na_counts, rfl, ?_⟩
      walk_at "rd"
      refine rd_ixL (SqL.of hv.hco) (atI_int (by omega)) ?_
      walk_at "rd"
      refine ⟨_, _, _, _, _, rfl, (hv).ins, T.cl, T.na_counts, rfl, ?_⟩
      walk_at "rd"
      refine rd_setL hv.hco (ixN_j (by rw [hv.len_c]; exact hj)) ?_
      rw [map_set_int]
      walk_at "rd"
      exact k _ (SameX.refl.upd mco) (hv.cnt (by rw [List.length_set]; exact hcl))
    · rw [if_neg (by rw [hb]; exact Bool.false_ne_true)] at k
      walk_at "rd"
      refine ⟨_, _, _, _, _, rfl, (hv).ins, T.cl, T.na_counts, rfl, ?_⟩
      walk_at "rd"
      refine rd_ixL (SqL.of hv.hco) (atI_int (by omega)) ?_
      walk_at "rd"
      refine ⟨_, _, _, _, _, rfl, (hv).ins, T.cl, T.na_counts, rfl, ?_⟩
      walk_at "rd"
      refine rd_setL hv.hco (ixN_j (by rw [hv.len_c]; exact hj)) ?_
      rw [map_set_int]
      have v1 := hv.cnt (cs := v.cnts.set j (v.cnts.getD j 0 + 1)) (by rw [List.length_set]; exact hcl)
      have e1 : SameX [lo, co] H (upd H co (.lst ((v.cnts.set j (v.cnts.getD j 0 + 1)).map V.int))) := SameX.refl.upd mco
      generalize upd H co (.lst ((v.cnts.set j (v.cnts.getD j 0 + 1)).map V.int)) = H1 at v1 e1 ⊢
      have c1 : (v.put (v.outs, v.cnts.set j (v.cnts.getD j 0 + 1))).cnts.getD j 0 = v.cnts.getD j 0 + 1 := getD_set_self (by omega)
      walk_at "rd"
      refine ⟨_, _, _, _, _, rfl, (v1).ins, T.cl, T.na_counts, rfl, ?_⟩
      walk_at "rd"
      refine rd_ixL (SqL.of v1.hco) (atI_int (by rw [v1.ok.cl]; exact hj)) ?_
      walk_at "rd"
      refine ⟨_, _, _, _, _, rfl, (v1).ins, T.cl, T.na_misses, rfl, ?_⟩
      walk_at "rd"
      rw [c1]
      refine rd_dec (fun h1 => ?_) (fun h1 => ?_)
      · walk_at "rd"
        refine ⟨_, _, _, rfl, v1.ins, rfl, ?_⟩
        walk_at "rd"
        refine ⟨x, dx, lo, co, _, j, rfl, v1, hj, fun H2 s2 => ?_⟩
        have v2 := v1.same s2
        walk_at "rd"
        refine rd_bool (fun h2 => ?_) (fun h2 => ?_)
        · rw [if_pos ⟨h1, h2⟩] at k
          walk_at "rd"
          refine ⟨_, _, _, _, _, rfl, (v2).ins, T.cl, T.na_left_out, rfl, ?_⟩
          walk_at "rd"
          refine rd_setL v2.hlo (ixN_j (by rw [v2.len_o]; exact hj)) ?_
          rw [map_set_bl]
          have v3 := v2.out (bs := v.outs.set j true) (by rw [List.length_set]; exact hol)
          walk_at "rd"
          refine ⟨_, _, _, _, _, rfl, (v3).ins, T.cl, T.na_counts, rfl, ?_⟩
          walk_at "rd"
          refine rd_setL v3.hco (ixN_j (by rw [v3.len_c]; exact hj)) ?_
          rw [map_set_int]
          have v4 := v3.cnt (cs := (v.cnts.set j (v.cnts.getD j 0 + 1)).set j 0) (by rw [List.length_set, List.length_set]; exact hcl)
          refine k _ (((e1.trans (samex_of s2)).upd mlo).upd mco) ?_
          show VO A.C _ x dx lo co (v.put (v.outs.set j true, v.cnts.set j 0))
          rw [← set_set (l := v.cnts) (j := j) (a := v.cnts.getD j 0 + 1) (b := 0)]
          exact v4
        · rw [if_neg (fun q => by have q2 := q.2; rw [show anotherF v.outs j = false from h2] at q2; exact Bool.false_ne_true q2)] at k
          walk_at "rd"
          exact k _ (e1.trans (samex_of s2)) v2
      · rw [if_neg (fun q => h1 q.1)] at k
        walk_at "rd"
        exact k _ e1 v1
theorem ok_Voter_try_back (T : Txt K mg A) : FnOk P w K mg base CX0 1 A.a_Voter_try_back A.d_Voter_try_back ["self", "place", "agrees"] (sp_back A.C) := by
  refine T.F_Voter_try_back.ok sc_Voter_try_back (fun vs H Q E h => ?_) (fun cdv A' outer s H vs Q E hr h => ?_)
  · obtain ⟨x, dx, lo, co, v, j, b, rfl, _⟩ := h
    rfl
  · obtain ⟨x, dx, lo, co, v, j, b, rfl, hv, hj, k⟩ := h
    have hol := hv.ok.ol
    have hcl := hv.ok.cl
    have mco : co ∈ [lo, co] := by simp
    have mlo : lo ∈ [lo, co] := by simp
    unfold backF at k
    refine ⟨_, (pss_cons (ps_if (pt_not (pt_val (pv 2)))
      (pss_cons (ps_asg pe_int (pg_sub (pe_fldK (K := K) (pv 0) rfl) (pv 1) set_list))
      (pss_one ps_retN))
      pss_nil)
      (pss_cons (ps_asg (pe_op op_add (pe_ix (r := rIxL K) ix_list (pe_fldK (K := K) (pv 0) rfl) (pv 1) (fun _ _ => rfl)) pe_int) (pg_sub (pe_fldK (K := K) (pv 0) rfl) (pv 1) set_list))
      (pss_one (ps_if (pt_cmpR op_eq (pe_ix (r := rIxL K) ix_list (pe_fldK (K := K) (pv 0) rfl) (pv 1) (fun _ _ => rfl)) (pe_fldK (K := K) (pv 0) rfl) (nomark _))
      (pss_cons (ps_asg pe_bl (pg_sub (pe_fldK (K := K) (pv 0) rfl) (pv 1) set_list))
      (pss_one (ps_asg pe_int (pg_sub (pe_fldK (K := K) (pv 0) rfl) (pv 1) set_list))))
      pss_nil)))), ?_⟩
    walk_at "rd"
    refine rd_nbool (fun hb => ?_) (fun hb => ?_)
    · rw [if_neg (by rw [hb]; exact Bool.false_ne_true)] at k
      walk_at "rd"
      refine ⟨_, _, _, _, _, rfl, (hv).ins, T.cl, T.na_counts, rfl, ?_⟩
      walk_at "rd"
      refine rd_setL hv.hco (ixN_j (by rw [hv.len_c]; exact hj)) ?_
      rw [map_set_int]
      walk_at "rd"
      exact k _ (SameX.refl.upd mco) (hv.cnt (by rw [List.length_set]; exact hcl))
    · rw [if_pos hb] at k
      walk_at "rd"
      refine ⟨_, _, _, _, _, rfl, (hv).ins, T.cl, T.na_counts, rfl, ?_⟩
      walk_at "rd"
      refine rd_ixL (SqL.of hv.hco) (atI_int (by omega)) ?_
      walk_at "rd"
      refine ⟨_, _, _, _, _, rfl, (hv).ins, T.cl, T.na_counts, rfl, ?_⟩
      walk_at "rd"
      refine rd_setL hv.hco (ixN_j (by rw [hv.len_c]; exact hj)) ?_
      rw [map_set_int]
      have v1 := hv.cnt (cs := v.cnts.set j (v.cnts.getD j 0 + 1)) (by rw [List.length_set]; exact hcl)
      have e1 : SameX [lo, co] H (upd H co (.lst ((v.cnts.set j (v.cnts.getD j 0 + 1)).map V.int))) := SameX.refl.upd mco
      generalize upd H co (.lst ((v.cnts.set j (v.cnts.getD j 0 + 1)).map V.int)) = H1 at v1 e1 ⊢
      have c1 : (v.put (v.outs, v.cnts.set j (v.cnts.getD j 0 + 1))).cnts.getD j 0 = v.cnts.getD j 0 + 1 := getD_set_self (by omega)
      walk_at "rd"
      refine ⟨_, _, _, _, _, rfl, (v1).ins, T.cl, T.na_counts, rfl, ?_⟩
      walk_at "rd"
      refine rd_ixL (SqL.of v1.hco) (atI_int (by rw [v1.ok.cl]; exact hj)) ?_
      walk_at "rd"
      refine ⟨_, _, _, _, _, rfl, (v1).ins, T.cl, T.na_backs, rfl, ?_⟩
      walk_at "rd"
      rw [c1]
      refine rd_dec (fun h1 => ?_) (fun h1 => ?_)
      · rw [if_pos (show (v.outs, v.cnts).2.getD j 0 + 1 = v.backs from h1)] at k
        walk_at "rd"
        refine ⟨_, _, _, _, _, rfl, (v1).ins, T.cl, T.na_left_out, rfl, ?_⟩
        walk_at "rd"
        refine rd_setL v1.hlo (ixN_j (by rw [v1.len_o]; exact hj)) ?_
        rw [map_set_bl]
        have v3 := v1.out (bs := v.outs.set j false) (by rw [List.length_set]; exact hol)
        walk_at "rd"
        refine ⟨_, _, _, _, _, rfl, (v3).ins, T.cl, T.na_counts, rfl, ?_⟩
        walk_at "rd"
        refine rd_setL v3.hco (ixN_j (by rw [v3.len_c]; exact hj)) ?_
        rw [map_set_int]
        have v4 := v3.cnt (cs := (v.cnts.set j (v.cnts.getD j 0 + 1)).set j 0) (by rw [List.length_set, List.length_set]; exact hcl)
        refine k _ ((e1.upd mlo).upd mco) ?_
        show VO A.C _ x dx lo co (v.put (v.outs.set j false, v.cnts.set j 0))
        rw [← set_set (l := v.cnts) (j := j) (a := v.cnts.getD j 0 + 1) (b := 0)]
        exact v4
      · rw [if_neg (show ¬ (v.outs, v.cnts).2.getD j 0 + 1 = v.backs from h1)] at k
        walk_at "rd"
        exact k _ e1 v1
theorem ok_Voter_ask_for (T : Txt K mg A) : FnOk P w K mg base CX0 1 A.a_Voter_ask_for A.d_Voter_ask_for ["self", "place"] (sp_ask A.C) := by
  refine T.F_Voter_ask_for.ok sc_Voter_ask_for (fun vs H Q E h => ?_) (fun cdv A' outer s H vs Q E hr h => ?_)
  · obtain ⟨x, dx, lo, co, v, j, rfl, _⟩ := h
    rfl
  · obtain ⟨x, dx, lo, co, v, j, rfl, hv, hj, k⟩ := h
    refine ⟨_, (pss_one (ps_if (PW.pt (pw_or (pt_cmpR op_lt (pv 1) pe_int (nomark _)) (pw_or1 (pt_cmpR op_ge (pv 1) (pe_fldK (K := K) (pv 0) rfl) (nomark _)))))
      (pss_one ps_never)
      pss_nil)), ?_⟩
    walk_at "rd"
    refine rd_dec (fun h1 => absurd h1 (by omega)) (fun h1 => ?_)
    walk_at "rd"
    refine ⟨_, _, _, _, _, rfl, (hv).ins, T.cl, T.na_many, rfl, ?_⟩
    walk_at "rd"
    refine rd_dec (fun h1 => absurd h1 (by omega)) (fun h1 => ?_)
    walk_at "rd"
    exact k
theorem ok_Voter_state (T : Txt K mg A) : FnOk P w K mg base CX0 2 A.a_Voter_state A.d_Voter_state ["self", "place"] (sp_state A.C) := by
  have g_Voter_ask_for : FnOk P w K mg base CX0 1 A.a_Voter_ask_for A.d_Voter_ask_for ["self", "place"] (sp_ask A.C) := ok_Voter_ask_for T
  refine T.F_Voter_state.ok sc_Voter_state (fun vs H Q E h => ?_) (fun cdv A' outer s H vs Q E hr h => ?_)
  · obtain ⟨x, dx, lo, co, v, j, rfl, _⟩ := h
    rfl
  · obtain ⟨x, dx, lo, co, v, j, rfl, hv, hj, k⟩ := h
    have hol := hv.ok.ol
    have hcl := hv.ok.cl
    unfold VS.state at k
    refine ⟨_, (pss_cons (ps_expr (pe_meth (pv 0) T.cl T.mt_ask_for g_Voter_ask_for (hr.mono (by decide)) T.b_Voter_ask_for .nil pass0 (pa_cons (pv 1) pa_nil)))
      (pss_cons (ps_if (pt_val (pe_ix (r := rIxL K) ix_list (pe_fldK (K := K) (pv 0) rfl) (pv 1) (fun _ _ => rfl)))
      (pss_one (ps_ret pe_str))
      pss_nil)
      (pss_cons (ps_if (pt_cmpR op_gt (pe_ix (r := rIxL K) ix_list (pe_fldK (K := K) (pv 0) rfl) (pv 1) (fun _ _ => rfl)) pe_int (nomark _))
      (pss_one (ps_ret pe_str))
      pss_nil)
      (pss_one (ps_ret pe_str))))), ?_⟩
    walk_at "rd"
    refine ⟨_, _, _, rfl, hv.ins, rfl, ?_⟩
    walk_at "rd"
    refine ⟨x, dx, lo, co, v, j, rfl, hv, hj, ?_⟩
    walk_at "rd"
    refine ⟨_, _, _, _, _, rfl, (hv).ins, T.cl, T.na_left_out, rfl, ?_⟩
    walk_at "rd"
    refine rd_ixL (SqL.of hv.hlo) (atI_bls (by omega)) ?_
    walk_at "rd"
    refine rd_bool (fun h1 => ?_) (fun h1 => ?_)
    · rw [if_pos h1] at k
      walk_at "rd"
      exact k
    rw [if_neg (by rw [h1]; exact Bool.false_ne_true)] at k
    walk_at "rd"
    refine ⟨_, _, _, _, _, rfl, (hv).ins, T.cl, T.na_counts, rfl, ?_⟩
    walk_at "rd"
    refine rd_ixL (SqL.of hv.hco) (atI_int (by omega)) ?_
    walk_at "rd"
    refine rd_dec (fun h1 => ?_) (fun h1 => ?_)
    · rw [if_pos h1] at k
      walk_at "rd"
      exact k
    · rw [if_neg h1] at k
      walk_at "rd"
      exact k
theorem ok_step_x (T : Txt K mg A) : FnOk P w K mg base (Fly P w) 4 A.a_Voter_step A.d_Voter_step ["self", "values"] (sp_stepX A.C A.c_BadStep) := by
  have g_is_step : FnOk P w K mg base CX0 3 A.a_is_step A.d_is_step ["values", "many"] sp_is_step := ok_is_step T
  have g_is_within : FnOk P w K mg base CX0 1 A.a_is_within A.d_is_within ["number", "value", "threshold"] sp_is_within := ok_is_within T
  have g_middle : FnOk P w K mg base CX0 1 A.a_middle A.d_middle ["numbers", "near"] (sp_middle K) := ok_middle T
  have g_moved : FnOk P w K mg base CX0 1 A.a_moved A.d_moved ["one", "goal", "most"] sp_moved := ok_moved T
  have g_word_of : FnOk P w K mg base CX0 3 A.a_word_of A.d_word_of ["numbers", "value", "threshold", "many"] (sp_word_of K) := ok_word_of T
  have g_Voter_numbers_there : FnOk P w K mg base CX0 1 A.a_Voter_numbers_there A.d_Voter_numbers_there ["self", "values"] (sp_there A.C) := ok_Voter_numbers_there T
  have g_Voter_judge : FnOk P w K mg base CX0 2 A.a_Voter_judge A.d_Voter_judge ["self", "place", "agrees"] (sp_judge A.C) := ok_Voter_judge T
  have g_Voter_try_back : FnOk P w K mg base CX0 1 A.a_Voter_try_back A.d_Voter_try_back ["self", "place", "agrees"] (sp_back A.C) := ok_Voter_try_back T
  refine T.F_Voter_step.okF sc_Voter_step (fun vs H Q E h => ?_) (fun cdv A' outer s H vs Q E hr h => ?_)
  · obtain ⟨x, dx, lo, co, p, v, vals, rfl, _⟩ := h
    rfl
  · obtain ⟨x, dx, lo, co, p, v, vals, rfl, hv, hp, npl, npc, h1000, k, kE⟩ := h
    have hol := hv.ok.ol
    have hcl := hv.ok.cl
    have m9 := hv.ok.m9
    refine ⟨_, (pss_cons (ps_if (pt_not (pt_val (pe_call g_is_step (hr.mono (by decide)) rfl T.m_is_step T.F_is_step.kp T.b_is_step .nil pass0 (pa_cons (pv 1) (pa_cons (pe_fldK (K := K) (pv 0) rfl) pa_nil)))))
      (pss_one (ps_raise flier_def rfl rfl T.m_BadStep T.x_BadStep (pa_cons pe_str pa_nil)))
      pss_nil)
      (pss_cons (ps_set (i := 2) sc_Voter_step.nd rfl (Or.inl rfl) (pe_meth (pv 0) T.cl T.mt_numbers_there g_Voter_numbers_there (hr.mono (by decide)) T.b_Voter_numbers_there .nil pass0 (pa_cons (pv 1) pa_nil)))
      (pss_cons (ps_set (i := 3) sc_Voter_step.nd rfl (Or.inl rfl) (pe_call g_middle (hr.mono (by decide)) rfl T.m_middle T.F_middle.kp T.b_middle .nil pass0 (pa_cons (pv 2) (pa_cons (pe_fldK (K := K) (pv 0) rfl) pa_nil))))
      (pss_cons (ps_for flier_def.own rfl (pi_range1 rfl T.n_range (pa_cons (pe_fldK (K := K) (pv 0) rfl) pa_nil)) (pg_name (i := 4) sc_Voter_step.nd rfl (Or.inl rfl))
      (pss_cons (ps_set (i := 5) sc_Voter_step.nd rfl (Or.inl rfl) (pe_and (pe_cmpR op_notNN (pe_ix (r := rIxL K) ix_list (pv 1) (pv 4) (fun _ _ => rfl)) pe_non (nomark _)) (pe_one (pe_call g_is_within (hr.mono (by decide)) rfl T.m_is_within T.F_is_within.kp T.b_is_within .nil pass0 (pa_cons (pe_ix (r := rIxL K) ix_list (pv 1) (pv 4) (fun _ _ => rfl)) (pa_cons (pv 3) (pa_cons (pe_fldK (K := K) (pv 0) rfl) pa_nil)))))))
      (pss_one (ps_if (pt_not (pt_val (pe_ix (r := rIxL K) ix_list (pe_fldK (K := K) (pv 0) rfl) (pv 4) (fun _ _ => rfl))))
      (pss_one (ps_expr (pe_meth (pv 0) T.cl T.mt_judge g_Voter_judge (hr.mono (by decide)) T.b_Voter_judge .nil pass0 (pa_cons (pv 4) (pa_cons (pv 5) pa_nil)))))
      (pss_one (ps_expr (pe_meth (pv 0) T.cl T.mt_try_back g_Voter_try_back (hr.mono (by decide)) T.b_Voter_try_back .nil pass0 (pa_cons (pv 4) (pa_cons (pe_and (pv 5) (pe_one (pe_cmpR op_gt (pe_callB (r := rLenS K) call_lenN (by rfl) T.n_len boot_len (pa_cons (pv 2) pa_nil)) pe_int (nomark _)))) pa_nil)))))))))
      (pss_cons (ps_fld (pv 0) (pe_call g_moved (hr.mono (by decide)) rfl T.m_moved T.F_moved.kp T.b_moved .nil pass0 (pa_cons (pe_fldK (K := K) (pv 0) rfl) (pa_cons (pv 3) (pa_cons (pe_fldK (K := K) (pv 0) rfl) pa_nil)))) rfl)
      (pss_one (ps_ret (pe_tup (pa_cons (pe_fldK (K := K) (pv 0) rfl) (pa_cons (pe_call g_word_of (hr.mono (by decide)) rfl T.m_word_of T.F_word_of.kp T.b_word_of .nil pass0 (pa_cons (pv 2) (pa_cons (pv 3) (pa_cons (pe_fldK (K := K) (pv 0) rfl) (pa_cons (pe_fldK (K := K) (pv 0) rfl) pa_nil))))) pa_nil)))))))))), ?_⟩
    by_cases hbad : vals.length = v.many ∧ vals.all saidF = true
    rotate_left
    · walk_at "rd"
      refine ⟨_, _, _, _, _, rfl, (hv).ins, T.cl, T.na_many, rfl, ?_⟩
      walk_at "rd"
      refine ⟨p, vals, _, rfl, hp, h1000, fun H1 s1 => ?_⟩
      have hb : (decide (((vals.length : Nat) : Int) = (v.many : Int)) && vals.all saidF) = false := by
        cases q : (decide (((vals.length : Nat) : Int) = (v.many : Int)) && vals.all saidF) with
        | false => rfl
        | true =>
          rw [Bool.and_eq_true] at q
          exact absurd ⟨by have := of_decide_eq_true q.1; omega, q.2⟩ hbad
      rw [hb]
      walk_at "rd"
      exact ⟨by show 1 ≤ sizeLine; decide, kE hbad H1 s1⟩
    obtain ⟨hlen, hsd⟩ := hbad
    have k := k hlen hsd
    walk_at "rd"
    refine ⟨_, _, _, _, _, rfl, (hv).ins, T.cl, T.na_many, rfl, ?_⟩
    walk_at "rd"
    refine ⟨p, vals, _, rfl, hp, by omega, fun H1 s1 => ?_⟩
    rw [decide_eq_true (by omega : ((vals.length : Nat) : Int) = (v.many : Int)), hsd, Bool.true_and]
    walk_at "rd"
    have v1 := hv.same s1
    have p1 := s1 _ _ hp
    refine ⟨_, _, _, rfl, v1.ins, rfl, ?_⟩
    walk_at "rd"
    refine ⟨x, dx, lo, co, p, v, vals, rfl, v1, p1, hlen, fun H2 D s2 hD => ?_⟩
    have v2 := (v1.same s2).same ((Same.refl H2).upd hD (o := .lst ((v.there vals).map V.int)))
    have p2 := (Same.refl H2).upd hD (o := .lst ((v.there vals).map V.int)) _ _ (s2 _ _ p1)
    have d2 : upd H2 D (.lst ((v.there vals).map V.int)) D = some (.lst ((v.there vals).map V.int)) := upd_same
    have e2 : Same H (upd H2 D (.lst ((v.there vals).map V.int))) := (Same.trans s1 s2).upd hD
    have nDl : D ≠ lo := fun q => by rw [q, (v1.same s2).hlo] at hD; cases hD
    have nDc : D ≠ co := fun q => by rw [q, (v1.same s2).hco] at hD; cases hD
    generalize upd H2 D (.lst ((v.there vals).map V.int)) = H3 at v2 p2 d2 e2 ⊢
    walk_at "rd"
    refine ⟨_, _, _, _, _, rfl, (v2).ins, T.cl, T.na_last, rfl, ?_⟩
    walk_at "rd"
    have hl64 : (v.there vals).length < 64 := Nat.lt_of_le_of_lt (thereF_len _ _ _) (by omega)
    refine ⟨D, v.there vals, _, rfl, SqL.of d2, hl64, fun H4 s4 => ?_⟩
    have v4 := v2.same s4
    have p4 := s4 _ _ p2
    have d4 := s4 _ _ d2
    have e4 := Same.trans e2 s4
    walk_at "rd"
    refine ⟨_, _, _, _, _, rfl, (v4).ins, T.cl, T.na_many, rfl, ?_⟩
    walk_at "rd"
    have ev : midE (v.there vals) v.last = v.value vals := rfl
    rw [ev]
    refine ⟨(v.many : Int), rfl, by omega, by omega, for_range (n := ((v.many : Nat) : Int).toNat) (fun i σ H5 => ∃ x1 x2, σ = [some (.ref x), some (.ref p), some (.ref D), some (.int (v.value vals)), x1, x2] ∧ SameX [lo, co] H4 H5 ∧
      VO A.C H5 x dx lo co (v.put (loopF v.misses v.backs v.thr (v.value vals) (decide (0 < (v.there vals).length)) vals i (v.outs, v.cnts))))
      ⟨_, _, rfl, SameX.refl, v4⟩ ?_ ?_⟩
    · rintro i σ H5 hi ⟨x1, x2, rfl, e5, v5⟩
      rw [Int.toNat_natCast] at hi
      have ni : p ∉ [lo, co] := by simp [npl, npc]
      have nd : D ∉ [lo, co] := by simp [nDl, nDc]
      have p5 := e5 _ _ ni p4
      have d5 := e5 _ _ nd d4
      rw [loopF_at]
      obtain ⟨ll1, ll2⟩ := loopF_len (misses := v.misses) (backs := v.backs) (thr := v.thr) (value := v.value vals) (some := decide (0 < (v.there vals).length)) (vals := vals) (n := i) (s := (v.outs, v.cnts))
      generalize loopF v.misses v.backs v.thr (v.value vals) (decide (0 < (v.there vals).length)) vals i (v.outs, v.cnts) = s5 at v5 ll1 ll2 ⊢
      have l1 : s5.1.length = v.many := ll1.trans hol
      have l2 : s5.2.length = v.many := ll2.trans hcl
      walk_at "rd"
      rw [show (0 : Int) + (i : Int) = (i : Int) by omega]
      refine rd_ixL (SqL.of p5) (atI_opt (by omega)) ?_
      cases ho : vals.getD i none with
      | none =>
        walk_at "rd"
        refine ⟨_, _, _, _, _, rfl, (v5).ins, T.cl, T.na_left_out, rfl, ?_⟩
        walk_at "rd"
        refine rd_ixL (SqL.of v5.hlo) (atI_bls (by rw [v5.ok.ol]; exact hi)) ?_
        walk_at "rd"
        refine rd_nbool (fun h1 => ?_) (fun h1 => ?_)
        · rw [turn_in h1]
          walk_at "rd"
          refine ⟨_, _, _, rfl, v5.ins, rfl, ?_⟩
          walk_at "rd"
          refine ⟨x, dx, lo, co, _, i, _, rfl, v5, hi, fun H6 s6 v6 => ?_⟩
          walk_at "rd"
          exact ⟨_, _, rfl, e5.trans s6, v6⟩
        · rw [turn_out h1]
          walk_at "rd"
          refine ⟨_, _, _, rfl, v5.ins, rfl, ?_⟩
          walk_at "rd"
          refine ⟨x, dx, lo, co, _, i, _, rfl, v5, hi, fun H6 s6 v6 => ?_⟩
          walk_at "rd"
          exact ⟨_, _, rfl, e5.trans s6, v6⟩
      | some n =>
        walk_at "rd"
        refine rd_ixL (SqL.of p5) (atI_opt (by omega)) ?_
        rw [ho]
        walk_at "rd"
        refine ⟨_, _, _, _, _, rfl, (v5).ins, T.cl, T.na_threshold, rfl, ?_⟩
        walk_at "rd"
        refine ⟨_, _, _, rfl, ?_⟩
        walk_at "rd"
        refine ⟨_, _, _, _, _, rfl, (v5).ins, T.cl, T.na_left_out, rfl, ?_⟩
        walk_at "rd"
        refine rd_ixL (SqL.of v5.hlo) (atI_bls (by rw [v5.ok.ol]; exact hi)) ?_
        walk_at "rd"
        refine rd_nbool (fun h1 => ?_) (fun h1 => ?_)
        · rw [turn_in h1]
          walk_at "rd"
          refine ⟨_, _, _, rfl, v5.ins, rfl, ?_⟩
          walk_at "rd"
          refine ⟨x, dx, lo, co, _, i, _, rfl, v5, hi, fun H6 s6 v6 => ?_⟩
          walk_at "rd"
          exact ⟨_, _, rfl, e5.trans s6, v6⟩
        · rw [turn_out h1]
          walk_at "rd"
          refine ⟨_, _, _, rfl, v5.ins, rfl, ?_⟩
          walk_at "rd"
          have nf : nearF v.thr (v.value vals) (some n) = decide (absI (n - v.value vals) ≤ v.thr) := rfl
          refine rd_dec (fun h2 => ?_) (fun h2 => ?_)
          · walk_at "rd"
            refine rd_lenL (SqL.of d5) ?_
            rw [List.length_map]
            walk_at "rd"
            refine ⟨x, dx, lo, co, _, i, _, rfl, v5, hi, fun H6 s6 v6 => ?_⟩
            walk_at "rd"
            refine ⟨_, _, rfl, e5.trans s6, ?_⟩
            rw [nf, decide_eq_true (show absI (n - v.value vals) ≤ v.thr from h2), Bool.true_and]
            have e0 : decide ((((v.there vals).length : Nat) : Int) > 0) = decide (0 < (v.there vals).length) := by
              by_cases hc : 0 < (v.there vals).length
              · rw [decide_eq_true hc, decide_eq_true (by omega)]
              · rw [decide_eq_false hc, decide_eq_false (by omega)]
            rw [← e0]
            exact v6
          · refine ⟨x, dx, lo, co, _, i, _, rfl, v5, hi, fun H6 s6 v6 => ?_⟩
            walk_at "rd"
            refine ⟨_, _, rfl, e5.trans s6, ?_⟩
            rw [nf, decide_eq_false (show ¬ absI (n - v.value vals) ≤ v.thr from h2), Bool.false_and]
            exact v6
    · rw [Int.toNat_natCast]
      rintro σ H5 ⟨x1, x2, rfl, e5, v5⟩
      have ni : p ∉ [lo, co] := by simp [npl, npc]
      have nd : D ∉ [lo, co] := by simp [nDl, nDc]
      have d5 := e5 _ _ nd d4
      walk_at "rd"
      refine ⟨_, _, _, _, _, rfl, (v5).ins, T.cl, T.na_last, rfl, ?_⟩
      walk_at "rd"
      refine ⟨_, _, _, _, _, rfl, (v5).ins, T.cl, T.na_rate, rfl, ?_⟩
      walk_at "rd"
      refine ⟨_, _, _, rfl, ?_⟩
      walk_at "rd"
      refine ⟨_, _, _, _, rfl, v5.ins, T.cl, T.na_last, by show 8 < 1000; decide, ?_⟩
      have v6 : VO A.C (upd H5 x (.ins A.C dx (putF "last" (.int (movF v.last (v.value vals) v.rate)) (flds (v.put (v.oc vals)) lo co)))) x dx lo co (v.step vals) :=
        ⟨upd_same, by rw [upd_ne (Ne.symm v5.nl)]; exact v5.hlo, by rw [upd_ne (Ne.symm v5.nc)]; exact v5.hco, hv.ok.step vals, hv.ne⟩
      have e6 : SameX [x, lo, co] H (upd H5 x (.ins A.C dx (putF "last" (.int (movF v.last (v.value vals) v.rate)) (flds (v.put (v.oc vals)) lo co)))) :=
        (((samex_of e4).trans (e5.wid (by intro b hb; exact List.mem_cons_of_mem _ hb)))).upd (by simp)
      have d6 : upd H5 x (.ins A.C dx (putF "last" (.int (movF v.last (v.value vals) v.rate)) (flds (v.put (v.oc vals)) lo co))) D = some (.lst ((v.there vals).map V.int)) := by
        rw [upd_ne (ne_of d5 v5.ins (by intro z; cases z))]
        exact d5
      show _
      generalize hH : upd H5 x (.ins A.C dx (putF "last" (.int (movF v.last (v.value vals) v.rate)) (flds (v.put (v.oc vals)) lo co))) = H6 at v6 e6 d6
      have hH' : upd H5 x (.ins A.C dx (putF "last" (.int (movF (v.put (loopF v.misses v.backs v.thr (v.value vals) (decide (0 < (v.there vals).length)) vals v.many (v.outs, v.cnts))).last (v.value vals) (v.put (loopF v.misses v.backs v.thr (v.value vals) (decide (0 < (v.there vals).length)) vals v.many (v.outs, v.cnts))).rate)) (flds (v.put (loopF v.misses v.backs v.thr (v.value vals) (decide (0 < (v.there vals).length)) vals v.many (v.outs, v.cnts))) lo co))) = H6 := hH
      rw [hH']
      walk_at "rd"
      refine ⟨_, _, _, _, _, rfl, (v6).ins, T.cl, T.na_last, rfl, ?_⟩
      walk_at "rd"
      refine ⟨_, _, _, _, _, rfl, (v6).ins, T.cl, T.na_threshold, rfl, ?_⟩
      walk_at "rd"
      refine ⟨_, _, _, _, _, rfl, (v6).ins, T.cl, T.na_many, rfl, ?_⟩
      walk_at "rd"
      refine ⟨D, v.there vals, _, _, _, rfl, SqL.of d6, by omega, fun H7 s7 => ?_⟩
      walk_at "rd"
      refine ⟨by show 2 ≤ sizeLine; decide, fun t ht => ?_⟩
      exact k H7 t (e6.trans (samex_of s7)) (v6.same s7) ht
theorem ok_Voter_step (T : Txt K mg A) : FnOk P w K mg base CX0 4 A.a_Voter_step A.d_Voter_step ["self", "values"] (sp_step A.C) :=
  (ok_step_x T).calm.imp fun vs H Q E h => by
    obtain ⟨x, dx, lo, co, p, v, vals, hvs, hv, hp, npl, npc, hlen, hsd, k⟩ := h
    have := hv.ok.m9
    exact ⟨x, dx, lo, co, p, v, vals, hvs, hv, hp, npl, npc, by omega, fun _ _ => k, fun z => absurd ⟨hlen, hsd⟩ z⟩
end

open PySem L2 PyProof.Rows


def sp_who (C : Addr) : Sp := fun vs H Q _ => ∃ (x dx lo co : Addr) (v : VS), vs = [.ref x] ∧ VO C H x dx lo co v ∧ ∀ (H' : Hp) (D : Addr), Same H H' → H' D = none → Q (.ref D) (upd H' D (.lst (v.outs.map V.bl)))
def sp_run (BS BT : Addr) : Sp := fun vs H Q E => ∃ (p D : Addr) (as : List Addr) (rows : List (List (Option Int))) (a b c d e st : Int), vs = [.ref p, .int st, .ref D] ∧ H p = some (.tup [.int a, .int b, .int c, .int d, .int e]) ∧ RowsIn H D as rows ∧ rows.length ≤ 100 ∧ (∀ i, i < rows.length → (rows.getD i []).length ≤ 1000) ∧
  (setOk a b c d e = true → RowsOk a.toNat rows → ∀ (H' : Hp) (R : Addr) (xs : List V), Same H H' → H R = none → H' R = some (.lst xs) → PrsIn H' xs ((List.range rows.length).map (prAt (VS.new a b c d e st) rows)) → Q (.ref R) H') ∧
  (setOk a b c d e = true → ¬ RowsOk a.toNat rows → ∀ H' : Hp, Same H H' → E (.ref BT) none H') ∧ (setOk a b c d e = false → ∀ H' : Hp, Same H H' → E (.ref BS) none H')
def sp_outs (BS BT : Addr) : Sp := fun vs H Q E => ∃ (p D : Addr) (as : List Addr) (rows : List (List (Option Int))) (a b c d e st : Int), vs = [.ref p, .int st, .ref D] ∧ H p = some (.tup [.int a, .int b, .int c, .int d, .int e]) ∧ RowsIn H D as rows ∧ rows.length ≤ 100 ∧ (∀ i, i < rows.length → (rows.getD i []).length ≤ 1000) ∧
  (setOk a b c d e = true → RowsOk a.toNat rows → ∀ (H' : Hp) (R : Addr) (xs : List V), Same H H' → H R = none → H' R = some (.lst xs) → TrsIn H' xs (trAt (VS.new a b c d e st) rows rows.length) → Q (.ref R) H') ∧
  (setOk a b c d e = true → ¬ RowsOk a.toNat rows → ∀ H' : Hp, Same H H' → E (.ref BT) none H') ∧ (setOk a b c d e = false → ∀ H' : Hp, Same H H' → E (.ref BS) none H')
section
variable {P : Program} {w : World} {K : PySem.W.Frag} {mg : Str → Option Value} {base : Heap} {A : Ad}
theorem ok_who (T : Txt K mg A) : FnOk P w K mg base CX0 3 A.a_who_is_out A.d_who_is_out ["voter"] (sp_who A.C) := by
  have g_Voter_state : FnOk P w K mg base CX0 2 A.a_Voter_state A.d_Voter_state ["self", "place"] (sp_state A.C) := ok_Voter_state T
  refine T.F_who_is_out.ok sc_who_is_out (fun vs H Q E h => ?_) (fun cdv A' outer s H vs Q E hr h => ?_)
  · obtain ⟨x, dx, lo, co, v, rfl, _⟩ := h
    rfl
  · obtain ⟨x, dx, lo, co, v, rfl, hv, k⟩ := h
    have m9 := hv.ok.m9
    refine ⟨_, (pss_one (ps_ret (pe_comp ["place"] ["voter"] [0] (.cons rfl rfl (.inl rfl) (.nil)) rfl (pi_range1 rfl T.n_range (pa_cons (pe_fldK (K := K) (pv 0) rfl) pa_nil)) (fun _ _ _ _ => pg_name (i := 0) (show (["place", "voter"] : List Str).Nodup by decide +kernel) rfl (Or.inl rfl) (.inr rfl)) (fun _ _ _ _ => pts_nil) (fun _ _ _ _ => (pe_cmpR op_eq (pe_meth (pv 1) T.cl T.mt_state g_Voter_state (hr.mono (by decide)) T.b_Voter_state .nil pass0 (pa_cons (pv 0) pa_nil)) pe_str (nomark _))) (gown_name (by decide))))), ?_⟩
    walk_at "rd"
    refine ⟨_, _, _, _, _, rfl, (hv).ins, T.cl, T.na_many, rfl, ?_⟩
    walk_at "rd"
    refine ⟨(v.many : Int), rfl, by omega, by omega, comp_range (n := ((v.many : Nat) : Int).toNat) (τ := [none, some (.ref x)]) rfl (by rw [Int.toNat_natCast]; exact Nat.le_trans m9 (by decide))
      (fun i ys H2 => Same H H2 ∧ ys = ((List.range i).map fun j => v.outs.getD j true).map V.bl) ⟨Same.refl H, rfl⟩ ?_ ?_ ?_⟩
    · rintro i ys H2 hi ⟨hs, rfl⟩
      rw [List.length_map, List.length_map, List.length_range]
      exact Nat.le_refl _
    · rintro i ys H2 hi ⟨hs, rfl⟩
      rw [Int.toNat_natCast] at hi
      rw [show (0 : Int) + (i : Int) = (i : Int) by omega]
      have v2 := hv.same hs
      walk_at "rd"
      refine ⟨_, _, _, rfl, v2.ins, rfl, ?_⟩
      walk_at "rd"
      refine ⟨_, _, _, _, _, i, rfl, v2, hi, ?_⟩
      walk_at "rd"
      rw [state_out]
      refine ⟨hs, ?_⟩
      rw [List.range_succ, List.map_append, List.map_append]
      rfl
    · rintro ys H2 ⟨hs, rfl⟩ D hD
      rw [Int.toNat_natCast, ← hv.ok.ol, map_getD_range]
      exact k H2 D hs hD
theorem ok_run (T : Txt K mg A) : FnOk P w K mg base (Fly P w) 5 A.a_run A.d_run ["settings", "start", "steps"] (sp_run A.c_BadSettings A.c_BadStep) := by
  have g_Voter___init__ : FnOk P w K mg base (Fly P w) 3 A.a_Voter___init__ A.d_Voter___init__ ["self", "settings", "start"] (sp_initX A.C A.c_BadSettings) := ok_init_x T
  have g_Voter_step : FnOk P w K mg base (Fly P w) 4 A.a_Voter_step A.d_Voter_step ["self", "values"] (sp_stepX A.C A.c_BadStep) := ok_step_x T
  refine T.F_run.okF sc_run (fun vs H Q E h => ?_) (fun cdv A' outer s H vs Q E hr h => ?_)
  · obtain ⟨p, D, as, rows, a, b, c, d, e, st, rfl, _⟩ := h
    rfl
  · obtain ⟨p, D, as, rows, a, b, c, d, e, st, rfl, hp, hR, hn, hrb, k, kT, kS⟩ := h
    refine ⟨_, (pss_cons (ps_set (i := 3) sc_run.nd rfl (Or.inr rfl) (pe_make T.M_Voter g_Voter___init__ (hr.mono (by decide)) rfl T.m_Voter T.b_Voter___init__ .nil flier_def.pass (pa_cons (pv 0) (pa_cons (pv 1) pa_nil))))
      (pss_one (ps_ret (pe_compE rfl rfl flier_def.pass ["values"] ["voter"] [3] (.cons rfl rfl (.inl rfl) (.nil)) rfl (pv 2) (fun _ _ _ _ => pg_name (i := 0) (show (["values", "voter"] : List Str).Nodup by decide +kernel) rfl (Or.inl rfl) (.inr rfl)) (fun _ _ _ _ => pts_nil) (fun _ _ _ _ _ hp => (pe_meth (pv 1) T.cl T.mt_step g_Voter_step (hr.mono (by decide)) T.b_Voter_step .nil hp (pa_cons (pv 0) pa_nil))) (gown_name (by decide)))))), ?_⟩
    walk_at "rd"
    intro x dx hx hdx hne
    have sx : Same H (upd (upd H dx (.own x)) x (.ins A.C dx [])) := ((Same.refl H).upd hdx).upd (by rw [upd_ne (Ne.symm hne)]; exact hx)
    refine ⟨x, dx, p, a, b, c, d, e, st, rfl, upd_same, sx _ _ hp, fun hok H1 lo co e1 nlo nco v1 => ⟨rfl, ?_⟩, fun hbad H1 s1 => kS hbad H1 (Same.trans sx s1)⟩
    have k := k hok
    have kT := kT hok
    have s1 : Same H H1 := fun q u eb => e1 q u (by rw [List.mem_singleton]; exact ne_of_none eb hx) (sx q u eb)
    have nlo := sx.free nlo
    have nco := sx.free nco
    have hm : (VS.new a b c d e st).many = a.toNat := rfl
    generalize hv0 : VS.new a b c d e st = v0 at v1 hm k
    have R1 := hR.same s1
    walk_at "rd"
    refine ⟨D, rfl, ⟨_, SqL.of R1.lst⟩, comp_list (xs := as.map V.ref) (τ := [none, some (.ref x)]) rfl (by rw [List.length_map, hR.len]; exact Nat.le_trans (Nat.le_trans hn (by decide)) line1000)
      (fun i ys H2 => Same H H2 ∧ VO A.C H2 x dx lo co (vAt v0 rows i) ∧ PrsIn H2 ys ((List.range i).map (prAt v0 rows)) ∧ ∀ j, j < i → (rows.getD j []).length = a.toNat ∧ (rows.getD j []).all saidF = true) ⟨s1, v1, ⟨rfl, fun i p e => by simp at e⟩, fun j hj => absurd hj (Nat.not_lt_zero _)⟩ ?_ ?_ ?_⟩
    · rintro i ys H2 hi ⟨hs, hv, hpr, hrk⟩
      refine ⟨SqL.of (hs _ _ hR.lst), ?_⟩
      rw [hpr.1, List.length_map, List.length_range]
      exact Nat.le_refl _
    · rintro i y ys H2 hy ⟨hs, hv, hpr, hrk⟩
      obtain ⟨q, eq, rfl⟩ := refs_at hy
      have hi : i < rows.length := by rw [← hR.len]; exact (List.getElem?_eq_some_iff.mp eq).1
      have hq := hR.row i q eq
      have mi : (vAt v0 rows i).many = a.toNat := by rw [vAt_many, hm]
      walk_at "rd"
      refine ⟨_, _, _, rfl, hv.ins, rfl, ?_⟩
      walk_at "rd"
      refine ⟨_, _, _, _, q, _, rows.getD i [], rfl, hv, hs _ _ hq, ne_of_none hq nlo, ne_of_none hq nco, hrb i hi, fun hl hsd H3 t e3 v3 nt => ?_, fun hbad H3 s3 => kT (fun z => hbad ⟨by rw [mi]; exact (z i hi).1, (z i hi).2⟩) H3 (Same.trans hs s3)⟩
      have s3 : Same H H3 := fun b u eb => e3 b u (by simp only [List.mem_cons, List.not_mem_nil, or_false, not_or]; exact ⟨ne_of_none eb hx, ne_of_none eb nlo, ne_of_none eb nco⟩) (hs _ _ eb)
      refine ⟨s3.upd nt, v3.same ((Same.refl H3).upd nt), ?_, fun j hj => ?_⟩
      · rw [List.range_succ, List.map_append]
        exact (hpr.keep ((hv.keepT e3).trans (KeepT.of ((Same.refl H3).upd nt)))).snoc (p := prAt v0 rows i) upd_same
      · by_cases hc : j < i
        · exact hrk j hc
        · have : j = i := by omega
          subst this
          exact ⟨by rw [← mi]; exact hl, hsd⟩
    · rintro ys H2 ⟨hs, hv, hpr, hrk⟩ R hRn
      rw [List.length_map, hR.len] at hpr hrk
      exact k hrk _ R ys (hs.upd hRn) (hs.free hRn) upd_same (hpr.keep (KeepT.of ((Same.refl H2).upd hRn)))
theorem ok_outs (T : Txt K mg A) : FnOk P w K mg base (Fly P w) 5 A.a_outs A.d_outs ["settings", "start", "steps"] (sp_outs A.c_BadSettings A.c_BadStep) := by
  have g_Voter___init__ : FnOk P w K mg base (Fly P w) 3 A.a_Voter___init__ A.d_Voter___init__ ["self", "settings", "start"] (sp_initX A.C A.c_BadSettings) := ok_init_x T
  have g_Voter_step : FnOk P w K mg base (Fly P w) 4 A.a_Voter_step A.d_Voter_step ["self", "values"] (sp_stepX A.C A.c_BadStep) := ok_step_x T
  have g_who_is_out : FnOk P w K mg base CX0 3 A.a_who_is_out A.d_who_is_out ["voter"] (sp_who A.C) := ok_who T
  refine T.F_outs.okF sc_outs (fun vs H Q E h => ?_) (fun cdv A' outer s H vs Q E hr h => ?_)
  · obtain ⟨p, D, as, rows, a, b, c, d, e, st, rfl, _⟩ := h
    rfl
  · obtain ⟨p, D, as, rows, a, b, c, d, e, st, rfl, hp, hR, hn, hrb, k, kT, kS⟩ := h
    refine ⟨_, (pss_cons (ps_set (i := 3) sc_outs.nd rfl (Or.inl rfl) (pe_make T.M_Voter g_Voter___init__ (hr.mono (by decide)) rfl T.m_Voter T.b_Voter___init__ .nil flier_def.pass (pa_cons (pv 0) (pa_cons (pv 1) pa_nil))))
      (pss_cons (ps_set (i := 4) sc_outs.nd rfl (Or.inl rfl) (pe_lst pa_nil))
      (pss_cons (ps_set (i := 5) sc_outs.nd rfl (Or.inr rfl) (pe_call g_who_is_out (hr.mono (by decide)) rfl T.m_who_is_out T.F_who_is_out.kp T.b_who_is_out .nil pass0 (pa_cons (pv 3) pa_nil)))
      (pss_cons (ps_for flier_def.own rfl (pi_enum rfl T.n_enumerate (pa_cons (pv 2) pa_nil)) (pg_tup (n := 2) rfl (pgs_cons (pg_name (i := 6) sc_outs.nd rfl (Or.inr rfl)) (pgs_cons (pg_name (i := 7) sc_outs.nd rfl (Or.inl rfl)) pgs_nil)))
      (pss_cons (ps_set (i := 8) sc_outs.nd rfl (Or.inr rfl) (pv 5))
      (pss_cons (ps_expr (pe_meth (pv 3) T.cl T.mt_step g_Voter_step (hr.mono (by decide)) T.b_Voter_step .nil flier_def.pass (pa_cons (pv 7) pa_nil)))
      (pss_cons (ps_set (i := 5) sc_outs.nd rfl (Or.inr rfl) (pe_call g_who_is_out (hr.mono (by decide)) rfl T.m_who_is_out T.F_who_is_out.kp T.b_who_is_out .nil pass0 (pa_cons (pv 3) pa_nil)))
      (pss_one (ps_expr (pe_bm PySem.F.plainAttrs_list PySem.F.slot_list_extend PySem.F.type_list_extend mt_extend (pv 4) (pa_cons (pe_comp ["place"] ["behind", "ahead", "number"] [5, 8, 6] (.cons rfl rfl (.inl rfl) (.cons rfl rfl (.inl rfl) (.cons rfl rfl (.inl rfl) (.nil)))) rfl (pi_range1 rfl T.n_range (pa_cons (pe_callB (r := rLenS K) call_lenN (by rfl) T.n_len boot_len (pa_cons (pv 8) pa_nil)) pa_nil)) (fun _ _ _ _ => pg_name (i := 0) (show (["place", "behind", "ahead", "number"] : List Str).Nodup by decide +kernel) rfl (Or.inl rfl) (.inr rfl)) (fun _ _ _ _ => pts_one (pt_cmpR op_ne (pe_ix (r := rIxL K) ix_list (pv 1) (pv 0) (fun _ _ => rfl)) (pe_ix (r := rIxL K) ix_list (pv 2) (pv 0) (fun _ _ => rfl)) (nomark _))) (fun _ _ _ _ => (pe_tup (pa_cons (pv 3) (pa_cons (pv 0) (pa_cons (pe_ix (r := rIxL K) ix_list (pv 1) (pv 0) (fun _ _ => rfl)) pa_nil))))) (gown_name (by decide))) pa_nil))))))))
      (pss_one (ps_ret (pv 4))))))), ?_⟩
    walk_at "rd"
    intro x dx hx hdx hne
    have sx : Same H (upd (upd H dx (.own x)) x (.ins A.C dx [])) := ((Same.refl H).upd hdx).upd (by rw [upd_ne (Ne.symm hne)]; exact hx)
    refine ⟨x, dx, p, a, b, c, d, e, st, rfl, upd_same, sx _ _ hp, fun hok H1 lo co e1 nlo nco v1 => ⟨rfl, ?_⟩, fun hbad H1 s1 => kS hbad H1 (Same.trans sx s1)⟩
    have k := k hok
    have kT := kT hok
    have s1 : Same H H1 := fun q u eb => e1 q u (by rw [List.mem_singleton]; exact ne_of_none eb hx) (sx q u eb)
    have nlo := sx.free nlo
    have nco := sx.free nco
    have hm : (VS.new a b c d e st).many = a.toNat := rfl
    generalize hv0 : VS.new a b c d e st = v0 at v1 hm k
    have m9 := v1.ok.m9
    walk_at "rd"
    refine ⟨Nat.zero_le _, fun Ch hCh => ?_⟩
    have s2 : Same H1 (upd H1 Ch (.lst [])) := (Same.refl H1).upd hCh
    have C2 : upd H1 Ch (.lst []) Ch = some (.lst []) := upd_same
    have v2 := v1.same s2
    have nCl : Ch ≠ lo := fun q => ne_of_none v1.hlo hCh q.symm
    have nCc : Ch ≠ co := fun q => ne_of_none v1.hco hCh q.symm
    have nCh : H Ch = none := s1.free hCh
    have s2 := Same.trans s1 s2
    generalize upd H1 Ch (.lst []) = H2 at s2 C2 v2 ⊢
    walk_at "rd"
    refine ⟨_, _, _, _, _, rfl, v2, fun H3 B s3 nB => ?_⟩
    have s3' : Same H2 (upd H3 B (.lst (v0.outs.map V.bl))) := s3.upd nB
    have B3 : upd H3 B (.lst (v0.outs.map V.bl)) B = some (.lst ((vAt v0 rows 0).outs.map V.bl)) := upd_same
    have nBl : B ≠ lo := fun q => ne_of_none (s3 _ _ v2.hlo) nB q.symm
    have nBc : B ≠ co := fun q => ne_of_none (s3 _ _ v2.hco) nB q.symm
    have nBC : B ≠ Ch := fun q => ne_of_none (s3 _ _ C2) nB q.symm
    have v3 : VO A.C (upd H3 B (.lst (v0.outs.map V.bl))) x dx lo co (vAt v0 rows 0) := v2.same s3'
    have C3 := s3' _ _ C2
    have s4 := Same.trans s2 s3'
    generalize upd H3 B (.lst (v0.outs.map V.bl)) = H4 at B3 v3 C3 s4 ⊢
    walk_at "rd"
    refine ⟨D, rfl, ⟨_, SqL.of (hR.same s4).lst⟩, for_enum (xs := as.map V.ref) (fun i σ H5 => ∃ (B : Addr) (xs : List V) (z1 z2 z3 : Option V), σ = [some (.ref p), some (.int st), some (.ref D), some (.ref x), some (.ref Ch), some (.ref B), z1, z2, z3] ∧
      Same H H5 ∧ VO A.C H5 x dx lo co (vAt v0 rows i) ∧ H5 B = some (.lst ((vAt v0 rows i).outs.map V.bl)) ∧ B ≠ lo ∧ B ≠ co ∧ B ≠ Ch ∧ H5 Ch = some (.lst xs) ∧ TrsIn H5 xs (trAt v0 rows i) ∧ ∀ j, j < i → (rows.getD j []).length = a.toNat ∧ (rows.getD j []).all saidF = true)
      ⟨B, [], _, _, _, rfl, s4, v3, B3, nBl, nBc, nBC, C3, TrsIn.nil, fun j hj => absurd hj (Nat.not_lt_zero _)⟩ ?_ ?_ ?_⟩
    · rintro i σ H5 hi ⟨B, xs, z1, z2, z3, rfl, s5, _⟩
      exact SqL.of (hR.same s5).lst
    · rintro i y σ H5 t hy ⟨B, xs, z1, z2, z3, rfl, s5, v5, B5, nBl, nBc, nBC, C5, T5, hrk⟩ ht
      obtain ⟨q, eq, rfl⟩ := refs_at hy
      have hi : i < rows.length := by rw [← hR.len]; exact (List.getElem?_eq_some_iff.mp eq).1
      have hq := hR.row i q eq
      have mi : (vAt v0 rows i).many = a.toNat := by rw [vAt_many, hm]
      have s6 : Same H5 (upd H5 t (.tup [.int i, .ref q])) := (Same.refl H5).upd ht
      refine rd_gtup (SqT.of upd_same) rfl ?_
      have v6 := v5.same s6
      have B6 := s6 _ _ B5
      have C6 := s6 _ _ C5
      have T6 := T5.keep (KeepT.of s6)
      have s6 := Same.trans s5 s6
      generalize upd H5 t (.tup [.int i, .ref q]) = H6 at v6 B6 C6 T6 s6 ⊢
      walk_at "rd"
      refine ⟨_, _, _, rfl, v6.ins, rfl, ?_⟩
      walk_at "rd"
      refine ⟨_, _, _, _, q, _, rows.getD i [], rfl, v6, s6 _ _ hq, ne_of_none hq nlo, ne_of_none hq nco, hrb i hi, fun hl hsd H7 t7 e7 v7 nt7 => ?_, fun hbad H7 s7 => kT (fun z => hbad ⟨by rw [mi]; exact (z i hi).1, (z i hi).2⟩) H7 (Same.trans s6 s7)⟩
      have e7' : SameX [x, lo, co] H6 (upd H7 t7 (.tup [.int ((vAt v0 rows i).step (rows.getD i [])).last, .str ((vAt v0 rows i).word (rows.getD i []))])) := e7.new nt7
      have v8 : VO A.C (upd H7 t7 (.tup [.int ((vAt v0 rows i).step (rows.getD i [])).last, .str ((vAt v0 rows i).word (rows.getD i []))])) x dx lo co (vAt v0 rows (i + 1)) := v7.same ((Same.refl H7).upd nt7)
      generalize upd H7 t7 (.tup [.int ((vAt v0 rows i).step (rows.getD i [])).last, .str ((vAt v0 rows i).word (rows.getD i []))]) = H8 at e7' v8 ⊢
      have s8 : Same H H8 := fun b u eb => e7' b u (by simp only [List.mem_cons, List.not_mem_nil, or_false, not_or]; exact ⟨ne_of_none eb hx, ne_of_none eb nlo, ne_of_none eb nco⟩) (s6 _ _ eb)
      have B8 := e7' _ _ (by simp only [List.mem_cons, List.not_mem_nil, or_false, not_or]; exact ⟨v6.nop B6, nBl, nBc⟩) B6
      have C8 := e7' _ _ (by simp only [List.mem_cons, List.not_mem_nil, or_false, not_or]; exact ⟨v6.nop C6, nCl, nCc⟩) C6
      have T8 := T6.keep (v6.keepT e7')
      walk_at "rd"
      refine ⟨_, _, _, _, _, rfl, v8, fun H9 B' s9 nB' => ?_⟩
      have s9' : Same H8 (upd H9 B' (.lst ((vAt v0 rows (i + 1)).outs.map V.bl))) := s9.upd nB'
      have Bn : upd H9 B' (.lst ((vAt v0 rows (i + 1)).outs.map V.bl)) B' = some (.lst ((vAt v0 rows (i + 1)).outs.map V.bl)) := upd_same
      have nBl' : B' ≠ lo := fun z => ne_of_none (s9 _ _ v8.hlo) nB' z.symm
      have nBc' : B' ≠ co := fun z => ne_of_none (s9 _ _ v8.hco) nB' z.symm
      have nBC' : B' ≠ Ch := fun z => ne_of_none (s9 _ _ C8) nB' z.symm
      have v10 := v8.same s9'
      have B10 := s9' _ _ B8
      have C10 := s9' _ _ C8
      have T10 := T8.keep (KeepT.of s9')
      have s10 := Same.trans s8 s9'
      generalize upd H9 B' (.lst ((vAt v0 rows (i + 1)).outs.map V.bl)) = H10 at Bn v10 B10 C10 T10 s10 ⊢
      have ol1 := (vAt_ok v1.ok rows i).ol
      have ol2 := (vAt_ok v1.ok rows (i + 1)).ol
      have mm1 := vAt_many (v := v0) rows i
      have mm2 := vAt_many (v := v0) rows (i + 1)
      walk_at "rd"
      refine ⟨.inl ⟨rfl, _, SqL.of C10⟩, ?_⟩
      walk_at "rd"
      refine rd_lenL (SqL.of B10) ?_
      rw [List.length_map, ol1, mm1]
      walk_at "rd"
      refine ⟨(v0.many : Int), rfl, by omega, by omega, comp_range (n := ((v0.many : Nat) : Int).toNat) (τ := [none, some (.ref B'), some (.ref B), some (.int i)]) rfl (by rw [Int.toNat_natCast]; exact Nat.le_trans m9 (by decide))
        (fun j ys H11 => Same H10 H11 ∧ TrsIn H11 ys ((chF (vAt v0 rows i) (vAt v0 rows (i + 1)) j).map fun c => ((i : Int), c.1, c.2))) ⟨Same.refl H10, TrsIn.nil⟩ ?_ ?_ ?_⟩
      · rintro j ys H11 hj ⟨hs, hT⟩
        rw [hT.1, List.length_map]
        exact chF_len _ _ _
      · rintro j ys H11 hj ⟨hs, hT⟩
        rw [Int.toNat_natCast] at hj
        rw [show (0 : Int) + (j : Int) = (j : Int) by omega, chF_succ, List.map_append]
        walk_at "rd"
        refine rd_ixL (SqL.of (hs _ _ Bn)) (atI_bls (by omega)) ?_
        walk_at "rd"
        refine rd_ixL (SqL.of (hs _ _ B10)) (atI_bls (by omega)) ?_
        walk_at "rd"
        refine rd_ndec (fun h1 => ?_) (fun h1 => ?_)
        · rw [if_neg h1]
          walk_at "rd"
          refine rd_ixL (SqL.of (hs _ _ Bn)) (atI_bls (by omega)) ?_
          walk_at "rd"
          refine ⟨by show 3 ≤ sizeLine; decide, fun t12 ht12 => ?_⟩
          exact ⟨hs.upd ht12, (hT.keep (KeepT.of ((Same.refl H11).upd ht12))).append (TrsIn.one upd_same)⟩
        · rw [if_pos h1]
          refine ⟨hs, ?_⟩
          rw [List.map_nil, List.append_nil]
          exact hT
      rintro ys H11 ⟨hs, hT⟩ E11 hE11
      rw [Int.toNat_natCast] at hT
      have s12 : Same H10 (upd H11 E11 (.lst ys)) := hs.upd hE11
      have T12 := T10.keep (KeepT.of s12)
      have Y12 := hT.keep (KeepT.of ((Same.refl H11).upd hE11 (o := .lst ys)))
      have tl := trAt_len v0 m9 rows i
      have cl := chF_len (vAt v0 rows i) (vAt v0 rows (i + 1)) v0.many
      have C12 := s12 _ _ C10
      walk_at "rd"
      refine rd_extend C12 upd_same (by rw [T12.1, Y12.1, List.length_map]; exact Nat.le_trans (by omega : _ ≤ 1000) line1000) ?_
      have nT : ∀ xs', upd H11 E11 (.lst ys) Ch ≠ some (.tup xs') := fun xs' z => by rw [C12] at z; cases z
      have kt : KeepT (upd H11 E11 (.lst ys)) (upd (upd H11 E11 (.lst ys)) Ch (.lst (xs ++ ys))) := (KeepT.of (Same.refl _)).upd nT
      have v12 := v10.same s12
      refine ⟨B', xs ++ ys, _, _, _, rfl, fun b u eb => ?_, ⟨?_, ?_, ?_, v12.ok, v12.ne⟩, ?_, nBl', nBc', nBC', upd_same, ?_, fun j hj => ?_⟩
      · rw [upd_ne (ne_of_none eb nCh)]
        exact s12 _ _ (s10 _ _ eb)
      · rw [upd_ne (fun z => v12.nop C12 z.symm)]
        exact v12.ins
      · rw [upd_ne (Ne.symm nCl)]
        exact v12.hlo
      · rw [upd_ne (Ne.symm nCc)]
        exact v12.hco
      · rw [upd_ne nBC']
        exact s12 _ _ Bn
      · exact (T12.append Y12).keep kt
      · by_cases hc : j < i
        · exact hrk j hc
        · have : j = i := by omega
          subst this
          exact ⟨by rw [← mi]; exact hl, hsd⟩
    · rintro σ H5 ⟨B, xs, z1, z2, z3, rfl, s5, v5, B5, nBl, nBc, nBC, C5, T5, hrk⟩
      rw [List.length_map, hR.len] at T5 hrk
      walk_at "rd"
      exact k hrk H5 Ch xs s5 nCh C5 T5
end

open PySem L2 PyProof.Rows


/-! ### what the law draws -/
def sp_cell (K : PySem.W.Frag) : Sp := fun vs H Q _ => ∃ (a : Addr) (ns : List Int) (k : Int), vs = [.ref a, .int k] ∧ SqL K H a (ns.map V.int) ∧ 0 ≤ k ∧ ns.length ≤ 63 ∧ ∀ (c : Int) (H' : Hp), Same H H' → Q (.int c) H'
def sp_drawn : Sp := fun vs H Q _ => ∃ c k : Int, vs = [.int c, .int k] ∧ ∀ m : Int, 0 ≤ m → m < 2 ^ 128 → Q (.int m) H
structure SetB (a b c d e : Int) : Prop where
  a3 : 3 ≤ a
  a9 : a ≤ 9
  b0 : 0 ≤ b
  b6 : b ≤ 1000000
  c1 : 1 ≤ c
  c6 : c ≤ 1000000
  d1 : 1 ≤ d
  d12 : d ≤ 12
  e1 : 1 ≤ e
  e12 : e ≤ 12
theorem SetB.ok {a b c d e : Int} (h : SetB a b c d e) : setOk a b c d e = true := by
  obtain ⟨h1, h2, h3, h4, h5, h6, h7, h8, h9, h10⟩ := h
  unfold setOk
  exact decide_eq_true (by omega)
def sp_settings : Sp := fun vs H Q _ => ∃ m : Int, vs = [.int m] ∧ ∀ (p : Addr) (a b c d e : Int) (H' : Hp), Same H H' → H p = none → H' p = some (.tup [.int a, .int b, .int c, .int d, .int e]) → SetB a b c d e → Q (.ref p) H'
def sp_values (K : PySem.W.Frag) : Sp := fun vs H Q _ => ∃ (a p : Addr) (ns : List Int) (k sa sb sc sd se base : Int), vs = [.ref a, .int k, .ref p, .int base] ∧ SqL K H a (ns.map V.int) ∧ ns.length ≤ 63 ∧ 0 ≤ k ∧ H p = some (.tup [.int sa, .int sb, .int sc, .int sd, .int se]) ∧ SetB sa sb sc sd se ∧
  ∀ (D : Addr) (vals : List (Option Int)) (H' : Hp), Same H H' → H D = none → H' D = some (.lst (vals.map toV)) → (vals.length : Int) = sa → vals.all saidF = true → Q (.ref D) H'
/-- rows of things, all new since H -/
structure Rows (H H' : Hp) (D : Addr) (as : List Addr) (rows : List (List (Option Int))) (m : Int) : Prop where
  lst : H' D = some (.lst (as.map V.ref))
  new : H D = none
  len : as.length = rows.length
  row : ∀ (i : Nat) (a : Addr), as[i]? = some a → ∃ r, rows[i]? = some r ∧ H' a = some (.lst (r.map toV)) ∧ H a = none ∧ a ≠ D
  all : ∀ r ∈ rows, (r.length : Int) = m ∧ r.all saidF = true
def sp_steps (K : PySem.W.Frag) : Sp := fun vs H Q _ => ∃ (a p : Addr) (ns : List Int) (n sa sb sc sd se : Int), vs = [.ref a, .ref p, .int n] ∧ SqL K H a (ns.map V.int) ∧ ns.length ≤ 63 ∧ 0 ≤ n ∧ n ≤ 100 ∧ H p = some (.tup [.int sa, .int sb, .int sc, .int sd, .int se]) ∧ SetB sa sb sc sd se ∧
  ∀ (D : Addr) (as : List Addr) (rows : List (List (Option Int))) (H' : Hp), Same H H' → Rows H H' D as rows sa → (rows.length : Int) = n → Q (.ref D) H'
def sp_law (K : PySem.W.Frag) : Sp := fun vs H Q _ => ∃ (a : Addr) (ns : List Int), vs = [.ref a] ∧ SqL K H a (ns.map V.int) ∧ ns.length ≤ 63 ∧ ∀ H', Q (.bl true) H'
def clipF (b : Int) : Option Int → Option Int
  | none => none
  | some i => some (if (if i < b then i else b) > -b then (if i < b then i else b) else -b)
section
variable {P : Program} {w : World} {K : PySem.W.Frag} {mg : Str → Option Value} {base : Heap} {A : Ad}
theorem ok_cell (T : Txt K mg A) : FnOk P w K mg base CX0 1 A.a__law_cell A.d__law_cell ["_law_script", "_law_k"] (sp_cell K) := by
  refine T.F__law_cell.ok sc__law_cell (fun vs H Q E h => ?_) (fun cdv A' outer s H vs Q E hr h => ?_)
  · obtain ⟨a, ns, k, rfl, _⟩ := h
    rfl
  · obtain ⟨a, ns, k, rfl, hS, hk, hlen, q⟩ := h
    refine ⟨_, (pss_cons (ps_if (pt_cmpR (r := rEqD K) (op_eqD hr.units) (pv 0) (pe_lst pa_nil) (nomark _))
      (pss_one (ps_ret (pe_op op_mul (pv 1) pe_int)))
      pss_nil)
      (pss_one (ps_ret (pe_op op_add (pe_ix (r := rIxL K) ix_list (pv 0) (pe_op op_mod (pv 1) (pe_callB (r := rLenS K) call_lenN (by rfl) T.n_len boot_len (pa_cons (pv 0) pa_nil))) (fun _ _ => rfl)) (pe_op op_mul (pe_op op_fdivL (pv 1) (pe_callB (r := rLenS K) call_lenN (by rfl) T.n_len boot_len (pa_cons (pv 0) pa_nil))) pe_int))))), ?_⟩
    walk_at "rd"
    refine ⟨Nat.zero_le _, fun p hp => ?_⟩
    have hs1 : Same H (upd H p (.lst [])) := (Same.refl H).upd hp
    have hS1 := hs1.seq hS
    refine ⟨_, _, .lst hS1 (.ints ns), .lst (SqL.of upd_same) .nil, by simpa [PyData.canLay0] using canLay_ints ns, by simp [PyData.canLay0, PyData.canLayAll0], by
      have := depth_ints ns
      simp only [PyData.depth]
      omega, ?_⟩
    walk_at "rd"
    refine rd_bool (fun h1 => ?_) (fun h1 => ?_)
    · walk_at "rd"
      exact q _ _ hs1
    · have hne : 0 < ns.length := by
        cases ns with
        | nil => exact absurd h1 (by simp [PyData.eqv, PyData.eqvAll])
        | cons => simp
      walk_at "rd"
      refine rd_lenL hS1 ?_
      rw [List.length_map]
      walk_at "rd"
      refine rd_ixLc hS1 ?_ (atI_ints (Int.emod_nonneg _ (by omega)) (Int.emod_lt_of_pos _ (by omega)))
      walk_at "rd"
      refine rd_lenL hS1 ?_
      rw [List.length_map]
      walk_at "rd"
      exact q _ _ hs1
      exact ⟨by omega, Int.lt_of_lt_of_le (show (ns.length : Int) < 64 by omega) (by decide)⟩
theorem ok_drawn (T : Txt K mg A) : FnOk P w K mg base CX0 1 A.a__law_drawn A.d__law_drawn ["_law_cell_here", "_law_k"] sp_drawn := by
  refine T.F__law_drawn.ok sc__law_drawn (fun vs H Q E h => ?_) (fun cdv A' outer s H vs Q E hr h => ?_)
  · obtain ⟨c, k, rfl, _⟩ := h
    rfl
  · obtain ⟨c, k, rfl, q⟩ := h
    refine ⟨_, (pss_cons (ps_set (i := 2) sc__law_drawn.nd rfl (Or.inl rfl) (pe_op op_mod (pe_op op_add (pe_op op_mul (pv 0) pe_int) (pe_op op_mul (pe_op op_add (pv 1) pe_int) pe_int)) pe_int))
      (pss_one (ps_ret (pe_op op_mod (pe_op op_mulL (pv 2) (pv 2)) pe_int)))), ?_⟩
    walk_at "rd"
    · exact q _ (Int.emod_nonneg _ (by decide)) (Int.lt_of_lt_of_le (Int.emod_lt_of_pos _ (by decide)) (by decide))
    · have h0 : 0 ≤ (c * 6364136223846793005 + (k + 1) * 1442695040888963407) % 340282366920938463463374607431768211507 := Int.emod_nonneg _ (by decide)
      have h1 : (c * 6364136223846793005 + (k + 1) * 1442695040888963407) % 340282366920938463463374607431768211507 < 340282366920938463463374607431768211507 := Int.emod_lt_of_pos _ (by decide)
      exact ⟨⟨by omega, by omega⟩, by omega, by omega⟩
theorem ok_settings (T : Txt K mg A) : FnOk P w K mg base CX0 1 A.a__law_settings A.d__law_settings ["_law_more"] sp_settings := by
  refine T.F__law_settings.ok sc__law_settings (fun vs H Q E h => ?_) (fun cdv A' outer s H vs Q E hr h => ?_)
  · obtain ⟨m, rfl, _⟩ := h
    rfl
  · obtain ⟨m, rfl, k⟩ := h
    refine ⟨_, (pss_cons (ps_set (i := 1) sc__law_settings.nd rfl (Or.inl rfl) (pe_ix (r := rIxL K) ix_list (pe_lst (pa_cons pe_int (pa_cons pe_int (pa_cons pe_int (pa_cons pe_int (pa_cons pe_int (pa_cons (pe_op op_mod (pe_op op_fdivL (pv 0) pe_int) pe_int) pa_nil))))))) (pe_op op_mod (pv 0) pe_int) (fun _ _ => rfl)))
      (pss_cons (ps_set (i := 2) sc__law_settings.nd rfl (Or.inl rfl) (pe_ix (r := rIxL K) ix_list (pe_lst (pa_cons pe_int (pa_cons pe_int (pa_cons pe_int (pa_cons (pe_op op_add pe_int (pe_op op_mod (pe_op op_fdivL (pv 0) (pe_pow (c := 16384) (by decide +kernel))) pe_int)) pa_nil))))) (pe_op op_mod (pe_op op_fdivL (pv 0) (pe_pow (c := 4096) (by decide +kernel))) pe_int) (fun _ _ => rfl)))
      (pss_cons (ps_set (i := 3) sc__law_settings.nd rfl (Or.inl rfl) (pe_ix (r := rIxL K) ix_list (pe_lst (pa_cons pe_int (pa_cons pe_int (pa_cons pe_int (pa_cons (pe_op op_add pe_int (pe_op op_mod (pe_op op_fdivL (pv 0) (pe_pow (c := 268435456) (by decide +kernel))) pe_int)) pa_nil))))) (pe_op op_mod (pe_op op_fdivL (pv 0) (pe_pow (c := 67108864) (by decide +kernel))) pe_int) (fun _ _ => rfl)))
      (pss_cons (ps_set (i := 4) sc__law_settings.nd rfl (Or.inl rfl) (pe_ix (r := rIxL K) ix_list (pe_lst (pa_cons pe_int (pa_cons pe_int (pa_cons pe_int (pa_cons (pe_op op_add pe_int (pe_op op_mod (pe_op op_fdivL (pv 0) (pe_pow (c := 68719476736) (by decide +kernel))) pe_int)) pa_nil))))) (pe_op op_mod (pe_op op_fdivL (pv 0) (pe_pow (c := 17179869184) (by decide +kernel))) pe_int) (fun _ _ => rfl)))
      (pss_one (ps_ret (pe_tup (pa_cons (pe_op op_add pe_int (pe_op op_mod (pe_op op_fdivL (pv 0) (pe_pow (c := 17592186044416) (by decide +kernel))) pe_int)) (pa_cons (pv 1) (pa_cons (pv 2) (pa_cons (pv 3) (pa_cons (pv 4) pa_nil)))))))))))), ?_⟩
    walk_at "rd"
    refine ⟨by show 6 ≤ sizeLine; decide, fun p1 hp1 => ?_⟩
    walk_at "rd"
    refine rd_menuI (ns := [_, _, _, _, _, _]) hp1 (Int.emod_nonneg _ (by decide)) (Int.emod_lt_of_pos _ (by decide)) fun thr H1 ht s1 => ?_
    have ht' : 0 ≤ thr ∧ thr ≤ 1000000 := by
      simp only [List.mem_cons, List.not_mem_nil, or_false] at ht
      omega
    walk_at "rd"
    refine ⟨by show 4 ≤ sizeLine; decide, fun p2 hp2 => ?_⟩
    walk_at "rd"
    refine rd_menuI (ns := [_, _, _, _]) hp2 (Int.emod_nonneg _ (by decide)) (Int.emod_lt_of_pos _ (by decide)) fun rate H2 hr' s2 => ?_
    have hr2 : 1 ≤ rate ∧ rate ≤ 1000000 := by
      simp only [List.mem_cons, List.not_mem_nil, or_false] at hr'
      omega
    walk_at "rd"
    refine ⟨by show 4 ≤ sizeLine; decide, fun p3 hp3 => ?_⟩
    walk_at "rd"
    refine rd_menuI (ns := [_, _, _, _]) hp3 (Int.emod_nonneg _ (by decide)) (Int.emod_lt_of_pos _ (by decide)) fun miss H3 hm s3 => ?_
    have hm2 : 1 ≤ miss ∧ miss ≤ 12 := by
      simp only [List.mem_cons, List.not_mem_nil, or_false] at hm
      omega
    walk_at "rd"
    refine ⟨by show 4 ≤ sizeLine; decide, fun p4 hp4 => ?_⟩
    walk_at "rd"
    refine rd_menuI (ns := [_, _, _, _]) hp4 (Int.emod_nonneg _ (by decide)) (Int.emod_lt_of_pos _ (by decide)) fun back H4 hb s4 => ?_
    have hb2 : 1 ≤ back ∧ back ≤ 12 := by
      simp only [List.mem_cons, List.not_mem_nil, or_false] at hb
      omega
    walk_at "rd"
    refine ⟨by show 5 ≤ sizeLine; decide, fun p hp => ?_⟩
    have s5 : Same H H4 := ((Same.trans s1 s2).trans s3).trans s4
    exact k p _ _ _ _ _ _ (s5.upd hp) (s5.free hp) upd_same ⟨by omega, by omega, ht'.1, ht'.2, hr2.1, hr2.2, hm2.1, hm2.2, hb2.1, hb2.2⟩
theorem ok_values (T : Txt K mg A) : FnOk P w K mg base CX0 2 A.a__law_values A.d__law_values ["_law_script", "_law_k", "_law_settings_here", "_law_base"] (sp_values K) := by
  have g__law_cell : FnOk P w K mg base CX0 1 A.a__law_cell A.d__law_cell ["_law_script", "_law_k"] (sp_cell K) := ok_cell T
  have g__law_drawn : FnOk P w K mg base CX0 1 A.a__law_drawn A.d__law_drawn ["_law_cell_here", "_law_k"] sp_drawn := ok_drawn T
  refine T.F__law_values.ok sc__law_values (fun vs H Q E h => ?_) (fun cdv A' outer s H vs Q E hr h => ?_)
  · obtain ⟨a, p, ns, k, sa, sb, sc, sd, se, bs, rfl, _⟩ := h
    rfl
  · obtain ⟨a, p, ns, k, sa, sb, sc, sd, se, bs, rfl, hS, hlen, hk, hp, hB, q⟩ := h
    have a3 := hB.a3
    have a9 := hB.a9
    have b0 := hB.b0
    have b6 := hB.b6
    refine ⟨_, (pss_cons (ps_set (i := 4) sc__law_values.nd rfl (Or.inl rfl) (pe_lst pa_nil))
      (pss_cons (ps_set (i := 5) sc__law_values.nd rfl (Or.inl rfl) (pe_ix (r := rIxT K) ix_tup (pv 2) pe_int (fun _ _ => rfl)))
      (pss_cons (ps_for PassesOwn.never rfl (pi_range1 rfl T.n_range (pa_cons (pe_ix (r := rIxT K) ix_tup (pv 2) pe_int (fun _ _ => rfl)) pa_nil)) (pg_name (i := 6) sc__law_values.nd rfl (Or.inl rfl))
      (pss_cons (ps_set (i := 7) sc__law_values.nd rfl (Or.inl rfl) (pe_call g__law_drawn (hr.mono (by decide)) rfl T.m__law_drawn T.F__law_drawn.kp T.b__law_drawn .nil pass0 (pa_cons (pe_call g__law_cell (hr.mono (by decide)) rfl T.m__law_cell T.F__law_cell.kp T.b__law_cell .nil pass0 (pa_cons (pv 0) (pa_cons (pv 1) pa_nil))) (pa_cons (pe_op op_add (pe_op op_add (pe_op op_mul pe_int (pv 1)) (pv 6)) pe_int) pa_nil))))
      (pss_cons (ps_set (i := 8) sc__law_values.nd rfl (Or.inl rfl) (pe_ix (r := rIxL K) ix_list (pe_lst (pa_cons (pe_op op_mod (pe_op op_fdivL (pv 7) pe_int) pe_int) (pa_cons (pe_op op_mod (pe_op op_add (pe_op op_mul (pv 6) pe_int) (pe_call g__law_drawn (hr.mono (by decide)) rfl T.m__law_drawn T.F__law_drawn.kp T.b__law_drawn .nil pass0 (pa_cons (pe_call g__law_cell (hr.mono (by decide)) rfl T.m__law_cell T.F__law_cell.kp T.b__law_cell .nil pass0 (pa_cons (pv 0) (pa_cons pe_int pa_nil))) (pa_cons pe_int pa_nil)))) pe_int) pa_nil))) (pe_op op_mod (pv 7) pe_int) (fun _ _ => rfl)))
      (pss_cons (ps_set (i := 7) sc__law_values.nd rfl (Or.inl rfl) (pe_op op_fdivL (pv 7) (pe_pow (c := 65536) (by decide +kernel))))
      (pss_one (ps_if (pt_cmpR op_lt (pv 8) pe_int (nomark _))
      (pss_one (ps_expr (pe_bm PySem.F.plainAttrs_list PySem.F.slot_list_append PySem.F.type_list_append mt_append (pv 4) (pa_cons (pe_op op_add (pv 3) (pe_ix (r := rIxL K) ix_list (pe_lst (pa_cons pe_int (pa_cons (pe_op op_sub (pe_op op_mod (pv 7) pe_int) pe_int) (pa_cons (pe_op op_sub (pe_op op_sub (pe_op op_mod (pv 7) (pe_op op_add (pe_op op_mul pe_int (pv 5)) pe_int)) (pv 5)) pe_int) pa_nil)))) (pe_op op_mod (pe_op op_fdivL (pv 7) (pe_pow (c := 1073741824) (by decide +kernel))) pe_int) (fun _ _ => rfl))) pa_nil))))
      (pss_one (ps_if (pt_cmpR op_lt (pv 8) pe_int (nomark _))
      (pss_one (ps_expr (pe_bm PySem.F.plainAttrs_list PySem.F.slot_list_append PySem.F.type_list_append mt_append (pv 4) (pa_cons (pe_op op_add (pv 3) (pe_op op_mulL (pe_op op_sub (pe_op op_mod (pv 7) pe_int) pe_int) (pe_op op_add (pv 5) (pe_op op_mod (pe_op op_fdivL (pv 7) pe_int) pe_int)))) pa_nil))))
      (pss_one (ps_if (pt_cmpR op_eq (pv 8) pe_int (nomark _))
      (pss_one (ps_expr (pe_bm PySem.F.plainAttrs_list PySem.F.slot_list_append PySem.F.type_list_append mt_append (pv 4) (pa_cons (pe_ix (r := rIxL K) ix_list (pe_lst (pa_cons pe_int (pa_cons pe_neg (pa_cons (pe_op op_sub (pe_op op_mod (pv 7) pe_int) pe_int) pa_nil)))) (pe_op op_mod (pe_op op_fdivL (pv 7) (pe_pow (c := 1099511627776) (by decide +kernel))) pe_int) (fun _ _ => rfl)) pa_nil))))
      (pss_one (ps_expr (pe_bm PySem.F.plainAttrs_list PySem.F.slot_list_append PySem.F.type_list_append mt_append (pv 4) (pa_cons pe_non pa_nil))))))))))))))
      (pss_one (ps_ret (pe_comp ["_law_value"] [] [] (.nil) rfl (pi_list (pv 4)) (fun _ _ _ _ => pg_name (i := 0) (show (["_law_value"] : List Str).Nodup by decide +kernel) rfl (Or.inl rfl) (.inr rfl)) (fun _ _ _ _ => pts_nil) (fun _ _ _ _ => (pe_ifExp (pt_cmpR op_isNN (pv 0) pe_non (nomark _)) pe_non (pe_callB (call_maxN rfl) (by rfl) T.n_max boot_max (pa_cons (pe_negpow (c := -1000000000) (by decide +kernel)) (pa_cons (pe_callB (call_minN rfl) (by rfl) T.n_min boot_min (pa_cons (pe_pow (c := 1000000000) (by decide +kernel)) (pa_cons (pv 0) pa_nil))) pa_nil))))) (gown_name (by decide)))))))), ?_⟩
    walk_at "rd"
    refine ⟨Nat.zero_le _, fun D hD => ?_⟩
    have s1 : Same H (upd H D (.lst [])) := (Same.refl H).upd hD
    have d1 : upd H D (.lst []) D = some (.lst (([] : List (Option Int)).map toV)) := upd_same
    generalize upd H D (.lst []) = H1 at s1 d1 ⊢
    walk_at "rd"
    refine rd_ixT (SqT.of (s1 _ _ hp)) rfl ?_
    walk_at "rd"
    refine rd_ixT (SqT.of (s1 _ _ hp)) rfl ?_
    walk_at "rd"
    refine ⟨sa, rfl, by omega, by omega, for_range (n := sa.toNat) (fun i σ H2 => ∃ (vals : List (Option Int)) (x1 x2 x3 : Option V), σ = [some (.ref a), some (.int k), some (.ref p), some (.int bs), some (.ref D), some (.int sb), x1, x2, x3] ∧ vals.length = i ∧ H2 D = some (.lst (vals.map toV)) ∧ Same H H2)
      ⟨[], _, _, _, rfl, rfl, d1, s1⟩ ?_ ?_⟩
    · rintro i σ H2 hi ⟨vals, x1, x2, x3, rfl, hl, d2, s2⟩
      walk_at "rd"
      refine ⟨a, ns, _, rfl, s2.seq hS, hk, hlen, fun c H3 s3 => ?_⟩
      walk_at "rd"
      refine ⟨_, _, rfl, fun m h0 h1 => ?_⟩
      walk_at "rd"
      refine ⟨a, ns, _, rfl, (Same.trans s2 s3).seq hS, by omega, hlen, fun c' H4 s4 => ?_⟩
      walk_at "rd"
      refine ⟨_, _, rfl, fun m' h0' h1' => ?_⟩
      walk_at "rd"
      refine ⟨by show 2 ≤ sizeLine; decide, fun p5 hp5 => ?_⟩
      walk_at "rd"
      refine rd_menuI (ns := [_, _]) hp5 (Int.emod_nonneg _ (by decide)) (Int.emod_lt_of_pos _ (by decide)) fun way H5 _ s5 => ?_
      have s6 : Same H H5 := ((Same.trans s2 s3).trans s4).trans s5
      have d6 : H5 D = some (.lst (vals.map toV)) := s5 _ _ (s4 _ _ (s3 _ _ d2))
      have lz : (vals.map toV).length < sizeLine := by
        rw [List.length_map]
        exact small1000 (by omega)
      have fin : ∀ (H6 : Hp) (o : Option Int) (x1 x2 x3 : Option V), Same H5 H6 → ∃ (vals' : List (Option Int)) (y1 y2 y3 : Option V), [some (.ref a), some (.int k), some (.ref p), some (.int bs), some (.ref D), some (.int sb), x1, x2, x3] = [some (V.ref a), some (.int k), some (.ref p), some (.int bs), some (.ref D), some (.int sb), y1, y2, y3] ∧ vals'.length = i + 1 ∧ upd H6 D (.lst (vals.map toV ++ [toV o])) D = some (.lst (vals'.map toV)) ∧ Same H (upd H6 D (.lst (vals.map toV ++ [toV o]))) := fun H6 o x1 x2 x3 s7 => by
        refine ⟨vals ++ [o], _, _, _, rfl, by rw [List.length_append, hl]; rfl, by rw [upd_same, List.map_append]; rfl, fun b u e => ?_⟩
        rw [upd_ne (ne_of_none e hD)]
        exact s7 _ _ (s6 _ _ e)
      walk_at "rd"
      refine rd_dec (fun w1 => ?_) (fun w1 => ?_)
      · walk_at "rd"
        refine ⟨.inl ⟨rfl, _, SqL.of d6⟩, ?_⟩
        walk_at "rd"
        refine ⟨by show 3 ≤ sizeLine; decide, fun p7 hp7 => ?_⟩
        walk_at "rd"
        refine rd_menuI (ns := [_, _, _]) hp7 (Int.emod_nonneg _ (by decide)) (Int.emod_lt_of_pos _ (by decide)) fun z H7 _ s7 => ?_
        walk_at "rd"
        refine rd_append (s7 _ _ d6) lz ?_
        exact fin H7 (some _) _ _ _ s7
      walk_at "rd"
      refine rd_dec (fun w2 => ?_) (fun w2 => ?_)
      · walk_at "rd"
        refine ⟨.inl ⟨rfl, _, SqL.of d6⟩, ?_⟩
        walk_at "rd"
        · refine rd_append d6 lz ?_
          exact fin H5 (some _) _ _ _ (Same.refl _)
        · exact ⟨⟨by omega, by omega⟩, by omega, by omega⟩
      walk_at "rd"
      refine rd_dec (fun w3 => ?_) (fun w3 => ?_)
      · walk_at "rd"
        refine ⟨.inl ⟨rfl, _, SqL.of d6⟩, ?_⟩
        walk_at "rd"
        refine ⟨by show 3 ≤ sizeLine; decide, fun p7 hp7 => ?_⟩
        walk_at "rd"
        refine rd_menuI (ns := [_, _, _]) hp7 (Int.emod_nonneg _ (by decide)) (Int.emod_lt_of_pos _ (by decide)) fun z H7 _ s7 => ?_
        walk_at "rd"
        refine rd_append (s7 _ _ d6) lz ?_
        exact fin H7 (some _) _ _ _ s7
      · walk_at "rd"
        refine ⟨.inl ⟨rfl, _, SqL.of d6⟩, ?_⟩
        walk_at "rd"
        refine rd_append d6 lz ?_
        exact fin H5 none _ _ _ (Same.refl _)
    · rintro σ H2 ⟨vals, x1, x2, x3, rfl, hl, d2, s2⟩
      walk_at "rd"
      refine ⟨D, rfl, ⟨_, SqL.of d2⟩, comp_list (xs := vals.map toV) (τ := [none]) rfl (by rw [List.length_map]; exact Nat.le_trans (by omega : vals.length ≤ 1000) line1000)
        (fun i ys H3 => Same H2 H3 ∧ ys = ((vals.take i).map (clipF 1000000000)).map toV) ⟨Same.refl H2, by simp⟩ ?_ ?_ ?_⟩
      · rintro i ys H3 hi ⟨s3, rfl⟩
        exact ⟨SqL.of (s3 _ _ d2), by rw [List.length_map, List.length_map]; exact List.length_take_le _ _⟩
      · rintro i x ys H3 hx ⟨s3, rfl⟩
        obtain ⟨hi, rfl⟩ := opts_at hx
        have es : ((vals.take (i + 1)).map (clipF 1000000000)).map toV = ((vals.take i).map (clipF 1000000000)).map toV ++ [toV (clipF 1000000000 (vals.getD i none))] := by
          rw [List.take_add_one, List.getElem?_eq_getElem hi, List.map_append, List.map_append, List.getD_eq_getElem?_getD, List.getElem?_eq_getElem hi]
          rfl
        rw [es]
        generalize vals.getD i none = o
        cases o with
        | none =>
          walk_at "rd"
          exact ⟨s3, rfl⟩
        | some n =>
          walk_at "rd"
          exact ⟨s3, rfl⟩
      · rintro ys H3 ⟨s3, rfl⟩ D2 hD2
        rw [List.length_map, List.take_length]
        have s4 := Same.trans s2 s3
        refine q D2 _ _ (s4.upd hD2) (s4.free hD2) upd_same (by rw [List.length_map]; omega) ?_
        rw [List.all_map, List.all_eq_true]
        intro o _
        cases o with
        | none => rfl
        | some n =>
          show decide (absI _ ≤ 1000000000) = true
          refine decide_eq_true ?_
          unfold absI
          repeat' split
          all_goals omega
theorem ok_steps (T : Txt K mg A) : FnOk P w K mg base CX0 3 A.a__law_steps A.d__law_steps ["_law_script", "_law_settings_here", "_law_many"] (sp_steps K) := by
  have g__law_cell : FnOk P w K mg base CX0 1 A.a__law_cell A.d__law_cell ["_law_script", "_law_k"] (sp_cell K) := ok_cell T
  have g__law_drawn : FnOk P w K mg base CX0 1 A.a__law_drawn A.d__law_drawn ["_law_cell_here", "_law_k"] sp_drawn := ok_drawn T
  have g__law_values : FnOk P w K mg base CX0 2 A.a__law_values A.d__law_values ["_law_script", "_law_k", "_law_settings_here", "_law_base"] (sp_values K) := ok_values T
  refine T.F__law_steps.ok sc__law_steps (fun vs H Q E h => ?_) (fun cdv A' outer s H vs Q E hr h => ?_)
  · obtain ⟨a, p, ns, n, sa, sb, sc, sd, se, rfl, _⟩ := h
    rfl
  · obtain ⟨a, p, ns, n, sa, sb, sc, sd, se, rfl, hS, hlen, hn0, hn1, hp, hB, q⟩ := h
    refine ⟨_, (pss_cons (ps_set (i := 3) sc__law_steps.nd rfl (Or.inl rfl) (pe_op op_sub (pe_op op_mod (pe_call g__law_drawn (hr.mono (by decide)) rfl T.m__law_drawn T.F__law_drawn.kp T.b__law_drawn .nil pass0 (pa_cons (pe_call g__law_cell (hr.mono (by decide)) rfl T.m__law_cell T.F__law_cell.kp T.b__law_cell .nil pass0 (pa_cons (pv 0) (pa_cons pe_int pa_nil))) (pa_cons pe_int pa_nil))) pe_int) pe_int))
      (pss_cons (ps_set (i := 4) sc__law_steps.nd rfl (Or.inl rfl) (pe_lst pa_nil))
      (pss_cons (ps_for PassesOwn.never rfl (pi_range1 rfl T.n_range (pa_cons (pv 2) pa_nil)) (pg_name (i := 5) sc__law_steps.nd rfl (Or.inl rfl))
      (pss_cons (ps_set (i := 6) sc__law_steps.nd rfl (Or.inl rfl) (pe_call g__law_drawn (hr.mono (by decide)) rfl T.m__law_drawn T.F__law_drawn.kp T.b__law_drawn .nil pass0 (pa_cons (pe_call g__law_cell (hr.mono (by decide)) rfl T.m__law_cell T.F__law_cell.kp T.b__law_cell .nil pass0 (pa_cons (pv 0) (pa_cons (pv 5) pa_nil))) (pa_cons (pe_op op_add (pv 5) pe_int) pa_nil))))
      (pss_cons (ps_set (i := 3) sc__law_steps.nd rfl (Or.inl rfl) (pe_op op_add (pv 3) (pe_ix (r := rIxL K) ix_list (pe_lst (pa_cons pe_int (pa_cons pe_int (pa_cons (pe_op op_sub (pe_op op_mod (pe_op op_fdivL (pv 6) pe_int) pe_int) pe_int) (pa_cons (pe_op op_sub (pe_op op_mod (pe_op op_fdivL (pv 6) pe_int) pe_int) pe_int) pa_nil))))) (pe_op op_mod (pv 6) pe_int) (fun _ _ => rfl))))
      (pss_one (ps_expr (pe_bm PySem.F.plainAttrs_list PySem.F.slot_list_append PySem.F.type_list_append mt_append (pv 4) (pa_cons (pe_call g__law_values (hr.mono (by decide)) rfl T.m__law_values T.F__law_values.kp T.b__law_values .nil pass0 (pa_cons (pv 0) (pa_cons (pv 5) (pa_cons (pv 1) (pa_cons (pv 3) pa_nil))))) pa_nil)))))))
      (pss_one (ps_ret (pv 4)))))), ?_⟩
    walk_at "rd"
    refine ⟨a, ns, _, rfl, hS, by omega, hlen, fun c H1 s1 => ?_⟩
    walk_at "rd"
    refine ⟨_, _, rfl, fun m h0 h1 => ?_⟩
    walk_at "rd"
    refine ⟨Nat.zero_le _, fun D hD => ?_⟩
    have s2 : Same H (upd H1 D (.lst [])) := Same.upd s1 hD
    have nD : H D = none := Same.free s1 hD
    have d2 : upd H1 D (.lst []) D = some (.lst (([] : List Addr).map V.ref)) := upd_same
    generalize upd H1 D (.lst []) = H2 at s2 d2 ⊢
    walk_at "rd"
    refine ⟨n, rfl, by omega, by omega, for_range (n := n.toNat) (fun i σ H3 => ∃ (as : List Addr) (rows : List (List (Option Int))) (bs : Int) (x1 x2 : Option V), σ = [some (.ref a), some (.ref p), some (.int n), some (.int bs), some (.ref D), x1, x2] ∧ rows.length = i ∧ Rows H H3 D as rows sa ∧ Same H H3)
      ⟨[], [], _, _, _, rfl, rfl, ⟨d2, nD, rfl, fun i a e => by simp at e, fun r e => by simp at e⟩, s2⟩ ?_ ?_⟩
    · rintro i σ H3 hi ⟨as, rows, bs, x1, x2, rfl, hl, R, s3⟩
      walk_at "rd"
      refine ⟨a, ns, _, rfl, s3.seq hS, by omega, hlen, fun c H4 s4 => ?_⟩
      walk_at "rd"
      refine ⟨_, _, rfl, fun m h0 h1 => ?_⟩
      walk_at "rd"
      refine ⟨by show 4 ≤ sizeLine; decide, fun p5 hp5 => ?_⟩
      walk_at "rd"
      refine rd_menuI (ns := [_, _, _, _]) hp5 (Int.emod_nonneg _ (by decide)) (Int.emod_lt_of_pos _ (by decide)) fun z H5 _ s5 => ?_
      have s6 : Same H3 H5 := Same.trans s4 s5
      walk_at "rd"
      refine ⟨.inl ⟨rfl, _, SqL.of (s6 _ _ R.lst)⟩, ?_⟩
      walk_at "rd"
      refine ⟨a, p, ns, _, sa, sb, sc, sd, se, _, rfl, (Same.trans s3 s6).seq hS, hlen, by omega, (Same.trans s3 s6) _ _ hp, hB, fun D7 vals H7 s7 n7 d7 l7 a7 => ?_⟩
      have s8 : Same H3 H7 := Same.trans s6 s7
      have nz : D7 ≠ D := fun e => by
        rw [e] at n7
        rw [s6 _ _ R.lst] at n7
        cases n7
      have lz : (as.map V.ref).length < sizeLine := by
        rw [List.length_map, R.len]
        exact small1000 (by omega)
      walk_at "rd"
      refine rd_append (s8 _ _ R.lst) lz ?_
      refine ⟨as ++ [D7], rows ++ [vals], _, _, _, rfl, by rw [List.length_append, hl]; rfl, ⟨?_, nD, ?_, ?_, ?_⟩, fun b u e => ?_⟩
      · rw [upd_same, List.map_append]
        rfl
      · rw [List.length_append, List.length_append, R.len]
        rfl
      · intro i b e
        by_cases hi : i < as.length
        · rw [List.getElem?_append_left hi] at e
          obtain ⟨r, er, hr, hn, hne⟩ := R.row i b e
          exact ⟨r, by rw [List.getElem?_append_left (by rw [← R.len]; exact hi)]; exact er, by rw [upd_ne hne]; exact s8 _ _ hr, hn, hne⟩
        · rw [List.getElem?_append_right (by omega)] at e
          have hi2 : i - as.length = 0 := by
            have := (List.getElem?_eq_some_iff.mp e).1
            simp at this
            omega
          rw [hi2] at e
          cases e
          refine ⟨vals, ?_, by rw [upd_ne nz]; exact d7, (Same.trans s3 s6).free n7, nz⟩
          rw [List.getElem?_append_right (by rw [← R.len]; omega), ← R.len, hi2]
          rfl
      · intro r hr
        rcases List.mem_append.mp hr with h | h
        · exact R.all r h
        · rw [List.mem_singleton] at h
          subst h
          exact ⟨l7, a7⟩
      · rw [upd_ne (ne_of_none e nD)]
        exact s8 _ _ (s3 _ _ e)
    · rintro σ H3 ⟨as, rows, bs, x1, x2, rfl, hl, R, s3⟩
      walk_at "rd"
      exact q D as rows H3 s3 R (by omega)
end

open PySem L2 PyProof.Rows


theorem boot_ValueError : bootBuiltins "ValueError" = some (.type "ValueError") := by decide +kernel
def flagN (b : Bool) : Int := if b = true then 1 else 0
def flagI : V → V
  | .bl b => .int (flagN b)
  | _ => .int 0
abbrev Sw (b0 b1 b2 : Bool) (j : Nat) (nm : Str) : Prop := (b0 = true ∧ b1 = false ∧ b2 = false ∧ j = 0 ∧ nm = "BadSettings") ∨ (b0 = false ∧ b1 = true ∧ b2 = false ∧ j = 1 ∧ nm = "BadStep") ∨ (b0 = false ∧ b1 = false ∧ b2 = true ∧ j = 2 ∧ nm = "NoSensor")
def sp_word (BS BT : Addr) : Sp := fun vs H Q _ => ∃ (ea C : Addr) (nm : Str), vs = [.ref ea] ∧ H ea = some (.ext (IsExc C ea)) ∧ ((C = BT ∧ nm = "BadStep") ∨ (C = BS ∧ nm = "BadSettings")) ∧ ∀ H' : Hp, Same H H' → Q (.str nm) H'
def sp_told : Sp := fun vs H Q _ => ∃ (way : Int) (p D : Addr) (as : List Addr) (rows : List (List (Option Int))) (a b c d e st : Int), vs = [.int way, .ref p, .int st, .ref D] ∧ H p = some (.tup [.int a, .int b, .int c, .int d, .int e]) ∧ RowsIn H D as rows ∧ rows.length ≤ 100 ∧ (∀ i, i < rows.length → (rows.getD i []).length ≤ 1000) ∧
  (setOk a b c d e = false → ∀ H' : Hp, Same H H' → Q (.str "BadSettings") H') ∧ (setOk a b c d e = true → ¬ RowsOk a.toNat rows → ∀ H' : Hp, Same H H' → Q (.str "BadStep") H') ∧
  (setOk a b c d e = true → RowsOk a.toNat rows → way = 0 → ∀ (H' : Hp) (R : Addr) (xs : List V), Same H H' → H R = none → H' R = some (.lst xs) → PrsIn H' xs ((List.range rows.length).map (prAt (VS.new a b c d e st) rows)) → Q (.ref R) H') ∧
  (setOk a b c d e = true → RowsOk a.toNat rows → way ≠ 0 → ∀ (H' : Hp) (R : Addr) (xs : List V), Same H H' → H R = none → H' R = some (.lst xs) → TrsIn H' xs (trAt (VS.new a b c d e st) rows rows.length) → Q (.ref R) H')
section
variable {P : Program} {w : World} {K : PySem.W.Frag} {mg : Str → Option Value} {base : Heap} {A : Ad}
theorem nam_ex (T : Txt K mg A) {C : Addr} {nm : Str} (h : (C = A.c_BadStep ∧ nm = "BadStep") ∨ (C = A.c_BadSettings ∧ nm = "BadSettings")) : ExcI K C ∧ PySem.W.kitOne K (.ref C) (.type "ValueError") = some true ∧
    ∃ (b0 b1 b2 : Bool) (j : Nat), Sw b0 b1 b2 j nm ∧ PySem.W.kitOne K (.ref C) (.ref A.c_BadSettings) = some b0 ∧ PySem.W.kitOne K (.ref C) (.ref A.c_BadStep) = some b1 ∧ PySem.W.kitOne K (.ref C) (.ref A.c_NoSensor) = some b2 ∧ PySem.W.kitOne K (.ref C) (.ref A.c_BadRow) = some false := by
  rcases h with ⟨rfl, rfl⟩ | ⟨rfl, rfl⟩
  · exact ⟨T.i_BadStep, T.k_BadStep_V, false, true, false, 1, .inr (.inl ⟨rfl, rfl, rfl, rfl, rfl⟩), T.k_BadStep_BadSettings, T.k_BadStep_BadStep, T.k_BadStep_NoSensor, T.k_BadStep_BadRow⟩
  · exact ⟨T.i_BadSettings, T.k_BadSettings_V, true, false, false, 0, .inl ⟨rfl, rfl, rfl, rfl, rfl⟩, T.k_BadSettings_BadSettings, T.k_BadSettings_BadStep, T.k_BadSettings_NoSensor, T.k_BadSettings_BadRow⟩
theorem ok_word (T : Txt K mg A) : FnX P w K mg base 1 A.a__law_word A.d__law_word ["_law_e"] (sp_word A.c_BadSettings A.c_BadStep) := by
  refine T.F__law_word.okX sc__law_word (fun vs H Q E h => ?_) (fun cdv A' outer s H vs Q E ea hr held h => ?_)
  · obtain ⟨e, C, nm, rfl, _⟩ := h
    rfl
  · obtain ⟨e, C, nm, rfl, he, hC, kQ⟩ := h
    obtain ⟨xi, xV, b0, b1, b2, j, hsw, k0, k1, k2, k3⟩ := nam_ex T hC
    refine ⟨_, (pss_cons (ps_set (i := 1) sc__law_word.nd rfl (Or.inl rfl) (pe_lst (pa_cons (pe_callB (r := rInstE K) call_instE (by rfl) T.n_isinstance boot_isinstance (pa_cons (pv 0) (pa_cons (pe_glob (v := .ref A.c_BadSettings) rfl T.m_BadSettings rfl) pa_nil))) (pa_cons (pe_callB (r := rInstE K) call_instE (by rfl) T.n_isinstance boot_isinstance (pa_cons (pv 0) (pa_cons (pe_glob (v := .ref A.c_BadStep) rfl T.m_BadStep rfl) pa_nil))) (pa_cons (pe_callB (r := rInstE K) call_instE (by rfl) T.n_isinstance boot_isinstance (pa_cons (pv 0) (pa_cons (pe_glob (v := .ref A.c_NoSensor) rfl T.m_NoSensor rfl) pa_nil))) (pa_cons (pe_callB (r := rInstE K) call_instE (by rfl) T.n_isinstance boot_isinstance (pa_cons (pv 0) (pa_cons (pe_glob (v := .ref A.c_BadRow) rfl T.m_BadRow rfl) pa_nil))) pa_nil))))))
      (pss_cons (ps_if (PW.pt (pw_or (pt_cmpR op_ne (pe_callB (r := rSumX K ea) (call_sumX rfl) (by rfl) T.n_sum boot_sum (pa_cons (pe_compX rfl ["_law_flag"] [] [] (.nil) (pv 1) (fun _ _ _ _ => pg_name (i := 0) (show (["_law_flag"] : List Str).Nodup by decide +kernel) rfl (Or.inl rfl) (.inr rfl)) (fun _ _ _ _ => pts_nil) (fun _ _ _ _ => (pe_callTy call_intN (by rfl) T.n_int boot_int (pa_cons (pv 0) pa_nil))) (gown_name (by decide)) mono_g mono_t mono_int) pa_nil)) pe_int (nomark _)) (pw_or1 (pt_not (pt_val (pe_callB (r := rInstE K) call_instE (by rfl) T.n_isinstance boot_isinstance (pa_cons (pv 0) (pa_cons (pe_bltn (v := .ty "ValueError") rfl T.n_ValueError boot_ValueError rfl) pa_nil))))))))
      (pss_one (ps_ret pe_str))
      pss_nil)
      (pss_one (ps_ret (pe_ix (r := rIxL K) ix_list (pe_lst (pa_cons pe_str (pa_cons pe_str (pa_cons pe_str (pa_cons pe_str pa_nil))))) (pe_bm PySem.F.plainAttrs_list PySem.F.slot_list_index PySem.F.type_list_index (r := rIndex K) mt_index (pv 1) (pa_cons pe_bl pa_nil)) (fun _ _ => rfl)))))), ?_⟩
    walk_at "rd"
    refine ⟨e, _, _, _, _, rfl, .inl ⟨_, rfl, rfl⟩, he, xi, k0, ?_⟩
    walk_at "rd"
    refine ⟨e, _, _, _, _, rfl, .inl ⟨_, rfl, rfl⟩, he, xi, k1, ?_⟩
    walk_at "rd"
    refine ⟨e, _, _, _, _, rfl, .inl ⟨_, rfl, rfl⟩, he, xi, k2, ?_⟩
    walk_at "rd"
    refine ⟨e, _, _, _, _, rfl, .inl ⟨_, rfl, rfl⟩, he, xi, k3, ?_⟩
    walk_at "rd"
    refine ⟨by show 4 ≤ sizeLine; decide, fun F hF => ?_⟩
    have s1 : Same H (upd H F (.lst [.bl b0, .bl b1, .bl b2, .bl false])) := (Same.refl H).upd hF
    have F1 : upd H F (.lst [.bl b0, .bl b1, .bl b2, .bl false]) F = some (.lst [.bl b0, .bl b1, .bl b2, .bl false]) := upd_same
    generalize upd H F (.lst [.bl b0, .bl b1, .bl b2, .bl false]) = H1 at s1 F1 ⊢
    have held1 : Held ea H1 := by
      obtain ⟨C, h⟩ := held
      exact ⟨C, s1 _ _ h⟩
    walk_at "rd"
    refine ⟨F, _, flagI, rfl, SqL.of F1, by show 4 < sizeLine; decide, held1, fun x hx => ?_, fun D hD => ?_⟩
    · obtain ⟨b, rfl⟩ : ∃ b : Bool, x = .bl b := by
        simp only [List.mem_cons, List.not_mem_nil, or_false] at hx
        rcases hx with rfl | rfl | rfl | rfl <;> exact ⟨_, rfl⟩
      walk_at "rd"
      refine ⟨rfl, ?_⟩
      walk_at "rd"
      refine ⟨rfl, ?_⟩
      cases b <;> rfl
    have s2 : Same H1 (upd H1 D (.lst [.int (flagN b0), .int (flagN b1), .int (flagN b2), .int (flagN false)])) := (Same.refl H1).upd hD
    have D2 : upd H1 D (.lst [.int (flagN b0), .int (flagN b1), .int (flagN b2), .int (flagN false)]) D = some (.lst (([flagN b0, flagN b1, flagN b2, flagN false] : List Int).map V.int)) := upd_same
    have F2 := s2 _ _ F1
    have held2 : Held ea (upd H1 D (.lst [.int (flagN b0), .int (flagN b1), .int (flagN b2), .int (flagN false)])) := by
      obtain ⟨C, h⟩ := held1
      exact ⟨C, s2 _ _ h⟩
    rw [show List.map flagI [V.bl b0, V.bl b1, V.bl b2, V.bl false] = [V.int (flagN b0), V.int (flagN b1), V.int (flagN b2), V.int (flagN false)] from rfl]
    generalize upd H1 D (.lst [.int (flagN b0), .int (flagN b1), .int (flagN b2), .int (flagN false)]) = H2 at s2 D2 F2 held2 ⊢
    have he2 := s2 _ _ (s1 _ _ he)
    have hsum : ([flagN b0, flagN b1, flagN b2, flagN false] : List Int).sum = 1 := by
      rcases hsw with ⟨rfl, rfl, rfl, _⟩ | ⟨rfl, rfl, rfl, _⟩ | ⟨rfl, rfl, rfl, _⟩ <;> rfl
    walk_at "rd"
    refine ⟨D, _, rfl, SqL.of D2, held2, ?_⟩
    walk_at "rd"
    refine rd_ndec (fun h => absurd hsum h) (fun _ => ?_)
    walk_at "rd"
    refine ⟨e, _, _, _, _, rfl, .inr ⟨_, rfl, rfl⟩, he2, xi, xV, ?_⟩
    walk_at "rd"
    refine ⟨by show 4 ≤ sizeLine; decide, fun p3 hp3 => ?_⟩
    have s3 : Same H2 (upd H2 p3 (.lst [.str "BadSettings", .str "BadStep", .str "NoSensor", .str "BadRow"])) := (Same.refl H2).upd hp3
    have P3 : upd H2 p3 (.lst [.str "BadSettings", .str "BadStep", .str "NoSensor", .str "BadRow"]) p3 = some (.lst [.str "BadSettings", .str "BadStep", .str "NoSensor", .str "BadRow"]) := upd_same
    generalize upd H2 p3 (.lst [.str "BadSettings", .str "BadStep", .str "NoSensor", .str "BadRow"]) = H3 at s3 P3 ⊢
    have F3 := s3 _ _ F2
    walk_at "rd"
    refine ⟨.inl ⟨rfl, _, SqL.of F3⟩, ?_⟩
    walk_at "rd"
    refine ⟨F, _, _, j, rfl, rfl, SqL.of F3, rfl, rfl, ?_, (show 4 ≤ 1000 by decide), fun z hz => ?_, fun m z hm hz => ?_, ?_⟩
    · show j < 4
      rcases hsw with ⟨_, _, _, rfl, _⟩ | ⟨_, _, _, rfl, _⟩ | ⟨_, _, _, rfl, _⟩ <;> decide
    · rcases hsw with ⟨rfl, rfl, rfl, rfl, rfl⟩ | ⟨rfl, rfl, rfl, rfl, rfl⟩ | ⟨rfl, rfl, rfl, rfl, rfl⟩ <;> (cases hz; rfl)
    · rcases hsw with ⟨rfl, rfl, rfl, rfl, rfl⟩ | ⟨rfl, rfl, rfl, rfl, rfl⟩ | ⟨rfl, rfl, rfl, rfl, rfl⟩
      · exact absurd hm (Nat.not_lt_zero _)
      · match m, hm with
        | 0, _ =>
          cases hz
          rfl
      · match m, hm with
        | 0, _ =>
          cases hz
          rfl
        | 1, _ =>
          cases hz
          rfl
    walk_at "rd"
    refine rd_ixL (v := .str nm) (SqL.of P3) ?_ ?_
    · rcases hsw with ⟨_, _, _, rfl, rfl⟩ | ⟨_, _, _, rfl, rfl⟩ | ⟨_, _, _, rfl, rfl⟩ <;> rfl
    exact kQ _ (Same.trans (Same.trans s1 s2) s3)
theorem ok_told (T : Txt K mg A) : FnOk P w K mg base CX0 6 A.a__law_told A.d__law_told ["_law_way", "_law_settings_here", "_law_start", "_law_steps_here"] sp_told := by
  have g_run : FnOk P w K mg base (Fly P w) 5 A.a_run A.d_run ["settings", "start", "steps"] (sp_run A.c_BadSettings A.c_BadStep) := ok_run T
  have g_outs : FnOk P w K mg base (Fly P w) 5 A.a_outs A.d_outs ["settings", "start", "steps"] (sp_outs A.c_BadSettings A.c_BadStep) := ok_outs T
  have g__law_word : FnX P w K mg base 1 A.a__law_word A.d__law_word ["_law_e"] (sp_word A.c_BadSettings A.c_BadStep) := ok_word T
  refine T.F__law_told.ok sc__law_told (fun vs H Q E h => ?_) (fun cdv A' outer s H vs Q E hr h => ?_)
  · obtain ⟨way, p, D, as, rows, a, b, c, d, e, st, rfl, _⟩ := h
    rfl
  · obtain ⟨way, p, D, as, rows, a, b, c, d, e, st, rfl, hp, hR, hn, hrb, kS, kT, k0, k1⟩ := h
    refine ⟨_, (pss_one (ps_tryAs (i := 4) rfl rfl rfl rfl T.m_VoteError T.x_VoteError sc__law_told.nd rfl rfl (fun EB pn xe hp => (pss_cons (ps_if (pt_cmpR op_eq (pv 0) pe_int (nomark _))
      (pss_one (ps_ret (pe_call g_run (hr.mono (by decide)) rfl T.m_run T.F_run.kp T.b_run .nil hp (pa_cons (pv 1) (pa_cons (pv 2) (pa_cons (pv 3) pa_nil))))))
      pss_nil)
      (pss_one (ps_ret (pe_call g_outs (hr.mono (by decide)) rfl T.m_outs T.F_outs.kp T.b_outs .nil hp (pa_cons (pv 1) (pa_cons (pv 2) (pa_cons (pv 3) pa_nil)))))))) (fun ea => (pss_one (ps_ret (pe_callX (hh_exc ea) g__law_word (hr.x.mark.mono (by decide)) rfl T.m__law_word T.F__law_word.kp T.b__law_word (pa_cons (pv 4) pa_nil))))))), ?_⟩
    walk_at "rd"
    refine rd_dec (fun h0 => ?_) (fun h0 => ?_)
    · walk_at "rd"
      refine ⟨p, D, as, rows, a, b, c, d, e, st, rfl, hp, hR, hn, hrb, fun h1 h2 => k0 h1 h2 h0, fun h1 h2 H' s' => ⟨A.c_BadStep, rfl, T.x_BadStep, T.k_BadStep_VoteError, fun ea σ' hea hl => ?_⟩, fun h1 H' s' => ⟨A.c_BadSettings, rfl, T.x_BadSettings, T.k_BadSettings_VoteError, fun ea σ' hea hl => ?_⟩⟩
      · walk_at "rd"
        refine rd_var (v := .ref ea) (by rw [List.getElem?_set_self (by rw [hl]; show 4 < 5; decide)]) ?_
        walk_at "rd"
        exact ⟨⟨_, upd_same⟩, ea, _, _, rfl, upd_same, .inl ⟨rfl, rfl⟩, fun H2 s2 => kT h1 h2 H2 (Same.trans (s'.upd hea) s2)⟩
      · walk_at "rd"
        refine rd_var (v := .ref ea) (by rw [List.getElem?_set_self (by rw [hl]; show 4 < 5; decide)]) ?_
        walk_at "rd"
        exact ⟨⟨_, upd_same⟩, ea, _, _, rfl, upd_same, .inr ⟨rfl, rfl⟩, fun H2 s2 => kS h1 H2 (Same.trans (s'.upd hea) s2)⟩
    · walk_at "rd"
      refine ⟨p, D, as, rows, a, b, c, d, e, st, rfl, hp, hR, hn, hrb, fun h1 h2 => k1 h1 h2 h0, fun h1 h2 H' s' => ⟨A.c_BadStep, rfl, T.x_BadStep, T.k_BadStep_VoteError, fun ea σ' hea hl => ?_⟩, fun h1 H' s' => ⟨A.c_BadSettings, rfl, T.x_BadSettings, T.k_BadSettings_VoteError, fun ea σ' hea hl => ?_⟩⟩
      · walk_at "rd"
        refine rd_var (v := .ref ea) (by rw [List.getElem?_set_self (by rw [hl]; show 4 < 5; decide)]) ?_
        walk_at "rd"
        exact ⟨⟨_, upd_same⟩, ea, _, _, rfl, upd_same, .inl ⟨rfl, rfl⟩, fun H2 s2 => kT h1 h2 H2 (Same.trans (s'.upd hea) s2)⟩
      · walk_at "rd"
        refine rd_var (v := .ref ea) (by rw [List.getElem?_set_self (by rw [hl]; show 4 < 5; decide)]) ?_
        walk_at "rd"
        exact ⟨⟨_, upd_same⟩, ea, _, _, rfl, upd_same, .inr ⟨rfl, rfl⟩, fun H2 s2 => kS h1 H2 (Same.trans (s'.upd hea) s2)⟩
end

open PySem L2 PyProof.Rows


theorem cut_take {xs : List V} {k : Nat} : cutV xs none (some (k : Int)) = xs.take k := by
  unfold cutV
  show (xs.drop 0).take ((if (k : Int) < 0 then ((k : Int) + (xs.length : Int)).toNat else min (k : Int).toNat xs.length) - 0) = _
  rw [if_neg (by omega), List.drop_zero, Nat.sub_zero, Int.toNat_natCast]
  by_cases h : k ≤ xs.length
  · rw [Nat.min_eq_left h]
  · rw [Nat.min_eq_right (by omega), List.take_length, List.take_of_length_le (by omega)]
theorem cut_drop {xs : List V} {k : Nat} (h : k ≤ xs.length) : cutV xs (some (k : Int)) none = xs.drop k := by
  unfold cutV
  show (xs.drop (if (k : Int) < 0 then ((k : Int) + (xs.length : Int)).toNat else min (k : Int).toNat xs.length)).take (xs.length - (if (k : Int) < 0 then ((k : Int) + (xs.length : Int)).toNat else min (k : Int).toNat xs.length)) = _
  rw [if_neg (by omega), Int.toNat_natCast, Nat.min_eq_left h, List.take_of_length_le (by rw [List.length_drop]; exact Nat.le_refl _)]
/-- two words -/
theorem two_strs {K : PySem.W.Frag} {H : Hp} {a : Addr} {s : Str} (h : H a = some (.lst [.str s, .str s])) : Dt K H (.ref a) (.list [.str s, .str s]) := .lst (SqL.of h) (.cons (.str _) (.cons (.str _) .nil))
section
variable {P : Program} {w : World} {K : PySem.W.Frag} {mg : Str → Option Value} {base : Heap} {A : Ad}
theorem ok_law (T : Txt K mg A) : FnOk P w K mg base CX0 9 A.a_law A.d_law ["_law_script"] (sp_law K) := by
  have g__law_cell : FnOk P w K mg base CX0 1 A.a__law_cell A.d__law_cell ["_law_script", "_law_k"] (sp_cell K) := ok_cell T
  have g__law_drawn : FnOk P w K mg base CX0 1 A.a__law_drawn A.d__law_drawn ["_law_cell_here", "_law_k"] sp_drawn := ok_drawn T
  have g__law_settings : FnOk P w K mg base CX0 1 A.a__law_settings A.d__law_settings ["_law_more"] sp_settings := ok_settings T
  have g__law_steps : FnOk P w K mg base CX0 3 A.a__law_steps A.d__law_steps ["_law_script", "_law_settings_here", "_law_many"] (sp_steps K) := ok_steps T
  have g__law_told : FnOk P w K mg base CX0 6 A.a__law_told A.d__law_told ["_law_way", "_law_settings_here", "_law_start", "_law_steps_here"] sp_told := ok_told T
  have g_Voter___init__ : FnOk P w K mg base CX0 3 A.a_Voter___init__ A.d_Voter___init__ ["self", "settings", "start"] (sp_init A.C) := ok_Voter___init__ T
  have g_Voter_step : FnOk P w K mg base CX0 4 A.a_Voter_step A.d_Voter_step ["self", "values"] (sp_step A.C) := ok_Voter_step T
  refine T.F_law.ok sc_law (fun vs H Q E h => ?_) (fun cdv A' outer s H vs Q E hr h => ?_)
  · obtain ⟨a, ns, rfl, _⟩ := h
    rfl
  · obtain ⟨a, ns, rfl, hS, hlen, kq⟩ := h
    have hu := hu_of hr
    refine ⟨_, (pss_cons (ps_set (i := 1) sc_law.nd rfl (Or.inl rfl) (pe_call g__law_drawn (hr.mono (by decide)) rfl T.m__law_drawn T.F__law_drawn.kp T.b__law_drawn .nil pass0 (pa_cons (pe_call g__law_cell (hr.mono (by decide)) rfl T.m__law_cell T.F__law_cell.kp T.b__law_cell .nil pass0 (pa_cons (pv 0) (pa_cons pe_int pa_nil))) (pa_cons pe_int pa_nil))))
      (pss_cons (ps_set (i := 2) sc_law.nd rfl (Or.inr rfl) (pe_call g__law_settings (hr.mono (by decide)) rfl T.m__law_settings T.F__law_settings.kp T.b__law_settings .nil pass0 (pa_cons (pe_op op_fdivL (pv 1) pe_int) pa_nil)))
      (pss_cons (ps_set (i := 3) sc_law.nd rfl (Or.inr rfl) (pe_op op_sub (pe_op op_mod (pe_op op_fdivL (pv 1) (pe_pow (c := 1152921504606846976) (by decide +kernel))) pe_int) pe_int))
      (pss_cons (ps_set (i := 4) sc_law.nd rfl (Or.inl rfl) (pe_call g__law_steps (hr.mono (by decide)) rfl T.m__law_steps T.F__law_steps.kp T.b__law_steps .nil pass0 (pa_cons (pv 0) (pa_cons (pv 2) (pa_cons (pe_callB (call_maxN rfl) (by rfl) T.n_max boot_max (pa_cons pe_int (pa_cons (pe_callB (call_minN rfl) (by rfl) T.n_min boot_min (pa_cons pe_int (pa_cons (pe_callB (r := rLenS K) call_lenN (by rfl) T.n_len boot_len (pa_cons (pv 0) pa_nil)) pa_nil))) pa_nil))) pa_nil)))))
      (pss_cons (ps_set (i := 5) sc_law.nd rfl (Or.inr rfl) (pe_make T.M_Voter g_Voter___init__ (hr.mono (by decide)) rfl T.m_Voter T.b_Voter___init__ .nil pass0 (pa_cons (pv 2) (pa_cons (pv 3) pa_nil))))
      (pss_cons (ps_setc (i := 6) ["_law_values_here"] ["_law_voter"] [5] sc_law.nd rfl (Or.inl rfl) (.cons rfl rfl (.inl rfl) (.nil)) rfl (pi_list (pv 4)) (fun _ _ _ _ => pg_name (i := 0) (show (["_law_values_here", "_law_voter"] : List Str).Nodup by decide +kernel) rfl (Or.inl rfl) (.inr rfl)) (fun _ _ _ _ => pts_nil) (fun _ _ _ _ => (pe_meth (pv 1) T.cl T.mt_step g_Voter_step (hr.mono (by decide)) T.b_Voter_step .nil pass0 (pa_cons (pe_callTy (r := rListOf K) call_listN (by rfl) T.n_list boot_list (pa_cons (pv 0) pa_nil)) pa_nil))) (gown_name (by decide)))
      (pss_cons (ps_setc (i := 7) ["_law_values_here"] [] [] sc_law.nd rfl (Or.inl rfl) (.nil) rfl (pi_list (pv 4)) (fun _ _ _ _ => pg_name (i := 0) (show (["_law_values_here"] : List Str).Nodup by decide +kernel) rfl (Or.inl rfl) (.inr rfl)) (fun _ _ _ _ => pts_nil) (fun _ _ _ _ => (pe_callTy (r := rListOf K) call_listN (by rfl) T.n_list boot_list (pa_cons (pv 0) pa_nil))) (gown_name (by decide)))
      (pss_cons (ps_for PassesOwn.never rfl (pi_range1 rfl T.n_range (pa_cons pe_int pa_nil)) (pg_name (i := 8) sc_law.nd rfl (Or.inl rfl))
      (pss_cons (ps_set (i := 9) sc_law.nd rfl (Or.inl rfl) (pe_call g__law_told (hr.mono (by decide)) rfl T.m__law_told T.F__law_told.kp T.b__law_told .nil pass0 (pa_cons pe_int (pa_cons (pv 2) (pa_cons (pv 3) (pa_cons (pv 7) pa_nil))))))
      (pss_cons (ps_if (PW.pt (pw_or (pt_not (pt_val (pe_callB (r := rInst K) call_instN (by rfl) T.n_isinstance boot_isinstance (pa_cons (pv 9) (pa_cons (pe_bltn (v := .ty "list") rfl T.n_list boot_list rfl) pa_nil))))) (pw_or (pt_cmpR (r := rNeD K) (op_neD hr.units) (pv 9) (pv 6) (nomark _)) (pw_or1 (pt_cmpR (r := rNeD K) (op_neD hr.units) (pv 7) (pv 4) (nomark _))))))
      (pss_one (ps_ret pe_bl))
      pss_nil)
      (pss_cons (ps_if (pt_not (pt_val (pe_callB (r := rAllB K) (call_allN rfl) (by rfl) T.n_all boot_all (pa_cons (pe_comp ["_law_pair"] [] [] (.nil) rfl (pi_list (pv 9)) (fun _ _ _ _ => pg_name (i := 0) (show (["_law_pair"] : List Str).Nodup by decide +kernel) rfl (Or.inl rfl) (.inr rfl)) (fun _ _ _ _ => pts_nil) (fun _ _ _ _ => (pe_and (pe_callB (r := rInst K) call_instN (by rfl) T.n_isinstance boot_isinstance (pa_cons (pv 0) (pa_cons (pe_bltn (v := .ty "tuple") rfl T.n_tuple boot_tuple rfl) pa_nil))) (pe_one (pe_cmpR op_eq (pe_callB (r := rLenS K) call_lenN (by rfl) T.n_len boot_len (pa_cons (pv 0) pa_nil)) pe_int (nomark _))))) (gown_name (by decide))) pa_nil))))
      (pss_one (ps_ret pe_bl))
      pss_nil)
      (pss_one (ps_expr (pe_bm PySem.F.plainAttrs_list PySem.F.slot_list_append PySem.F.type_list_append mt_append (pv 9) (pa_cons pe_non pa_nil))))))))
      (pss_cons (ps_if (pt_cmpR (r := rNeD K) (op_neD hr.units) (pe_comp ["_law_way"] ["_law_settings_here", "_law_start"] [2, 3] (.cons rfl rfl (.inl rfl) (.cons rfl rfl (.inl rfl) (.nil))) rfl (pi_range1 rfl T.n_range (pa_cons pe_int pa_nil)) (fun _ _ _ _ => pg_name (i := 0) (show (["_law_way", "_law_settings_here", "_law_start"] : List Str).Nodup by decide +kernel) rfl (Or.inl rfl) (.inr rfl)) (fun _ _ _ _ => pts_nil) (fun _ _ _ _ => (pe_call g__law_told (hr.mono (by decide)) rfl T.m__law_told T.F__law_told.kp T.b__law_told .nil pass0 (pa_cons (pv 0) (pa_cons (pv 1) (pa_cons (pv 2) (pa_cons (pe_lst pa_nil) pa_nil)))))) (gown_name (by decide))) (pe_lst (pa_cons (pe_lst pa_nil) (pa_cons (pe_lst pa_nil) pa_nil))) (nomark _))
      (pss_one (ps_ret pe_bl))
      pss_nil)
      (pss_cons (ps_set (i := 10) sc_law.nd rfl (Or.inl rfl) (pe_ix (r := rIxT K) ix_tup (pv 2) pe_int (fun _ _ => rfl)))
      (pss_cons (ps_set (i := 11) sc_law.nd rfl (Or.inl rfl) (pe_lst (pa_cons (pe_op op_rep (pe_lst (pa_cons pe_int pa_nil)) (pe_op op_sub (pv 10) pe_int)) (pa_cons (pe_op op_rep (pe_lst (pa_cons pe_int pa_nil)) (pe_op op_add (pv 10) pe_int)) (pa_cons (pe_op op_rep (pe_lst (pa_cons (pe_op op_add (pe_pow (c := 1000000000) (by decide +kernel)) pe_int) pa_nil)) (pv 10)) (pa_cons (pe_op op_cat (pe_op op_rep (pe_lst (pa_cons pe_non pa_nil)) (pe_op op_sub (pv 10) pe_int)) (pe_lst (pa_cons (pe_op op_sub (pe_op op_sub pe_int (pe_pow (c := 1000000000) (by decide +kernel))) pe_int) pa_nil))) (pa_cons (pe_lst pa_nil) pa_nil)))))))
      (pss_cons (ps_set (i := 12) sc_law.nd rfl (Or.inl rfl) (pe_op op_mod (pe_op op_fdivL (pv 1) (pe_op op_shl pe_int pe_int)) (pe_op op_add (pe_callB (r := rLenS K) call_lenN (by rfl) T.n_len boot_len (pa_cons (pv 4) pa_nil)) pe_int)))
      (pss_cons (ps_set (i := 13) sc_law.nd rfl (Or.inr rfl) (pe_op op_cat (pe_op op_cat (pe_slice (r := rSlL K) sl_list (pv 4) po_none (po_some (pv 12))) (pe_lst (pa_cons (pe_ix (r := rIxL K) ix_list (pv 11) (pe_op op_mod (pe_op op_fdivL (pv 1) (pe_op op_shl pe_int pe_int)) pe_int) (fun _ _ => rfl)) pa_nil))) (pe_slice (r := rSlL K) sl_list (pv 4) (po_some (pv 12)) po_none)))
      (pss_cons (ps_if (pt_cmpR (r := rNeD K) (op_neD hr.units) (pe_comp ["_law_way"] ["_law_settings_here", "_law_start", "_law_spoilt"] [2, 3, 13] (.cons rfl rfl (.inl rfl) (.cons rfl rfl (.inl rfl) (.cons rfl rfl (.inl rfl) (.nil)))) rfl (pi_range1 rfl T.n_range (pa_cons pe_int pa_nil)) (fun _ _ _ _ => pg_name (i := 0) (show (["_law_way", "_law_settings_here", "_law_start", "_law_spoilt"] : List Str).Nodup by decide +kernel) rfl (Or.inl rfl) (.inr rfl)) (fun _ _ _ _ => pts_nil) (fun _ _ _ _ => (pe_call g__law_told (hr.mono (by decide)) rfl T.m__law_told T.F__law_told.kp T.b__law_told .nil pass0 (pa_cons (pv 0) (pa_cons (pv 1) (pa_cons (pv 2) (pa_cons (pv 3) pa_nil)))))) (gown_name (by decide))) (pe_lst (pa_cons pe_str (pa_cons pe_str pa_nil))) (nomark _))
      (pss_one (ps_ret pe_bl))
      pss_nil)
      (pss_cons (ps_set (i := 14) sc_law.nd rfl (Or.inl rfl) (pe_lst (pa_cons (pe_op (r := rCatT K) op_catT (pe_tup (pa_cons pe_int pa_nil)) (pe_slice (r := rSlT K) sl_tup (pv 2) (po_some pe_int) po_none)) (pa_cons (pe_op (r := rCatT K) op_catT (pe_tup (pa_cons pe_int pa_nil)) (pe_slice (r := rSlT K) sl_tup (pv 2) (po_some pe_int) po_none)) (pa_cons (pe_op (r := rCatT K) op_catT (pe_slice (r := rSlT K) sl_tup (pv 2) po_none (po_some pe_int)) (pe_tup (pa_cons pe_int pa_nil))) (pa_cons (pe_op (r := rCatT K) op_catT (pe_op (r := rCatT K) op_catT (pe_slice (r := rSlT K) sl_tup (pv 2) po_none (po_some pe_int)) (pe_tup (pa_cons pe_int pa_nil))) (pe_slice (r := rSlT K) sl_tup (pv 2) (po_some pe_int) po_none)) pa_nil))))))
      (pss_cons (ps_set (i := 15) sc_law.nd rfl (Or.inr rfl) (pe_ix (r := rIxL K) ix_list (pv 14) (pe_op op_mod (pe_op op_fdivL (pv 1) (pe_op op_shl pe_int pe_int)) pe_int) (fun _ _ => rfl)))
      (pss_one (ps_ret (pe_cmpR (r := rEqD K) (op_eqD hr.units) (pe_comp ["_law_way"] ["_law_none", "_law_start", "_law_spoilt"] [15, 3, 13] (.cons rfl rfl (.inl rfl) (.cons rfl rfl (.inl rfl) (.cons rfl rfl (.inl rfl) (.nil)))) rfl (pi_range1 rfl T.n_range (pa_cons pe_int pa_nil)) (fun _ _ _ _ => pg_name (i := 0) (show (["_law_way", "_law_none", "_law_start", "_law_spoilt"] : List Str).Nodup by decide +kernel) rfl (Or.inl rfl) (.inr rfl)) (fun _ _ _ _ => pts_nil) (fun _ _ _ _ => (pe_call g__law_told (hr.mono (by decide)) rfl T.m__law_told T.F__law_told.kp T.b__law_told .nil pass0 (pa_cons (pv 0) (pa_cons (pv 1) (pa_cons (pv 2) (pa_cons (pv 3) pa_nil)))))) (gown_name (by decide))) (pe_lst (pa_cons pe_str (pa_cons pe_str pa_nil))) (nomark _)))))))))))))))))))), ?_⟩
    walk_at "rd"
    refine ⟨a, ns, _, rfl, hS, by omega, hlen, fun c H1 s1 => ?_⟩
    walk_at "rd"
    refine ⟨_, _, rfl, fun m h0 h1 => ?_⟩
    walk_at "rd"
    refine ⟨_, rfl, fun p sa sb sc sd se H2 s2 np hp hB => ?_⟩
    have a3 := hB.a3
    have a9 := hB.a9
    have s2 := Same.trans s1 s2
    obtain ⟨n, rfl⟩ : ∃ n : Nat, sa = (n : Int) := ⟨sa.toNat, by omega⟩
    walk_at "rd"
    generalize m / 1152921504606846976 % 2001 - 1000 = st
    refine rd_lenL (s2.seq hS) ?_
    rw [List.length_map]
    walk_at "rd"
    have hM : ∃ M : Int, M = (if (if (ns.length : Int) < 40 then (ns.length : Int) else 40) > 1 then (if (ns.length : Int) < 40 then (ns.length : Int) else 40) else 1) ∧ 1 ≤ M ∧ M ≤ 40 := ⟨_, rfl, by split <;> omega, by split <;> (try split) <;> omega⟩
    obtain ⟨M, eM, hM1, hM40⟩ := hM
    rw [← eM]
    refine ⟨a, p, ns, M, n, sb, sc, sd, se, rfl, s2.seq hS, hlen, by omega, by omega, hp, hB, fun D as rows H3 s3 Rw hrl => ?_⟩
    have RI : RowsIn H3 D as rows := Rows_in (H := H2) (m := n) Rw.lst Rw.len fun i b e => by
      obtain ⟨r, e1, e2, _⟩ := Rw.row i b e
      exact ⟨r, e1, e2⟩
    have RO : RowsOk (n : Int).toNat rows := Rows_ok Rw.all
    have RO' : RowsOk n rows := by rw [Int.toNat_natCast] at RO; exact RO
    have p3 := s3 _ _ hp
    have hn100 : rows.length ≤ 100 := by omega
    clear Rw
    have hokf : ¬ (setOk n sb sc sd se = false) := by rw [hB.ok]; exact fun z => by cases z
    walk_at "rd"
    intro x dx hx hdx hne
    have sx : Same H3 (upd (upd H3 dx (.own x)) x (.ins A.C dx [])) := ((Same.refl H3).upd hdx).upd (by rw [upd_ne (Ne.symm hne)]; exact hx)
    refine ⟨x, dx, p, n, sb, sc, sd, se, st, rfl, upd_same, sx _ _ p3, hB.ok, fun H4 lo co e4 nlo nco v4 => ⟨rfl, ?_⟩⟩
    have s4 : Same H3 H4 := fun b u eb => e4 b u (by rw [List.mem_singleton]; exact ne_of_none eb hx) (sx b u eb)
    have nlo := sx.free nlo
    have nco := sx.free nco
    have hm0 : (VS.new n sb sc sd se st).many = (n : Int).toNat := rfl
    walk_at "rd"
    refine ⟨D, rfl, ⟨_, SqL.of (RI.same s4).lst⟩, comp_list (xs := as.map V.ref) (τ := [none, some (.ref x)]) rfl (by rw [List.length_map, RI.len]; exact Nat.le_trans (Nat.le_trans hn100 (by decide)) line1000)
      (fun i ys H5 => Same H3 H5 ∧ VO A.C H5 x dx lo co (vAt (VS.new n sb sc sd se st) rows i) ∧ PrsIn H5 ys ((List.range i).map (prAt (VS.new n sb sc sd se st) rows))) ⟨s4, v4, rfl, fun i p e => by simp at e⟩ ?_ ?_ ?_⟩
    · rintro i ys H5 hi ⟨hs, hv, hpr⟩
      refine ⟨SqL.of (hs _ _ RI.lst), ?_⟩
      rw [hpr.1, List.length_map, List.length_range]
      exact Nat.le_refl _
    · rintro i y ys H5 hy ⟨hs, hv, hpr⟩
      obtain ⟨q, eq, rfl⟩ := refs_at hy
      have hi : i < rows.length := by rw [← RI.len]; exact (List.getElem?_eq_some_iff.mp eq).1
      have hq := hs _ _ (RI.row i q eq)
      obtain ⟨hl, hsd⟩ := RO i hi
      walk_at "rd"
      refine ⟨_, _, _, rfl, hv.ins, rfl, ?_⟩
      walk_at "rd"
      refine rd_listN (SqL.of hq) fun q2 nq2 => ?_
      have s6 : Same H5 (upd H5 q2 (.lst ((rows.getD i []).map toV))) := (Same.refl H5).upd nq2
      have q6 : upd H5 q2 (.lst ((rows.getD i []).map toV)) q2 = some (.lst ((rows.getD i []).map toV)) := upd_same
      generalize upd H5 q2 (.lst ((rows.getD i []).map toV)) = H6 at s6 q6 ⊢
      have v6 := hv.same s6
      walk_at "rd"
      refine ⟨_, _, _, _, q2, _, rows.getD i [], rfl, v6, q6, fun z => ne_of_none hv.hlo nq2 z.symm, fun z => ne_of_none hv.hco nq2 z.symm, by rw [vAt_many, hm0]; exact hl, hsd, fun H7 t e7 v7 nt => ?_⟩
      have s7 : Same H3 H7 := fun b u eb => e7 b u (by simp only [List.mem_cons, List.not_mem_nil, or_false, not_or]; exact ⟨ne_of_none eb hx, ne_of_none eb nlo, ne_of_none eb nco⟩) (s6 _ _ (hs _ _ eb))
      refine ⟨s7.upd nt, v7.same ((Same.refl H7).upd nt), ?_⟩
      rw [List.range_succ, List.map_append]
      exact ((hpr.keep (KeepT.of s6)).keep ((v6.keepT e7).trans (KeepT.of ((Same.refl H7).upd nt)))).snoc (p := prAt (VS.new n sb sc sd se st) rows i) upd_same
    rintro ysd H5 ⟨s5, _, prd⟩ Du nDu
    rw [List.length_map, RI.len] at prd
    have s6 : Same H5 (upd H5 Du (.lst ysd)) := (Same.refl H5).upd nDu
    have Du6 : upd H5 Du (.lst ysd) Du = some (.lst ysd) := upd_same
    have P6 := prd.keep (KeepT.of s6)
    have s6 := Same.trans s5 s6
    generalize upd H5 Du (.lst ysd) = H6 at s6 Du6 P6 ⊢
    clear v4 e4 s4 s5 prd
    walk_at "rd"
    refine ⟨D, rfl, ⟨_, SqL.of (RI.same s6).lst⟩, comp_list (xs := as.map V.ref) (τ := [none]) rfl (by rw [List.length_map, RI.len]; exact Nat.le_trans (Nat.le_trans hn100 (by decide)) line1000)
      (fun j zs' H13 => Same H6 H13 ∧ ∃ bs : List Addr, zs' = bs.map V.ref ∧ bs.length = j ∧ ∀ k b, bs[k]? = some b → H13 b = some (.lst ((rows.getD k []).map toV))) ⟨Same.refl H6, [], rfl, rfl, fun k b e => by simp at e⟩ ?_ ?_ ?_⟩
    · rintro j zs' H13 hj ⟨hs, bs, rfl, hb, _⟩
      exact ⟨SqL.of (hs _ _ (RI.same s6).lst), by rw [List.length_map, hb]; exact Nat.le_refl _⟩
    · rintro j y zs' H13 hy ⟨hs, bs, rfl, hb, hbs⟩
      obtain ⟨q, eq, rfl⟩ := refs_at hy
      have hq := hs _ _ (s6 _ _ (RI.row j q eq))
      walk_at "rd"
      refine rd_listN (SqL.of hq) fun t nt => ?_
      refine ⟨hs.upd nt, bs ++ [t], by rw [List.map_append]; rfl, by rw [List.length_append, hb]; rfl, fun k b e => ?_⟩
      by_cases hk : k < bs.length
      · rw [List.getElem?_append_left hk] at e
        have h := hbs k b e
        rw [upd_ne (ne_of_none h nt)]
        exact h
      · rw [List.getElem?_append_right (by omega)] at e
        have h0 : k - bs.length = 0 := by
          have := (List.getElem?_eq_some_iff.mp e).1
          simp at this
          omega
        rw [h0] at e
        cases e
        have hk2 : k = j := by omega
        subst hk2
        exact upd_same
    rintro zs' H13 ⟨hs, bs, rfl, hb, hbs⟩ Hd nHd
    rw [List.length_map, RI.len] at hb
    have s14 : Same H6 (upd H13 Hd (.lst (bs.map V.ref))) := hs.upd nHd
    have HI : RowsIn (upd H13 Hd (.lst (bs.map V.ref))) Hd bs rows := ⟨upd_same, hb, fun k b e => by
      have h := hbs k b e
      rw [upd_ne (ne_of_none h nHd)]
      exact h⟩
    generalize upd H13 Hd (.lst (bs.map V.ref)) = H14 at s14 HI ⊢
    have RI14 := (RI.same s6).same s14
    have p14 := s14 _ _ (s6 _ _ p3)
    have Du14 := s14 _ _ Du6
    have P14 := P6.keep (KeepT.of s14)
    have rb : ∀ i, i < rows.length → (rows.getD i []).length ≤ 1000 := fun i hi => by
      have := (RO' i hi).1
      omega
    clear hs hbs
    walk_at "rd"
    refine ⟨2, rfl, by decide, by decide, for_range (n := (2 : Int).toNat) (fun j σ H15 => ∃ (y8 y9 : Option V), σ = [some (.ref a), some (.int m), some (.ref p), some (.int st), some (.ref D), some (.ref x), some (.ref Du), some (.ref Hd), y8, y9, none, none, none, none, none, none] ∧ Same H14 H15) ⟨_, _, rfl, Same.refl H14⟩ ?_ ?_⟩
    · rintro j σ H15 hj ⟨y8, y9, rfl, s15⟩
      walk_at "rd"
      refine ⟨_, p, Hd, bs, rows, n, sb, sc, sd, se, st, rfl, s15 _ _ p14, HI.same s15, hn100, rb, fun z => absurd z hokf, fun _ z => absurd RO z, fun _ _ _ H16 R xs s16 nR R16 P16 => ?_, fun _ _ z => absurd rfl z⟩
      have s16 := Same.trans s15 s16
      have nR14 : H14 R = none := s15.free nR
      walk_at "rd"
      refine rd_instN (.lst R16) kit_list_list ?_
      walk_at "rd"
      refine rd_neSame (Dt_prs (SqL.of R16) P16) (Dt_prs (SqL.of (s16 _ _ Du14)) (P14.keep (KeepT.of s16))) (lay_prs _ _ _) (dep_list prD_dep (by decide) _) ?_
      walk_at "rd"
      refine rd_neSame (Dt_rows (HI.same s16)) (Dt_rows (RI14.same s16)) (lay_list lay_opts rows) (dep_list rwD_dep (by decide) rows) ?_
      walk_at "rd"
      have xl : xs.length = rows.length := by rw [P16.1, List.length_map, List.length_range]
      refine ⟨R, rfl, ⟨_, SqL.of R16⟩, comp_list (xs := xs) (τ := [none]) rfl (by rw [xl]; exact Nat.le_trans (Nat.le_trans hn100 (by decide)) line1000)
        (fun k ys H17 => Same H16 H17 ∧ ys = (List.replicate k true).map V.bl) ⟨Same.refl H16, rfl⟩ ?_ ?_ ?_⟩
      · rintro k ys H17 hk ⟨hs, rfl⟩
        exact ⟨SqL.of (hs _ _ R16), by rw [List.length_map, List.length_replicate]; exact Nat.le_refl _⟩
      · rintro k y ys H17 hy ⟨hs, rfl⟩
        have hk : k < rows.length := by rw [← xl]; exact (List.getElem?_eq_some_iff.mp hy).1
        obtain ⟨b, e1, e2⟩ := P16.2 k _ (by rw [List.getElem?_map, List.getElem?_range hk]; rfl)
        rw [e1] at hy
        cases hy
        have b17 := hs _ _ e2
        walk_at "rd"
        refine rd_instN (.tup b17) kit_tuple_tuple ?_
        walk_at "rd"
        refine ⟨b, _, rfl, .inr (SqT.of b17), ?_⟩
        walk_at "rd"
        exact ⟨hs, by rw [List.replicate_succ', List.map_append]; rfl⟩
      rintro ys H17 ⟨s17, rfl⟩ Al nAl
      have s18 : Same H16 (upd H17 Al (.lst ((List.replicate xs.length true).map V.bl))) := s17.upd nAl
      walk_at "rd"
      refine ⟨Al, List.replicate xs.length true, rfl, SqL.of upd_same, ?_⟩
      rw [show (List.replicate xs.length true).all id = true by rw [List.all_eq_true]; intro b hb; exact List.eq_of_mem_replicate hb]
      generalize upd H17 Al (.lst ((List.replicate xs.length true).map V.bl)) = H18 at s18 ⊢
      walk_at "rd"
      refine ⟨.inl ⟨rfl, _, SqL.of (s18 _ _ R16)⟩, ?_⟩
      walk_at "rd"
      refine rd_append (s18 _ _ R16) (by rw [xl]; exact small1000 (by omega)) ?_
      refine ⟨_, _, rfl, fun b u e => ?_⟩
      rw [upd_ne (ne_of_none e nR14)]
      exact s18 _ _ (s16 _ _ e)
    · rintro σ H15 ⟨y8, y9, rfl, s15⟩
      have p15 := s15 _ _ p14
      have RI15 := RI14.same s15
      clear HI P14
      walk_at "rd"
      refine ⟨2, rfl, by decide, by decide, comp_range (n := (2 : Int).toNat) (τ := [none, some (.ref p), some (.int st)]) rfl (by decide)
        (fun j ys H16 => Same H15 H16 ∧ ∃ rs : List Addr, ys = rs.map V.ref ∧ rs.length = j ∧ ∀ r ∈ rs, H16 r = some (.lst [])) ⟨Same.refl H15, [], rfl, rfl, fun r hr => by simp at hr⟩ ?_ ?_ ?_⟩
      · rintro j ys H16 hj ⟨hs, rs, rfl, hl, _⟩
        rw [List.length_map, hl]
        exact Nat.le_refl _
      · rintro j ys H16 hj ⟨hs, rs, rfl, hl, hrs⟩
        walk_at "rd"
        refine ⟨Nat.zero_le _, fun El nEl => ?_⟩
        have s17 : Same H16 (upd H16 El (.lst [])) := (Same.refl H16).upd nEl
        have nil_ok : RowsOk (n : Int).toNat [] := fun i hi => by simp at hi
        have fin : ∀ (H18 : Hp) (R : Addr), Same (upd H16 El (.lst [])) H18 → H18 R = some (.lst []) → Same H15 H18 ∧ ∃ rs' : List Addr, rs.map V.ref ++ [.ref R] = rs'.map V.ref ∧ rs'.length = j + 1 ∧ ∀ r ∈ rs', H18 r = some (.lst []) := fun H18 R s18 R18 => by
          refine ⟨Same.trans hs (Same.trans s17 s18), rs ++ [R], by rw [List.map_append]; rfl, by rw [List.length_append, hl]; rfl, fun r hr => ?_⟩
          rcases List.mem_append.mp hr with hr | hr
          · exact s18 _ _ (s17 _ _ (hrs r hr))
          · rw [List.mem_singleton.mp hr]
            exact R18
        walk_at "rd"
        refine ⟨_, p, El, [], [], n, sb, sc, sd, se, st, rfl, s17 _ _ (hs _ _ p15), ⟨upd_same, rfl, fun i a e => by simp at e⟩, Nat.zero_le _, fun i hi => by simp at hi, fun z => absurd z hokf, fun _ z => absurd nil_ok z, fun _ _ _ H18 R xs s18 nR R18 P18 => ?_, fun _ _ _ H18 R xs s18 nR R18 P18 => ?_⟩
        · obtain rfl : xs = [] := List.length_eq_zero_iff.mp P18.1
          exact fin H18 R s18 R18
        · obtain rfl : xs = [] := List.length_eq_zero_iff.mp P18.1
          exact fin H18 R s18 R18
      rintro ys H16 ⟨s16, rs, rfl, rl, hrs⟩ Lq nLq
      obtain ⟨r0, r1, rfl⟩ : ∃ r0 r1, rs = [r0, r1] := by
        match rs, rl with
        | [a, b], _ => exact ⟨a, b, rfl⟩
      have s17 : Same H16 (upd H16 Lq (.lst ([r0, r1].map V.ref))) := (Same.refl H16).upd nLq
      have L17 : upd H16 Lq (.lst ([r0, r1].map V.ref)) Lq = some (.lst [.ref r0, .ref r1]) := upd_same
      have r017 := s17 _ _ (hrs r0 (by simp))
      have r117 := s17 _ _ (hrs r1 (by simp))
      have s17 := Same.trans s16 s17
      generalize upd H16 Lq (.lst ([r0, r1].map V.ref)) = H17 at s17 L17 r017 r117 ⊢
      walk_at "rd"
      refine ⟨Nat.zero_le _, fun e0 ne0 => ?_⟩
      have s18 : Same H17 (upd H17 e0 (.lst [])) := (Same.refl H17).upd ne0
      have e018 : upd H17 e0 (.lst []) e0 = some (.lst []) := upd_same
      generalize upd H17 e0 (.lst []) = H18 at s18 e018 ⊢
      walk_at "rd"
      refine ⟨Nat.zero_le _, fun e1 ne1 => ?_⟩
      have s19 : Same H18 (upd H18 e1 (.lst [])) := (Same.refl H18).upd ne1
      have e119 : upd H18 e1 (.lst []) e1 = some (.lst []) := upd_same
      have e019 := s19 _ _ e018
      have s19 := Same.trans s18 s19
      generalize upd H18 e1 (.lst []) = H19 at s19 e119 e019 ⊢
      walk_at "rd"
      refine ⟨by show 2 ≤ sizeLine; decide, fun e2 ne2 => ?_⟩
      have s20 : Same H19 (upd H19 e2 (.lst [.ref e0, .ref e1])) := (Same.refl H19).upd ne2
      have e220 : upd H19 e2 (.lst [.ref e0, .ref e1]) e2 = some (.lst [.ref e0, .ref e1]) := upd_same
      have e020 := s20 _ _ e019
      have e120 := s20 _ _ e119
      have s20 := Same.trans s19 s20
      generalize upd H19 e2 (.lst [.ref e0, .ref e1]) = H20 at s20 e220 e020 e120 ⊢
      refine rd_neSame (d := .list [.list [], .list []]) (.lst (SqL.of (s20 _ _ L17)) (.cons (.lst (SqL.of (s20 _ _ r017)) .nil) (.cons (.lst (SqL.of (s20 _ _ r117)) .nil) .nil))) (.lst (SqL.of e220) (.cons (.lst (SqL.of e020) .nil) (.cons (.lst (SqL.of e120) .nil) .nil))) (by decide +kernel) (by decide +kernel) ?_
      have s20 := Same.trans (Same.trans s15 s17) s20
      have p20 := s20 _ _ p14
      have RI20 := RI14.same s20
      clear L17 r017 r117 e220 e020 e120 hrs
      walk_at "rd"
      refine rd_ixT (SqT.of p20) rfl ?_
      walk_at "rd"
      have sz1 : ∀ z : Int, 0 ≤ z → z ≤ 10 → 1 * z.toNat ≤ sizeLine := fun z h1 h2 => Nat.le_trans (by omega : 1 * z.toNat ≤ 1000) line1000
      have en1 : ((n : Int) - 1).toNat = n - 1 := by omega
      have en2 : ((n : Int) + 1).toNat = n + 1 := by omega
      have en3 : (n : Int).toNat = n := Int.toNat_natCast n
      refine ⟨by show 1 ≤ sizeLine; decide, fun q1 nq1 => ?_⟩
      walk_at "rd"
      refine rd_rep upd_same (by omega) (sz1 _ (by omega) (by omega)) (by omega) fun O1 nO1 => ?_
      rw [flat_rep, en1]
      have s21 : Same H20 (upd (upd H20 q1 (.lst [.int 0])) O1 (.lst (List.replicate (n - 1) (V.int 0)))) := ((Same.refl H20).upd nq1).upd nO1
      have O21 : upd (upd H20 q1 (.lst [.int 0])) O1 (.lst (List.replicate (n - 1) (V.int 0))) O1 = some (.lst ((List.replicate (n - 1) (some (0 : Int))).map toV)) := by rw [upd_same, List.map_replicate]
      generalize upd (upd H20 q1 (.lst [.int 0])) O1 (.lst (List.replicate (n - 1) (V.int 0))) = H21 at s21 O21 ⊢
      walk_at "rd"
      refine ⟨by show 1 ≤ sizeLine; decide, fun q2 nq2 => ?_⟩
      walk_at "rd"
      refine rd_rep upd_same (by omega) (sz1 _ (by omega) (by omega)) (by omega) fun O2 nO2 => ?_
      rw [flat_rep, en2]
      have s22 : Same H21 (upd (upd H21 q2 (.lst [.int 0])) O2 (.lst (List.replicate (n + 1) (V.int 0)))) := ((Same.refl H21).upd nq2).upd nO2
      have O22 : upd (upd H21 q2 (.lst [.int 0])) O2 (.lst (List.replicate (n + 1) (V.int 0))) O2 = some (.lst ((List.replicate (n + 1) (some (0 : Int))).map toV)) := by rw [upd_same, List.map_replicate]
      generalize upd (upd H21 q2 (.lst [.int 0])) O2 (.lst (List.replicate (n + 1) (V.int 0))) = H22 at s22 O22 ⊢
      walk_at "rd"
      refine ⟨by show 1 ≤ sizeLine; decide, fun q3 nq3 => ?_⟩
      walk_at "rd"
      refine rd_rep upd_same (by omega) (sz1 _ (by omega) (by omega)) (by omega) fun O3 nO3 => ?_
      rw [flat_rep, en3]
      have s23 : Same H22 (upd (upd H22 q3 (.lst [.int (1000000000 + 1)])) O3 (.lst (List.replicate n (V.int (1000000000 + 1))))) := ((Same.refl H22).upd nq3).upd nO3
      have O23 : upd (upd H22 q3 (.lst [.int (1000000000 + 1)])) O3 (.lst (List.replicate n (V.int (1000000000 + 1)))) O3 = some (.lst ((List.replicate n (some (1000000001 : Int))).map toV)) := by
        rw [upd_same, List.map_replicate]
        rfl
      generalize upd (upd H22 q3 (.lst [.int (1000000000 + 1)])) O3 (.lst (List.replicate n (V.int (1000000000 + 1)))) = H23 at s23 O23 ⊢
      walk_at "rd"
      refine ⟨by show 1 ≤ sizeLine; decide, fun q4 nq4 => ?_⟩
      walk_at "rd"
      refine rd_rep upd_same (by omega) (sz1 _ (by omega) (by omega)) (by omega) fun O4 nO4 => ?_
      rw [flat_rep, en1]
      have s24 : Same H23 (upd (upd H23 q4 (.lst [.non])) O4 (.lst (List.replicate (n - 1) V.non))) := ((Same.refl H23).upd nq4).upd nO4
      have O24 : upd (upd H23 q4 (.lst [.non])) O4 (.lst (List.replicate (n - 1) V.non)) O4 = some (.lst (List.replicate (n - 1) V.non)) := upd_same
      generalize upd (upd H23 q4 (.lst [.non])) O4 (.lst (List.replicate (n - 1) V.non)) = H24 at s24 O24 ⊢
      walk_at "rd"
      refine ⟨by show 1 ≤ sizeLine; decide, fun q5 nq5 => ?_⟩
      have s25 : Same H24 (upd H24 q5 (.lst [.int (0 - 1000000000 - 1)])) := (Same.refl H24).upd nq5
      have Q25 : upd H24 q5 (.lst [.int (0 - 1000000000 - 1)]) q5 = some (.lst [.int (0 - 1000000000 - 1)]) := upd_same
      generalize upd H24 q5 (.lst [.int (0 - 1000000000 - 1)]) = H25 at s25 Q25 ⊢
      walk_at "rd"
      refine ⟨O4, q5, _, _, rfl, rfl, s25 _ _ O24, Q25, by rw [List.length_replicate]; exact Nat.le_trans (by show n - 1 + 1 ≤ 1000; omega) line1000, fun O5 nO5 => ?_⟩
      have s26 : Same H25 (upd H25 O5 (.lst (List.replicate (n - 1) V.non ++ [.int (0 - 1000000000 - 1)]))) := (Same.refl H25).upd nO5
      have O26 : upd H25 O5 (.lst (List.replicate (n - 1) V.non ++ [.int (0 - 1000000000 - 1)])) O5 = some (.lst ((List.replicate (n - 1) (none : Option Int) ++ [some (-1000000001)]).map toV)) := by
        rw [upd_same, List.map_append, List.map_replicate]
        rfl
      generalize upd H25 O5 (.lst (List.replicate (n - 1) V.non ++ [.int (0 - 1000000000 - 1)])) = H26 at s26 O26 ⊢
      walk_at "rd"
      refine ⟨Nat.zero_le _, fun O6 nO6 => ?_⟩
      have s27 : Same H26 (upd H26 O6 (.lst [])) := (Same.refl H26).upd nO6
      have O27 : upd H26 O6 (.lst []) O6 = some (.lst (([] : List (Option Int)).map toV)) := upd_same
      generalize upd H26 O6 (.lst []) = H27 at s27 O27 ⊢
      walk_at "rd"
      refine ⟨by show 5 ≤ sizeLine; decide, fun Od nOd => ?_⟩
      have s28 : Same H27 (upd H27 Od (.lst [.ref O1, .ref O2, .ref O3, .ref O5, .ref O6])) := (Same.refl H27).upd nOd
      have Od28 : upd H27 Od (.lst [.ref O1, .ref O2, .ref O3, .ref O5, .ref O6]) Od = some (.lst ([O1, O2, O3, O5, O6].map V.ref)) := upd_same
      generalize upd H27 Od (.lst [.ref O1, .ref O2, .ref O3, .ref O5, .ref O6]) = H28 at s28 Od28 ⊢
      have sA := Same.trans s27 s28
      have sB := Same.trans (Same.trans s25 s26) sA
      have sC := Same.trans s24 sB
      have OW : RW H28 [O1, O2, O3, O5, O6] (oddF n) := by
        have w1 := RW.one ((Same.trans s22 (Same.trans s23 sC)) _ _ O21)
        have w2 := RW.one ((Same.trans s23 sC) _ _ O22)
        have w3 := RW.one (sC _ _ O23)
        have w4 := RW.one (sA _ _ O26)
        have w5 := RW.one (s28 _ _ O27)
        exact w1.append (w2.append (w3.append (w4.append w5)))
      have s28 := Same.trans s20 (Same.trans (Same.trans s21 s22) (Same.trans s23 sC))
      have p28 := s28 _ _ p14
      have RI28 := RI14.same s28
      clear O21 O22 O23 O24 O26 O27 Q25 sA sB sC
      walk_at "rd"
      · refine rd_lenL (SqL.of RI28.lst) ?_
        rw [List.length_map, RI28.len]
        walk_at "rd"
        obtain ⟨k, ek, hk⟩ : ∃ k : Nat, m / (1 * 2 ^ Int.toNat 70) % ((rows.length : Int) + 1) = (k : Int) ∧ k ≤ rows.length := by
          have h3 := Int.emod_nonneg (m / (1 * 2 ^ Int.toNat 70)) (show (rows.length : Int) + 1 ≠ 0 by omega)
          have h4 := Int.emod_lt_of_pos (m / (1 * 2 ^ Int.toNat 70)) (show 0 < (rows.length : Int) + 1 by omega)
          exact ⟨(m / (1 * 2 ^ Int.toNat 70) % ((rows.length : Int) + 1)).toNat, by omega, by omega⟩
        rw [ek]
        refine ⟨D, _, rfl, SqL.of RI28.lst, fun S1 nS1 => ?_⟩
        rw [cut_take, ← List.map_take]
        have s29 : Same H28 (upd H28 S1 (.lst ((as.take k).map V.ref))) := (Same.refl H28).upd nS1
        have S29 : upd H28 S1 (.lst ((as.take k).map V.ref)) S1 = some (.lst ((as.take k).map V.ref)) := upd_same
        generalize upd H28 S1 (.lst ((as.take k).map V.ref)) = H29 at s29 S29 ⊢
        walk_at "rd"
        · obtain ⟨i5, e5, hi5⟩ : ∃ i5 : Nat, m / (1 * 2 ^ Int.toNat 76) % 5 = (i5 : Int) ∧ i5 < 5 := by
            have h3 := Int.emod_nonneg (m / (1 * 2 ^ Int.toNat 76)) (show (5 : Int) ≠ 0 by decide)
            have h4 := Int.emod_lt_of_pos (m / (1 * 2 ^ Int.toNat 76)) (show (0 : Int) < 5 by decide)
            exact ⟨(m / (1 * 2 ^ Int.toNat 76) % 5).toNat, by omega, by omega⟩
          rw [e5]
          have hO : i5 < [O1, O2, O3, O5, O6].length := hi5
          have OA := (OW.same s29).row i5 [O1, O2, O3, O5, O6][i5] (List.getElem?_eq_getElem hO)
          have badm : (oddF n).getD i5 [] ∈ oddF n := by
            rw [List.getD_eq_getElem?_getD, List.getElem?_eq_getElem (show i5 < (oddF n).length from hi5)]
            exact List.getElem_mem _
          have aO : atI ([O1, O2, O3, O5, O6].map V.ref) (i5 : Int) = some (.ref [O1, O2, O3, O5, O6][i5]) := atI_nat (by rw [List.getElem?_map, List.getElem?_eq_getElem hO]; rfl)
          generalize [O1, O2, O3, O5, O6][i5] = oA at OA aO
          generalize (oddF n).getD i5 [] = bad at OA badm
          refine rd_ixL (SqL.of (s29 _ _ Od28)) aO ?_
          walk_at "rd"
          refine ⟨by show 1 ≤ sizeLine; decide, fun S2 nS2 => ?_⟩
          have s30 : Same H29 (upd H29 S2 (.lst [.ref oA])) := (Same.refl H29).upd nS2
          have S30 : upd H29 S2 (.lst [.ref oA]) S2 = some (.lst [.ref oA]) := upd_same
          generalize upd H29 S2 (.lst [.ref oA]) = H30 at s30 S30 ⊢
          have hasl : as.length = rows.length := RI28.len
          walk_at "rd"
          refine ⟨S1, S2, _, _, rfl, rfl, s30 _ _ S29, S30, by rw [List.length_map, List.length_take]; exact Nat.le_trans (by show min k as.length + 1 ≤ 1000; omega) line1000, fun S3 nS3 => ?_⟩
          have s31 : Same H30 (upd H30 S3 (.lst ((as.take k).map V.ref ++ [.ref oA]))) := (Same.refl H30).upd nS3
          have S31 : upd H30 S3 (.lst ((as.take k).map V.ref ++ [.ref oA])) S3 = some (.lst ((as.take k).map V.ref ++ [.ref oA])) := upd_same
          generalize upd H30 S3 (.lst ((as.take k).map V.ref ++ [.ref oA])) = H31 at s31 S31 ⊢
          have s31' := Same.trans (Same.trans s29 s30) s31
          walk_at "rd"
          refine ⟨D, _, rfl, SqL.of (RI28.same s31').lst, fun S4 nS4 => ?_⟩
          rw [cut_drop (by rw [List.length_map]; omega), ← List.map_drop]
          have s32 : Same H31 (upd H31 S4 (.lst ((as.drop k).map V.ref))) := (Same.refl H31).upd nS4
          have S32 : upd H31 S4 (.lst ((as.drop k).map V.ref)) S4 = some (.lst ((as.drop k).map V.ref)) := upd_same
          generalize upd H31 S4 (.lst ((as.drop k).map V.ref)) = H32 at s32 S32 ⊢
          walk_at "rd"
          refine ⟨S3, S4, _, _, rfl, rfl, s32 _ _ S31, S32, by rw [List.length_append, List.length_map, List.length_map, List.length_take, List.length_drop]; exact Nat.le_trans (by show min k as.length + 1 + (as.length - k) ≤ 1000; omega) line1000, fun Sp nSp => ?_⟩
          have s33 : Same H32 (upd H32 Sp (.lst (((as.take k).map V.ref ++ [.ref oA]) ++ (as.drop k).map V.ref))) := (Same.refl H32).upd nSp
          have Sp33 : upd H32 Sp (.lst (((as.take k).map V.ref ++ [.ref oA]) ++ (as.drop k).map V.ref)) Sp = some (.lst (((as.take k ++ [oA]) ++ as.drop k).map V.ref)) := by
            rw [upd_same, List.map_append, List.map_append]
            rfl
          generalize upd H32 Sp (.lst (((as.take k).map V.ref ++ [.ref oA]) ++ (as.drop k).map V.ref)) = H33 at s33 Sp33 ⊢
          have sD := Same.trans (Same.trans (Same.trans s30 s31) s32) s33
          have s33 := Same.trans s29 sD
          have SR : RowsIn H33 Sp ((as.take k ++ [oA]) ++ as.drop k) ((rows.take k ++ [bad]) ++ rows.drop k) :=
            RW.in ((((RI28.same s33).rw.take k).append (RW.one (sD _ _ OA))).append ((RI28.same s33).rw.drop k)) Sp33
          have p33 := s33 _ _ p28
          have s33 := Same.trans s28 s33
          have nb : ¬ RowsOk (n : Int).toNat ((rows.take k ++ [bad]) ++ rows.drop k) := by
            rw [Int.toNat_natCast]
            exact spoilt_bad hk (odd_bad (by omega) badm)
          have lb := spoilt_len (k := k) RO' (by omega) (odd_len (by omega) badm)
          have cb : ((rows.take k ++ [bad]) ++ rows.drop k).length ≤ 100 := by rw [spoilt_count]; omega
          generalize (rows.take k ++ [bad]) ++ rows.drop k = rows' at SR nb lb cb
          generalize (as.take k ++ [oA]) ++ as.drop k = as' at SR
          walk_at "rd"
          refine ⟨2, rfl, by decide, by decide, comp_range (n := (2 : Int).toNat) (τ := [none, some (.ref p), some (.int st), some (.ref Sp)]) rfl (by decide)
            (fun j ys H34 => Same H33 H34 ∧ ys = List.replicate j (V.str "BadStep")) ⟨Same.refl H33, rfl⟩ ?_ ?_ ?_⟩
          · rintro j ys H34 hj ⟨hs, rfl⟩
            rw [List.length_replicate]
            exact Nat.le_refl _
          · rintro j ys H34 hj ⟨hs, rfl⟩
            walk_at "rd"
            refine ⟨_, p, Sp, as', rows', n, sb, sc, sd, se, st, rfl, hs _ _ p33, SR.same hs, cb, lb, fun z => absurd z hokf, fun _ _ H35 s35 => ?_, fun _ z => absurd z nb, fun _ z => absurd z nb⟩
            exact ⟨Same.trans hs s35, by rw [List.replicate_succ']⟩
          rintro ys H34 ⟨s34, rfl⟩ B1 nB1
          have s35 : Same H33 (upd H34 B1 (.lst (List.replicate (2 : Int).toNat (V.str "BadStep")))) := s34.upd nB1
          have B35 : upd H34 B1 (.lst (List.replicate (2 : Int).toNat (V.str "BadStep"))) B1 = some (.lst [.str "BadStep", .str "BadStep"]) := upd_same
          generalize upd H34 B1 (.lst (List.replicate (2 : Int).toNat (V.str "BadStep"))) = H35 at s35 B35 ⊢
          walk_at "rd"
          refine ⟨by show 2 ≤ sizeLine; decide, fun B2 nB2 => ?_⟩
          have s36 : Same H35 (upd H35 B2 (.lst [.str "BadStep", .str "BadStep"])) := (Same.refl H35).upd nB2
          have B36 : upd H35 B2 (.lst [.str "BadStep", .str "BadStep"]) B2 = some (.lst [.str "BadStep", .str "BadStep"]) := upd_same
          generalize upd H35 B2 (.lst [.str "BadStep", .str "BadStep"]) = H36 at s36 B36 ⊢
          refine rd_neSame (two_strs (s36 _ _ B35)) (two_strs B36) (by decide +kernel) (by decide +kernel) ?_
          have s36 := Same.trans s35 s36
          have p36 := s36 _ _ p33
          have SR36 := SR.same s36
          walk_at "rd"
          refine ⟨by show 1 ≤ sizeLine; decide, fun u1 nu1 => ?_⟩
          have t1 : Same H36 (upd H36 u1 (.tup [.int 2])) := (Same.refl H36).upd nu1
          have U1 : (upd H36 u1 (.tup [.int 2])) u1 = some (.tup [.int 2]) := upd_same
          have p36 := t1 _ _ p36
          have SR36 := SR36.same t1
          generalize upd H36 u1 (.tup [.int 2]) = G1 at t1 U1 p36 SR36 ⊢
          walk_at "rd"
          refine ⟨p, _, rfl, SqT.of p36, fun z => absurd (show (1 : Nat) = 0 from z.1) (by decide), fun u2 nu2 => ?_⟩
          rw [show cutV [V.int n, .int sb, .int sc, .int sd, .int se] (some 1) none = [V.int sb, .int sc, .int sd, .int se] from rfl]
          have t2 : Same G1 (upd G1 u2 (.tup [V.int sb, .int sc, .int sd, .int se])) := (Same.refl G1).upd nu2
          have U2 : (upd G1 u2 (.tup [V.int sb, .int sc, .int sd, .int se])) u2 = some (.tup [V.int sb, .int sc, .int sd, .int se]) := upd_same
          have U1 := t2 _ _ U1
          have p36 := t2 _ _ p36
          have SR36 := SR36.same t2
          generalize upd G1 u2 (.tup [V.int sb, .int sc, .int sd, .int se]) = G2 at t2 U2 U1 p36 SR36 ⊢
          walk_at "rd"
          refine ⟨u1, u2, _, _, rfl, rfl, SqT.of U1, SqT.of U2, by simp, by show 1 + 4 ≤ sizeLine; decide, (fun z => by cases z), fun _ u3 nu3 => ?_⟩
          have t3 : Same G2 (upd G2 u3 (.tup ([V.int 2] ++ [V.int sb, .int sc, .int sd, .int se]))) := (Same.refl G2).upd nu3
          have U3 : (upd G2 u3 (.tup ([V.int 2] ++ [V.int sb, .int sc, .int sd, .int se]))) u3 = some (.tup [V.int 2, .int sb, .int sc, .int sd, .int se]) := upd_same
          have U1 := t3 _ _ U1
          have U2 := t3 _ _ U2
          have p36 := t3 _ _ p36
          have SR36 := SR36.same t3
          generalize upd G2 u3 (.tup ([V.int 2] ++ [V.int sb, .int sc, .int sd, .int se])) = G3 at t3 U3 U1 U2 p36 SR36 ⊢
          walk_at "rd"
          refine ⟨by show 1 ≤ sizeLine; decide, fun u4 nu4 => ?_⟩
          have t4 : Same G3 (upd G3 u4 (.tup [.int 10])) := (Same.refl G3).upd nu4
          have U4 : (upd G3 u4 (.tup [.int 10])) u4 = some (.tup [.int 10]) := upd_same
          have U1 := t4 _ _ U1
          have U2 := t4 _ _ U2
          have U3 := t4 _ _ U3
          have p36 := t4 _ _ p36
          have SR36 := SR36.same t4
          generalize upd G3 u4 (.tup [.int 10]) = G4 at t4 U4 U1 U2 U3 p36 SR36 ⊢
          walk_at "rd"
          refine ⟨p, _, rfl, SqT.of p36, fun z => absurd (show (1 : Nat) = 0 from z.1) (by decide), fun u5 nu5 => ?_⟩
          rw [show cutV [V.int n, .int sb, .int sc, .int sd, .int se] (some 1) none = [V.int sb, .int sc, .int sd, .int se] from rfl]
          have t5 : Same G4 (upd G4 u5 (.tup [V.int sb, .int sc, .int sd, .int se])) := (Same.refl G4).upd nu5
          have U5 : (upd G4 u5 (.tup [V.int sb, .int sc, .int sd, .int se])) u5 = some (.tup [V.int sb, .int sc, .int sd, .int se]) := upd_same
          have U1 := t5 _ _ U1
          have U2 := t5 _ _ U2
          have U3 := t5 _ _ U3
          have U4 := t5 _ _ U4
          have p36 := t5 _ _ p36
          have SR36 := SR36.same t5
          generalize upd G4 u5 (.tup [V.int sb, .int sc, .int sd, .int se]) = G5 at t5 U5 U1 U2 U3 U4 p36 SR36 ⊢
          walk_at "rd"
          refine ⟨u4, u5, _, _, rfl, rfl, SqT.of U4, SqT.of U5, by simp, by show 1 + 4 ≤ sizeLine; decide, (fun z => by cases z), fun _ u6 nu6 => ?_⟩
          have t6 : Same G5 (upd G5 u6 (.tup ([V.int 10] ++ [V.int sb, .int sc, .int sd, .int se]))) := (Same.refl G5).upd nu6
          have U6 : (upd G5 u6 (.tup ([V.int 10] ++ [V.int sb, .int sc, .int sd, .int se]))) u6 = some (.tup [V.int 10, .int sb, .int sc, .int sd, .int se]) := upd_same
          have U1 := t6 _ _ U1
          have U2 := t6 _ _ U2
          have U3 := t6 _ _ U3
          have U4 := t6 _ _ U4
          have U5 := t6 _ _ U5
          have p36 := t6 _ _ p36
          have SR36 := SR36.same t6
          generalize upd G5 u6 (.tup ([V.int 10] ++ [V.int sb, .int sc, .int sd, .int se])) = G6 at t6 U6 U1 U2 U3 U4 U5 p36 SR36 ⊢
          walk_at "rd"
          refine ⟨p, _, rfl, SqT.of p36, fun z => absurd (show (4 : Nat) = 5 from z.2) (by decide), fun u7 nu7 => ?_⟩
          rw [show cutV [V.int n, .int sb, .int sc, .int sd, .int se] none (some 4) = [V.int n, .int sb, .int sc, .int sd] from rfl]
          have t7 : Same G6 (upd G6 u7 (.tup [V.int n, .int sb, .int sc, .int sd])) := (Same.refl G6).upd nu7
          have U7 : (upd G6 u7 (.tup [V.int n, .int sb, .int sc, .int sd])) u7 = some (.tup [V.int n, .int sb, .int sc, .int sd]) := upd_same
          have U1 := t7 _ _ U1
          have U2 := t7 _ _ U2
          have U3 := t7 _ _ U3
          have U4 := t7 _ _ U4
          have U5 := t7 _ _ U5
          have U6 := t7 _ _ U6
          have p36 := t7 _ _ p36
          have SR36 := SR36.same t7
          generalize upd G6 u7 (.tup [V.int n, .int sb, .int sc, .int sd]) = G7 at t7 U7 U1 U2 U3 U4 U5 U6 p36 SR36 ⊢
          walk_at "rd"
          refine ⟨by show 1 ≤ sizeLine; decide, fun u8 nu8 => ?_⟩
          have t8 : Same G7 (upd G7 u8 (.tup [.int 0])) := (Same.refl G7).upd nu8
          have U8 : (upd G7 u8 (.tup [.int 0])) u8 = some (.tup [.int 0]) := upd_same
          have U1 := t8 _ _ U1
          have U2 := t8 _ _ U2
          have U3 := t8 _ _ U3
          have U4 := t8 _ _ U4
          have U5 := t8 _ _ U5
          have U6 := t8 _ _ U6
          have U7 := t8 _ _ U7
          have p36 := t8 _ _ p36
          have SR36 := SR36.same t8
          generalize upd G7 u8 (.tup [.int 0]) = G8 at t8 U8 U1 U2 U3 U4 U5 U6 U7 p36 SR36 ⊢
          walk_at "rd"
          refine ⟨u7, u8, _, _, rfl, rfl, SqT.of U7, SqT.of U8, by simp, by show 4 + 1 ≤ sizeLine; decide, (fun z => by cases z), fun _ u9 nu9 => ?_⟩
          have t9 : Same G8 (upd G8 u9 (.tup ([V.int n, .int sb, .int sc, .int sd] ++ [V.int 0]))) := (Same.refl G8).upd nu9
          have U9 : (upd G8 u9 (.tup ([V.int n, .int sb, .int sc, .int sd] ++ [V.int 0]))) u9 = some (.tup [V.int n, .int sb, .int sc, .int sd, .int 0]) := upd_same
          have U1 := t9 _ _ U1
          have U2 := t9 _ _ U2
          have U3 := t9 _ _ U3
          have U4 := t9 _ _ U4
          have U5 := t9 _ _ U5
          have U6 := t9 _ _ U6
          have U7 := t9 _ _ U7
          have U8 := t9 _ _ U8
          have p36 := t9 _ _ p36
          have SR36 := SR36.same t9
          generalize upd G8 u9 (.tup ([V.int n, .int sb, .int sc, .int sd] ++ [V.int 0])) = G9 at t9 U9 U1 U2 U3 U4 U5 U6 U7 U8 p36 SR36 ⊢
          walk_at "rd"
          refine ⟨p, _, rfl, SqT.of p36, fun z => absurd (show (2 : Nat) = 5 from z.2) (by decide), fun u10 nu10 => ?_⟩
          rw [show cutV [V.int n, .int sb, .int sc, .int sd, .int se] none (some 2) = [V.int n, .int sb] from rfl]
          have t10 : Same G9 (upd G9 u10 (.tup [V.int n, .int sb])) := (Same.refl G9).upd nu10
          have U10 : (upd G9 u10 (.tup [V.int n, .int sb])) u10 = some (.tup [V.int n, .int sb]) := upd_same
          have U1 := t10 _ _ U1
          have U2 := t10 _ _ U2
          have U3 := t10 _ _ U3
          have U4 := t10 _ _ U4
          have U5 := t10 _ _ U5
          have U6 := t10 _ _ U6
          have U7 := t10 _ _ U7
          have U8 := t10 _ _ U8
          have U9 := t10 _ _ U9
          have p36 := t10 _ _ p36
          have SR36 := SR36.same t10
          generalize upd G9 u10 (.tup [V.int n, .int sb]) = G10 at t10 U10 U1 U2 U3 U4 U5 U6 U7 U8 U9 p36 SR36 ⊢
          walk_at "rd"
          refine ⟨by show 1 ≤ sizeLine; decide, fun u11 nu11 => ?_⟩
          have t11 : Same G10 (upd G10 u11 (.tup [.int 0])) := (Same.refl G10).upd nu11
          have U11 : (upd G10 u11 (.tup [.int 0])) u11 = some (.tup [.int 0]) := upd_same
          have U1 := t11 _ _ U1
          have U2 := t11 _ _ U2
          have U3 := t11 _ _ U3
          have U4 := t11 _ _ U4
          have U5 := t11 _ _ U5
          have U6 := t11 _ _ U6
          have U7 := t11 _ _ U7
          have U8 := t11 _ _ U8
          have U9 := t11 _ _ U9
          have U10 := t11 _ _ U10
          have p36 := t11 _ _ p36
          have SR36 := SR36.same t11
          generalize upd G10 u11 (.tup [.int 0]) = G11 at t11 U11 U1 U2 U3 U4 U5 U6 U7 U8 U9 U10 p36 SR36 ⊢
          walk_at "rd"
          refine ⟨u10, u11, _, _, rfl, rfl, SqT.of U10, SqT.of U11, by simp, by show 2 + 1 ≤ sizeLine; decide, (fun z => by cases z), fun _ u12 nu12 => ?_⟩
          have t12 : Same G11 (upd G11 u12 (.tup ([V.int n, .int sb] ++ [V.int 0]))) := (Same.refl G11).upd nu12
          have U12 : (upd G11 u12 (.tup ([V.int n, .int sb] ++ [V.int 0]))) u12 = some (.tup [V.int n, .int sb, .int 0]) := upd_same
          have U1 := t12 _ _ U1
          have U2 := t12 _ _ U2
          have U3 := t12 _ _ U3
          have U4 := t12 _ _ U4
          have U5 := t12 _ _ U5
          have U6 := t12 _ _ U6
          have U7 := t12 _ _ U7
          have U8 := t12 _ _ U8
          have U9 := t12 _ _ U9
          have U10 := t12 _ _ U10
          have U11 := t12 _ _ U11
          have p36 := t12 _ _ p36
          have SR36 := SR36.same t12
          generalize upd G11 u12 (.tup ([V.int n, .int sb] ++ [V.int 0])) = G12 at t12 U12 U1 U2 U3 U4 U5 U6 U7 U8 U9 U10 U11 p36 SR36 ⊢
          walk_at "rd"
          refine ⟨p, _, rfl, SqT.of p36, fun z => absurd (show (3 : Nat) = 0 from z.1) (by decide), fun u13 nu13 => ?_⟩
          rw [show cutV [V.int n, .int sb, .int sc, .int sd, .int se] (some 3) none = [V.int sd, .int se] from rfl]
          have t13 : Same G12 (upd G12 u13 (.tup [V.int sd, .int se])) := (Same.refl G12).upd nu13
          have U13 : (upd G12 u13 (.tup [V.int sd, .int se])) u13 = some (.tup [V.int sd, .int se]) := upd_same
          have U1 := t13 _ _ U1
          have U2 := t13 _ _ U2
          have U3 := t13 _ _ U3
          have U4 := t13 _ _ U4
          have U5 := t13 _ _ U5
          have U6 := t13 _ _ U6
          have U7 := t13 _ _ U7
          have U8 := t13 _ _ U8
          have U9 := t13 _ _ U9
          have U10 := t13 _ _ U10
          have U11 := t13 _ _ U11
          have U12 := t13 _ _ U12
          have p36 := t13 _ _ p36
          have SR36 := SR36.same t13
          generalize upd G12 u13 (.tup [V.int sd, .int se]) = G13 at t13 U13 U1 U2 U3 U4 U5 U6 U7 U8 U9 U10 U11 U12 p36 SR36 ⊢
          walk_at "rd"
          refine ⟨u12, u13, _, _, rfl, rfl, SqT.of U12, SqT.of U13, by simp, by show 3 + 2 ≤ sizeLine; decide, (fun z => by cases z), fun _ u14 nu14 => ?_⟩
          have t14 : Same G13 (upd G13 u14 (.tup ([V.int n, .int sb, .int 0] ++ [V.int sd, .int se]))) := (Same.refl G13).upd nu14
          have U14 : (upd G13 u14 (.tup ([V.int n, .int sb, .int 0] ++ [V.int sd, .int se]))) u14 = some (.tup [V.int n, .int sb, .int 0, .int sd, .int se]) := upd_same
          have U1 := t14 _ _ U1
          have U2 := t14 _ _ U2
          have U3 := t14 _ _ U3
          have U4 := t14 _ _ U4
          have U5 := t14 _ _ U5
          have U6 := t14 _ _ U6
          have U7 := t14 _ _ U7
          have U8 := t14 _ _ U8
          have U9 := t14 _ _ U9
          have U10 := t14 _ _ U10
          have U11 := t14 _ _ U11
          have U12 := t14 _ _ U12
          have U13 := t14 _ _ U13
          have p36 := t14 _ _ p36
          have SR36 := SR36.same t14
          generalize upd G13 u14 (.tup ([V.int n, .int sb, .int 0] ++ [V.int sd, .int se])) = G14 at t14 U14 U1 U2 U3 U4 U5 U6 U7 U8 U9 U10 U11 U12 U13 p36 SR36 ⊢
          walk_at "rd"
          refine ⟨by show 4 ≤ sizeLine; decide, fun Bd nBd => ?_⟩
          have tz : Same G14 (upd G14 Bd (.lst [.ref u3, .ref u6, .ref u9, .ref u14])) := (Same.refl G14).upd nBd
          have Bd40 : upd G14 Bd (.lst [.ref u3, .ref u6, .ref u9, .ref u14]) Bd = some (.lst [.ref u3, .ref u6, .ref u9, .ref u14]) := upd_same
          have U3 := tz _ _ U3
          have U6 := tz _ _ U6
          have U9 := tz _ _ U9
          have U14 := tz _ _ U14
          have SR40 := SR36.same tz
          generalize upd G14 Bd (.lst [.ref u3, .ref u6, .ref u9, .ref u14]) = H40 at tz Bd40 U3 U6 U9 U14 SR40 ⊢
          clear U1 U2 U4 U5 U7 U8 U10 U11 U12 U13
          walk_at "rd"
          · obtain ⟨i4, e4', hi4⟩ : ∃ i4 : Nat, m / (1 * 2 ^ Int.toNat 80) % 4 = (i4 : Int) ∧ i4 < 4 := by
              have h3 := Int.emod_nonneg (m / (1 * 2 ^ Int.toNat 80)) (show (4 : Int) ≠ 0 by decide)
              have h4 := Int.emod_lt_of_pos (m / (1 * 2 ^ Int.toNat 80)) (show (0 : Int) < 4 by decide)
              exact ⟨(m / (1 * 2 ^ Int.toNat 80) % 4).toNat, by omega, by omega⟩
            rw [e4']
            obtain ⟨tN, na, nb', nc, nd, ne, eix, hN, hNo⟩ : ∃ (tN : Addr) (na nb' nc nd ne : Int), atI [V.ref u3, .ref u6, .ref u9, .ref u14] (i4 : Int) = some (.ref tN) ∧ H40 tN = some (.tup [.int na, .int nb', .int nc, .int nd, .int ne]) ∧ setOk na nb' nc nd ne = false := by
              match i4, hi4 with
              | 0, _ => exact ⟨u3, _, _, _, _, _, rfl, U3, decide_eq_false (by omega)⟩
              | 1, _ => exact ⟨u6, _, _, _, _, _, rfl, U6, decide_eq_false (by omega)⟩
              | 2, _ => exact ⟨u9, _, _, _, _, _, rfl, U9, decide_eq_false (by omega)⟩
              | 3, _ => exact ⟨u14, _, _, _, _, _, rfl, U14, decide_eq_false (by omega)⟩
            refine rd_ixL (SqL.of Bd40) eix ?_
            walk_at "rd"
            refine ⟨2, rfl, by decide, by decide, comp_range (n := (2 : Int).toNat) (τ := [none, some (.ref tN), some (.int st), some (.ref Sp)]) rfl (by decide)
              (fun j ys H41 => Same H40 H41 ∧ ys = List.replicate j (V.str "BadSettings")) ⟨Same.refl H40, rfl⟩ ?_ ?_ ?_⟩
            · rintro j ys H41 hj ⟨hs, rfl⟩
              rw [List.length_replicate]
              exact Nat.le_refl _
            · rintro j ys H41 hj ⟨hs, rfl⟩
              walk_at "rd"
              refine ⟨_, tN, Sp, as', rows', na, nb', nc, nd, ne, st, rfl, hs _ _ hN, SR40.same hs, cb, lb, fun _ H42 s42 => ?_, fun z => absurd (hNo.symm.trans z) (by decide), fun z => absurd (hNo.symm.trans z) (by decide), fun z => absurd (hNo.symm.trans z) (by decide)⟩
              exact ⟨Same.trans hs s42, by rw [List.replicate_succ']⟩
            rintro ys H41 ⟨s41, rfl⟩ C1 nC1
            have C42 : upd H41 C1 (.lst (List.replicate (2 : Int).toNat (V.str "BadSettings"))) C1 = some (.lst [.str "BadSettings", .str "BadSettings"]) := upd_same
            generalize upd H41 C1 (.lst (List.replicate (2 : Int).toNat (V.str "BadSettings"))) = H42 at C42 ⊢
            walk_at "rd"
            refine ⟨by show 2 ≤ sizeLine; decide, fun C2 nC2 => ?_⟩
            have s43 : Same H42 (upd H42 C2 (.lst [.str "BadSettings", .str "BadSettings"])) := (Same.refl H42).upd nC2
            refine rd_eqSame (two_strs (s43 _ _ C42)) (two_strs upd_same) (by decide +kernel) (by decide +kernel) ?_
            exact kq _
          · exact ⟨by decide, by decide, by decide⟩
        · exact ⟨by decide, by decide, by decide⟩
      · exact ⟨by decide, by decide, by decide⟩
end
end My

set_option Elab.async false
set_option linter.all false
set_option maxRecDepth 100000
set_option maxHeartbeats 4000000
namespace My
open PySem L2 PyProof.Rows
theorem len1 {us : List Value} (h : us.length = 1) : ∃ a, us = [a] := List.length_eq_one_iff.mp h
theorem len2 {us : List Value} (h : us.length = 2) : ∃ x0 x1, us = [x0, x1] := by
  cases us with
  | nil => cases h
  | cons x t =>
    obtain ⟨x1, rfl⟩ := len1 (Nat.succ.inj h)
    exact ⟨x, x1, rfl⟩
theorem len3 {us : List Value} (h : us.length = 3) : ∃ x0 x1 x2, us = [x0, x1, x2] := by
  cases us with
  | nil => cases h
  | cons x t =>
    obtain ⟨x1, x2, rfl⟩ := len2 (Nat.succ.inj h)
    exact ⟨x, x1, x2, rfl⟩
theorem len4 {us : List Value} (h : us.length = 4) : ∃ x0 x1 x2 x3, us = [x0, x1, x2, x3] := by
  cases us with
  | nil => cases h
  | cons x t =>
    obtain ⟨x1, x2, x3, rfl⟩ := len3 (Nat.succ.inj h)
    exact ⟨x, x1, x2, x3, rfl⟩
theorem all_mk {l : PySem.W.OpenLaw} {w : World} {K : PySem.W.Frag} {h : Heap} {mg : Str → Option Value} {fa C f0 f1 f2 f3 f4 f5 f6 f7 f8 f9 f10 f11 f12 f13 f14 f15 f16 f17 f18 f19 f20 f21 f22 f23 f24 f25 f26 f27 f28 f29 : Addr} (X : K.In h) (G : h.Ns mainGlobals mg) (hfa : mg "law" = some (.ref fa))
    {od0 an0 od1 an1 od2 an2 od3 an3 od4 an4 od5 an5 od6 an6 od7 an7 od8 an8 od9 an9 od10 an10 od11 an11 od12 an12 od13 an13 od14 an14 od15 an15 od16 an16 od17 an17 od18 an18 od19 an19 od20 an20 od21 an21 od22 an22 od23 an23 od24 an24 od25 an25 od26 an26 od27 an27 od28 an28 od29 an29 : Option Addr} {sl0 sl1 sl2 sl3 sl4 sl5 sl6 sl7 sl8 sl9 sl10 sl11 sl12 sl13 sl14 sl15 sl16 sl17 sl18 sl19 sl20 sl21 sl22 sl23 sl24 sl25 sl26 sl27 sl28 sl29 : Array (Option Value)} {oc0 kV0 dc0 pm0 cd0 ct0 oc1 kV1 dc1 pm1 cd1 ct1 oc2 kV2 dc2 pm2 cd2 ct2 oc3 kV3 dc3 pm3 cd3 ct3 oc4 kV4 dc4 pm4 cd4 ct4 oc5 kV5 dc5 pm5 cd5 ct5 oc6 kV6 dc6 pm6 cd6 ct6 oc7 kV7 dc7 pm7 cd7 ct7 oc8 kV8 dc8 pm8 cd8 ct8 oc9 kV9 dc9 pm9 cd9 ct9 oc10 kV10 dc10 pm10 cd10 ct10 oc11 kV11 dc11 pm11 cd11 ct11 oc12 kV12 dc12 pm12 cd12 ct12 oc13 kV13 dc13 pm13 cd13 ct13 oc14 kV14 dc14 pm14 cd14 ct14 oc15 kV15 dc15 pm15 cd15 ct15 oc16 kV16 dc16 pm16 cd16 ct16 oc17 kV17 dc17 pm17 cd17 ct17 oc18 kV18 dc18 pm18 cd18 ct18 oc19 kV19 dc19 pm19 cd19 ct19 oc20 kV20 dc20 pm20 cd20 ct20 oc21 kV21 dc21 pm21 cd21 ct21 oc22 kV22 dc22 pm22 cd22 ct22 oc23 kV23 dc23 pm23 cd23 ct23 oc24 kV24 dc24 pm24 cd24 ct24 oc25 kV25 dc25 pm25 cd25 ct25 oc26 kV26 dc26 pm26 cd26 ct26 oc27 kV27 dc27 pm27 cd27 ct27 oc28 kV28 dc28 pm28 cd28 ct28 oc29 kV29 dc29 pm29 cd29 ct29 : Value}
    {aB b0 b1 b2 b3 b4 : Addr} {tkF u0 v0 u1 v1 u2 v2 u3 v3 u4 v4 : Tok} {odB odB0 odB1 odB2 odB3 odB4 : Option Addr} {nB nB0 nB1 nB2 nB3 nB4 : Nat} {slB slB0 slB1 slB2 slB3 slB4 : Array (Option Value)}   {cVoteError : Addr} {cBadSettings : Addr} {cBadStep : Addr} {cNoSensor : Addr} {cBadRow : Addr}                 
    (aC : PySem.W.nsIn K mainGlobals "Voter" = some (some (.ref C)))
    (a0 : PySem.W.nsIn K mainGlobals "is_whole" = some (some (.ref f0)))
    (l0 : K.lookup f0 = some ⟨oc0, od0, .func (PySem.W.fnOf "is_whole" "is_whole" (defArgs s_is_whole) (defBody s_is_whole) (defScope s_is_whole) .none kV0 dc0 pm0 an0 cd0 ct0), sl0⟩)
    (c0 : PySem.W.codeIn K cd0 "is_whole" = true)
    (k0 : PySem.W.keepIn K (.ref f0) = true)
    (a1 : PySem.W.nsIn K mainGlobals "is_within" = some (some (.ref f1)))
    (l1 : K.lookup f1 = some ⟨oc1, od1, .func (PySem.W.fnOf "is_within" "is_within" (defArgs s_is_within) (defBody s_is_within) (defScope s_is_within) .none kV1 dc1 pm1 an1 cd1 ct1), sl1⟩)
    (c1 : PySem.W.codeIn K cd1 "is_within" = true)
    (k1 : PySem.W.keepIn K (.ref f1) = true)
    (a2 : PySem.W.nsIn K mainGlobals "middle" = some (some (.ref f2)))
    (l2 : K.lookup f2 = some ⟨oc2, od2, .func (PySem.W.fnOf "middle" "middle" (defArgs s_middle) (defBody s_middle) (defScope s_middle) .none kV2 dc2 pm2 an2 cd2 ct2), sl2⟩)
    (c2 : PySem.W.codeIn K cd2 "middle" = true)
    (k2 : PySem.W.keepIn K (.ref f2) = true)
    (a3 : PySem.W.nsIn K mainGlobals "moved" = some (some (.ref f3)))
    (l3 : K.lookup f3 = some ⟨oc3, od3, .func (PySem.W.fnOf "moved" "moved" (defArgs s_moved) (defBody s_moved) (defScope s_moved) .none kV3 dc3 pm3 an3 cd3 ct3), sl3⟩)
    (c3 : PySem.W.codeIn K cd3 "moved" = true)
    (k3 : PySem.W.keepIn K (.ref f3) = true)
    (a4 : PySem.W.nsIn K mainGlobals "agree" = some (some (.ref f4)))
    (l4 : K.lookup f4 = some ⟨oc4, od4, .func (PySem.W.fnOf "agree" "agree" (defArgs s_agree) (defBody s_agree) (defScope s_agree) .none kV4 dc4 pm4 an4 cd4 ct4), sl4⟩)
    (c4 : PySem.W.codeIn K cd4 "agree" = true)
    (k4 : PySem.W.keepIn K (.ref f4) = true)
    (a5 : PySem.W.nsIn K mainGlobals "are_settings" = some (some (.ref f5)))
    (l5 : K.lookup f5 = some ⟨oc5, od5, .func (PySem.W.fnOf "are_settings" "are_settings" (defArgs s_are_settings) (defBody s_are_settings) (defScope s_are_settings) .none kV5 dc5 pm5 an5 cd5 ct5), sl5⟩)
    (c5 : PySem.W.codeIn K cd5 "are_settings" = true)
    (k5 : PySem.W.keepIn K (.ref f5) = true)
    (a6 : PySem.W.nsIn K mainGlobals "can_be_said" = some (some (.ref f6)))
    (l6 : K.lookup f6 = some ⟨oc6, od6, .func (PySem.W.fnOf "can_be_said" "can_be_said" (defArgs s_can_be_said) (defBody s_can_be_said) (defScope s_can_be_said) .none kV6 dc6 pm6 an6 cd6 ct6), sl6⟩)
    (c6 : PySem.W.codeIn K cd6 "can_be_said" = true)
    (k6 : PySem.W.keepIn K (.ref f6) = true)
    (a7 : PySem.W.nsIn K mainGlobals "is_step" = some (some (.ref f7)))
    (l7 : K.lookup f7 = some ⟨oc7, od7, .func (PySem.W.fnOf "is_step" "is_step" (defArgs s_is_step) (defBody s_is_step) (defScope s_is_step) .none kV7 dc7 pm7 an7 cd7 ct7), sl7⟩)
    (c7 : PySem.W.codeIn K cd7 "is_step" = true)
    (k7 : PySem.W.keepIn K (.ref f7) = true)
    (a8 : PySem.W.nsIn K mainGlobals "word_of" = some (some (.ref f8)))
    (l8 : K.lookup f8 = some ⟨oc8, od8, .func (PySem.W.fnOf "word_of" "word_of" (defArgs s_word_of) (defBody s_word_of) (defScope s_word_of) .none kV8 dc8 pm8 an8 cd8 ct8), sl8⟩)
    (c8 : PySem.W.codeIn K cd8 "word_of" = true)
    (k8 : PySem.W.keepIn K (.ref f8) = true)
    (a9 : PySem.W.findIn K (.ref C) "__init__" = some (some (.ref f9)))
    (i9 : PySem.W.isFn K (.ref f9) = true)
    (l9 : K.lookup f9 = some ⟨oc9, od9, .func (PySem.W.fnOf "__init__" "Voter.__init__" (defArgs s_Voter___init__) (defBody s_Voter___init__) (defScope s_Voter___init__) .none kV9 dc9 pm9 an9 cd9 ct9), sl9⟩)
    (c9 : PySem.W.codeIn K cd9 "Voter.__init__" = true)
    (k9 : PySem.W.keepIn K (.ref f9) = true)
    (a10 : PySem.W.findIn K (.ref C) "numbers_there" = some (some (.ref f10)))
    (i10 : PySem.W.isFn K (.ref f10) = true)
    (l10 : K.lookup f10 = some ⟨oc10, od10, .func (PySem.W.fnOf "numbers_there" "Voter.numbers_there" (defArgs s_Voter_numbers_there) (defBody s_Voter_numbers_there) (defScope s_Voter_numbers_there) .none kV10 dc10 pm10 an10 cd10 ct10), sl10⟩)
    (c10 : PySem.W.codeIn K cd10 "Voter.numbers_there" = true)
    (k10 : PySem.W.keepIn K (.ref f10) = true)
    (a11 : PySem.W.findIn K (.ref C) "is_another_in" = some (some (.ref f11)))
    (i11 : PySem.W.isFn K (.ref f11) = true)
    (l11 : K.lookup f11 = some ⟨oc11, od11, .func (PySem.W.fnOf "is_another_in" "Voter.is_another_in" (defArgs s_Voter_is_another_in) (defBody s_Voter_is_another_in) (defScope s_Voter_is_another_in) .none kV11 dc11 pm11 an11 cd11 ct11), sl11⟩)
    (c11 : PySem.W.codeIn K cd11 "Voter.is_another_in" = true)
    (k11 : PySem.W.keepIn K (.ref f11) = true)
    (a12 : PySem.W.findIn K (.ref C) "judge" = some (some (.ref f12)))
    (i12 : PySem.W.isFn K (.ref f12) = true)
    (l12 : K.lookup f12 = some ⟨oc12, od12, .func (PySem.W.fnOf "judge" "Voter.judge" (defArgs s_Voter_judge) (defBody s_Voter_judge) (defScope s_Voter_judge) .none kV12 dc12 pm12 an12 cd12 ct12), sl12⟩)
    (c12 : PySem.W.codeIn K cd12 "Voter.judge" = true)
    (k12 : PySem.W.keepIn K (.ref f12) = true)
    (a13 : PySem.W.findIn K (.ref C) "try_back" = some (some (.ref f13)))
    (i13 : PySem.W.isFn K (.ref f13) = true)
    (l13 : K.lookup f13 = some ⟨oc13, od13, .func (PySem.W.fnOf "try_back" "Voter.try_back" (defArgs s_Voter_try_back) (defBody s_Voter_try_back) (defScope s_Voter_try_back) .none kV13 dc13 pm13 an13 cd13 ct13), sl13⟩)
    (c13 : PySem.W.codeIn K cd13 "Voter.try_back" = true)
    (k13 : PySem.W.keepIn K (.ref f13) = true)
    (a14 : PySem.W.findIn K (.ref C) "step" = some (some (.ref f14)))
    (i14 : PySem.W.isFn K (.ref f14) = true)
    (l14 : K.lookup f14 = some ⟨oc14, od14, .func (PySem.W.fnOf "step" "Voter.step" (defArgs s_Voter_step) (defBody s_Voter_step) (defScope s_Voter_step) .none kV14 dc14 pm14 an14 cd14 ct14), sl14⟩)
    (c14 : PySem.W.codeIn K cd14 "Voter.step" = true)
    (k14 : PySem.W.keepIn K (.ref f14) = true)
    (a15 : PySem.W.findIn K (.ref C) "given" = some (some (.ref f15)))
    (i15 : PySem.W.isFn K (.ref f15) = true)
    (l15 : K.lookup f15 = some ⟨oc15, od15, .func (PySem.W.fnOf "given" "Voter.given" (defArgs s_Voter_given) (defBody s_Voter_given) (defScope s_Voter_given) .none kV15 dc15 pm15 an15 cd15 ct15), sl15⟩)
    (c15 : PySem.W.codeIn K cd15 "Voter.given" = true)
    (k15 : PySem.W.keepIn K (.ref f15) = true)
    (a16 : PySem.W.findIn K (.ref C) "ask_for" = some (some (.ref f16)))
    (i16 : PySem.W.isFn K (.ref f16) = true)
    (l16 : K.lookup f16 = some ⟨oc16, od16, .func (PySem.W.fnOf "ask_for" "Voter.ask_for" (defArgs s_Voter_ask_for) (defBody s_Voter_ask_for) (defScope s_Voter_ask_for) .none kV16 dc16 pm16 an16 cd16 ct16), sl16⟩)
    (c16 : PySem.W.codeIn K cd16 "Voter.ask_for" = true)
    (k16 : PySem.W.keepIn K (.ref f16) = true)
    (a17 : PySem.W.findIn K (.ref C) "state" = some (some (.ref f17)))
    (i17 : PySem.W.isFn K (.ref f17) = true)
    (l17 : K.lookup f17 = some ⟨oc17, od17, .func (PySem.W.fnOf "state" "Voter.state" (defArgs s_Voter_state) (defBody s_Voter_state) (defScope s_Voter_state) .none kV17 dc17 pm17 an17 cd17 ct17), sl17⟩)
    (c17 : PySem.W.codeIn K cd17 "Voter.state" = true)
    (k17 : PySem.W.keepIn K (.ref f17) = true)
    (a18 : PySem.W.findIn K (.ref C) "count" = some (some (.ref f18)))
    (i18 : PySem.W.isFn K (.ref f18) = true)
    (l18 : K.lookup f18 = some ⟨oc18, od18, .func (PySem.W.fnOf "count" "Voter.count" (defArgs s_Voter_count) (defBody s_Voter_count) (defScope s_Voter_count) .none kV18 dc18 pm18 an18 cd18 ct18), sl18⟩)
    (c18 : PySem.W.codeIn K cd18 "Voter.count" = true)
    (k18 : PySem.W.keepIn K (.ref f18) = true)
    (a19 : PySem.W.nsIn K mainGlobals "who_is_out" = some (some (.ref f19)))
    (l19 : K.lookup f19 = some ⟨oc19, od19, .func (PySem.W.fnOf "who_is_out" "who_is_out" (defArgs s_who_is_out) (defBody s_who_is_out) (defScope s_who_is_out) .none kV19 dc19 pm19 an19 cd19 ct19), sl19⟩)
    (c19 : PySem.W.codeIn K cd19 "who_is_out" = true)
    (k19 : PySem.W.keepIn K (.ref f19) = true)
    (a20 : PySem.W.nsIn K mainGlobals "run" = some (some (.ref f20)))
    (l20 : K.lookup f20 = some ⟨oc20, od20, .func (PySem.W.fnOf "run" "run" (defArgs s_run) (defBody s_run) (defScope s_run) .none kV20 dc20 pm20 an20 cd20 ct20), sl20⟩)
    (c20 : PySem.W.codeIn K cd20 "run" = true)
    (k20 : PySem.W.keepIn K (.ref f20) = true)
    (a21 : PySem.W.nsIn K mainGlobals "outs" = some (some (.ref f21)))
    (l21 : K.lookup f21 = some ⟨oc21, od21, .func (PySem.W.fnOf "outs" "outs" (defArgs s_outs) (defBody s_outs) (defScope s_outs) .none kV21 dc21 pm21 an21 cd21 ct21), sl21⟩)
    (c21 : PySem.W.codeIn K cd21 "outs" = true)
    (k21 : PySem.W.keepIn K (.ref f21) = true)
    (a22 : PySem.W.nsIn K mainGlobals "_law_cell" = some (some (.ref f22)))
    (l22 : K.lookup f22 = some ⟨oc22, od22, .func (PySem.W.fnOf "_law_cell" "_law_cell" (defArgs s__law_cell) (defBody s__law_cell) (defScope s__law_cell) .none kV22 dc22 pm22 an22 cd22 ct22), sl22⟩)
    (c22 : PySem.W.codeIn K cd22 "_law_cell" = true)
    (k22 : PySem.W.keepIn K (.ref f22) = true)
    (a23 : PySem.W.nsIn K mainGlobals "_law_drawn" = some (some (.ref f23)))
    (l23 : K.lookup f23 = some ⟨oc23, od23, .func (PySem.W.fnOf "_law_drawn" "_law_drawn" (defArgs s__law_drawn) (defBody s__law_drawn) (defScope s__law_drawn) .none kV23 dc23 pm23 an23 cd23 ct23), sl23⟩)
    (c23 : PySem.W.codeIn K cd23 "_law_drawn" = true)
    (k23 : PySem.W.keepIn K (.ref f23) = true)
    (a24 : PySem.W.nsIn K mainGlobals "_law_word" = some (some (.ref f24)))
    (l24 : K.lookup f24 = some ⟨oc24, od24, .func (PySem.W.fnOf "_law_word" "_law_word" (defArgs s__law_word) (defBody s__law_word) (defScope s__law_word) .none kV24 dc24 pm24 an24 cd24 ct24), sl24⟩)
    (c24 : PySem.W.codeIn K cd24 "_law_word" = true)
    (k24 : PySem.W.keepIn K (.ref f24) = true)
    (a25 : PySem.W.nsIn K mainGlobals "_law_settings" = some (some (.ref f25)))
    (l25 : K.lookup f25 = some ⟨oc25, od25, .func (PySem.W.fnOf "_law_settings" "_law_settings" (defArgs s__law_settings) (defBody s__law_settings) (defScope s__law_settings) .none kV25 dc25 pm25 an25 cd25 ct25), sl25⟩)
    (c25 : PySem.W.codeIn K cd25 "_law_settings" = true)
    (k25 : PySem.W.keepIn K (.ref f25) = true)
    (a26 : PySem.W.nsIn K mainGlobals "_law_values" = some (some (.ref f26)))
    (l26 : K.lookup f26 = some ⟨oc26, od26, .func (PySem.W.fnOf "_law_values" "_law_values" (defArgs s__law_values) (defBody s__law_values) (defScope s__law_values) .none kV26 dc26 pm26 an26 cd26 ct26), sl26⟩)
    (c26 : PySem.W.codeIn K cd26 "_law_values" = true)
    (k26 : PySem.W.keepIn K (.ref f26) = true)
    (a27 : PySem.W.nsIn K mainGlobals "_law_steps" = some (some (.ref f27)))
    (l27 : K.lookup f27 = some ⟨oc27, od27, .func (PySem.W.fnOf "_law_steps" "_law_steps" (defArgs s__law_steps) (defBody s__law_steps) (defScope s__law_steps) .none kV27 dc27 pm27 an27 cd27 ct27), sl27⟩)
    (c27 : PySem.W.codeIn K cd27 "_law_steps" = true)
    (k27 : PySem.W.keepIn K (.ref f27) = true)
    (a28 : PySem.W.nsIn K mainGlobals "_law_told" = some (some (.ref f28)))
    (l28 : K.lookup f28 = some ⟨oc28, od28, .func (PySem.W.fnOf "_law_told" "_law_told" (defArgs s__law_told) (defBody s__law_told) (defScope s__law_told) .none kV28 dc28 pm28 an28 cd28 ct28), sl28⟩)
    (c28 : PySem.W.codeIn K cd28 "_law_told" = true)
    (k28 : PySem.W.keepIn K (.ref f28) = true)
    (a29 : PySem.W.nsIn K mainGlobals "law" = some (some (.ref f29)))
    (l29 : K.lookup f29 = some ⟨oc29, od29, .func (PySem.W.fnOf "law" "law" (defArgs s_law) (defBody s_law) (defScope s_law) .none kV29 dc29 pm29 an29 cd29 ct29), sl29⟩)
    (c29 : PySem.W.codeIn K cd29 "law" = true)
    (k29 : PySem.W.keepIn K (.ref f29) = true)
    (pg : PySem.W.plainGet K C Str.empty = true)
    (hd : PySem.W.hasDictIn K C = true)
    (po : PySem.W.plainOver K C = true)
    (sa : PySem.W.findIn K (.ref C) "__setattr__" = some (some (.builtin "object.__setattr__")))
    (mk : PySem.W.makesIn K C = true)
    (kc : PySem.W.keepIn K (.ref C) = true)
    (na_many : PySem.W.findIn K (.ref C) "many" = some none)
    (na_threshold : PySem.W.findIn K (.ref C) "threshold" = some none)
    (na_rate : PySem.W.findIn K (.ref C) "rate" = some none)
    (na_misses : PySem.W.findIn K (.ref C) "misses" = some none)
    (na_backs : PySem.W.findIn K (.ref C) "backs" = some none)
    (na_last : PySem.W.findIn K (.ref C) "last" = some none)
    (na_left_out : PySem.W.findIn K (.ref C) "left_out" = some none)
    (na_counts : PySem.W.findIn K (.ref C) "counts" = some none)
    (z_ValueError : PySem.W.nsIn K mainGlobals "ValueError" = some none)
    (z_abs : PySem.W.nsIn K mainGlobals "abs" = some none)
    (z_all : PySem.W.nsIn K mainGlobals "all" = some none)
    (z_any : PySem.W.nsIn K mainGlobals "any" = some none)
    (z_bool : PySem.W.nsIn K mainGlobals "bool" = some none)
    (z_enumerate : PySem.W.nsIn K mainGlobals "enumerate" = some none)
    (z_int : PySem.W.nsIn K mainGlobals "int" = some none)
    (z_isinstance : PySem.W.nsIn K mainGlobals "isinstance" = some none)
    (z_len : PySem.W.nsIn K mainGlobals "len" = some none)
    (z_list : PySem.W.nsIn K mainGlobals "list" = some none)
    (z_max : PySem.W.nsIn K mainGlobals "max" = some none)
    (z_min : PySem.W.nsIn K mainGlobals "min" = some none)
    (z_range : PySem.W.nsIn K mainGlobals "range" = some none)
    (z_sorted : PySem.W.nsIn K mainGlobals "sorted" = some none)
    (z_sum : PySem.W.nsIn K mainGlobals "sum" = some none)
    (z_tuple : PySem.W.nsIn K mainGlobals "tuple" = some none)
    (z_zip : PySem.W.nsIn K mainGlobals "zip" = some none)
    (aBn : PySem.W.nsIn K mainGlobals "BOUNDS" = some (some (.ref aB)))
    (lB : K.lookup aB = some ⟨.type "tuple", odB, .seq #[.ref b0, .ref b1, .ref b2, .ref b3, .ref b4] nB, slB⟩)
    (lB0 : K.lookup b0 = some ⟨.type "tuple", odB0, .seq #[.int 3 u0, .int 9 v0] nB0, slB0⟩)
    (lB1 : K.lookup b1 = some ⟨.type "tuple", odB1, .seq #[.int 0 u1, .int 1000000 v1] nB1, slB1⟩)
    (lB2 : K.lookup b2 = some ⟨.type "tuple", odB2, .seq #[.int 1 u2, .int 1000000 v2] nB2, slB2⟩)
    (lB3 : K.lookup b3 = some ⟨.type "tuple", odB3, .seq #[.int 1 u3, .int 1000 v3] nB3, slB3⟩)
    (lB4 : K.lookup b4 = some ⟨.type "tuple", odB4, .seq #[.int 1 u4, .int 1000 v4] nB4, slB4⟩)
    (aFn : PySem.W.nsIn K mainGlobals "FARTHEST" = some (some (.int 1000000000 tkF)))
    (anVoteError : PySem.W.nsIn K mainGlobals "VoteError" = some (some (.ref cVoteError)))
    (anBadSettings : PySem.W.nsIn K mainGlobals "BadSettings" = some (some (.ref cBadSettings)))
    (anBadStep : PySem.W.nsIn K mainGlobals "BadStep" = some (some (.ref cBadStep)))
    (anNoSensor : PySem.W.nsIn K mainGlobals "NoSensor" = some (some (.ref cNoSensor)))
    (anBadRow : PySem.W.nsIn K mainGlobals "BadRow" = some (some (.ref cBadRow)))
    (exVoteError : PySem.W.excIn K cVoteError veBm "ValueError.__new__" = true)
    (exBadSettings : PySem.W.excIn K cBadSettings veBm "ValueError.__new__" = true)
    (exBadStep : PySem.W.excIn K cBadStep veBm "ValueError.__new__" = true)
    (gaBadSettings : PySem.W.findIn K (.ref cBadSettings) "__getattribute__" = some (some (.builtin "BaseException.__getattribute__")))
    (gbBadSettings : PySem.W.findIn K (.ref cBadSettings) "__getattr__" = some none)
    (gcBadSettings : (PySem.W.clsIn K cBadSettings).isSome = true)
    (gdBadSettings : PySem.W.findIn K (.ref cBadSettings) "__class__" = some (some (.builtin "object.__class__")))
    (geBadSettings : PySem.W.specialIn K (.builtin "object.__class__") "__get__" = some (some (.builtin "getset_descriptor.__get__")))
    (gfBadSettings : PySem.W.takesIn K (.builtin "object.__class__") = some true)
    (ggBadSettings : PySem.W.mroIn K cBadSettings (.type "object") = some true)
    (ghBadSettings : PySem.W.subIn K (.ref cBadSettings) (.type "BaseException") = some true)
    (kBadSettingsVoteError : PySem.W.kitOne K (.ref cBadSettings) (.ref cVoteError) = some true)
    (kBadSettingsBadSettings : PySem.W.kitOne K (.ref cBadSettings) (.ref cBadSettings) = some true)
    (kBadSettingsBadStep : PySem.W.kitOne K (.ref cBadSettings) (.ref cBadStep) = some false)
    (kBadSettingsNoSensor : PySem.W.kitOne K (.ref cBadSettings) (.ref cNoSensor) = some false)
    (kBadSettingsBadRow : PySem.W.kitOne K (.ref cBadSettings) (.ref cBadRow) = some false)
    (kVBadSettings : PySem.W.kitOne K (.ref cBadSettings) (.type "ValueError") = some true)
    (gaBadStep : PySem.W.findIn K (.ref cBadStep) "__getattribute__" = some (some (.builtin "BaseException.__getattribute__")))
    (gbBadStep : PySem.W.findIn K (.ref cBadStep) "__getattr__" = some none)
    (gcBadStep : (PySem.W.clsIn K cBadStep).isSome = true)
    (gdBadStep : PySem.W.findIn K (.ref cBadStep) "__class__" = some (some (.builtin "object.__class__")))
    (geBadStep : PySem.W.specialIn K (.builtin "object.__class__") "__get__" = some (some (.builtin "getset_descriptor.__get__")))
    (gfBadStep : PySem.W.takesIn K (.builtin "object.__class__") = some true)
    (ggBadStep : PySem.W.mroIn K cBadStep (.type "object") = some true)
    (ghBadStep : PySem.W.subIn K (.ref cBadStep) (.type "BaseException") = some true)
    (kBadStepVoteError : PySem.W.kitOne K (.ref cBadStep) (.ref cVoteError) = some true)
    (kBadStepBadSettings : PySem.W.kitOne K (.ref cBadStep) (.ref cBadSettings) = some false)
    (kBadStepBadStep : PySem.W.kitOne K (.ref cBadStep) (.ref cBadStep) = some true)
    (kBadStepNoSensor : PySem.W.kitOne K (.ref cBadStep) (.ref cNoSensor) = some false)
    (kBadStepBadRow : PySem.W.kitOne K (.ref cBadStep) (.ref cBadRow) = some false)
    (kVBadStep : PySem.W.kitOne K (.ref cBadStep) (.type "ValueError") = some true) :
    ∃ fd : FuncData, (∀ (s : Shared) (v : Value), BindsTo s fd ⟨[v], []⟩ [("_law_script", v)]) ∧ ∀ base : Heap, K.In base → base.Ns mainGlobals mg → FnOk l.prog w K mg base CX0 9 fa fd ["_law_script"] (sp_law K) := by
  have e := hfa.symm.trans (PySem.W.mg_of X G a29)
  cases e
  have F0 := fun_mk (st := s_is_whole) l0 c0 k0
  have bd0 := F0.binds (ps := ["thing"]) fun _ _ _ _ _ _ us hl => by obtain ⟨x0, rfl⟩ := len1 hl; rfl
  have F1 := fun_mk (st := s_is_within) l1 c1 k1
  have bd1 := F1.binds (ps := ["number", "value", "threshold"]) fun _ _ _ _ _ _ us hl => by obtain ⟨x0, x1, x2, rfl⟩ := len3 hl; rfl
  have F2 := fun_mk (st := s_middle) l2 c2 k2
  have bd2 := F2.binds (ps := ["numbers", "near"]) fun _ _ _ _ _ _ us hl => by obtain ⟨x0, x1, rfl⟩ := len2 hl; rfl
  have F3 := fun_mk (st := s_moved) l3 c3 k3
  have bd3 := F3.binds (ps := ["one", "goal", "most"]) fun _ _ _ _ _ _ us hl => by obtain ⟨x0, x1, x2, rfl⟩ := len3 hl; rfl
  have F4 := fun_mk (st := s_agree) l4 c4 k4
  have bd4 := F4.binds (ps := ["numbers", "value", "threshold"]) fun _ _ _ _ _ _ us hl => by obtain ⟨x0, x1, x2, rfl⟩ := len3 hl; rfl
  have F5 := fun_mk (st := s_are_settings) l5 c5 k5
  have bd5 := F5.binds (ps := ["settings"]) fun _ _ _ _ _ _ us hl => by obtain ⟨x0, rfl⟩ := len1 hl; rfl
  have F6 := fun_mk (st := s_can_be_said) l6 c6 k6
  have bd6 := F6.binds (ps := ["thing"]) fun _ _ _ _ _ _ us hl => by obtain ⟨x0, rfl⟩ := len1 hl; rfl
  have F7 := fun_mk (st := s_is_step) l7 c7 k7
  have bd7 := F7.binds (ps := ["values", "many"]) fun _ _ _ _ _ _ us hl => by obtain ⟨x0, x1, rfl⟩ := len2 hl; rfl
  have F8 := fun_mk (st := s_word_of) l8 c8 k8
  have bd8 := F8.binds (ps := ["numbers", "value", "threshold", "many"]) fun _ _ _ _ _ _ us hl => by obtain ⟨x0, x1, x2, x3, rfl⟩ := len4 hl; rfl
  have F9 := fun_mk (st := s_Voter___init__) l9 c9 k9
  have bd9 := F9.binds (ps := ["self", "settings", "start"]) fun _ _ _ _ _ _ us hl => by obtain ⟨x0, x1, x2, rfl⟩ := len3 hl; rfl
  have F10 := fun_mk (st := s_Voter_numbers_there) l10 c10 k10
  have bd10 := F10.binds (ps := ["self", "values"]) fun _ _ _ _ _ _ us hl => by obtain ⟨x0, x1, rfl⟩ := len2 hl; rfl
  have F11 := fun_mk (st := s_Voter_is_another_in) l11 c11 k11
  have bd11 := F11.binds (ps := ["self", "place"]) fun _ _ _ _ _ _ us hl => by obtain ⟨x0, x1, rfl⟩ := len2 hl; rfl
  have F12 := fun_mk (st := s_Voter_judge) l12 c12 k12
  have bd12 := F12.binds (ps := ["self", "place", "agrees"]) fun _ _ _ _ _ _ us hl => by obtain ⟨x0, x1, x2, rfl⟩ := len3 hl; rfl
  have F13 := fun_mk (st := s_Voter_try_back) l13 c13 k13
  have bd13 := F13.binds (ps := ["self", "place", "agrees"]) fun _ _ _ _ _ _ us hl => by obtain ⟨x0, x1, x2, rfl⟩ := len3 hl; rfl
  have F14 := fun_mk (st := s_Voter_step) l14 c14 k14
  have bd14 := F14.binds (ps := ["self", "values"]) fun _ _ _ _ _ _ us hl => by obtain ⟨x0, x1, rfl⟩ := len2 hl; rfl
  have F15 := fun_mk (st := s_Voter_given) l15 c15 k15
  have bd15 := F15.binds (ps := ["self"]) fun _ _ _ _ _ _ us hl => by obtain ⟨x0, rfl⟩ := len1 hl; rfl
  have F16 := fun_mk (st := s_Voter_ask_for) l16 c16 k16
  have bd16 := F16.binds (ps := ["self", "place"]) fun _ _ _ _ _ _ us hl => by obtain ⟨x0, x1, rfl⟩ := len2 hl; rfl
  have F17 := fun_mk (st := s_Voter_state) l17 c17 k17
  have bd17 := F17.binds (ps := ["self", "place"]) fun _ _ _ _ _ _ us hl => by obtain ⟨x0, x1, rfl⟩ := len2 hl; rfl
  have F18 := fun_mk (st := s_Voter_count) l18 c18 k18
  have bd18 := F18.binds (ps := ["self", "place"]) fun _ _ _ _ _ _ us hl => by obtain ⟨x0, x1, rfl⟩ := len2 hl; rfl
  have F19 := fun_mk (st := s_who_is_out) l19 c19 k19
  have bd19 := F19.binds (ps := ["voter"]) fun _ _ _ _ _ _ us hl => by obtain ⟨x0, rfl⟩ := len1 hl; rfl
  have F20 := fun_mk (st := s_run) l20 c20 k20
  have bd20 := F20.binds (ps := ["settings", "start", "steps"]) fun _ _ _ _ _ _ us hl => by obtain ⟨x0, x1, x2, rfl⟩ := len3 hl; rfl
  have F21 := fun_mk (st := s_outs) l21 c21 k21
  have bd21 := F21.binds (ps := ["settings", "start", "steps"]) fun _ _ _ _ _ _ us hl => by obtain ⟨x0, x1, x2, rfl⟩ := len3 hl; rfl
  have F22 := fun_mk (st := s__law_cell) l22 c22 k22
  have bd22 := F22.binds (ps := ["_law_script", "_law_k"]) fun _ _ _ _ _ _ us hl => by obtain ⟨x0, x1, rfl⟩ := len2 hl; rfl
  have F23 := fun_mk (st := s__law_drawn) l23 c23 k23
  have bd23 := F23.binds (ps := ["_law_cell_here", "_law_k"]) fun _ _ _ _ _ _ us hl => by obtain ⟨x0, x1, rfl⟩ := len2 hl; rfl
  have F24 := fun_mk (st := s__law_word) l24 c24 k24
  have bd24 := F24.binds (ps := ["_law_e"]) fun _ _ _ _ _ _ us hl => by obtain ⟨x0, rfl⟩ := len1 hl; rfl
  have F25 := fun_mk (st := s__law_settings) l25 c25 k25
  have bd25 := F25.binds (ps := ["_law_more"]) fun _ _ _ _ _ _ us hl => by obtain ⟨x0, rfl⟩ := len1 hl; rfl
  have F26 := fun_mk (st := s__law_values) l26 c26 k26
  have bd26 := F26.binds (ps := ["_law_script", "_law_k", "_law_settings_here", "_law_base"]) fun _ _ _ _ _ _ us hl => by obtain ⟨x0, x1, x2, x3, rfl⟩ := len4 hl; rfl
  have F27 := fun_mk (st := s__law_steps) l27 c27 k27
  have bd27 := F27.binds (ps := ["_law_script", "_law_settings_here", "_law_many"]) fun _ _ _ _ _ _ us hl => by obtain ⟨x0, x1, x2, rfl⟩ := len3 hl; rfl
  have F28 := fun_mk (st := s__law_told) l28 c28 k28
  have bd28 := F28.binds (ps := ["_law_way", "_law_settings_here", "_law_start", "_law_steps_here"]) fun _ _ _ _ _ _ us hl => by obtain ⟨x0, x1, x2, x3, rfl⟩ := len4 hl; rfl
  have F29 := fun_mk (st := s_law) l29 c29 k29
  have bd29 := F29.binds (ps := ["_law_script"]) fun _ _ _ _ _ _ us hl => by obtain ⟨x0, rfl⟩ := len1 hl; rfl
  have T : Txt K mg ⟨f0, _, f1, _, f2, _, f3, _, f4, _, f5, _, f6, _, f7, _, f8, _, f9, _, f10, _, f11, _, f12, _, f13, _, f14, _, f15, _, f16, _, f17, _, f18, _, f19, _, f20, _, f21, _, f22, _, f23, _, f24, _, f25, _, f26, _, f27, _, f28, _, _, _, C, aB, b0, b1, b2, b3, b4, tkF, cVoteError, cBadSettings, cBadStep, cNoSensor, cBadRow⟩ := ⟨F0, bd0, PySem.W.mg_of X G a0, F1, bd1, PySem.W.mg_of X G a1, F2, bd2, PySem.W.mg_of X G a2, F3, bd3, PySem.W.mg_of X G a3, F4, bd4, PySem.W.mg_of X G a4, F5, bd5, PySem.W.mg_of X G a5, F6, bd6, PySem.W.mg_of X G a6, F7, bd7, PySem.W.mg_of X G a7, F8, bd8, PySem.W.mg_of X G a8, F9, bd9, F10, bd10, ⟨a10, i10, k10⟩, F11, bd11, ⟨a11, i11, k11⟩, F12, bd12, ⟨a12, i12, k12⟩, F13, bd13, ⟨a13, i13, k13⟩, F14, bd14, ⟨a14, i14, k14⟩, F15, bd15, ⟨a15, i15, k15⟩, F16, bd16, ⟨a16, i16, k16⟩, F17, bd17, ⟨a17, i17, k17⟩, F18, bd18, ⟨a18, i18, k18⟩, F19, bd19, PySem.W.mg_of X G a19, F20, bd20, PySem.W.mg_of X G a20, F21, bd21, PySem.W.mg_of X G a21, F22, bd22, PySem.W.mg_of X G a22, F23, bd23, PySem.W.mg_of X G a23, F24, bd24, PySem.W.mg_of X G a24, F25, bd25, PySem.W.mg_of X G a25, F26, bd26, PySem.W.mg_of X G a26, F27, bd27, PySem.W.mg_of X G a27, F28, bd28, PySem.W.mg_of X G a28, F29, bd29, PySem.W.mg_of X G a29, PySem.W.mg_none_of X G z_ValueError, PySem.W.mg_none_of X G z_abs, PySem.W.mg_none_of X G z_all, PySem.W.mg_none_of X G z_any, PySem.W.mg_none_of X G z_bool, PySem.W.mg_none_of X G z_enumerate, PySem.W.mg_none_of X G z_int, PySem.W.mg_none_of X G z_isinstance, PySem.W.mg_none_of X G z_len, PySem.W.mg_none_of X G z_list, PySem.W.mg_none_of X G z_max, PySem.W.mg_none_of X G z_min, PySem.W.mg_none_of X G z_range, PySem.W.mg_none_of X G z_sorted, PySem.W.mg_none_of X G z_sum, PySem.W.mg_none_of X G z_tuple, PySem.W.mg_none_of X G z_zip, ⟨pg, hd, po, sa⟩, ⟨mk, a9, i9, kc⟩, PySem.W.mg_of X G aC, na_many, na_threshold, na_rate, na_misses, na_backs, na_last, na_left_out, na_counts, PySem.W.mg_of X G aBn, PySem.W.mg_of X G aFn, fun H => ⟨.inr ⟨_, _, _, lB, rfl, rfl, (show (5 : Nat) ≤ sizeLine by decide), .cons rfl (.cons rfl (.cons rfl (.cons rfl (.cons rfl .nil))))⟩, .inr ⟨_, _, _, lB0, rfl, rfl, (show (2 : Nat) ≤ sizeLine by decide), .cons ⟨_, rfl⟩ (.cons ⟨_, rfl⟩ .nil)⟩, .inr ⟨_, _, _, lB1, rfl, rfl, (show (2 : Nat) ≤ sizeLine by decide), .cons ⟨_, rfl⟩ (.cons ⟨_, rfl⟩ .nil)⟩, .inr ⟨_, _, _, lB2, rfl, rfl, (show (2 : Nat) ≤ sizeLine by decide), .cons ⟨_, rfl⟩ (.cons ⟨_, rfl⟩ .nil)⟩, .inr ⟨_, _, _, lB3, rfl, rfl, (show (2 : Nat) ≤ sizeLine by decide), .cons ⟨_, rfl⟩ (.cons ⟨_, rfl⟩ .nil)⟩, .inr ⟨_, _, _, lB4, rfl, rfl, (show (2 : Nat) ≤ sizeLine by decide), .cons ⟨_, rfl⟩ (.cons ⟨_, rfl⟩ .nil)⟩⟩, PySem.W.mg_of X G anVoteError, PySem.W.mg_of X G anBadSettings, PySem.W.mg_of X G anBadStep, PySem.W.mg_of X G anNoSensor, PySem.W.mg_of X G anBadRow, exVoteError, exBadSettings, exBadStep, ⟨gaBadSettings, gbBadSettings, gcBadSettings, gdBadSettings, geBadSettings, gfBadSettings, ggBadSettings, ghBadSettings⟩, kBadSettingsVoteError, kBadSettingsBadSettings, kBadSettingsBadStep, kBadSettingsNoSensor, kBadSettingsBadRow, kVBadSettings, ⟨gaBadStep, gbBadStep, gcBadStep, gdBadStep, geBadStep, gfBadStep, ggBadStep, ghBadStep⟩, kBadStepVoteError, kBadStepBadSettings, kBadStepBadStep, kBadStepNoSensor, kBadStepBadRow, kVBadStep⟩
  exact ⟨_, fun s v => .of_eq rfl, fun base _ _ => ok_law T⟩
theorem walk {l : PySem.W.OpenLaw} {q : Program} {loose : List Str} {XP : (Str → Option Value) → Heap → Prop} {YP : World → Heap → Prop} {d : DefRec} {K : Params → PySem.W.Frag} (hn : l.most = some 63) (hdf : d.params.defaults = [])
    (hY : ∀ (w : World) (h : Heap), YP w h → (K w.params).In h)
    (F : ∀ (w : World) (mg : Str → Option Value) (fa : Addr) (h : Heap), (K w.params).In h → h.Ns mainGlobals mg → mg d.name = some (.ref fa) →
      ∃ fd : FuncData, (∀ (s : Shared) (u : Value), BindsTo s fd ⟨[u], []⟩ [("_law_script", u)]) ∧ ∀ base : Heap, (K w.params).In base → base.Ns mainGlobals mg → FnOk l.prog w (K w.params) mg base CX0 9 fa fd ["_law_script"] (sp_law (K w.params))) :
    PySem.W.WalkO q loose XP YP l.row.toRowW d [] (fun f vs => PySem.call f vs) :=
  L2.walk_of (n := 63) (k := 9) (x := "_law_script") (CX := fun _ => CX0) (sp := fun w => sp_law (K w.params)) hn (by decide) hdf ⟨rfl, by decide, by decide⟩ hY F (fun _ _ a ns hl _ hS => ⟨a, ns, rfl, hS, hl, fun _ => rfl⟩) fun _ _ _ _ _ z => z
end My
open PySem PySem.W PyProof.Rows
set_option maxRecDepth 100000 in
set_option maxHeartbeats 0 in
theorem PySem.Challenge.cw_midvalue_k20_whole_runs_holds : PySem.Challenge.rw_midvalue_k20_whole_runs.Holds := by
  w_on; o_law; k_head; (case hw => w_witness2)
  k_fill
  refine My.walk (l := PySem.Challenge.rw_midvalue_k20_whole_runs) rfl rfl (fun w h Y => PySem.W.kIn_of Y) ?F
  case F =>
    intro w mg fa h KX G hmg
    refine' My.all_mk KX G hmg ?aC ?a0 ?l0 ?c0 ?k0 ?a1 ?l1 ?c1 ?k1 ?a2 ?l2 ?c2 ?k2 ?a3 ?l3 ?c3 ?k3 ?a4 ?l4 ?c4 ?k4 ?a5 ?l5 ?c5 ?k5 ?a6 ?l6 ?c6 ?k6 ?a7 ?l7 ?c7 ?k7 ?a8 ?l8 ?c8 ?k8 ?a9 ?i9 ?l9 ?c9 ?k9 ?a10 ?i10 ?l10 ?c10 ?k10 ?a11 ?i11 ?l11 ?c11 ?k11 ?a12 ?i12 ?l12 ?c12 ?k12 ?a13 ?i13 ?l13 ?c13 ?k13 ?a14 ?i14 ?l14 ?c14 ?k14 ?a15 ?i15 ?l15 ?c15 ?k15 ?a16 ?i16 ?l16 ?c16 ?k16 ?a17 ?i17 ?l17 ?c17 ?k17 ?a18 ?i18 ?l18 ?c18 ?k18 ?a19 ?l19 ?c19 ?k19 ?a20 ?l20 ?c20 ?k20 ?a21 ?l21 ?c21 ?k21 ?a22 ?l22 ?c22 ?k22 ?a23 ?l23 ?c23 ?k23 ?a24 ?l24 ?c24 ?k24 ?a25 ?l25 ?c25 ?k25 ?a26 ?l26 ?c26 ?k26 ?a27 ?l27 ?c27 ?k27 ?a28 ?l28 ?c28 ?k28 ?a29 ?l29 ?c29 ?k29 ?pg ?hd ?po ?sa ?mk ?kc ?na_many ?na_threshold ?na_rate ?na_misses ?na_backs ?na_last ?na_left_out ?na_counts ?z_ValueError ?z_abs ?z_all ?z_any ?z_bool ?z_enumerate ?z_int ?z_isinstance ?z_len ?z_list ?z_max ?z_min ?z_range ?z_sorted ?z_sum ?z_tuple ?z_zip ?aBn ?lB ?lB0 ?lB1 ?lB2 ?lB3 ?lB4 ?aFn ?anVoteError ?anBadSettings ?anBadStep ?anNoSensor ?anBadRow ?exVoteError ?exBadSettings ?exBadStep ?gaBadSettings ?gbBadSettings ?gcBadSettings ?gdBadSettings ?geBadSettings ?gfBadSettings ?ggBadSettings ?ghBadSettings ?kBadSettingsVoteError ?kBadSettingsBadSettings ?kBadSettingsBadStep ?kBadSettingsNoSensor ?kBadSettingsBadRow ?kVBadSettings ?gaBadStep ?gbBadStep ?gcBadStep ?gdBadStep ?geBadStep ?gfBadStep ?ggBadStep ?ghBadStep ?kBadStepVoteError ?kBadStepBadSettings ?kBadStepBadStep ?kBadStepNoSensor ?kBadStepBadRow ?kVBadStep
    (case aC => k_is)
    (case a0 => k_is)
    (case l0 => k_is)
    (case c0 => k_is)
    (case k0 => k_is)
    (case a1 => k_is)
    (case l1 => k_is)
    (case c1 => k_is)
    (case k1 => k_is)
    (case a2 => k_is)
    (case l2 => k_is)
    (case c2 => k_is)
    (case k2 => k_is)
    (case a3 => k_is)
    (case l3 => k_is)
    (case c3 => k_is)
    (case k3 => k_is)
    (case a4 => k_is)
    (case l4 => k_is)
    (case c4 => k_is)
    (case k4 => k_is)
    (case a5 => k_is)
    (case l5 => k_is)
    (case c5 => k_is)
    (case k5 => k_is)
    (case a6 => k_is)
    (case l6 => k_is)
    (case c6 => k_is)
    (case k6 => k_is)
    (case a7 => k_is)
    (case l7 => k_is)
    (case c7 => k_is)
    (case k7 => k_is)
    (case a8 => k_is)
    (case l8 => k_is)
    (case c8 => k_is)
    (case k8 => k_is)
    (case a9 => k_is)
    (case i9 => k_is)
    (case l9 => k_is)
    (case c9 => k_is)
    (case k9 => k_is)
    (case a10 => k_is)
    (case i10 => k_is)
    (case l10 => k_is)
    (case c10 => k_is)
    (case k10 => k_is)
    (case a11 => k_is)
    (case i11 => k_is)
    (case l11 => k_is)
    (case c11 => k_is)
    (case k11 => k_is)
    (case a12 => k_is)
    (case i12 => k_is)
    (case l12 => k_is)
    (case c12 => k_is)
    (case k12 => k_is)
    (case a13 => k_is)
    (case i13 => k_is)
    (case l13 => k_is)
    (case c13 => k_is)
    (case k13 => k_is)
    (case a14 => k_is)
    (case i14 => k_is)
    (case l14 => k_is)
    (case c14 => k_is)
    (case k14 => k_is)
    (case a15 => k_is)
    (case i15 => k_is)
    (case l15 => k_is)
    (case c15 => k_is)
    (case k15 => k_is)
    (case a16 => k_is)
    (case i16 => k_is)
    (case l16 => k_is)
    (case c16 => k_is)
    (case k16 => k_is)
    (case a17 => k_is)
    (case i17 => k_is)
    (case l17 => k_is)
    (case c17 => k_is)
    (case k17 => k_is)
    (case a18 => k_is)
    (case i18 => k_is)
    (case l18 => k_is)
    (case c18 => k_is)
    (case k18 => k_is)
    (case a19 => k_is)
    (case l19 => k_is)
    (case c19 => k_is)
    (case k19 => k_is)
    (case a20 => k_is)
    (case l20 => k_is)
    (case c20 => k_is)
    (case k20 => k_is)
    (case a21 => k_is)
    (case l21 => k_is)
    (case c21 => k_is)
    (case k21 => k_is)
    (case a22 => k_is)
    (case l22 => k_is)
    (case c22 => k_is)
    (case k22 => k_is)
    (case a23 => k_is)
    (case l23 => k_is)
    (case c23 => k_is)
    (case k23 => k_is)
    (case a24 => k_is)
    (case l24 => k_is)
    (case c24 => k_is)
    (case k24 => k_is)
    (case a25 => k_is)
    (case l25 => k_is)
    (case c25 => k_is)
    (case k25 => k_is)
    (case a26 => k_is)
    (case l26 => k_is)
    (case c26 => k_is)
    (case k26 => k_is)
    (case a27 => k_is)
    (case l27 => k_is)
    (case c27 => k_is)
    (case k27 => k_is)
    (case a28 => k_is)
    (case l28 => k_is)
    (case c28 => k_is)
    (case k28 => k_is)
    (case a29 => k_is)
    (case l29 => k_is)
    (case c29 => k_is)
    (case k29 => k_is)
    (case pg => k_is)
    (case hd => k_is)
    (case po => k_is)
    (case sa => k_is)
    (case mk => k_is)
    (case kc => k_is)
    (case na_many => k_is)
    (case na_threshold => k_is)
    (case na_rate => k_is)
    (case na_misses => k_is)
    (case na_backs => k_is)
    (case na_last => k_is)
    (case na_left_out => k_is)
    (case na_counts => k_is)
    (case z_ValueError => k_is)
    (case z_abs => k_is)
    (case z_all => k_is)
    (case z_any => k_is)
    (case z_bool => k_is)
    (case z_enumerate => k_is)
    (case z_int => k_is)
    (case z_isinstance => k_is)
    (case z_len => k_is)
    (case z_list => k_is)
    (case z_max => k_is)
    (case z_min => k_is)
    (case z_range => k_is)
    (case z_sorted => k_is)
    (case z_sum => k_is)
    (case z_tuple => k_is)
    (case z_zip => k_is)
    (case aBn => k_is)
    (case lB => k_is)
    (case lB0 => k_is)
    (case lB1 => k_is)
    (case lB2 => k_is)
    (case lB3 => k_is)
    (case lB4 => k_is)
    (case aFn => k_is)
    (case anVoteError => k_is)
    (case anBadSettings => k_is)
    (case anBadStep => k_is)
    (case anNoSensor => k_is)
    (case anBadRow => k_is)
    (case exVoteError => kernel_rfl)
    (case exBadSettings => kernel_rfl)
    (case exBadStep => kernel_rfl)
    (case gaBadSettings => kernel_rfl)
    (case gbBadSettings => kernel_rfl)
    (case gcBadSettings => kernel_rfl)
    (case gdBadSettings => kernel_rfl)
    (case geBadSettings => kernel_rfl)
    (case gfBadSettings => kernel_rfl)
    (case ggBadSettings => kernel_rfl)
    (case ghBadSettings => kernel_rfl)
    (case kBadSettingsVoteError => kernel_rfl)
    (case kBadSettingsBadSettings => kernel_rfl)
    (case kBadSettingsBadStep => kernel_rfl)
    (case kBadSettingsNoSensor => kernel_rfl)
    (case kBadSettingsBadRow => kernel_rfl)
    (case kVBadSettings => kernel_rfl)
    (case gaBadStep => kernel_rfl)
    (case gbBadStep => kernel_rfl)
    (case gcBadStep => kernel_rfl)
    (case gdBadStep => kernel_rfl)
    (case geBadStep => kernel_rfl)
    (case gfBadStep => kernel_rfl)
    (case ggBadStep => kernel_rfl)
    (case ghBadStep => kernel_rfl)
    (case kBadStepVoteError => kernel_rfl)
    (case kBadStepBadSettings => kernel_rfl)
    (case kBadStepBadStep => kernel_rfl)
    (case kBadStepNoSensor => kernel_rfl)
    (case kBadStepBadRow => kernel_rfl)
    (case kVBadStep => kernel_rfl)

