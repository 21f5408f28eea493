import PyProof.Rows.All
import Wide.All
import OpenK.AllK
import Wide.FinOn
import Lean
import PyProof.EqAt
import PyProof.EqKinds
import PyProof.TupleCall
import PyProof.P3Eq
import PyProof.NeData
import PyProof.ConsumeWalk
import KE.KLam
import KE.KSortKey
import KE.KNestM
import PyProof.SeqI3
import PyProof.ListRange
import PyProof.EqAt
import OpenK.KOwn
import KE.KIsAll
import PyProof.SumWalkG
import PyProof.ExcAttrAll.ValueError
import PySem.Challenge.RW_midvalue_k17_what_liars_can_do
set_option Elab.async false
set_option linter.all false
set_option maxRecDepth 100000
/-! THE HAND LAYER, for ints, bools, texts, own classes, LISTS and tuples (index, slices, in, append, pop ..), calls, loops. Paste it whole ahead of your own text; what your proof does not reach may be deleted. -/
namespace L2
open PySem PySem.Spec PyProof.Rows

/-- a key: an int or a str -/
abbrev Key := Sum Int Str
def keyIs : Key → Value → Bool
  | .inl k, v => Value.isInt k v
  | .inr x, v => Value.isStrOf x v
def keyH (w : World) : Key → Int
  | .inl k => hashInt k
  | .inr x => hashStr w x
theorem keyIs_shape : ∀ {k : Key} {v : Value}, keyIs k v = true → (∃ i t, k = Sum.inl i ∧ v = Value.int i t) ∨ (∃ x t, k = Sum.inr x ∧ v = Value.str x t)
  | .inl i, v, h => by
    obtain ⟨t, e⟩ := Value.isInt_shape (k := i) (v := v) h
    exact .inl ⟨i, t, rfl, e⟩
  | .inr x, v, h => by
    obtain ⟨t, e⟩ := Value.isStrOf_shape (x := x) (v := v) h
    exact .inr ⟨x, t, rfl, e⟩
theorem key_ll (a b : Int) : decide ((Sum.inl a : Key) = Sum.inl b) = (a == b) := by
  by_cases e : a = b
  · subst e; simp
  · have h : ¬ (Sum.inl a : Key) = Sum.inl b := fun q => e (Sum.inl.inj q)
    rw [decide_eq_false h]
    exact (beq_eq_false_iff_ne.mpr e).symm
theorem key_rr (a b : Str) : decide ((Sum.inr a : Key) = Sum.inr b) = decide (a = b) := by
  by_cases e : a = b
  · subst e; simp
  · have h : ¬ (Sum.inr a : Key) = Sum.inr b := fun q => e (Sum.inr.inj q)
    rw [decide_eq_false h, decide_eq_false e]
theorem key_lr (a : Int) (b : Str) : decide ((Sum.inl a : Key) = Sum.inr b) = false := decide_eq_false (fun q => nomatch q)
theorem key_rl (a : Str) (b : Int) : decide ((Sum.inr a : Key) = Sum.inl b) = false := decide_eq_false (fun q => nomatch q)

def mixKind (prog : Program) (w : World) : PySem.KeyKind prog w Key where
  is := keyIs
  hash := keyH w
  inj := fun v a b ha hb => by
    rcases keyIs_shape ha with ⟨i, t, rfl, rfl⟩ | ⟨x, t, rfl, rfl⟩
    · rcases keyIs_shape hb with ⟨j, u, rfl, e⟩ | ⟨y, u, rfl, e⟩
      · injection e with e1 _; rw [e1]
      · exact nomatch e
    · rcases keyIs_shape hb with ⟨j, u, rfl, e⟩ | ⟨y, u, rfl, e⟩
      · exact nomatch e
      · injection e with e1 _; rw [e1]
  byValue := fun k v h => by
    rcases keyIs_shape h with ⟨i, t, rfl, rfl⟩ | ⟨x, t, rfl, rfl⟩ <;> rfl
  pyHash := fun hv h => by
    rcases keyIs_shape hv with ⟨i, t, rfl, rfl⟩ | ⟨x, t, rfl, rfl⟩
    · exact wpAny_pyHash_int h
    · exact wpAny_pyHash_str h
  eqBool := fun hu hv h => by
    rcases keyIs_shape hu with ⟨i, t, rfl, rfl⟩ | ⟨x, t, rfl, rfl⟩
    · rcases keyIs_shape hv with ⟨j, u, rfl, rfl⟩ | ⟨y, u, rfl, rfl⟩
      · rw [key_ll] at h; exact wpAny_eqBool_int h
      · rw [key_lr] at h; exact SeqAt.EqAt.int_str i t y u _ _ _ _ h
    · rcases keyIs_shape hv with ⟨j, u, rfl, rfl⟩ | ⟨y, u, rfl, rfl⟩
      · rw [key_rl] at h; exact SeqAt.EqAt.str_int x t j u _ _ _ _ h
      · rw [key_rr] at h; exact wpAny_eqBool_str h
  «strs» := fun k x t v h => by
    rcases keyIs_shape h with ⟨i, u, rfl, e⟩ | ⟨y, u, rfl, e⟩
    · exact nomatch e
    · injection e with e1 _
      subst e1
      cases v <;> rfl

end L2

namespace L2
open PySem PySem.Spec PyProof.Rows

/-- a value, without the heap -/
inductive V where
  | non | bl (b : Bool) | int (i : Int) | str (x : Str) | byt (b : Array UInt8) | flt (b : UInt64) | ref (a : Addr) | ty (n : String)
  deriving DecidableEq

def RelV : V → Value → Prop
  | .non, u => u = Value.none
  | .bl b, u => u = Value.bool b
  | .int i, u => ∃ t, u = Value.int i t
  | .str x, u => ∃ t, u = Value.str x t
  | .byt b, u => ∃ t, u = Value.bytes b t
  | .flt b, u => ∃ t, u = Value.float b t
  | .ref a, u => u = Value.ref a
  | .ty n, u => u = Value.type n

abbrev Vals : List V → List Value → Prop := Paired RelV
theorem Vals.length {xs : List V} {us : List Value} (r : Vals xs us) : xs.length = us.length := Paired.length r
theorem Vals.get : ∀ {xs : List V} {us : List Value} {i : Nat} {x : V}, Vals xs us → xs[i]? = some x → ∃ u, us[i]? = some u ∧ RelV x u
  | _, _, _, _, .nil, e => by simp at e
  | _, _, 0, _, .cons r _, e => by simp at e; subst e; exact ⟨_, rfl, r⟩
  | _, _, i + 1, x, .cons _ t, e => by
    obtain ⟨u, h1, h2⟩ := Vals.get (i := i) (x := x) t (by simpa using e)
    exact ⟨u, by simpa using h1, h2⟩
theorem Vals.append : ∀ {xs ys : List V} {us ws : List Value}, Vals xs us → Vals ys ws → Vals (xs ++ ys) (us ++ ws)
  | _, _, _, _, .nil, s => s
  | _, _, _, _, .cons r t, s => .cons r (Vals.append t s)
def RelO : Option V → Option Value → Prop
  | some v, some u => RelV v u
  | none, none => True
  | _, _ => False
def KV {κ : Type} : List (κ × V) → List (κ × Value) → Prop := Paired fun (p : κ × V) (q : κ × Value) => p.1 = q.1 ∧ RelV p.2 q.2

/-- a key of a dict (00_mix): an int or a text -/
def kV : Key → V
  | .inl i => .int i
  | .inr x => .str x

/-- what stands at a tracked address -/
inductive HO where
  /-- a list -/
  | lst (xs : List V)
  /-- a tuple (never changes) -/
  | tup (xs : List V)
  /-- a dict whose keys are ints and texts; one whose keys are tuples of ints and texts (the empty one is both) -/
  | dK (kvs : List (Key × V)) | dT (kvs : List (List Key × V))
  /-- a set of ints: its members, its size -/
  | set (S : Int → Bool) (n : Nat)
  /-- an instance of the class at C, its dict at dx, its attributes -/
  | ins (C dx : Addr) (fs : List (Str × V))
  /-- the dict of the instance at x -/
  | own (x : Addr)
  /-- the dict of an exception -/
  | xd (fs : List (Str × V))
  /-- a bound method, f of x -/
  | met (f x : Addr)
  /-- a range object lo, lo + 1, .. below hi -/
  | rng (lo hi : Int)
  /-- a thing that is known to the object (the script; a dict while a loop walks it): read, never written while it is so -/
  | frz (o : Obj) (u : HO)
  /-- a code object's table -/
  | tbl (ps : Array Value)
  /-- any other thing, by what is true of its one object (a def of one's own: SetO a S n := HO.ext fun h => ..) -/
  | ext (φ : Heap → Prop)

abbrev Hp := Addr → Option HO
def upd (H : Hp) (a : Addr) (o : HO) : Hp := fun b => if b = a then some o else H b
theorem upd_same {H : Hp} {a : Addr} {o : HO} : upd H a o a = some o := by unfold upd; rw [if_pos rfl]
theorem upd_ne {H : Hp} {a b : Addr} {o : HO} (h : b ≠ a) : upd H a o b = H b := by unfold upd; rw [if_neg h]
theorem ne_of_none {H : Hp} {a b : Addr} {o : HO} (h : H a = some o) (h' : H b = none) : a ≠ b := by
  intro e; subst e; rw [h] at h'; cases h'

section
variable (P : Program) (w : World)
def ObjOk (H : Hp) (h : Heap) (a : Addr) : HO → Prop
  | .lst xs => xs.length ≤ sizeLine ∧ ∃ (its : List Value) (n : Nat), Vals xs its ∧ h.get? a = some { cls := .type "list", data := .seq its.toArray n }
  | .tup xs => xs.length ≤ sizeLine ∧ ∃ its : List Value, Vals xs its ∧ IsTup h a its.toArray
  | .dK kvs => kvs.length ≤ sizeLine ∧ (a == sysModules) = false ∧ ∃ vs, KV kvs vs ∧ h.DictOf (mixKind P w) a vs
  | .dT kvs => kvs.length ≤ sizeLine ∧ (a == sysModules) = false ∧ ∃ xs : List (List Key × Addr × Value),
      Paired (fun (p : List Key × V) (q : List Key × Addr × Value) => p.1 = q.1 ∧ H q.2.1 = some (.tup (p.1.map kV)) ∧ RelV p.2 q.2.2) kvs xs ∧
      ∃ o es ep, h.get? a = some o ∧ o.ExactDict ∧ o.data = .dict es ep ∧ es.toList = xs.map (entryOfKey (tupleKind (mixKind P w))) ∧ (xs.map (·.1)).Nodup
  | .set S n => h.SetOf (intKind P w) a S n
  | .ins C dx fs => H dx = some (.own a) ∧ fs.length ≤ 1000 ∧ dx ≠ a ∧ h.get? a = some (PySem.W.instObj C dx) ∧
      ∃ mA, h.Ns1 dx mA ∧ (∀ f, RelO (fs.lookup f) (mA f)) ∧ PySem.Within mA (fs.map (·.1))
  | .own _ => ∃ o, h.get? a = some o
  | .xd fs => ∃ mA, h.Ns1 a mA ∧ ∀ f, RelO (fs.lookup f) (mA f)
  | .rng lo hi => ∃ t u v, h.get? a = some { cls := .type "range", data := .fields #[.int lo t, .int hi u, .int 1 v] }
  | .frz o u => h.get? a = some o ∧ ObjOk H h a u
  | .tbl ps => h.get? a = some { cls := .none, data := .fields ps }
  | .met f x => h.get? a = some (PySem.W.methodObj (.ref f) (.ref x))
  | .ext φ => φ h ∧ (∃ o, h.get? a = some o) ∧ ∀ h1 h2 : Heap, φ h1 → (∀ o, h1.get? a = some o → h2.get? a = some o) → φ h2
/-- the abstract heap is held -/
def HOk (H : Hp) (h : Heap) : Prop := ∀ a o, H a = some o → ObjOk P w H h a o
end

section
variable {P : Program} {w : World} {H H' : Hp} {h h' : Heap} {a : Addr} {o : HO}
theorem ObjOk.lt (x : ObjOk P w H h a o) : a < h.objs.size := by
  cases o with
  | lst xs => obtain ⟨_, _, _, _, e⟩ := x; exact Heap.lt_size e
  | tup xs => obtain ⟨_, _, _, p⟩ := x; exact p.lt
  | dK kvs => obtain ⟨_, _, _, _, o, _, _, e, _⟩ := x; exact Heap.lt_size e
  | dT kvs => obtain ⟨_, _, _, _, o, _, _, e, _⟩ := x; exact Heap.lt_size e
  | set S n => obtain ⟨o, _, _, _, e, _⟩ := x; exact Heap.lt_size e
  | ins C dx fs => obtain ⟨_, _, _, e, _⟩ := x; exact Heap.lt_size e
  | own y => obtain ⟨_, e⟩ := x; exact Heap.lt_size e
  | xd fs => obtain ⟨_, ⟨_, _, _, e, _⟩, _⟩ := x; exact Heap.lt_size e
  | rng lo hi => obtain ⟨_, _, _, e⟩ := x; exact Heap.lt_size e
  | frz ob u => obtain ⟨e, _⟩ := x; exact Heap.lt_size e
  | tbl ps => exact Heap.lt_size (show h.get? a = some _ from x)
  | met f y => exact Heap.lt_size (show h.get? a = some _ from x)
  | ext φ => obtain ⟨_, ⟨_, e⟩, _⟩ := x; exact Heap.lt_size e
theorem Paired.mapP {α β : Type} {F G : α → β → Prop} : ∀ {l₁ : List α} {l₂ : List β}, Paired F l₁ l₂ → (∀ a b, F a b → G a b) → Paired G l₁ l₂
  | _, _, .nil, _ => .nil
  | _, _, .cons r t, f => .cons (f _ _ r) (Paired.mapP t f)
/-- what an object's description leans on: its own object, its own dict, the tuples -/
theorem ObjOk.stay (x : ObjOk P w H h a o) (k : ∀ b u, (b = a ∨ H b = some (.own a)) → h.get? b = some u → h'.get? b = some u)
    (ho : ∀ b, H b = some (.own a) → H' b = some (.own a)) (ht : ∀ b xs, H b = some (.tup xs) → H' b = some (.tup xs)) : ObjOk P w H' h' a o := by
  induction o with
  | lst xs => obtain ⟨z, its, n, r, e⟩ := x; exact ⟨z, its, n, r, k _ _ (.inl rfl) e⟩
  | tup xs => obtain ⟨z, its, r, ob, e, c⟩ := x; exact ⟨z, its, r, ob, k _ _ (.inl rfl) e, c⟩
  | dK kvs => obtain ⟨z, y, vs, r, ob, es, ep, e, c⟩ := x; exact ⟨z, y, vs, r, ob, es, ep, k _ _ (.inl rfl) e, c⟩
  | dT kvs =>
    obtain ⟨z, y, xs, r, ob, es, ep, e, c⟩ := x
    exact ⟨z, y, xs, Paired.mapP r fun p q z => ⟨z.1, ht _ _ z.2.1, z.2.2⟩, ob, es, ep, k _ _ (.inl rfl) e, c⟩
  | set S n => obtain ⟨ob, es, ep, t, e, c⟩ := x; exact ⟨ob, es, ep, t, k _ _ (.inl rfl) e, c⟩
  | ins C dx fs =>
    obtain ⟨d, z, ne, e, mA, ⟨od, es, ep, e2, c⟩, r⟩ := x
    exact ⟨ho _ d, z, ne, k _ _ (.inl rfl) e, mA, ⟨od, es, ep, k _ _ (.inr d) e2, c⟩, r⟩
  | own y => obtain ⟨ob, e⟩ := x; exact ⟨ob, k _ _ (.inl rfl) e⟩
  | xd fs => obtain ⟨mA, ⟨od, es, ep, e, c⟩, r⟩ := x; exact ⟨mA, ⟨od, es, ep, k _ _ (.inl rfl) e, c⟩, r⟩
  | rng lo hi => obtain ⟨t, u, v, e⟩ := x; exact ⟨t, u, v, k _ _ (.inl rfl) e⟩
  | frz ob u ih => obtain ⟨e, q⟩ := x; exact ⟨k _ _ (.inl rfl) e, ih q⟩
  | tbl ps =>
    have e : h.get? a = some { cls := .none, data := .fields ps } := x
    show h'.get? a = some { cls := .none, data := .fields ps }
    exact k a _ (.inl rfl) e
  | met f y =>
    have e : h.get? a = some (PySem.W.methodObj (.ref f) (.ref y)) := x
    show h'.get? a = some (PySem.W.methodObj (.ref f) (.ref y))
    exact k a _ (.inl rfl) e
  | ext φ => obtain ⟨p, ⟨o, e⟩, st⟩ := x; exact ⟨st _ _ p fun o q => k _ _ (.inl rfl) q, ⟨o, k _ _ (.inl rfl) e⟩, st⟩
theorem HOk.lt (x : HOk P w H h) (e : H a = some o) : a < h.objs.size := (x a o e).lt
theorem HOk.fresh (x : HOk P w H h) (e : h.objs.size ≤ a) : H a = none := by
  cases q : H a with
  | none => rfl
  | some u => exact absurd (Nat.lt_of_lt_of_le (x.lt q) e) (Nat.lt_irrefl _)
/-- every object of the heap is kept -/
theorem HOk.kept (x : HOk P w H h) (k : ∀ b u, h.get? b = some u → h'.get? b = some u) : HOk P w H h' := fun a o e =>
  (x a o e).stay (fun b u _ q => k b u q) (fun _ q => q) fun _ _ q => q
/-- a new object is laid and tracked -/
theorem HOk.laid (x : HOk P w H h) (k : ∀ b u, h.get? b = some u → h'.get? b = some u) (hp : h.objs.size ≤ a) (new : ObjOk P w (upd H a o) h' a o) : HOk P w (upd H a o) h' := fun b u e => by
  have hn := x.fresh hp
  by_cases hb : b = a
  · subst hb; rw [upd_same] at e; cases e; exact new
  · rw [upd_ne hb] at e
    exact (x b u e).stay (fun c v _ q => k c v q) (fun c q => by rw [upd_ne (ne_of_none q hn)]; exact q) fun c xs q => by rw [upd_ne (ne_of_none q hn)]; exact q
end

/-- what may be read as u: it is u, or a known u -/
def Rd (H : Hp) (a : Addr) (u : HO) : Prop := H a = some u ∨ ∃ o, H a = some (.frz o u)
theorem Rd.ok {P : Program} {w : World} {H : Hp} {h : Heap} {a : Addr} {u : HO} (r : Rd H a u) (x : HOk P w H h) : ObjOk P w H h a u := by
  rcases r with r | ⟨o, r⟩
  · exact x a u r
  · obtain ⟨_, q⟩ := x a _ r
    exact q
/-- what may be written -/
def Mut : Option HO → Prop
  | some (.lst _) => True
  | some (.dK _) => True
  | some (.dT _) => True
  | some (.set _ _) => True
  | some (.ins _ _ _) => True
  | some (.ext _) => True
  | _ => False
section
variable {P : Program} {w : World} {H : Hp} {h h' : Heap} {x e : Addr} {o' : HO}
/-- the object at e is changed: x itself, or the dict of the instance x -/
theorem HOk.write (ok : HOk P w H h) (mu : Mut (H x)) (he : e = x ∨ H e = some (.own x)) (k : ∀ b u, b ≠ e → h.get? b = some u → h'.get? b = some u) (heo : ∃ u, h'.get? e = some u)
    (new : ObjOk P w (upd H x o') h' x o') : HOk P w (upd H x o') h' := fun b u q => by
  have nown : ∀ c y, H c = some (.own y) → c ≠ x := fun c y r z => by subst z; rw [r] at mu; exact mu
  have ntup : ∀ c xs, H c = some (.tup xs) → c ≠ x := fun c xs r z => by subst z; rw [r] at mu; exact mu
  by_cases hb : b = x
  · subst hb; rw [upd_same] at q; cases q; exact new
  · rw [upd_ne hb] at q
    by_cases hbe : b = e
    · have q' : H b = some (.own x) := by
        rcases he with z | z
        · exact absurd (hbe.trans z) hb
        · rw [hbe]; exact z
      rw [q] at q'; cases q'
      obtain ⟨v, hv⟩ := heo
      exact ⟨v, by rw [hbe]; exact hv⟩
    · refine (ok b u q).stay (fun c v hc r => k c v ?_ r) (fun c r => by rw [upd_ne (nown c b r)]; exact r) fun c xs r => by rw [upd_ne (ntup c xs r)]; exact r
      rcases hc with rfl | hc
      · exact hbe
      · rintro rfl
        rcases he with z | z
        · exact nown c b hc z
        · rw [hc] at z; cases z; exact hb rfl
end

/-! ### kept unless tracked; of the frames at fs (the callers') the slots may change (an exception that passes writes there); of the records at ex (iterators) nothing is said -/
structure Un (fs ex : List Addr) (H H' : Hp) (h h' : Heap) : Prop where
  keep : ∀ b o, h.get? b = some o → H b = none → b ∉ fs → b ∉ ex → h'.get? b = some o
  slot : ∀ b o, h.get? b = some o → H b = none → b ∈ fs → b ∉ ex → ∃ sl, h'.get? b = some { o with slots := sl }
  free : ∀ b o, h.get? b = some o → H b = none → b ∉ ex → H' b = none
  there : ∀ b o, h.get? b = some o → b ∉ ex → ∃ o', h'.get? b = some o'
  tups : ∀ b xs, H b = some (.tup xs) → H' b = some (.tup xs)
  frzs : ∀ b o u, H b = some (.frz o u) → H' b = some (.frz o u)
  tbls : ∀ b ps, H b = some (.tbl ps) → ∃ more, H' b = some (.tbl (ps ++ more))
section
variable {fs fs' ex ex' : List Addr} {H H1 H2 : Hp} {h h1 h2 h' : Heap} {a x e : Addr} {o : HO}
theorem Un.any (u : Un fs ex H H1 h h1) {b : Addr} {ob : Obj} (q : h.get? b = some ob) (n : H b = none) (hx : b ∉ ex) : ∃ sl, h1.get? b = some { ob with slots := sl } := by
  by_cases hb : b ∈ fs
  · exact u.slot b ob q n hb hx
  · exact ⟨ob.slots, u.keep b ob q n hb hx⟩
theorem Un.kept (k : ∀ b u, h.get? b = some u → h'.get? b = some u) : Un fs ex H H h h' :=
  ⟨fun b ob q _ _ _ => k b ob q, fun b ob q _ _ _ => ⟨ob.slots, k b ob q⟩, fun _ _ _ n _ => n, fun b ob q _ => ⟨ob, k b ob q⟩, fun _ _ q => q, fun _ _ _ q => q, fun _ ps q => ⟨#[], by rw [q]; simp⟩⟩
theorem Un.refl : Un fs ex H H h h := Un.kept fun _ _ q => q
theorem Un.laid (k : ∀ b u, h.get? b = some u → h'.get? b = some u) (hp : h.objs.size ≤ a) (hn : H a = none) : Un fs ex H (upd H a o) h h' where
  keep := fun b u q _ _ _ => k b u q
  slot := fun b u q _ _ _ => ⟨u.slots, k b u q⟩
  free := fun b u q n _ => by rw [upd_ne (Nat.ne_of_lt (Nat.lt_of_lt_of_le (Heap.lt_size q) hp))]; exact n
  there := fun b u q _ => ⟨u, k b u q⟩
  tups := fun b xs q => by rw [upd_ne (ne_of_none q hn)]; exact q
  frzs := fun b u xs q => by rw [upd_ne (ne_of_none q hn)]; exact q
  tbls := fun b ps q => ⟨#[], by rw [upd_ne (ne_of_none q hn), q]; simp⟩
theorem Un.write (mu : Mut (H x)) (he : e = x ∨ H e = some (.own x)) (k : ∀ b u, b ≠ e → h.get? b = some u → h'.get? b = some u) (heo : ∃ u, h'.get? e = some u) : Un fs ex H (upd H x o) h h' := by
  have hx : ∀ b, H b = none → b ≠ x := fun b n z => by subst z; rw [n] at mu; exact mu
  have hb : ∀ b, H b = none → b ≠ e := fun b n z => by
    subst z
    rcases he with r | r
    · exact hx b n r
    · rw [n] at r; cases r
  have hm : ∀ b u, H b = some u → ¬ Mut (some u) → b ≠ x := fun b u q nm z => by subst z; rw [q] at mu; exact nm mu
  refine ⟨fun b u q n _ _ => k b u (hb b n) q, fun b u q n _ _ => ⟨u.slots, k b u (hb b n) q⟩, fun b u q n _ => by rw [upd_ne (hx b n)]; exact n, fun b u q _ => ?_,
    fun b xs q => by rw [upd_ne (hm b _ q fun z => z)]; exact q, fun b u xs q => by rw [upd_ne (hm b _ q fun z => z)]; exact q, fun b ps q => ⟨#[], by rw [upd_ne (hm b _ q fun z => z), q]; simp⟩⟩
  by_cases hbe : b = e
  · subst hbe; exact heo
  · exact ⟨u, k b u hbe q⟩
end

/-! ### the heap without what is tracked -/
def trk (h : Heap) (H : Hp) : List Addr := (List.range h.objs.size).filter fun a => (H a).isSome
def hidT (h : Heap) (H : Hp) : Heap := PySem.W.hideAll h (trk h H)
theorem hidT_size (h : Heap) (H : Hp) : (hidT h H).objs.size = h.objs.size := PySem.W.hideAll_size _ _
theorem hidT_get {h : Heap} {H : Hp} {b : Addr} {o : Obj} (e : h.get? b = some o) (n : H b = none) : (hidT h H).get? b = some o :=
  PySem.W.hideAll_get _ e fun hm => by
    have q : (H b).isSome = true := (List.mem_filter.mp hm).2
    rw [n] at q; simp at q
theorem of_hidT {h : Heap} {H : Hp} {b : Addr} {o : Obj} (e : (hidT h H).get? b = some o) : h.get? b = some o ∧ H b = none := by
  have e' : h.get? b = some o := PySem.W.of_hideAll (trk h H) e
  refine ⟨e', ?_⟩
  cases q : H b with
  | none => rfl
  | some x =>
    have hm : b ∈ trk h H := List.mem_filter.mpr ⟨List.mem_range.mpr (Heap.lt_size e'), by simp [q]⟩
    have z : (hidT h H).get? b = none := PySem.W.hideAll_none (trk h H) hm
    rw [z] at e; cases e

/-! ### OpenK's ledger, filled with every new object but one -/
def allNews (g h : Heap) (L : Addr) : List (Addr × Obj) := (List.range h.objs.size).filterMap fun a => if a = L ∨ (g.get? a).isSome = true then none else (h.get? a).map fun o => (a, o)
def rest (g h : Heap) (L d : Addr) : List (Addr × Obj) := (allNews g h L).filter fun p => decide (p.1 ≠ d)
end L2

namespace L2
open PySem PySem.Spec PyProof.Rows

/-- the module's facts, over the base: the heap at the law's entry without what is tracked there -/
structure Mod (K : PySem.W.Frag) (mg : Str → Option Value) (base : Heap) : Prop where
  kin : K.In base
  glob : base.Ns mainGlobals mg
  blt : ∃ mb, base.Ns builtinsNs mb ∧ ∀ x : Str, x ≠ "__name__" → mb x = bootBuiltins x
  nolimit : base.NoLimit

/-- the context: a def's body (or a comprehension's block) running. base: fixed through the whole law; s₀, H₀: the entry; outer: the frames whose slots others may change (a def's callers); stack: all frames that run;
   ex: iterators that were made ahead of the entry and are walked here (a comprehension's); fn: the names whose cells were made at the entry (a def: all; a comprehension's block: its own); calm: not within an except suite; pn: pins that every state bears; xe: what is wanted of an exception that leaves the code -/
structure Cx where
  prog : Program
  w : World
  K : PySem.W.Frag
  mg : Str → Option Value
  base : Heap
  A : Around
  N : List Str
  s₀ : Shared
  H₀ : Hp
  env : Env
  outer : List Env
  stack : List Env
  ex : List Addr
  fn : Str → Bool
  calm : Bool
  pn : List (Addr × Obj)
  xe : Value → Shared → Prop
/-- the callers' frames -/
def frs (l : List Env) : List Addr := l.filterMap (·.frame)
abbrev Cx.fs (X : Cx) : List Addr := frs X.outer

def Vis (sc : Scope) (x : Str) : Prop := sc.names.lookup x = some .local ∨ sc.names.lookup x = some .cell ∨ sc.names.lookup x = some .free
def Loc (sc : Scope) (x : Str) : Prop := sc.names.lookup x = some .local ∨ sc.names.lookup x = some .cell
def Look (env : Env) (h : Heap) (m : Str → Option Value) (x : Str) (u : Value) : Prop :=
  (env.kindOf x = some .local ∧ m x = some u) ∨ ((env.kindOf x = some .cell ∨ env.kindOf x = some .free) ∧ ∃ c, env.cells.lookup x = some c ∧ h.IsCell c (some u))

structure Cx.Ok (X : Cx) : Prop where
  mod : Mod X.K X.mg X.base
  kind : X.env.scope.kind = .function
  glob : X.env.globals = mainGlobals
  blt : X.env.builtins = builtinsNs
  above : X.s₀.heap.objs.size ≤ X.env.locals
  inj : ∀ x y c, X.env.cells.lookup x = some c → X.env.cells.lookup y = some c → x = y
  has : ∀ x, (X.env.kindOf x = some .cell ∨ X.env.kindOf x = some .free) → ∃ c, X.env.cells.lookup x = some c
  cab : ∀ x c, X.fn x = true → X.env.cells.lookup x = some c → X.s₀.heap.objs.size ≤ c
  hd : X.calm = true → X.A.handled = none
  frames : X.A.frames = some X.stack
  stk : X.stack = X.outer ∨ (X.stack = X.env :: X.outer ∧ X.env.frame = some X.env.locals)
  exf : ∀ b ∈ X.ex, b ≠ X.env.locals ∧ ∀ x c, X.env.cells.lookup x = some c → c ≠ b
  bs : ∀ b o, X.base.get? b = some o → X.s₀.heap.get? b = some o ∧ X.H₀ b = none
  bsz : X.base.objs.size ≤ X.s₀.heap.objs.size
  noex : ∀ b o, X.base.get? b = some o → b ∉ X.ex
  exfs : ∀ b ∈ X.ex, b ∉ X.fs
  funs : X.s₀.heap.FunFrames X.base X.outer
  frf : ∀ b ∈ X.fs, X.H₀ b = none

structure Inv (X : Cx) (pins : List (Addr × Obj)) (σ : List (Option V)) (H : Hp) (s : Shared) : Prop where
  ok : X.Ok
  os : s.os = X.s₀.os
  bare : AllBare s.gens
  base : Un X.fs X.ex X.H₀ H X.s₀.heap s.heap
  loc : ∃ m, s.heap.Ns X.env.locals m ∧ ∀ (i : Nat) (x : Str) (v : V), X.N[i]? = some x → σ[i]? = some (some v) → Vis X.env.scope x → ∃ u, RelV v u ∧ Look X.env s.heap m x u
  cell : ∀ x c, X.env.cells.lookup x = some c → ∃ v, s.heap.IsCell c v
  free : H X.env.locals = none
  freeC : ∀ x c, X.env.cells.lookup x = some c → H c = none
  pin : ∀ p ∈ X.pn ++ pins, s.heap.get? p.1 = some p.2 ∧ H p.1 = none ∧ p.1 ≠ X.env.locals ∧ p.1 ∉ X.fs ∧ ∀ v, p.2.data ≠ .cell v
  hok : HOk X.prog X.w H s.heap
  len : σ.length = X.N.length

section
variable {X : Cx} {pins : List (Addr × Obj)} {σ : List (Option V)} {H H' : Hp} {s : Shared} {h' : Heap}

theorem Cx.Ok.nofr (ok : X.Ok) {b : Addr} {o : Obj} (e : X.base.get? b = some o) : b ∉ X.fs := fun hb => by
  have := (ok.funs.mem hb).1
  rw [e] at this; cases this
theorem Inv.bs (I : Inv X pins σ H s) : ∀ b o, X.base.get? b = some o → s.heap.get? b = some o ∧ H b = none := fun b o e =>
  ⟨I.base.keep b o (I.ok.bs b o e).1 (I.ok.bs b o e).2 (I.ok.nofr e) (I.ok.noex b o e), I.base.free b o (I.ok.bs b o e).1 (I.ok.bs b o e).2 (I.ok.noex b o e)⟩
theorem Inv.bk (I : Inv X pins σ H s) : ∀ b o, X.base.get? b = some o → s.heap.get? b = some o := fun b o e => (I.bs b o e).1
theorem Inv.mod (I : Inv X pins σ H s) : Mod X.K X.mg X.base := I.ok.mod
theorem Inv.kIn (I : Inv X pins σ H s) : X.K.In s.heap := I.ok.mod.kin.keeps I.bk
theorem Inv.lt (I : Inv X pins σ H s) : X.env.locals < s.heap.objs.size := let ⟨_, hn, _⟩ := I.loc; hn.lt
theorem Inv.sz (I : Inv X pins σ H s) : X.s₀.heap.objs.size ≤ s.heap.objs.size := Nat.le_trans I.ok.above (Nat.le_of_lt I.lt)
theorem Inv.nofs (I : Inv X pins σ H s) {a : Addr} (h : s.heap.objs.size ≤ a) : a ∉ X.fs := fun hb => by
  obtain ⟨_, o, ho, _⟩ := I.ok.funs.mem hb
  exact absurd (Nat.lt_of_lt_of_le (Heap.lt_size ho) (Nat.le_trans I.sz h)) (Nat.lt_irrefl _)
theorem Inv.cne (I : Inv X pins σ H s) : ∀ x c, X.env.cells.lookup x = some c → c ≠ X.env.locals := fun x c e z => by
  obtain ⟨v, o, ho, hd⟩ := I.cell x c e
  obtain ⟨m, ⟨o', es, ep, ho', hd', _⟩, _⟩ := I.loc
  rw [z, ho'] at ho; cases ho; rw [hd'] at hd; cases hd
theorem Inv.funs (I : Inv X pins σ H s) : s.heap.FunFrames X.base X.outer := by
  have all : ∀ (l : List Env), (∀ b ∈ frs l, b ∈ X.fs) → X.s₀.heap.FunFrames X.base l → s.heap.FunFrames X.base l := by
    intro l
    induction l with
    | nil => intro _ _; trivial
    | cons env r ih =>
      intro hs hl
      obtain ⟨hk, ⟨L, o, hf, hn, ho, hd⟩, hr⟩ := hl
      have hL : L ∈ X.fs := hs L (by unfold frs; rw [List.filterMap_cons, hf]; exact List.mem_cons_self)
      obtain ⟨sl, e⟩ := I.base.slot L o ho (I.ok.frf L hL) hL fun z => I.ok.exfs L z hL
      exact ⟨hk, ⟨L, _, hf, hn, e, hd⟩, ih (fun b hb => hs b (by unfold frs; rw [List.filterMap_cons, hf]; exact List.mem_cons_of_mem _ hb)) hr⟩
  exact all X.outer (fun _ hb => hb) I.ok.funs

/-- the frames that run, for a call -/
theorem Inv.stack (I : Inv X pins σ H s) : s.heap.FunFrames X.base X.stack := by
  rcases I.ok.stk with e | ⟨e, hf⟩
  · rw [e]; exact I.funs
  · rw [e]
    obtain ⟨m, hn, _⟩ := I.loc
    refine .cons (by rw [I.ok.kind]; decide) hf hn ?_ I.funs
    exact Heap.get?_none_of_le (Nat.le_trans I.ok.bsz I.ok.above)
theorem Inv.stkSub (I : Inv X pins σ H s) : ∀ b ∈ frs X.stack, b ∈ X.env.locals :: X.fs := fun b hb => by
  rcases I.ok.stk with e | ⟨e, hf⟩
  · rw [e] at hb; exact List.mem_cons_of_mem _ hb
  · rw [e] at hb
    unfold frs at hb
    rw [List.filterMap_cons, hf] at hb
    exact hb
theorem Inv.stkFree (I : Inv X pins σ H s) : ∀ b ∈ frs X.stack, H b = none := fun b hb => by
  rcases List.mem_cons.mp (I.stkSub b hb) with e | hb
  · rw [e]; exact I.free
  · obtain ⟨_, o, ho, _⟩ := I.ok.funs.mem hb
    exact I.base.free b o ho (I.ok.frf b hb) fun z => I.ok.exfs b z hb

/-- THE STEP: the untracked objects but the frame and the records at ch are kept (the callers' frames up to slots), the frame's map is kept, the new abstract heap is held -/
theorem Inv.step {g' : Array GenState} {t' : Nat} {d' : Drawn} {ch : List Addr} (I : Inv X pins σ H s)
    (hch : ∀ b ∈ ch, (b ∈ X.ex ∨ X.s₀.heap.objs.size ≤ b) ∧ b ≠ X.env.locals ∧ (∀ x c, X.env.cells.lookup x = some c → c ≠ b) ∧ ∀ p ∈ X.pn ++ pins, p.1 ≠ b)
    (keep : ∀ b o, b ≠ X.env.locals → b ∉ X.fs → b ∉ ch → s.heap.get? b = some o → H b = none → h'.get? b = some o)
    (slot : ∀ b o, b ≠ X.env.locals → b ∈ X.fs → b ∉ ch → s.heap.get? b = some o → H b = none → ∃ sl, h'.get? b = some { o with slots := sl }) (free : ∀ b o, b ∉ ch → s.heap.get? b = some o → H b = none → H' b = none)
    (there : ∀ b o, b ∉ ch → s.heap.get? b = some o → ∃ o', h'.get? b = some o')
    (tups : ∀ b xs, H b = some (.tup xs) → H' b = some (.tup xs)) (frzs : ∀ b o u, H b = some (.frz o u) → H' b = some (.frz o u)) (tbls : ∀ b ps, H b = some (.tbl ps) → ∃ more, H' b = some (.tbl (ps ++ more)))
    (ns : ∀ m, s.heap.Ns X.env.locals m → h'.Ns X.env.locals m) (hok : HOk X.prog X.w H' h') (hg : AllBare g') :
    Inv X pins σ H' { s with heap := h', gens := g', drawn := d', toks := t' } := by
  have neL : ∀ b o, X.s₀.heap.get? b = some o → b ≠ X.env.locals := fun b o e => Nat.ne_of_lt (Nat.lt_of_lt_of_le (Heap.lt_size e) I.ok.above)
  have neC : ∀ b o, X.s₀.heap.get? b = some o → b ∉ X.ex → b ∉ ch := fun b o e hx hb => by
    rcases (hch b hb).1 with z | z
    · exact hx z
    · exact absurd (Nat.lt_of_lt_of_le (Heap.lt_size e) z) (Nat.lt_irrefl _)
  have cellK : ∀ x c, X.env.cells.lookup x = some c → ∀ v, s.heap.IsCell c v → h'.IsCell c v := fun x c e v ⟨o, ho, hd⟩ => by
    have nch : c ∉ ch := fun z => (hch c z).2.2.1 x c e rfl
    by_cases hc : c ∈ X.fs
    · obtain ⟨sl, q⟩ := slot c o (I.cne x c e) hc nch ho (I.freeC x c e)
      exact ⟨_, q, hd⟩
    · exact ⟨o, keep c o (I.cne x c e) hc nch ho (I.freeC x c e), hd⟩
  refine ⟨I.ok, I.os, hg, ⟨fun b o e n hb hx => ?_, fun b o e n hb hx => ?_, fun b o e n hx => ?_, fun b o e hx => ?_, fun b xs e => tups b xs (I.base.tups b xs e), fun b o xs e => frzs b o xs (I.base.frzs b o xs e), fun b ps e => ?_⟩, ?_, fun x c e => ?_, ?_, fun x c e => ?_, fun p hp => ?_, hok, I.len⟩
  · exact keep b o (neL b o e) hb (neC b o e hx) (I.base.keep b o e n hb hx) (I.base.free b o e n hx)
  · obtain ⟨sl, e1⟩ := I.base.slot b o e n hb hx
    obtain ⟨sl', e2⟩ := slot b _ (neL b o e) hb (neC b o e hx) e1 (I.base.free b o e n hx)
    exact ⟨sl', e2⟩
  · obtain ⟨o', e1⟩ := I.base.there b o e hx
    exact free b o' (neC b o e hx) e1 (I.base.free b o e n hx)
  · obtain ⟨o', e1⟩ := I.base.there b o e hx
    exact there b o' (neC b o e hx) e1
  · obtain ⟨m1, e1⟩ := I.base.tbls b ps e
    obtain ⟨m2, e2⟩ := tbls b _ e1
    exact ⟨m1 ++ m2, by rw [e2, Array.append_assoc]⟩
  · obtain ⟨m, hn, hl⟩ := I.loc
    refine ⟨m, ns m hn, fun i x v e1 e2 e3 => ?_⟩
    obtain ⟨u, r, l⟩ := hl i x v e1 e2 e3
    refine ⟨u, r, ?_⟩
    rcases l with l | ⟨k, c, e, z⟩
    · exact .inl l
    · exact .inr ⟨k, c, e, cellK x c e _ z⟩
  · obtain ⟨v, z⟩ := I.cell x c e
    exact ⟨v, cellK x c e v z⟩
  · obtain ⟨m, ⟨o, _, _, ho, _⟩, _⟩ := I.loc
    exact free _ o (fun z => (hch _ z).2.1 rfl) ho I.free
  · obtain ⟨v, o, ho, hd⟩ := I.cell x c e
    exact free c o (fun z => (hch c z).2.2.1 x c e rfl) ho (I.freeC x c e)
  · obtain ⟨e, n, ne, nf, d⟩ := I.pin p hp
    have nch : p.1 ∉ ch := fun z => (hch p.1 z).2.2.2 p hp rfl
    exact ⟨keep p.1 p.2 ne nf nch e n, free p.1 p.2 nch e n, ne, nf, d⟩
/-- .. where the frame's own object is kept too -/
theorem Inv.un {t' : Nat} (I : Inv X pins σ H s) (u : Un X.fs [] H H' s.heap h') (hok : HOk X.prog X.w H' h') : Inv X pins σ H' { s with heap := h', toks := t' } := by
  obtain ⟨m, ⟨o, es, ep, ho, r⟩, _⟩ := id I.loc
  obtain ⟨sl, hL⟩ := u.any ho I.free (by simp)
  exact I.step (g' := s.gens) (d' := s.drawn) (ch := []) (fun _ z => nomatch z) (fun b o _ hb _ e n => u.keep b o e n hb (by simp)) (fun b o _ hb _ e n => u.slot b o e n hb (by simp)) (fun b o _ e n => u.free b o e n (by simp)) (fun b o _ e => u.there b o e (by simp)) u.tups u.frzs u.tbls (fun m' hm => by
    obtain ⟨o', es', ep', ho', r'⟩ := hm
    rw [ho] at ho'; cases ho'
    exact ⟨_, es', ep', hL, r'⟩) hok I.bare
/-- behind a call (or a comprehension's block): the slots of this frame may have changed too, the records at ch may have turned -/
theorem Inv.call {g' : Array GenState} {t' : Nat} {d' : Drawn} {ch : List Addr} (I : Inv X pins σ H s) (u : Un (frs X.stack) ch H H' s.heap h') (hok : HOk X.prog X.w H' h') (hg : AllBare g')
    (hch : ∀ b ∈ ch, (b ∈ X.ex ∨ X.s₀.heap.objs.size ≤ b) ∧ b ≠ X.env.locals ∧ (∀ x c, X.env.cells.lookup x = some c → c ≠ b) ∧ ∀ p ∈ X.pn ++ pins, p.1 ≠ b) :
    Inv X pins σ H' { s with heap := h', gens := g', drawn := d', toks := t' } := by
  obtain ⟨m, ⟨o, es, ep, ho, r⟩, _⟩ := id I.loc
  obtain ⟨sl, hL⟩ := u.any ho I.free fun z => (hch _ z).2.1 rfl
  exact I.step (ch := ch) hch (fun b o hL hb hc e n => u.keep b o e n (fun z => (List.mem_cons.mp (I.stkSub b z)).elim hL hb) hc) (fun b o _ _ hc e n => u.any e n hc) (fun b o hc e n => u.free b o e n hc) (fun b o hc e => u.there b o e hc) u.tups u.frzs u.tbls (fun m' hm => by
    obtain ⟨o', es', ep', ho', r'⟩ := hm
    rw [ho] at ho'; cases ho'
    exact ⟨_, es', ep', hL, r'⟩) hok hg
/-- an untracked record of ours (an iterator) has turned -/
theorem Inv.turned {t' : Nat} {it : Addr} (I : Inv X pins σ H s) (k : ∀ b o, b ≠ it → s.heap.get? b = some o → h'.get? b = some o) (hn : H it = none) (hL : it ≠ X.env.locals)
    (h1 : it ∈ X.ex ∨ X.s₀.heap.objs.size ≤ it) (h2 : ∀ x c, X.env.cells.lookup x = some c → c ≠ it) (h3 : ∀ p ∈ X.pn ++ pins, p.1 ≠ it) : Inv X pins σ H { s with heap := h', toks := t' } := by
  have nit : ∀ b u, H b = some u → b ≠ it := fun b u e z => by rw [z, hn] at e; cases e
  refine I.step (g' := s.gens) (d' := s.drawn) (ch := [it]) (fun b hb => ?_) (fun b o _ _ hc e _ => k b o (fun z => hc (by simp [z])) e) (fun b o _ _ hc e _ => ⟨o.slots, k b o (fun z => hc (by simp [z])) e⟩) (fun _ _ _ _ n => n)
    (fun b o hc e => ⟨o, k b o (fun z => hc (by simp [z])) e⟩) (fun _ _ e => e) (fun _ _ _ e => e) (fun b ps e => ⟨#[], by rw [e]; simp⟩) (fun m hm => ?_) (fun b u e => ?_) I.bare
  · have e : b = it := by simpa using hb
    subst e
    exact ⟨h1, hL, h2, h3⟩
  · obtain ⟨o, es, ep, ho, r⟩ := hm
    exact ⟨o, es, ep, k _ o (Ne.symm hL) ho, r⟩
  · refine (I.hok b u e).stay (fun c v hc q => k c v ?_ q) (fun _ q => q) fun _ _ q => q
    rcases hc with z | z
    · rw [z]; exact nit b u e
    · exact nit c _ z
theorem Inv.tok (I : Inv X pins σ H s) (t : Nat) : Inv X pins σ H { s with toks := t } := I.un (h' := s.heap) (t' := t) Un.refl I.hok
/-- all objects kept -/
theorem Inv.kept {t' : Nat} (I : Inv X pins σ H s) (k : ∀ b u, s.heap.get? b = some u → h'.get? b = some u) : Inv X pins σ H { s with heap := h', toks := t' } := I.un (Un.kept k) (I.hok.kept k)
/-- a new object laid and tracked -/
theorem Inv.laid {a : Addr} {o : HO} {t' : Nat} (I : Inv X pins σ H s) (k : ∀ b u, s.heap.get? b = some u → h'.get? b = some u) (hp : s.heap.objs.size ≤ a) (new : ObjOk X.prog X.w (upd H a o) h' a o) :
    Inv X pins σ (upd H a o) { s with heap := h', toks := t' } := I.un (Un.laid k hp (I.hok.fresh hp)) (I.hok.laid k hp new)
/-- an object written -/
theorem Inv.write {x e : Addr} {o : HO} {t' : Nat} (I : Inv X pins σ H s) (mu : Mut (H x)) (he : e = x ∨ H e = some (.own x)) (k : ∀ b u, b ≠ e → s.heap.get? b = some u → h'.get? b = some u) (heo : ∃ u, h'.get? e = some u)
    (new : ObjOk X.prog X.w (upd H x o) h' x o) : Inv X pins σ (upd H x o) { s with heap := h', toks := t' } := I.un (Un.write mu he k heo) (I.hok.write mu he k heo new)
/-- forgetting slots, pins -/
theorem Inv.weak {σ' : List (Option V)} (I : Inv X pins σ H s) (hl : σ'.length = σ.length) (w : ∀ (i : Nat) v, σ'[i]? = some (some v) → σ[i]? = some (some v)) : Inv X pins σ' H s :=
  ⟨I.ok, I.os, I.bare, I.base, let ⟨m, hn, hl'⟩ := I.loc; ⟨m, hn, fun i x v e1 e2 e3 => hl' i x v e1 (w i v e2) e3⟩, I.cell, I.free, I.freeC, I.pin, I.hok, hl.trans I.len⟩
theorem Inv.pins_of {pins' : List (Addr × Obj)} (I : Inv X pins σ H s) (h : ∀ p ∈ pins', s.heap.get? p.1 = some p.2 ∧ H p.1 = none ∧ p.1 ≠ X.env.locals ∧ p.1 ∉ X.fs ∧ ∀ v, p.2.data ≠ .cell v) : Inv X pins' σ H s :=
  ⟨I.ok, I.os, I.bare, I.base, I.loc, I.cell, I.free, I.freeC, fun p hp => (List.mem_append.mp hp).elim (fun z => I.pin p (List.mem_append_left _ z)) (h p), I.hok, I.len⟩

theorem nodup_ix {N : List Str} (hN : N.Nodup) {i j : Nat} {x : Str} (a : N[i]? = some x) (b : N[j]? = some x) : i = j := by
  obtain ⟨h1, e1⟩ := List.getElem?_eq_some_iff.mp a
  obtain ⟨h2, e2⟩ := List.getElem?_eq_some_iff.mp b
  exact (List.getElem_inj hN).mp (e1.trans e2.symm)

/-- a name is stored; what changed -/
theorem store_ok2 {M : Model} {A : Around} {E : Value → Shared → Prop} {i : Nat} {x : Str} {v : V} {u : Value} {Q : Unit → Shared → Prop} (I : Inv X pins σ H s) (hN : X.N.Nodup) (hi : X.N[i]? = some x) (hx : Loc X.env.scope x) (r : RelV v u)
    (h : ∀ s', Inv X pins (σ.set i (some v)) H s' → (∃ a, Heap.SameBut a s.heap s'.heap ∧ (a = X.env.locals ∨ X.env.cells.lookup x = some a)) → Q () s') (hf : X.fn x = true ∨ X.env.scope.names.lookup x = some .local := by first | exact .inl rfl | exact .inr rfl | assumption) : wpAny M A (storeName X.env x u) Q E s := by
  obtain ⟨m, hn, hl⟩ := id I.loc
  have hcls : (X.env.scope.kind == .class || (X.env.scope.kind == .module && X.env.locals != X.env.globals)) = false := by rw [I.ok.kind]; rfl
  have hiσ : i < σ.length := by rw [I.len]; exact (List.getElem?_eq_some_iff.mp hi).1
  have cne := I.cne
  have tracked : ∀ {a : Addr} {h' : Heap}, (∃ o, s.heap.get? a = some o ∧ H a = none) → Heap.SameBut a s.heap h' → HOk X.prog X.w H h' := fun {a h'} ha hs b ob e => by
    obtain ⟨_, _, hfree⟩ := ha
    refine (I.hok b ob e).stay (fun c w' hc q => (hs.2 c ?_).trans q) (fun _ q => q) fun _ _ q => q
    rintro rfl
    rcases hc with rfl | hc
    · rw [hfree] at e; cases e
    · rw [hfree] at hc; cases hc
  rcases hx with hk | hk
  · refine wpAny_storeName_local hk hn (fun h' hn' hs => ?_) hcls
    obtain ⟨oL, _, _, hoL, _⟩ := id hn
    refine h _ ⟨I.ok, I.os, I.bare, ⟨fun b o e n hb hx => ?_, fun b o e n hb hx => ?_, I.base.free, fun b o e hx => ?_, I.base.tups, I.base.frzs, I.base.tbls⟩, ⟨_, hn', fun j y v' e1 e2 e3 => ?_⟩, fun y c e => ?_, I.free, I.freeC, fun p hp => ?_, tracked ⟨oL, hoL, I.free⟩ hs, by simpa using I.len⟩ ⟨_, hs, .inl rfl⟩
    · exact (hs.2 b (Nat.ne_of_lt (Nat.lt_of_lt_of_le (Heap.lt_size e) I.ok.above))).trans (I.base.keep b o e n hb hx)
    · obtain ⟨sl, e1⟩ := I.base.slot b o e n hb hx
      exact ⟨sl, (hs.2 b (Nat.ne_of_lt (Nat.lt_of_lt_of_le (Heap.lt_size e) I.ok.above))).trans e1⟩
    · obtain ⟨o', e1⟩ := I.base.there b o e hx
      exact ⟨o', (hs.2 b (Nat.ne_of_lt (Nat.lt_of_lt_of_le (Heap.lt_size e) I.ok.above))).trans e1⟩
    · by_cases hj : j = i
      · subst hj
        rw [hi] at e1; cases e1
        rw [List.getElem?_set_self hiσ] at e2
        cases e2
        exact ⟨u, r, .inl ⟨hk, by simp⟩⟩
      · rw [List.getElem?_set_ne (Ne.symm hj)] at e2
        obtain ⟨u', r', q⟩ := hl j y v' e1 e2 e3
        refine ⟨u', r', ?_⟩
        rcases q with ⟨k, e⟩ | ⟨k, c, e, z⟩
        · refine .inl ⟨k, ?_⟩
          have : y ≠ x := fun e => hj (nodup_ix hN e1 (e ▸ hi))
          simp [this, e]
        · exact .inr ⟨k, c, e, z.sameBut hs (cne y c e)⟩
    · obtain ⟨w', z⟩ := I.cell y c e
      exact ⟨w', z.sameBut hs (cne y c e)⟩
    · obtain ⟨e, n, ne, nf, d⟩ := I.pin p hp
      exact ⟨(hs.2 p.1 ne).trans e, n, ne, nf, d⟩
  · have hfn : X.fn x = true := by
      rcases hf with z | z
      · exact z
      · rw [z] at hk; cases hk
    obtain ⟨c, hc⟩ := I.ok.has x (.inl hk)
    obtain ⟨w', z⟩ := I.cell x c hc
    refine wpAny_storeName_cell I.ok.kind hk hc z (fun h' hc' hs => ?_)
    obtain ⟨oc, hoc, hocd⟩ := id z
    refine h { s with heap := h' } ⟨I.ok, I.os, I.bare, ⟨fun b o e n hb hx => ?_, fun b o e n hb hx => ?_, I.base.free, fun b o e hx => ?_, I.base.tups, I.base.frzs, I.base.tbls⟩, ⟨m, hn.sameBut hs (Ne.symm (cne x c hc)), fun j y v' e1 e2 e3 => ?_⟩, fun y c' e => ?_, I.free, I.freeC, fun p hp => ?_, tracked ⟨oc, hoc, I.freeC x c hc⟩ hs, by simpa using I.len⟩ ⟨c, hs, .inr hc⟩
    · exact (hs.2 b (Nat.ne_of_lt (Nat.lt_of_lt_of_le (Heap.lt_size e) (I.ok.cab x c hfn hc)))).trans (I.base.keep b o e n hb hx)
    · obtain ⟨sl, e1⟩ := I.base.slot b o e n hb hx
      exact ⟨sl, (hs.2 b (Nat.ne_of_lt (Nat.lt_of_lt_of_le (Heap.lt_size e) (I.ok.cab x c hfn hc)))).trans e1⟩
    · obtain ⟨o', e1⟩ := I.base.there b o e hx
      exact ⟨o', (hs.2 b (Nat.ne_of_lt (Nat.lt_of_lt_of_le (Heap.lt_size e) (I.ok.cab x c hfn hc)))).trans e1⟩
    · by_cases hj : j = i
      · subst hj
        rw [hi] at e1; cases e1
        rw [List.getElem?_set_self hiσ] at e2
        cases e2
        exact ⟨u, r, .inr ⟨.inl hk, c, hc, hc'⟩⟩
      · rw [List.getElem?_set_ne (Ne.symm hj)] at e2
        obtain ⟨u', r', q⟩ := hl j y v' e1 e2 e3
        refine ⟨u', r', ?_⟩
        rcases q with q | ⟨k, c', e, z'⟩
        · exact .inl q
        · refine .inr ⟨k, c', e, z'.sameBut hs ?_⟩
          rintro rfl
          exact hj (nodup_ix hN e1 (I.ok.inj _ _ _ e hc ▸ hi))
    · by_cases hcc : c' = c
      · subst hcc; exact ⟨_, hc'⟩
      · obtain ⟨w2, z2⟩ := I.cell y c' e
        exact ⟨w2, z2.sameBut hs hcc⟩
    · obtain ⟨e, n, ne, nf, d⟩ := I.pin p hp
      refine ⟨(hs.2 p.1 ?_).trans e, n, ne, nf, d⟩
      intro q
      rw [q, hoc] at e
      have q' : oc = p.2 := Option.some.inj e
      exact d w' (by rw [← q']; exact hocd)
theorem store_ok {M : Model} {A : Around} {E : Value → Shared → Prop} {i : Nat} {x : Str} {v : V} {u : Value} {Q : Unit → Shared → Prop} (I : Inv X pins σ H s) (hN : X.N.Nodup) (hi : X.N[i]? = some x) (hx : Loc X.env.scope x) (r : RelV v u)
    (h : ∀ s', Inv X pins (σ.set i (some v)) H s' → Q () s') (hf : X.fn x = true ∨ X.env.scope.names.lookup x = some .local := by first | exact .inl rfl | exact .inr rfl | assumption) : wpAny M A (storeName X.env x u) Q E s :=
  store_ok2 I hN hi hx r (fun s' I' _ => h s' I') hf
/-- behind a call or a block, the state as it is -/
theorem Inv.call' {s' : Shared} {ch : List Addr} (I : Inv X pins σ H s) (ho : s'.os = s.os) (u : Un (frs X.stack) ch H H' s.heap s'.heap) (hok : HOk X.prog X.w H' s'.heap) (hg : AllBare s'.gens)
    (hch : ∀ b ∈ ch, (b ∈ X.ex ∨ X.s₀.heap.objs.size ≤ b) ∧ b ≠ X.env.locals ∧ (∀ x c, X.env.cells.lookup x = some c → c ≠ b) ∧ ∀ p ∈ X.pn ++ pins, p.1 ≠ b) : Inv X pins σ H' s' := by
  obtain ⟨h', g', d', t', o'⟩ := s'
  have e : o' = s.os := ho
  subst e
  exact I.call (g' := g') (t' := t') (d' := d') u hok hg hch
end

/-! ### the judgements -/
/-- an exception: its class, its own dict's address (where it has one), the abstract heap behind it -/
abbrev XK := Value → Option Addr → Hp → Prop
abbrev St := List (Option V)
abbrev VK := V → Hp → Prop
/-- an expression's reading; a test's; an argument list's -/
abbrev TE := St → Hp → VK → Prop
abbrev TT := St → Hp → (Bool → Hp → Prop) → Prop
abbrev TA := St → Hp → (List V → Hp → Prop) → Prop
/-- what is wanted behind a statement -/
structure Ends where
  nx : St → Hp → Prop
  rt : VK
  bk : St → Hp → Prop := fun _ _ => False
  ct : St → Hp → Prop := fun _ _ => False
abbrev TS := Ends → St → Hp → Prop

def EP (X : Cx) (pins : List (Addr × Obj)) (σ : St) (Q : VK) (u : Value) (s' : Shared) : Prop := ∃ v H', Inv X pins σ H' s' ∧ RelV v u ∧ Q v H'
def TP (X : Cx) (pins : List (Addr × Obj)) (σ : St) (Q : Bool → Hp → Prop) (b : Bool) (s' : Shared) : Prop := ∃ H', Inv X pins σ H' s' ∧ Q b H'
def AP (X : Cx) (pins : List (Addr × Obj)) (σ : St) (Q : List V → Hp → Prop) (us : List Value) (s' : Shared) : Prop := ∃ vs H', Inv X pins σ H' s' ∧ Vals vs us ∧ Q vs H'
def SP (X : Cx) (pins : List (Addr × Obj)) (D : Ends) (f : Flow) (s' : Shared) : Prop :=
  match f with
  | .next => ∃ σ' H', Inv X pins σ' H' s' ∧ D.nx σ' H'
  | .brk => ∃ σ' H', Inv X pins σ' H' s' ∧ D.bk σ' H'
  | .cont => ∃ σ' H', Inv X pins σ' H' s' ∧ D.ct σ' H'
  | .ret u => ∃ v σ' H', Inv X pins σ' H' s' ∧ RelV v u ∧ D.rt v H'

structure PE (X : Cx) (e : Expr) (t : TE) : Prop where
  run : ∀ (pins : List (Addr × Obj)) (s : Shared) (σ : St) (H : Hp) (Q : VK), Inv X pins σ H s → t σ H Q → wpAny (model X.prog X.w) X.A (eval e X.env) (EP X pins σ Q) X.xe s
instance {X : Cx} {e : Expr} {t : TE} : CoeFun (PE X e t) (fun _ => ∀ (pins : List (Addr × Obj)) (s : Shared) (σ : St) (H : Hp) (Q : VK), Inv X pins σ H s → t σ H Q → wpAny (model X.prog X.w) X.A (eval e X.env) (EP X pins σ Q) X.xe s) := ⟨PE.run⟩
structure PT (X : Cx) (e : Expr) (t : TT) : Prop where
  run : ∀ (pins : List (Addr × Obj)) (s : Shared) (σ : St) (H : Hp) (Q : Bool → Hp → Prop), Inv X pins σ H s → t σ H Q → wpAny (model X.prog X.w) X.A (isTrue e X.env (eval e X.env)) (TP X pins σ Q) X.xe s
instance {X : Cx} {e : Expr} {t : TT} : CoeFun (PT X e t) (fun _ => ∀ (pins : List (Addr × Obj)) (s : Shared) (σ : St) (H : Hp) (Q : Bool → Hp → Prop), Inv X pins σ H s → t σ H Q → wpAny (model X.prog X.w) X.A (isTrue e X.env (eval e X.env)) (TP X pins σ Q) X.xe s) := ⟨PT.run⟩
/-- a test whatever its 'whole' is (and, or) -/
structure PW (X : Cx) (e : Expr) (t : TT) : Prop where
  run : ∀ (whole : Sem Value) (pins : List (Addr × Obj)) (s : Shared) (σ : St) (H : Hp) (Q : Bool → Hp → Prop), Inv X pins σ H s → t σ H Q → wpAny (model X.prog X.w) X.A (isTrue e X.env whole) (TP X pins σ Q) X.xe s
instance {X : Cx} {e : Expr} {t : TT} : CoeFun (PW X e t) (fun _ => ∀ (whole : Sem Value) (pins : List (Addr × Obj)) (s : Shared) (σ : St) (H : Hp) (Q : Bool → Hp → Prop), Inv X pins σ H s → t σ H Q → wpAny (model X.prog X.w) X.A (isTrue e X.env whole) (TP X pins σ Q) X.xe s) := ⟨PW.run⟩
theorem PW.pt {X : Cx} {e : Expr} {t : TT} (h : PW X e t) : PT X e t := .mk (h.run _)
/-- an argument list (no star), from the left -/
structure PA (X : Cx) (es : List Expr) (t : TA) : Prop where
  run : ∀ (pos : Pos) (pins : List (Addr × Obj)) (s : Shared) (σ : St) (H : Hp) (Q : List V → Hp → Prop), Inv X pins σ H s → t σ H Q → wpAny (model X.prog X.w) X.A (spliced (backTo pos (starEach es X.env))) (AP X pins σ Q) X.xe s
instance {X : Cx} {es : List Expr} {t : TA} : CoeFun (PA X es t) (fun _ => ∀ (pos : Pos) (pins : List (Addr × Obj)) (s : Shared) (σ : St) (H : Hp) (Q : List V → Hp → Prop), Inv X pins σ H s → t σ H Q → wpAny (model X.prog X.w) X.A (spliced (backTo pos (starEach es X.env))) (AP X pins σ Q) X.xe s) := ⟨PA.run⟩
structure PS (X : Cx) (st : Stmt) (t : TS) : Prop where
  run : ∀ (pins : List (Addr × Obj)) (s : Shared) (σ : St) (H : Hp) (D : Ends), Inv X pins σ H s → t D σ H → wpAny (model X.prog X.w) X.A (exec st X.env) (SP X pins D) X.xe s
instance {X : Cx} {st : Stmt} {t : TS} : CoeFun (PS X st t) (fun _ => ∀ (pins : List (Addr × Obj)) (s : Shared) (σ : St) (H : Hp) (D : Ends), Inv X pins σ H s → t D σ H → wpAny (model X.prog X.w) X.A (exec st X.env) (SP X pins D) X.xe s) := ⟨PS.run⟩
structure PSs (X : Cx) (st : List Stmt) (t : TS) : Prop where
  run : ∀ (pins : List (Addr × Obj)) (s : Shared) (σ : St) (H : Hp) (D : Ends), Inv X pins σ H s → t D σ H → wpAny (model X.prog X.w) X.A (execs st X.env) (SP X pins D) X.xe s
instance {X : Cx} {st : List Stmt} {t : TS} : CoeFun (PSs X st t) (fun _ => ∀ (pins : List (Addr × Obj)) (s : Shared) (σ : St) (H : Hp) (D : Ends), Inv X pins σ H s → t D σ H → wpAny (model X.prog X.w) X.A (execs st X.env) (SP X pins D) X.xe s) := ⟨PSs.run⟩
/-- weaken the end -/
theorem thn {α : Type} {t : Sem α} {Q Q' : α → Shared → Prop} {M : Model} {A : Around} {E : Value → Shared → Prop} {s : Shared} (h : wpAny M A t Q E s) (hQ : ∀ a s, Q a s → Q' a s) : wpAny M A t Q' E s := wpAny_mono h hQ fun _ _ x => x
end L2

namespace L2
open PySem PySem.Spec PyProof.Rows
section
variable {X : Cx}

/-! ### names and constants -/
def tVar (i : Nat) : TE := fun σ H Q => ∃ v, σ[i]? = some (some v) ∧ Q v H
def tC (v : V) : TE := fun _ H Q => Q v H
theorem pe_var {i : Nat} {x : Str} {pos : Pos} (hN : X.N[i]? = some x) (hv : Vis X.env.scope x) (hd : (x == ("__debug__" : Str)) = false := by decide) (hcd : (x == ("__classdict__" : Str)) = false := by decide) : PE X (.Name x pos) (tVar i) := by
  refine .mk ?_
  intro pins s σ H Q I h
  obtain ⟨v, e, h⟩ := h
  obtain ⟨m, hn, hl⟩ := I.loc
  obtain ⟨u, r, l⟩ := hl i x v hN e hv
  have fin : EP X pins σ Q u s := ⟨v, H, I, r, h⟩
  rcases l with ⟨hk, hm⟩ | ⟨hk, c, hc, hcell⟩
  · exact wpAny_Name (wpAny_loadName_local I.ok.kind hk hn hm fin) hd
  · rcases hk with hk | hk
    · exact wpAny_Name (wpAny_loadName_cell I.ok.kind hk hc hcell fin) hd
    · exact wpAny_Name (wpAny_loadName_free I.ok.kind hk hc hcell fin hcd) hd
theorem pe_int {i j pos} : PE X (.Constant (.int i) j pos) (tC (.int i)) := .mk <| fun _ _ _ H _ I h => wpAny_Constant_int ⟨.int i, H, I.tok _, ⟨_, rfl⟩, h⟩
theorem pe_bl {b j pos} : PE X (.Constant (.bool b) j pos) (tC (.bl b)) := .mk <| fun _ _ _ H _ I h => Constant_bool ⟨.bl b, H, I, rfl, h⟩
theorem pe_str {x j pos} : PE X (.Constant (.str x) j pos) (tC (.str x)) := .mk <| fun _ _ _ H _ I h => Calls.Constant_str ⟨.str x, H, I.tok _, ⟨_, rfl⟩, h⟩

/-- a global name of the def -/
def Gl (X : Cx) (x : Str) : Prop := X.env.kindOf x = some .globalImplicit
theorem ld_glob {E : Value → Shared → Prop} {pins : List (Addr × Obj)} {s : Shared} {σ : St} {H : Hp} {x : Str} {u : Value} {pos : Pos} {Q : Value → Shared → Prop} (I : Inv X pins σ H s) (hg : Gl X x) (hm : X.mg x = some u) (h : Q u s)
    (hd : (x == ("__debug__" : Str)) = false := by decide) : wpAny (model X.prog X.w) X.A (eval (.Name x pos) X.env) Q E s :=
  Calls.Name_function_global I.ok.kind hg (Calls.loadGlobal_global (by rw [I.ok.glob]; exact I.mod.glob.keeps I.bk) hm h) hd
theorem ld_blt {E : Value → Shared → Prop} {pins : List (Addr × Obj)} {s : Shared} {σ : St} {H : Hp} {x : Str} {u : Value} {pos : Pos} {Q : Value → Shared → Prop} (I : Inv X pins σ H s) (hg : Gl X x) (hm : X.mg x = none) (hv : bootBuiltins x = some u) (h : Q u s)
    (hn : x ≠ "__name__" := by decide) (hd : (x == ("__debug__" : Str)) = false := by decide) : wpAny (model X.prog X.w) X.A (eval (.Name x pos) X.env) Q E s := by
  obtain ⟨mb, h1, h2⟩ := I.mod.blt
  exact Calls.Name_function_global I.ok.kind hg (Calls.loadGlobal_builtin (by rw [I.ok.glob]; exact I.mod.glob.keeps I.bk) hm (by rw [I.ok.blt]; exact h1.keeps I.bk) ((h2 x hn).trans hv) h) hd
/-- a module's constant, a class, a function, as a value -/
theorem pe_glob {x : Str} {v : V} {u : Value} {pos : Pos} (hg : Gl X x) (hm : X.mg x = some u) (r : RelV v u) (hd : (x == ("__debug__" : Str)) = false := by decide) : PE X (.Name x pos) (tC v) := .mk <| fun _ _ _ H _ I h => ld_glob I hg hm ⟨v, H, I, r, h⟩ hd
theorem pe_bltn {x : Str} {v : V} {u : Value} {pos : Pos} (hg : Gl X x) (hm : X.mg x = none) (hv : bootBuiltins x = some u) (r : RelV v u) (hn : x ≠ "__name__" := by decide) (hd : (x == ("__debug__" : Str)) = false := by decide) : PE X (.Name x pos) (tC v) := .mk <| fun _ _ _ H _ I h => ld_blt I hg hm hv ⟨v, H, I, r, h⟩ hn hd

/-! ### arithmetic -/
/-- two ints -/
def t2I (ta tb : TE) (k : Int → Int → Hp → Prop) : St → Hp → Prop := fun σ H => ta σ H fun x H1 => tb σ H1 fun y H2 => ∃ i j, x = .int i ∧ y = .int j ∧ k i j H2
def tAdd (ta tb : TE) : TE := fun σ H Q => t2I ta tb (fun i j H2 => Q (.int (i + j)) H2) σ H
def tSub (ta tb : TE) : TE := fun σ H Q => t2I ta tb (fun i j H2 => Q (.int (i - j)) H2) σ H
/-- the left factor below 2^64 -/
def tMul (ta tb : TE) : TE := fun σ H Q => t2I ta tb (fun i j H2 => (-(2 ^ 64) < i ∧ i < 2 ^ 64) ∧ Q (.int (i * j)) H2) σ H
variable {a b : Expr} {ta tb : TE} {pos : Pos}
/-! ### comparisons -/
def PC (X : Cx) (op : CmpOp) (a b : Expr) (t : TE) : Prop :=
  ∀ (pins : List (Addr × Obj)) (s : Shared) (σ : St) (H : Hp) (Q : VK), Inv X pins σ H s → t σ H Q →
    wpAny (model X.prog X.w) X.A (eval a X.env) (fun v s₁ => wpAny (model X.prog X.w) X.A (eval b X.env) (fun u s₂ => wpAny (model X.prog X.w) X.A (compareOp op v u) (EP X pins σ Q) X.xe s₂) X.xe s₁) X.xe s
def tCmp (p : Int → Int → Bool) (ta tb : TE) : TE := fun σ H Q => t2I ta tb (fun i j H2 => Q (.bl (p i j)) H2) σ H
abbrev tLt : TE → TE → TE := tCmp fun i j => decide (i < j)
abbrev tLe : TE → TE → TE := tCmp fun i j => decide (i ≤ j)
abbrev tGt : TE → TE → TE := tCmp fun i j => decide (j < i)
abbrev tGe : TE → TE → TE := tCmp fun i j => decide (j ≤ i)
abbrev tEqI : TE → TE → TE := tCmp fun i j => decide (i = j)
abbrev tNeI : TE → TE → TE := tCmp fun i j => !decide (i = j)
/-- is None -/
def tIsN (ta : TE) : TE := fun σ H Q => ta σ H fun x H1 => Q (.bl (decide (x = .non))) H1
def tNotN (ta : TE) : TE := fun σ H Q => ta σ H fun x H1 => Q (.bl (!decide (x = .non))) H1
/-- a comparison as a value, as a test -/
def tB (t : TE) : TT := fun σ H Q => t σ H fun x H1 => ∃ c, x = .bl c ∧ Q c H1
/-- an expression whose value is a bool, as a test -/
theorem pt_val {e : Expr} {t : TE} (h : PE X e t) (he : ∀ whole, isTrue e X.env whole = (do let v ← whole; standAt e.pos; holding [v] (truthy v)) := by intro _; rfl) : PT X e (tB t) := by
  refine .mk ?_
  intro pins s σ H Q I hw
  refine isTrue_plain (thn (h pins s σ H _ I hw) fun v s1 ⟨x, H1, I1, r1, q1⟩ => ?_) (he _)
  obtain ⟨d, rfl, q⟩ := q1
  cases r1
  exact wpAny_truthy_bool ⟨H1, I1, q⟩

/-! ### and, or, not -/
variable {tA tB' : TT} {rest : List Expr}
def tAnd (t u : TT) : TT := fun σ H Q => t σ H fun c H1 => if c = true then u σ H1 Q else Q false H1
def tOr (t u : TT) : TT := fun σ H Q => t σ H fun c H1 => if c = true then Q true H1 else u σ H1 Q
def tNot (t : TT) : TT := fun σ H Q => t σ H fun c H1 => Q (!c) H1
theorem pw_and1 (ha : PT X a tA) : PW X (.BoolOp .And [a] pos) tA := by
  refine .mk ?_
  intro wh pins s σ H Q I h
  refine isTrue_and (thn (ha pins s σ H Q I h) fun c s1 e => ?_)
  cases c with
  | true => exact isTrue_and_nil e
  | false => exact e
theorem pw_or1 (ha : PT X a tA) : PW X (.BoolOp .Or [a] pos) tA := by
  refine .mk ?_
  intro wh pins s σ H Q I h
  refine isTrue_or (thn (ha pins s σ H Q I h) fun c s1 e => ?_)
  cases c with
  | false => exact isTrue_or_nil e
  | true => exact e
theorem pw_and (ha : PT X a tA) (hb : PW X (.BoolOp .And (b :: rest) pos) tB') : PW X (.BoolOp .And (a :: b :: rest) pos) (tAnd tA tB') := by
  refine .mk ?_
  intro wh pins s σ H Q I h
  refine isTrue_and (thn (ha pins s σ H _ I h) fun c s1 ⟨H1, I1, q1⟩ => ?_)
  cases c with
  | true => exact hb wh pins s1 σ H1 Q I1 q1
  | false => exact ⟨H1, I1, q1⟩
theorem pw_or (ha : PT X a tA) (hb : PW X (.BoolOp .Or (b :: rest) pos) tB') : PW X (.BoolOp .Or (a :: b :: rest) pos) (tOr tA tB') := by
  refine .mk ?_
  intro wh pins s σ H Q I h
  refine isTrue_or (thn (ha pins s σ H _ I h) fun c s1 ⟨H1, I1, q1⟩ => ?_)
  cases c with
  | true => exact ⟨H1, I1, q1⟩
  | false => exact hb wh pins s1 σ H1 Q I1 q1
theorem pt_not (ha : PT X a tA) : PT X (.UnaryOp .Not a pos) (tNot tA) := by
  refine .mk ?_
  intro pins s σ H Q I h
  exact isTrue_not (ha pins s σ H (fun c H1 => Q (!c) H1) I h)
/-- .. as values (bools) -/
def tAndV (ta tb : TE) : TE := fun σ H Q => ta σ H fun x H1 => ∃ c, x = .bl c ∧ if c = true then tb σ H1 Q else Q (.bl false) H1
def tOrV (ta tb : TE) : TE := fun σ H Q => ta σ H fun x H1 => ∃ c, x = .bl c ∧ if c = true then Q (.bl true) H1 else tb σ H1 Q
def tNotV (ta : TE) : TE := fun σ H Q => ta σ H fun x H1 => ∃ c, x = .bl c ∧ Q (.bl (!c)) H1
/-- a if t else b -/
def tIf (t : TT) (ta tb : TE) : TE := fun σ H Q => t σ H fun c H1 => if c = true then ta σ H1 Q else tb σ H1 Q
theorem pe_ifExp {c : Expr} (hc : PT X c tA) (ha : PE X a ta) (hb : PE X b tb) : PE X (.IfExp c a b pos) (tIf tA ta tb) := by
  refine .mk ?_
  intro pins s σ H Q I h
  refine wpAny_IfExp (thn (hc pins s σ H _ I h) fun d s1 ⟨H1, I1, q1⟩ => ?_)
  cases d with
  | true => exact ha pins s1 σ H1 Q I1 q1
  | false => exact hb pins s1 σ H1 Q I1 q1
end
end L2

namespace L2
open PySem PySem.Spec PyProof.Rows

/-! ### a list, a tuple that is read: tracked, frozen, or an object of the module -/
def SqL (K : PySem.W.Frag) (H : Hp) (a : Addr) (xs : List V) : Prop :=
  Rd H a (.lst xs) ∨
    ∃ (o : Obj) (its : Array Value) (n : Nat), K.lookup a = some o ∧ o.cls = .type "list" ∧ o.dict = none ∧ o.data = .seq its n ∧ its.size ≤ sizeLine ∧ Vals xs its.toList
def SqT (K : PySem.W.Frag) (H : Hp) (a : Addr) (xs : List V) : Prop :=
  Rd H a (.tup xs) ∨
    ∃ (o : Obj) (its : Array Value) (n : Nat), K.lookup a = some o ∧ o.cls = .type "tuple" ∧ o.data = .seq its n ∧ its.size ≤ sizeLine ∧ Vals xs its.toList
def absV : Value → Option V
  | .none => some .non
  | .bool b => some (.bl b)
  | .int i _ => some (.int i)
  | .str x _ => some (.str x)
  | .bytes b _ => some (.byt b)
  | .float b _ => some (.flt b)
  | .ref a => some (.ref a)
  | .type n => some (.ty n)
  | _ => none
theorem RelV.abs {x : V} {u : Value} (r : RelV x u) : absV u = some x := by
  cases x with
  | non => cases r; rfl
  | bl _ => cases r; rfl
  | int _ => obtain ⟨t, rfl⟩ := r; rfl
  | str _ => obtain ⟨t, rfl⟩ := r; rfl
  | byt _ => obtain ⟨t, rfl⟩ := r; rfl
  | flt _ => obtain ⟨t, rfl⟩ := r; rfl
  | ref _ => cases r; rfl
  | ty _ => cases r; rfl
theorem RelV.inj {x y : V} {u : Value} (r : RelV x u) (q : RelV y u) : x = y := Option.some.inj (r.abs.symm.trans q.abs)
theorem Vals.inj : ∀ {xs ys : List V} {us : List Value}, Vals xs us → Vals ys us → xs = ys
  | _, _, _, .nil, .nil => rfl
  | _, _, _, .cons r t, .cons r' t' => by rw [r.inj r', Vals.inj t t']
section
variable {X : Cx} {pins : List (Addr × Obj)} {σ : St} {H : Hp} {s : Shared} {a : Addr} {xs ys : List V}
theorem SqL.of {K : PySem.W.Frag} (h : H a = some (.lst xs)) : SqL K H a xs := .inl (.inl h)
theorem SqT.of {K : PySem.W.Frag} (h : H a = some (.tup xs)) : SqT K H a xs := .inl (.inl h)
theorem Inv.list (I : Inv X pins σ H s) (h : SqL X.K H a xs) : ∃ its : List Value, Vals xs its ∧ PlainL s.heap a its.toArray ∧ xs.length ≤ sizeLine := by
  rcases h with h | ⟨o, its, n, hk, hc, hd, hs, hz, r⟩
  · obtain ⟨z, its, n, r, e⟩ := h.ok I.hok
    exact ⟨its, r, ⟨_, n, e, rfl, rfl, rfl⟩, z⟩
  · refine ⟨its.toList, r, ⟨o, n, I.kIn a o hk, hc, hd, by simpa using hs⟩, ?_⟩
    have e := r.length
    simp only [Array.length_toList] at e
    omega
theorem Inv.tuple (I : Inv X pins σ H s) (h : SqT X.K H a xs) : ∃ its : List Value, Vals xs its ∧ IsTup s.heap a its.toArray ∧ xs.length ≤ sizeLine := by
  rcases h with h | ⟨o, its, n, hk, hc, hs, hz, r⟩
  · obtain ⟨z, its, r, p⟩ := h.ok I.hok
    exact ⟨its, r, p, z⟩
  · refine ⟨its.toList, r, ⟨o, I.kIn a o hk, hc, n, by simpa using hs⟩, ?_⟩
    have e := r.length
    simp only [Array.length_toList] at e
    omega
theorem Inv.list_inj (I : Inv X pins σ H s) (h : SqL X.K H a xs) (h' : SqL X.K H a ys) : xs = ys := by
  obtain ⟨its, r, ⟨o, n, e, _, _, d⟩, _⟩ := I.list h
  obtain ⟨its', r', ⟨o', n', e', _, _, d'⟩, _⟩ := I.list h'
  rw [e] at e'; cases e'
  rw [d] at d'
  injection d' with d1 _
  have : its = its' := by simpa using congrArg Array.toList d1
  subst this
  exact r.inj r'
end

/-! ### another wish about exceptions -/
abbrev Cx.wish (X : Cx) (E : Value → Shared → Prop) : Cx := { X with xe := E }
/-- no exception leaves -/
abbrev Cx.nox (X : Cx) : Cx := X.wish fun _ _ => False
theorem Cx.Ok.wish {X : Cx} (ok : X.Ok) (E : Value → Shared → Prop) : (X.wish E).Ok :=
  ⟨ok.mod, ok.kind, ok.glob, ok.blt, ok.above, ok.inj, ok.has, ok.cab, ok.hd, ok.frames, ok.stk, ok.exf, ok.bs, ok.bsz, ok.noex, ok.exfs, ok.funs, ok.frf⟩
theorem Cx.Ok.unwish {X : Cx} {E : Value → Shared → Prop} (ok : (X.wish E).Ok) : X.Ok :=
  ⟨ok.mod, ok.kind, ok.glob, ok.blt, ok.above, ok.inj, ok.has, ok.cab, ok.hd, ok.frames, ok.stk, ok.exf, ok.bs, ok.bsz, ok.noex, ok.exfs, ok.funs, ok.frf⟩
section
variable {X : Cx} {pins : List (Addr × Obj)} {σ : St} {H : Hp} {s : Shared} {E : Value → Shared → Prop}
theorem Inv.wish (I : Inv X pins σ H s) (E : Value → Shared → Prop) : Inv (X.wish E) pins σ H s := ⟨I.ok.wish E, I.os, I.bare, I.base, I.loc, I.cell, I.free, I.freeC, I.pin, I.hok, I.len⟩
theorem Inv.unwish (I : Inv (X.wish E) pins σ H s) : Inv X pins σ H s := ⟨I.ok.unwish, I.os, I.bare, I.base, I.loc, I.cell, I.free, I.freeC, I.pin, I.hok, I.len⟩
theorem SP.unwish {D : Ends} {f : Flow} {s' : Shared} (h : SP (X.wish E) pins D f s') : SP X pins D f s' := by
  cases f with
  | next => obtain ⟨σ', H', I, q⟩ := h; exact ⟨σ', H', I.unwish, q⟩
  | brk => obtain ⟨σ', H', I, q⟩ := h; exact ⟨σ', H', I.unwish, q⟩
  | cont => obtain ⟨σ', H', I, q⟩ := h; exact ⟨σ', H', I.unwish, q⟩
  | ret u => obtain ⟨v, σ', H', I, r, q⟩ := h; exact ⟨v, σ', H', I.unwish, r, q⟩
theorem PSs.nox {st : List Stmt} {t : TS} (h : PSs X.nox st t) : PSs X st t := .mk <| fun pins s σ H D I hw =>
  wpAny_mono (h pins s σ H D (I.wish _) hw) (fun _ _ q => q.unwish) fun _ _ z => False.elim z
end

/-! ### blocks and small statements -/
section
variable {X : Cx} {st : Stmt} {rest : List Stmt} {t u : TS} {e : Expr} {te : TE} {pos : Pos}
def tNext : TS := fun D σ H => D.nx σ H
def tSeq (t u : TS) : TS := fun D σ H => t { D with nx := u D } σ H
theorem pss_nil : PSs X [] tNext := .mk <| fun _ _ σ H _ I h => wpAny_execs_nil ⟨σ, H, I, h⟩
theorem pss_cons (h1 : PS X st t) (h2 : PSs X rest u) : PSs X (st :: rest) (tSeq t u) := by
  refine .mk ?_
  intro pins s σ H D I h
  refine wpAny_execs_cons (thn (h1 pins s σ H { D with nx := u D } I h) fun f s1 q => ?_)
  cases f with
  | next =>
    obtain ⟨σ', H', I', q⟩ := q
    exact h2 pins s1 σ' H' D I' q
  | ret v => exact q
  | brk => exact q
  | cont => exact q
theorem pss_one (h1 : PS X st t) : PSs X [st] t := by
  refine .mk ?_
  intro pins s σ H D I h
  refine wpAny_execs_cons (thn (h1 pins s σ H D I h) fun f s1 q => ?_)
  cases f with
  | next => exact wpAny_execs_nil q
  | ret v => exact q
  | brk => exact q
  | cont => exact q
def tBreak : TS := fun D σ H => D.bk σ H
def tCont : TS := fun D σ H => D.ct σ H
theorem ps_continue : PS X (.Continue pos) tCont := .mk <| fun _ _ σ H _ I h => wpAny_Continue ⟨σ, H, I, h⟩
/-- in a def's body nothing is shown -/
theorem Inv.quiet {pins : List (Addr × Obj)} {σ : St} {H : Hp} {s : Shared} (I : Inv X pins σ H s) : interactive X.env = false := by simp [interactive, I.ok.kind]
/-- an expression whose value is dropped -/
def tDrop (te : TE) : TS := fun D σ H => te σ H fun _ H1 => D.nx σ H1
theorem ps_expr (he : PE X e te) (hs : swapsWith e none pos.line X.env = pure false := by rfl) : PS X (.Expr e pos) (tDrop te) := by
  refine .mk ?_
  intro pins s σ H D I h
  exact wpAny_Expr_any (thn (he pins s σ H _ I h) fun v s1 ⟨x, H1, I1, r1, q1⟩ => ⟨σ, H1, I1, q1⟩) I.quiet hs
def tRet (te : TE) : TS := fun D σ H => te σ H D.rt
theorem ps_ret (he : PE X e te) : PS X (.Return (some e) pos) (tRet te) := by
  refine .mk ?_
  intro pins s σ H D I h
  exact wpAny_Return_some (thn (he pins s σ H _ I h) fun v s1 ⟨x, H1, I1, r1, q1⟩ => ⟨x, σ, H1, I1, r1, q1⟩)
def tRetN : TS := fun D _ H => D.rt .non H
def tIfS (c : TT) (t u : TS) : TS := fun D σ H => c σ H fun b H1 => if b = true then t D σ H1 else u D σ H1
theorem ps_if {c : Expr} {a b : List Stmt} {tc : TT} (hc : PT X c tc) (ha : PSs X a t) (hb : PSs X b u) : PS X (.If c a b pos) (tIfS tc t u) := by
  refine .mk ?_
  intro pins s σ H D I h
  refine wpAny_If (thn (hc pins s σ H _ I h) fun d s1 ⟨H1, I1, q1⟩ => ?_)
  cases d with
  | true => exact ha pins s1 σ H1 D I1 q1
  | false => exact hb pins s1 σ H1 D I1 q1
/-- code that the proof never comes to -/
def tNever : TS := fun _ _ _ => False
end

/-! ### targets -/
abbrev TG := V → St → Hp → (St → Hp → Prop) → Prop
abbrev TGs := List V → St → Hp → (St → Hp → Prop) → Prop
def PG (X : Cx) (target : Expr) (t : TG) : Prop :=
  ∀ (pins : List (Addr × Obj)) (s : Shared) (σ : St) (H : Hp) (v : V) (u : Value) (Q : St → Hp → Prop), Inv X pins σ H s → RelV v u → t v σ H Q →
    wpAny (model X.prog X.w) X.A (assign target X.env u) (fun _ s' => ∃ σ' H', Inv X pins σ' H' s' ∧ Q σ' H') X.xe s
/-- several targets, one after another -/
def PGs (X : Cx) (ts : List Expr) (t : TGs) : Prop :=
  ∀ (pins : List (Addr × Obj)) (s : Shared) (σ : St) (H : Hp) (vs : List V) (us : List Value) (Q : St → Hp → Prop), Inv X pins σ H s → Vals vs us → t vs σ H Q →
    wpAny (model X.prog X.w) X.A (assignInOrder ((assignEach ts X.env).map (·.2)) us) (fun _ s' => ∃ σ' H', Inv X pins σ' H' s' ∧ Q σ' H') X.xe s
/-- o[i] = v, by values -/
abbrev TSet := V → V → V → Hp → (Hp → Prop) → Prop
def PSet (X : Cx) (t : TSet) : Prop :=
  ∀ (pins : List (Addr × Obj)) (s : Shared) (σ : St) (H : Hp) (o i v : V) (ov iv u : Value) (Q : Hp → Prop), Inv X pins σ H s → RelV o ov → RelV i iv → RelV v u → t o i v H Q →
    wpAny (model X.prog X.w) X.A (setItem ov iv u) (fun _ s' => ∃ H', Inv X pins σ H' s' ∧ Q H') X.xe s
/-- a op= b, by values -/
abbrev TIp := V → V → Hp → VK → Prop
def PIp (X : Cx) (op : Operator) (t : TIp) : Prop :=
  ∀ (pins : List (Addr × Obj)) (s : Shared) (σ : St) (H : Hp) (x y : V) (v u : Value) (Q : VK), Inv X pins σ H s → RelV x v → RelV y u → t x y H Q →
    wpAny (model X.prog X.w) X.A (inplaceOp op v u) (EP X pins σ Q) X.xe s
section
variable {X : Cx} {pos : Pos}
def gName (i : Nat) : TG := fun v σ H Q => Q (σ.set i (some v)) H
theorem pg_name {i : Nat} {x : Str} (hN : X.N.Nodup) (hi : X.N[i]? = some x) (hx : Loc X.env.scope x) (hf : X.fn x = true ∨ X.env.scope.names.lookup x = some .local := by first | exact .inl rfl | exact .inr rfl | assumption) : PG X (.Name x pos) (gName i) := by
  intro pins s σ H v u Q I r h
  exact wpAny_assign_Name (store_ok I hN hi hx r (fun s' I' => ⟨_, H, I', h⟩) hf)
def gNil : TGs := fun vs σ H Q => vs = [] ∧ Q σ H
def gCons (t : TG) (u : TGs) : TGs := fun vs σ H Q => ∃ v r, vs = v :: r ∧ t v σ H fun σ' H' => u r σ' H' Q
/-- (a, b, ..) = a tuple of that length -/
def gTup (K : PySem.W.Frag) (n : Nat) (t : TGs) : TG := fun v σ H Q => ∃ a xs, v = .ref a ∧ SqT K H a xs ∧ xs.length = n ∧ t xs σ H Q
/-- o[i] = .. -/
def gSub (to ti : TE) (t : TSet) : TG := fun v σ H Q => to σ H fun o H1 => ti σ H1 fun i H2 => t o i v H2 fun H3 => Q σ H3
/-- target = value -/
def tAsg (te : TE) (g : TG) : TS := fun D σ H => te σ H fun x H1 => g x σ H1 D.nx
/-- name = value -/
theorem ps_set {i : Nat} {x : Str} {e : Expr} {te : TE} {pos' : Pos} (hN : X.N.Nodup) (hi : X.N[i]? = some x) (hx : Loc X.env.scope x) (he : PE X e te) (hs : swapsWith e (some (.Name x pos')) pos.line X.env = pure false := by rfl) (hf : X.fn x = true ∨ X.env.scope.names.lookup x = some .local := by first | exact .inl rfl | exact .inr rfl | assumption) :
    PS X (.Assign [.Name x pos'] e pos) (tAsg te (gName i)) := by
  refine .mk ?_
  intro pins s σ H D I h
  refine wpAny_Assign_Name (thn (he pins s σ H _ I h) fun v s1 ⟨y, H1, I1, r1, q1⟩ => ?_) hs
  exact store_ok I1 hN hi hx r1 (fun s2 I2 => ⟨_, H1, I2, q1⟩) hf
/-- a, b = x, y with plain local names: stored from the right; the pair itself is not tracked (the opening rows as in PyProof/Rows/TupAssign.lean:23) -/
def tPar (i j : Nat) (ta : TA) : TS := fun D σ H => ta σ H fun vs H1 => ∃ v w, vs = [v, w] ∧ D.nx ((σ.set i (some v)).set j (some w)) H1
/-- name op= e -/
def tAug (i : Nat) (te : TE) (ti : TIp) : TS := fun D σ H => ∃ x, σ[i]? = some (some x) ∧ te σ H fun y H1 => ti x y H1 fun z H2 => D.nx (σ.set i (some z)) H2
/-- o[i] op= e -/
def tAugS (to ti te : TE) (tget : V → V → Hp → VK → Prop) (tip : TIp) (tset : TSet) : TS := fun D σ H => to σ H fun o H1 => ti σ H1 fun i H2 => tget o i H2 fun x H3 => te σ H3 fun y H4 => tip x y H4 fun z H5 => tset o i z H5 fun H6 => D.nx σ H6
/-- o[i], by values -/
def PGet (X : Cx) (t : V → V → Hp → VK → Prop) : Prop :=
  ∀ (pins : List (Addr × Obj)) (s : Shared) (σ : St) (H : Hp) (o i : V) (ov iv : Value) (Q : VK), Inv X pins σ H s → RelV o ov → RelV i iv → t o i H Q →
    wpAny (model X.prog X.w) X.A (getItem ov iv) (EP X pins σ Q) X.xe s
/-- ints -/
def ipI (f : Int → Int → Int) : TIp := fun x y H Q => ∃ i j, x = .int i ∧ y = .int j ∧ Q (.int (f i j)) H
end

/-! ### while -/
section
variable {X : Cx} {pos : Pos}
/-- the invariant W with its measure -/
def tWhile (c : TT) (tb : TS) : TS := fun D σ H => ∃ W : Nat → St → Hp → Prop, (∃ m, W m σ H) ∧ ∀ m σ H, W m σ H →
  c σ H fun b H1 => if b = true then ∃ N : St → Hp → Prop, (∀ σ' H', N σ' H' → ∃ m', m' < m ∧ W m' σ' H') ∧ tb { D with nx := N, ct := N, bk := D.nx } σ H1 else D.nx σ H1
end

/-! ### what a loop or a comprehension walks -/
/-- at turn i: it yields x (the heap may grow), or it stops -/
structure It where
  go : Nat → Hp → Prop
  yld : Nat → Hp → V → Hp → Prop
  stop : Nat → Hp → Prop
/-- the iterator's own objects may turn: they are not the frame's, not pinned, younger than the entry (or a comprehension's own) -/
def FpOk (X : Cx) (pins : List (Addr × Obj)) (H : Hp) (b : Addr) : Prop :=
  H b = none ∧ b ≠ X.env.locals ∧ b ∉ X.fs ∧ (b ∈ X.ex ∨ X.s₀.heap.objs.size ≤ b) ∧ (∀ x c, X.env.cells.lookup x = some c → c ≠ b) ∧ ∀ p ∈ X.pn ++ pins, p.1 ≠ b
theorem Inv.fpOk {X : Cx} {pins : List (Addr × Obj)} {σ : St} {H H' : Hp} {s : Shared} {b : Addr} (I : Inv X pins σ H s) (hb : s.heap.objs.size ≤ b) (hn : H' b = none) : FpOk X pins H' b := by
  refine ⟨hn, Nat.ne_of_gt (Nat.lt_of_lt_of_le I.lt hb), I.nofs hb, .inr (Nat.le_trans I.sz hb), fun x c e z => ?_, fun p hp z => ?_⟩
  · obtain ⟨v, q⟩ := I.cell x c e
    exact absurd (Nat.lt_of_lt_of_le q.lt (by rw [z]; exact hb)) (Nat.lt_irrefl _)
  · exact absurd (Nat.lt_of_lt_of_le (Heap.lt_size (I.pin p hp).1) (by rw [z]; exact hb)) (Nat.lt_irrefl _)
structure Turn (P : Program) (w : World) (K : PySem.W.Frag) (tg : Expr) (J : It) (fp : List Addr) (it : Addr) (tn : Nat → Heap → Prop) : Prop where
  mem : it ∈ fp
  obj : ∀ i h, tn i h → ∀ b ∈ fp, ∃ o, h.get? b = some o ∧ ∀ v, o.data ≠ .cell v
  keep : ∀ i h h', tn i h → (∀ b ∈ fp, ∀ o, h.get? b = some o → h'.get? b = some o) → tn i h'
  item : ∀ (X : Cx), X.prog = P → X.w = w → X.K = K → X.calm = true → ∀ (i : Nat) (pins : List (Addr × Obj)) (s : Shared) (σ : St) (H : Hp) (E : Value → Shared → Prop), Inv X pins σ H s → (∀ b ∈ fp, FpOk X pins H b) → tn i s.heap → J.go i H →
    wpAny (model P w) X.A (pyNext (.ref it)) (fun r s1 => ∃ u, r = some u ∧
      wpAny (model P w) X.A (letOwnedTupleGo tg (.ref it) u) (fun _ s2 => ∃ x H', Inv X pins σ H' s2 ∧ RelV x u ∧ J.yld i H x H' ∧ tn (i + 1) s2.heap ∧ ∀ b ∈ fp, H' b = none) E s1) E s
  done : ∀ (X : Cx), X.prog = P → X.w = w → X.K = K → X.calm = true → ∀ (i : Nat) (pins : List (Addr × Obj)) (s : Shared) (σ : St) (H : Hp) (E : Value → Shared → Prop), Inv X pins σ H s → (∀ b ∈ fp, FpOk X pins H b) → tn i s.heap → J.stop i H →
    wpAny (model P w) X.A (pyNext (.ref it)) (fun r s1 => r = none ∧ Inv X pins σ H s1) E s
  self : ∀ (A : Around) (i : Nat) (s : Shared) (Q : Value → Shared → Prop) (E : Value → Shared → Prop), tn i s.heap → Q (.ref it) s → wpAny (model P w) A (pyIter (.ref it)) Q E s
abbrev TI := St → Hp → (It → Hp → Prop) → Prop
/-- an iterator has come -/
def PIE (X : Cx) (pins : List (Addr × Obj)) (σ : St) (tg : Expr) (R : It → Hp → Prop) (itv : Value) (s2 : Shared) : Prop :=
  ∃ (it : Addr) (fp : List Addr) (tn : Nat → Heap → Prop) (J : It) (H' : Hp), itv = .ref it ∧ Inv X pins σ H' s2 ∧ Turn X.prog X.w X.K tg J fp it tn ∧ tn 0 s2.heap ∧ (∀ b ∈ fp, FpOk X pins H' b) ∧ R J H'
structure PI (X : Cx) (tg iter : Expr) (wi : TI) : Prop where
  run : ∀ (pins : List (Addr × Obj)) (s : Shared) (σ : St) (H : Hp) (R : It → Hp → Prop), Inv X pins σ H s → wi σ H R →
    wpAny (model X.prog X.w) X.A (eval iter X.env) (fun v s1 => wpAny (model X.prog X.w) X.A (pyIter v) (PIE X pins σ tg R) X.xe s1) X.xe s
instance {X : Cx} {tg iter : Expr} {wi : TI} : CoeFun (PI X tg iter wi) (fun _ => ∀ (pins : List (Addr × Obj)) (s : Shared) (σ : St) (H : Hp) (R : It → Hp → Prop), Inv X pins σ H s → wi σ H R →
    wpAny (model X.prog X.w) X.A (eval iter X.env) (fun v s1 => wpAny (model X.prog X.w) X.A (pyIter v) (PIE X pins σ tg R) X.xe s1) X.xe s) := ⟨PI.run⟩

/-- the step ahead of the store is nothing for an iterator that keeps no tuple -/
theorem go_of {M : Model} {A : Around} {E : Value → Shared → Prop} {s : Shared} {tg : Expr} {it : Addr} {u : Value} {o : Obj} {n : String} {vs : Array Value} {Q : Unit → Shared → Prop} (ho : s.heap.get? it = some o) (hc : o.cls = .type n) (hd : o.data = .fields vs)
    (hn : ["enumerate", "zip", "dict_itemiterator", "dict_reverseitemiterator", "odict_iterator", "itertools.zip_longest", "itertools.pairwise"].contains n = false) (hQ : Q () s) : wpAny M A (letOwnedTupleGo tg (.ref it) u) Q E s := by
  unfold letOwnedTupleGo
  cases tg <;> first
    | exact wpAny_pure hQ
    | (cases u <;> first
        | exact wpAny_pure hQ
        | (refine wpAny_bind (wpAny_load ho ?_)
           rw [hc, hd]
           show wpAny M A (if (["enumerate", "zip", "dict_itemiterator", "dict_reverseitemiterator", "odict_iterator", "itertools.zip_longest", "itertools.pairwise"].contains n && vs[0]? == some (rawInt _)) = true then _ else _) Q E s
           rw [if_neg (by intro h; rw [hn, Bool.false_and] at h; cases h)]
           exact wpAny_pure hQ))

/-- the list at a, as it stands at each turn (a loop may append to it) -/
def Itl (K : PySem.W.Frag) (a : Addr) : It :=
  ⟨fun i H => ∃ xs x, SqL K H a xs ∧ xs[i]? = some x, fun i H x H' => H' = H ∧ ∀ xs, SqL K H a xs → xs[i]? = some x, fun i H => ∃ xs, SqL K H a xs ∧ xs.length ≤ i⟩
def Itt (K : PySem.W.Frag) (a : Addr) : It :=
  ⟨fun i H => ∃ xs x, SqT K H a xs ∧ xs[i]? = some x, fun i H x H' => H' = H ∧ ∀ xs, SqT K H a xs → xs[i]? = some x, fun i H => ∃ xs, SqT K H a xs ∧ xs.length ≤ i⟩
/-- lo, lo + 1, .. (n of them) -/
def Itr (lo : Int) (n : Nat) : It := ⟨fun i _ => i < n, fun i H x H' => H' = H ∧ x = .int (lo + i), fun i _ => n ≤ i⟩
theorem turn_list {P : Program} {w : World} {K : PySem.W.Frag} {tg : Expr} (a it : Addr) : Turn P w K tg (Itl K a) [it] it (fun i h => h.IsListIter it a i) where
  mem := by simp
  obj := fun i h st b hb => by
    have e : b = it := by simpa using hb
    subst e
    obtain ⟨o, e, c, d⟩ := st
    exact ⟨o, e, fun v z => by rw [d] at z; cases z⟩
  keep := fun i h h' st k => st.at fun o e => k it (by simp) o e
  item := by
    intro X hP hw hK hc i pins s σ H E I hf st hg
    subst hP hw hK
    obtain ⟨xs, x, hq, hx⟩ := hg
    obtain ⟨its, rv, p, hz⟩ := I.list hq
    obtain ⟨u, hu, ru⟩ := rv.get hx
    obtain ⟨f0, f1, f2, f3, f4, f5⟩ := hf it (by simp)
    refine wpAny_pyNext_list_item st p.isList (x := u) (by simpa using hu) fun h' st' sb => ?_
    have I1 : Inv X pins σ H { s with heap := h' } := I.turned (t' := s.toks) (fun b o hb e => (sb.2 b hb).trans e) f0 f1 f3 f4 f5
    obtain ⟨o, e, c, d⟩ := id st'
    exact ⟨u, rfl, go_of (s := { s with heap := h' }) e c d (by decide) ⟨x, H, I1, ru, ⟨rfl, fun ys hy => by rw [I.list_inj hy hq]; exact hx⟩, st', fun b hb => (hf b hb).1⟩⟩
  done := by
    intro X hP hw hK hc i pins s σ H E I hf st hg
    subst hP hw hK
    obtain ⟨xs, hq, hx⟩ := hg
    obtain ⟨its, rv, p, hz⟩ := I.list hq
    obtain ⟨f0, f1, f2, f3, f4, f5⟩ := hf it (by simp)
    have hl := rv.length
    exact wpAny_pyNext_list_end (I.ok.hd hc) st p.isList (by simp; omega) fun h' eb => ⟨rfl, I.turned (t' := s.toks) (fun b o hb e => eb b o hb e) f0 f1 f3 f4 f5⟩
  self := fun _ _ _ _ _ st h => wpAny_pyIter_listiter st h
theorem turn_range {P : Program} {w : World} {K : PySem.W.Frag} {tg : Expr} (it : Addr) (lo : Int) (n : Nat) : Turn P w K tg (Itr lo n) [it] it (fun i h => IsRangeIter h it (lo + (i : Nat) * 1) ((n : Int) - (i : Nat)) 1) where
  mem := by simp
  obj := fun i h st b hb => by
    have e : b = it := by simpa using hb
    subst e
    exact ⟨_, st, fun v z => by
      have z' : Data.fields _ = Data.cell v := z
      cases z'⟩
  keep := fun i h h' st k => k it (by simp) _ st
  item := by
    intro X hP hw hK hc i pins s σ H E I hf st hg
    subst hP hw hK
    obtain ⟨f0, f1, f2, f3, f4, f5⟩ := hf it (by simp)
    have W := Walks.range (prog := X.prog) (w := X.w) (I.ok.hd hc) it lo 1 n
    refine W.item i s _ _ hg st fun v h' tk hv st' kk => ?_
    obtain ⟨t, rfl⟩ := hv
    have I1 : Inv X pins σ H { s with heap := h', toks := tk } := I.turned (fun b o hb e => kk b o (by simpa using hb) e) f0 f1 f3 f4 f5
    refine ⟨_, rfl, go_of (s := { s with heap := h', toks := tk }) (n := "range_iterator") st' rfl rfl (by decide) ⟨.int (lo + i), H, I1, ⟨t, ?_⟩, ⟨rfl, rfl⟩, st', fun b hb => (hf b hb).1⟩⟩
    rw [Int.mul_one]
  done := by
    intro X hP hw hK hc i pins s σ H E I hf st hg
    subst hP hw hK
    obtain ⟨f0, f1, f2, f3, f4, f5⟩ := hf it (by simp)
    exact wpAny_pyNext_range_end (I.ok.hd hc) st (by have : n ≤ i := hg; omega) fun h' eb => ⟨rfl, I.turned (t' := s.toks) (fun b o hb e => eb b o hb e) f0 f1 f3 f4 f5⟩
  self := fun _ _ _ _ _ st h => wpAny_pyIter_rangeiter st h
end L2

namespace L2
open PySem PySem.Spec PyProof.Rows
section
variable {X : Cx} {tg : Expr}
def iList (K : PySem.W.Frag) (tl : TE) : TI := fun σ H R => tl σ H fun x H1 => ∃ a, x = .ref a ∧ (∃ xs, SqL K H1 a xs) ∧ R (Itl K a) H1
def iTup (K : PySem.W.Frag) (tl : TE) : TI := fun σ H R => tl σ H fun x H1 => ∃ a, x = .ref a ∧ (∃ xs, SqT K H1 a xs) ∧ R (Itt K a) H1
theorem pi_list {l : Expr} {tl : TE} (hl : PE X l tl) : PI X tg l (iList X.K tl) := by
  refine .mk ?_
  intro pins s σ H R I h
  refine thn (hl pins s σ H _ I h) fun v s1 ⟨x, H1, I1, r1, q1⟩ => ?_
  obtain ⟨a, e, ⟨xs, hq⟩, q⟩ := q1
  subst e
  cases r1
  obtain ⟨its, rv, p, hz⟩ := I1.list hq
  refine wpAny_pyIter_list p.isList ?_
  refine ⟨s1.heap.objs.size, [s1.heap.objs.size], _, _, H1, rfl, I1.kept (t' := s1.toks) fun b o e => Heap.get?_push_of_some _ e, turn_list a _, ⟨_, Heap.get?_push_size _ rfl, rfl, rfl⟩, fun b hb => ?_, q⟩
  have e : b = s1.heap.objs.size := by simpa using hb
  subst e
  exact I1.fpOk (Nat.le_refl _) (I1.hok.fresh (Nat.le_refl _))
/-- a range object just made, walked -/
theorem range_it {pins : List (Addr × Obj)} {σ : St} {H : Hp} {s : Shared} {R : It → Hp → Prop} {E : Value → Shared → Prop} {lo hi : Int} {t u v : Tok} {tk : Nat} (I : Inv X pins σ H s) (h1 : -(2 ^ 62) ≤ lo) (h2 : lo < 2 ^ 62) (h3 : -(2 ^ 62) ≤ hi) (h4 : hi < 2 ^ 62)
    (q : R (Itr lo (hi - lo).toNat) H) : wpAny (model X.prog X.w) X.A (pyIter (.ref s.heap.objs.size)) (PIE X pins σ tg R) E { s with heap := s.heap.push { cls := .type "range", data := .fields #[.int lo t, .int hi u, .int 1 v] }, toks := tk } := by
  refine wpAny_pyIter_range (IsRange.new ..) (small_one h1 h2 h3 h4) ?_
  have I1 : Inv X pins σ H { s with heap := s.heap.push { cls := .type "range", data := .fields #[.int lo t, .int hi u, .int 1 v] }, toks := tk } := I.kept fun b o e => Heap.get?_push_of_some _ e
  refine ⟨(s.heap.push { cls := .type "range", data := .fields #[.int lo t, .int hi u, .int 1 v] }).objs.size, [(s.heap.push { cls := .type "range", data := .fields #[.int lo t, .int hi u, .int 1 v] }).objs.size], _, _, H, rfl,
    I1.kept (t' := tk) fun b o e => Heap.get?_push_of_some _ e, turn_range _ lo (hi - lo).toNat, ?_, fun b hb => ?_, q⟩
  · have e1 : lo + ((0 : Nat) : Int) * 1 = lo := by simp
    have e2 : (((hi - lo).toNat : Nat) : Int) - ((0 : Nat) : Int) = Builtin.Range.rangeSize lo hi 1 := by rw [rangeSize_one]; split <;> omega
    show IsRangeIter _ _ (lo + ((0 : Nat) : Int) * 1) ((((hi - lo).toNat : Nat) : Int) - ((0 : Nat) : Int)) 1
    rw [e1, e2]
    exact Heap.get?_push_size _ rfl
  · have e : b = (s.heap.push { cls := .type "range", data := .fields #[.int lo t, .int hi u, .int 1 v] }).objs.size := by simpa using hb
    subst e
    exact I1.fpOk (Nat.le_refl _) (I1.hok.fresh (Nat.le_refl _))
def iRng1 (ta : TA) : TI := fun σ H R => ta σ H fun vs H1 => ∃ j : Int, vs = [.int j] ∧ -(2 ^ 62) ≤ j ∧ j < 2 ^ 62 ∧ R (Itr 0 j.toNat) H1
def iRng2 (ta : TA) : TI := fun σ H R => ta σ H fun vs H1 => ∃ i j : Int, vs = [.int i, .int j] ∧ (-(2 ^ 62) ≤ i ∧ i < 2 ^ 62 ∧ -(2 ^ 62) ≤ j ∧ j < 2 ^ 62) ∧ R (Itr i (j - i).toNat) H1
theorem pi_range1 {a : Expr} {ta : TA} {p pos : Pos} (hg : Gl X "range") (hm : X.mg "range" = none) (ha : PA X [a] ta) (hs : starEach [a] X.env = [(false, eval a X.env)] := by rfl) : PI X tg (.Call (.Name "range" p) [a] [] pos) (iRng1 ta) := by
  refine .mk ?_
  intro pins s σ H R I h
  refine Call_ (ld_blt I hg hm boot_range (PyProof.Rows.callWith_type1 (thn (ha pos pins s σ H _ I h) fun us s1 ⟨vs, H1, I1, r1, q1⟩ => ?_) hs rfl))
  obtain ⟨j, e, q1, q2, q⟩ := q1
  subst e
  cases r1 with
  | cons r rr =>
    cases rr
    obtain ⟨t, rfl⟩ := r
    exact call_range_1 (range_it I1 (by omega) (by omega) q1 q2 (by simpa using q))
/-! ### for -/
/-- W: the invariant by the turn and a measure; N: what the body is to reach -/
def tFor (wi : TI) (g : TG) (tb : TS) : TS := fun D σ H => wi σ H fun J H1 => ∃ W : Nat → Nat → St → Hp → Prop, (∃ m, W 0 m σ H1) ∧ ∀ i m σ H, W i m σ H →
  (J.stop i H ∧ D.nx σ H) ∨ (J.go i H ∧ ∃ N : St → Hp → Prop, (∀ σ' H', N σ' H' → ∃ m', m' < m ∧ W (i + 1) m' σ' H') ∧ ∀ x H', J.yld i H x H' → g x σ H' fun σ2 H2 => tb { D with nx := N, ct := N, bk := D.nx } σ2 H2)
/-- the records at fp as they stand -/
def pinsAt (fp : List Addr) (h : Heap) : List (Addr × Obj) := fp.filterMap fun b => (h.get? b).map fun o => (b, o)
theorem mem_pinsAt {fp : List Addr} {h : Heap} {b : Addr} {o : Obj} (hb : b ∈ fp) (e : h.get? b = some o) : (b, o) ∈ pinsAt fp h := List.mem_filterMap.mpr ⟨b, hb, by rw [e]; rfl⟩
theorem of_pinsAt {fp : List Addr} {h : Heap} {p : Addr × Obj} (hp : p ∈ pinsAt fp h) : p.1 ∈ fp ∧ h.get? p.1 = some p.2 := by
  obtain ⟨b, hb, e⟩ := List.mem_filterMap.mp hp
  cases q : h.get? b with
  | none => rw [q] at e; cases e
  | some o =>
    rw [q] at e
    have e' : (b, o) = p := Option.some.inj e
    subst e'
    exact ⟨hb, q⟩
theorem Inv.pinned {pins : List (Addr × Obj)} {σ : St} {H : Hp} {s : Shared} {fp : List Addr} (I : Inv X pins σ H s) (hf : ∀ b ∈ fp, FpOk X pins H b) (ho : ∀ b ∈ fp, ∃ o, s.heap.get? b = some o ∧ ∀ v, o.data ≠ .cell v) : Inv X (pins ++ pinsAt fp s.heap) σ H s :=
  I.pins_of fun p hp => (List.mem_append.mp hp).elim (fun z => I.pin p (List.mem_append_right _ z)) fun z => by
    obtain ⟨hb, e⟩ := of_pinsAt z
    obtain ⟨f0, f1, f2, _⟩ := hf p.1 hb
    obtain ⟨o, e', d⟩ := ho p.1 hb
    rw [e] at e'; cases e'
    exact ⟨e, f0, f1, f2, d⟩
theorem Inv.unpinned {pins pl : List (Addr × Obj)} {σ : St} {H : Hp} {s : Shared} (I : Inv X (pins ++ pl) σ H s) : Inv X pins σ H s := I.pins_of fun p hp => I.pin p (List.mem_append_right _ (List.mem_append_left _ hp))
theorem ps_for {iter : Expr} {body : List Stmt} {wi : TI} {g : TG} {tb : TS} {pos : Pos} (hp : PassesOwn (model X.prog X.w) X.A X.env X.xe) (hc : X.calm = true) (hi : PI X tg iter wi) (hg : PG X tg g) (hb : PSs X body tb)
    (hs : ∀ x, foldedSetIterable iter X.env x = pure x := by intro _; rfl) : PS X (.For tg iter body [] pos) (tFor wi g tb) := by
  refine .mk ?_
  intro pins s σ H D I h
  refine wpAny_For (thn (hi pins s σ H _ I h) fun v s1 h1 => thn h1 fun itv s2 h2 => ?_) hs
  obtain ⟨it, fp, tn, J, H2, e, I2, T, st2, f2, W, ⟨m0, w0⟩, turn⟩ := h2
  subst e
  -- what stays true of the iterator's objects through the loop
  have stat : ∀ {H' : Hp}, (∀ b ∈ fp, H' b = none) → ∀ b ∈ fp, FpOk X pins H' b := fun hn b hb => ⟨hn b hb, (f2 b hb).2⟩
  refine codeAny_forLoop_any (fun n s' => ∃ i σ' H', Inv X pins σ' H' s' ∧ tn i s'.heap ∧ (∀ b ∈ fp, H' b = none) ∧ W i n σ' H') ?_ m0 ⟨0, σ, H2, I2, st2, fun b hb => (f2 b hb).1, w0⟩
  rintro n s3 ⟨i, σ3, H3, I3, st3, fr3, w3⟩
  rcases turn i n σ3 H3 w3 with ⟨stop, qn⟩ | ⟨go, N, hN, step⟩
  · refine wpAny_passesOwn hp (thn (T.done X rfl rfl rfl hc i pins s3 σ3 H3 X.xe I3 (stat fr3) st3 stop) fun r s4 ⟨hr, I4⟩ => ?_)
    subst hr
    exact wpAny_execs_nil ⟨σ3, H3, I4, qn⟩
  · refine wpAny_passesOwn hp (thn (T.item X rfl rfl rfl hc i pins s3 σ3 H3 X.xe I3 (stat fr3) st3 go) fun r s4 ⟨u, hr, h4⟩ => ?_)
    subst hr
    refine wpAny_passesOwn hp (thn h4 fun _ s5 ⟨x, H5, I5, r5, y5, st5, fr5⟩ => ?_)
    have I5' := I5.pinned (stat fr5) (T.obj _ _ st5)
    refine wpAny_passesOwn hp (thn (hg _ s5 σ3 H5 x u _ I5' r5 (step x H5 y5)) fun _ s6 ⟨σ6, H6, I6, q6⟩ => ?_)
    refine wpAny_passesOwn hp (thn (hb _ s6 σ6 H6 _ I6 q6) fun f s7 q7 => ?_)
    have again : ∀ {σ7 : St} {H7 : Hp}, Inv X (pins ++ pinsAt fp s5.heap) σ7 H7 s7 → N σ7 H7 → ∃ m, m < n ∧ ∃ i σ' H', Inv X pins σ' H' s7 ∧ tn i s7.heap ∧ (∀ b ∈ fp, H' b = none) ∧ W i m σ' H' := fun {σ7 H7} I7 n7 => by
      obtain ⟨m', hm, w7⟩ := hN σ7 H7 n7
      refine ⟨m', hm, i + 1, σ7, H7, I7.unpinned, T.keep _ _ _ st5 fun b hb o e => (I7.pin (b, o) (List.mem_append_right _ (List.mem_append_right _ (mem_pinsAt hb e)))).1, fun b hb => ?_, w7⟩
      obtain ⟨o, e, d⟩ := T.obj _ _ st5 b hb
      exact (I7.pin (b, o) (List.mem_append_right _ (List.mem_append_right _ (mem_pinsAt hb e)))).2.1
    cases f with
    | next => obtain ⟨σ7, H7, I7, n7⟩ := q7; exact again I7 n7
    | cont => obtain ⟨σ7, H7, I7, n7⟩ := q7; exact again I7 n7
    | brk => obtain ⟨σ7, H7, I7, q7⟩ := q7; exact ⟨σ7, H7, I7.unpinned, q7⟩
    | ret v => obtain ⟨x7, σ7, H7, I7, r7, q7⟩ := q7; exact ⟨x7, σ7, H7, I7.unpinned, r7, q7⟩
end

/-! ### the forms one uses -/
/-- over a list that the body leaves as it is -/
theorem for_list {K : PySem.W.Frag} {a : Addr} {xs : List V} {g : TG} {tb : TS} {D : Ends} {σ : St} {H : Hp} (Pv : Nat → St → Hp → Prop) (h0 : Pv 0 σ H) (hl : ∀ i σ H, i ≤ xs.length → Pv i σ H → SqL K H a xs)
    (hs : ∀ i x σ H, xs[i]? = some x → Pv i σ H → g x σ H fun σ2 H2 => tb { D with nx := Pv (i + 1), ct := Pv (i + 1), bk := D.nx } σ2 H2) (hd : ∀ σ H, Pv xs.length σ H → D.nx σ H) :
    ∃ W : Nat → Nat → St → Hp → Prop, (∃ m, W 0 m σ H) ∧ ∀ i m σ H, W i m σ H →
      ((Itl K a).stop i H ∧ D.nx σ H) ∨ ((Itl K a).go i H ∧ ∃ N : St → Hp → Prop, (∀ σ' H', N σ' H' → ∃ m', m' < m ∧ W (i + 1) m' σ' H') ∧ ∀ x H', (Itl K a).yld i H x H' → g x σ H' fun σ2 H2 => tb { D with nx := N, ct := N, bk := D.nx } σ2 H2) := by
  refine ⟨fun i m σ H => m = xs.length - i ∧ i ≤ xs.length ∧ Pv i σ H, ⟨xs.length, by simp, Nat.zero_le _, h0⟩, ?_⟩
  rintro i m σ H ⟨rfl, hi, p⟩
  have q := hl i σ H hi p
  by_cases hlt : i < xs.length
  · refine .inr ⟨⟨xs, xs[i], q, by simp [hlt]⟩, Pv (i + 1), fun σ' H' p' => ⟨xs.length - (i + 1), by omega, rfl, hlt, p'⟩, fun x H' y => ?_⟩
    obtain ⟨e, y⟩ := y
    subst e
    exact hs i x σ _ (y xs q) p
  · have e : i = xs.length := by omega
    subst e
    exact .inl ⟨⟨xs, q, Nat.le_refl _⟩, hd σ H p⟩
theorem for_range {lo : Int} {n : Nat} {g : TG} {tb : TS} {D : Ends} {σ : St} {H : Hp} (Pv : Nat → St → Hp → Prop) (h0 : Pv 0 σ H)
    (hs : ∀ i σ H, i < n → Pv i σ H → g (.int (lo + i)) σ H fun σ2 H2 => tb { D with nx := Pv (i + 1), ct := Pv (i + 1), bk := D.nx } σ2 H2) (hd : ∀ σ H, Pv n σ H → D.nx σ H) :
    ∃ W : Nat → Nat → St → Hp → Prop, (∃ m, W 0 m σ H) ∧ ∀ i m σ H, W i m σ H →
      ((Itr lo n).stop i H ∧ D.nx σ H) ∨ ((Itr lo n).go i H ∧ ∃ N : St → Hp → Prop, (∀ σ' H', N σ' H' → ∃ m', m' < m ∧ W (i + 1) m' σ' H') ∧ ∀ x H', (Itr lo n).yld i H x H' → g x σ H' fun σ2 H2 => tb { D with nx := N, ct := N, bk := D.nx } σ2 H2) := by
  refine ⟨fun i m σ H => m = n - i ∧ i ≤ n ∧ Pv i σ H, ⟨n, by simp, Nat.zero_le _, h0⟩, ?_⟩
  rintro i m σ H ⟨rfl, hi, p⟩
  by_cases hlt : i < n
  · refine .inr ⟨hlt, Pv (i + 1), fun σ' H' p' => ⟨n - (i + 1), by omega, rfl, hlt, p'⟩, fun x H' y => ?_⟩
    obtain ⟨e, y⟩ := y
    subst e y
    exact hs i σ _ hlt p
  · have e : i = n := by omega
    subst e
    exact .inl ⟨Nat.le_refl _, hd σ H p⟩
end L2

namespace L2
open PySem PySem.Spec PyProof.Rows

abbrev R2 := V → V → Hp → VK → Prop
/-- a two-place operation on values: f is binaryOp op, inplaceOp op or compareOp op -/
def OpR (X : Cx) (f : Value → Value → Sem Value) (r : R2) : Prop :=
  ∀ (pins : List (Addr × Obj)) (s : Shared) (σ : St) (H : Hp) (x y : V) (v u : Value) (Q : VK), Inv X pins σ H s → RelV x v → RelV y u → r x y H Q →
    wpAny (model X.prog X.w) X.A (f v u) (EP X pins σ Q) X.xe s
/-- a one-place operation -/
def UnR (X : Cx) (f : Value → Sem Value) (r : V → Hp → VK → Prop) : Prop :=
  ∀ (pins : List (Addr × Obj)) (s : Shared) (σ : St) (H : Hp) (x : V) (v : Value) (Q : VK), Inv X pins σ H s → RelV x v → r x H Q →
    wpAny (model X.prog X.w) X.A (f v) (EP X pins σ Q) X.xe s
/-- a call of a value that is known (a builtin, a type) with values -/
def CallR (X : Cx) (f : Value) (r : List V → Hp → VK → Prop) : Prop :=
  ∀ (pins : List (Addr × Obj)) (s : Shared) (σ : St) (H : Hp) (xs : List V) (us : List Value) (Q : VK), Inv X pins σ H s → Vals xs us → r xs H Q →
    wpAny (model X.prog X.w) X.A (call f us) (EP X pins σ Q) X.xe s
/-- a value's truth -/
def TruR (X : Cx) (r : V → Hp → (Bool → Hp → Prop) → Prop) : Prop :=
  ∀ (pins : List (Addr × Obj)) (s : Shared) (σ : St) (H : Hp) (x : V) (v : Value) (Q : Bool → Hp → Prop), Inv X pins σ H s → RelV x v → r x H Q →
    wpAny (model X.prog X.w) X.A (truthy v) (TP X pins σ Q) X.xe s

def tOp (r : R2) (ta tb : TE) : TE := fun σ H Q => ta σ H fun x H1 => tb σ H1 fun y H2 => r x y H2 Q
def tUn (r : V → Hp → VK → Prop) (ta : TE) : TE := fun σ H Q => ta σ H fun x H1 => r x H1 Q
/-- ints in, under C, and a value out -/
def rI (C : Int → Int → Prop) (g : Int → Int → V) : R2 := fun x y H Q => ∃ i j, x = .int i ∧ y = .int j ∧ C i j ∧ Q (g i j) H
def rI0 (g : Int → Int → V) : R2 := fun x y H Q => ∃ i j, x = .int i ∧ y = .int j ∧ Q (g i j) H
def rU (g : Int → V) : V → Hp → VK → Prop := fun x H Q => ∃ i, x = .int i ∧ Q (g i) H

section
variable {X : Cx} {a b c : Expr} {ta tb tc : TE} {pos : Pos}

theorem binT (ha : PE X a ta) (hb : PE X b tb) {pins : List (Addr × Obj)} {s : Shared} {σ : St} {H : Hp} {R : V → V → Hp → Prop} (I : Inv X pins σ H s)
    (h : ta σ H fun x H1 => tb σ H1 fun y H2 => R x y H2) {Q : Value → Shared → Prop} {f : Value → Value → Sem Value}
    (hf : ∀ v u s2 x y H2, Inv X pins σ H2 s2 → RelV x v → RelV y u → R x y H2 → wpAny (model X.prog X.w) X.A (f v u) Q X.xe s2) :
    wpAny (model X.prog X.w) X.A (eval a X.env) (fun v s₁ => wpAny (model X.prog X.w) X.A (eval b X.env) (fun u s₂ => wpAny (model X.prog X.w) X.A (f v u) Q X.xe s₂) X.xe s₁) X.xe s := by
  refine thn (ha pins s σ H _ I h) fun v s1 ⟨x, H1, I1, r1, q1⟩ => ?_
  refine thn (hb pins s1 σ H1 _ I1 q1) fun u s2 ⟨y, H2, I2, r2, q2⟩ => ?_
  exact hf v u s2 x y H2 I2 r1 r2 q2

theorem pe_op {op : Operator} {r : R2} (ho : OpR X (binaryOp op) r) (ha : PE X a ta) (hb : PE X b tb) : PE X (.BinOp a op b pos) (tOp r ta tb) := by
  refine .mk ?_
  intro pins s σ H Q I h
  exact wpAny_BinOp (binT ha hb I h fun v u s2 x y H2 I2 rx ry q => ho pins s2 σ H2 x y v u Q I2 rx ry q)
theorem pe_un {op : UnaryOp} {r : V → Hp → VK → Prop} (ho : UnR X (unaryOp op) r) (ha : PE X a ta) : PE X (.UnaryOp op a pos) (tUn r ta) := by
  refine .mk ?_
  intro pins s σ H Q I h
  exact UnaryOp_ (thn (ha pins s σ H _ I h) fun v s1 ⟨x, H1, I1, r1, q1⟩ => ho pins s1 σ H1 x v Q I1 r1 q1)
/-! ### ints -/
theorem opI {f : Value → Value → Sem Value} {C : Int → Int → Prop} {g : Int → Int → Int}
    (rule : ∀ (i j : Int) (t u : Tok) (s : Shared) (Q : Value → Shared → Prop) (E : Value → Shared → Prop), C i j → Q (.int (g i j) s.toks) { s with toks := s.toks + 1 } → wpAny (model X.prog X.w) X.A (f (.int i t) (.int j u)) Q E s) :
    OpR X f (rI C fun i j => .int (g i j)) := by
  intro pins s σ H x y v u Q I rx ry h
  obtain ⟨i, j, rfl, rfl, hc, q⟩ := h
  obtain ⟨t, rfl⟩ := rx
  obtain ⟨t', rfl⟩ := ry
  exact rule i j t t' s _ _ hc ⟨.int (g i j), H, I.tok _, ⟨_, rfl⟩, q⟩
theorem opI0 {f : Value → Value → Sem Value} {g : Int → Int → Int}
    (rule : ∀ (i j : Int) (t u : Tok) (s : Shared) (Q : Value → Shared → Prop) (E : Value → Shared → Prop), Q (.int (g i j) s.toks) { s with toks := s.toks + 1 } → wpAny (model X.prog X.w) X.A (f (.int i t) (.int j u)) Q E s) :
    OpR X f (rI0 fun i j => .int (g i j)) := by
  intro pins s σ H x y v u Q I rx ry h
  obtain ⟨i, j, rfl, rfl, q⟩ := h
  obtain ⟨t, rfl⟩ := rx
  obtain ⟨t', rfl⟩ := ry
  exact rule i j t t' s _ _ ⟨.int (g i j), H, I.tok _, ⟨_, rfl⟩, q⟩
theorem opB0 {f : Value → Value → Sem Value} {g : Int → Int → Bool}
    (rule : ∀ (i j : Int) (t u : Tok) (s : Shared) (Q : Value → Shared → Prop) (E : Value → Shared → Prop), Q (.bool (g i j)) s → wpAny (model X.prog X.w) X.A (f (.int i t) (.int j u)) Q E s) :
    OpR X f (rI0 fun i j => .bl (g i j)) := by
  intro pins s σ H x y v u Q I rx ry h
  obtain ⟨i, j, rfl, rfl, q⟩ := h
  obtain ⟨t, rfl⟩ := rx
  obtain ⟨t', rfl⟩ := ry
  exact rule i j t t' s _ _ ⟨.bl (g i j), H, I, rfl, q⟩

def CDiv (i j : Int) : Prop := 0 < j ∧ j < 1073741824
def CDivN (i j : Int) : Prop := j ≠ 0 ∧ j.natAbs < 1073741824
def CPow (i j : Int) : Prop := 0 ≤ j ∧ j ≤ 1000000 ∧ i.natAbs < 2 ^ 64
def CMul (i j : Int) : Prop := (-(2 ^ 64) < i ∧ i < 2 ^ 64) ∨ (-(2 ^ 64) < j ∧ j < 2 ^ 64)
theorem CMul.ok {i j : Int} (h : CMul i j) : IntMulOk i j := by
  rcases h with ⟨h1, h2⟩ | ⟨h1, h2⟩
  · exact .of_left (intBits_le_64 h1 h2)
  · exact .of_right (intBits_le_64 h1 h2)
theorem op_add : OpR X (binaryOp .Add) (rI0 fun i j => .int (i + j)) := opI0 fun _ _ _ _ _ _ _ q => add_int q
theorem op_sub : OpR X (binaryOp .Sub) (rI0 fun i j => .int (i - j)) := opI0 fun _ _ _ _ _ _ _ q => sub_int q
theorem op_mul : OpR X (binaryOp .Mult) (rI CMul fun i j => .int (i * j)) := opI fun _ _ _ _ _ _ _ hc q => mul_int q hc.ok
/-- % by a positive divisor of any size -/
theorem op_mod : OpR X (binaryOp .Mod) (rI (fun _ j => 0 < j) fun i j => .int (i % j)) := opI fun i j _ _ _ _ _ hc q => by
  have h1 : (0 : Int) < j := hc
  exact mod_int' (by omega) (by rw [Int.fmod_eq_emod_of_nonneg i (by omega)]; exact q)
theorem op_pow : OpR X (binaryOp .Pow) (rI CPow fun i j => .int (i ^ j.toNat)) := opI fun _ _ _ _ _ _ _ hc q => pow_int_small hc.1 hc.2.1 hc.2.2 q
theorem unI {f : Value → Sem Value} {g : Int → Int}
    (rule : ∀ (i : Int) (t : Tok) (s : Shared) (Q : Value → Shared → Prop) (E : Value → Shared → Prop), Q (.int (g i) s.toks) { s with toks := s.toks + 1 } → wpAny (model X.prog X.w) X.A (f (.int i t)) Q E s) :
    UnR X f (rU fun i => .int (g i)) := by
  intro pins s σ H x v Q I rx h
  obtain ⟨i, rfl, q⟩ := h
  obtain ⟨t, rfl⟩ := rx
  exact rule i t s _ _ ⟨.int (g i), H, I.tok _, ⟨_, rfl⟩, q⟩
theorem un_neg : UnR X (unaryOp .USub) (rU fun i => .int (-i)) := unI fun _ _ _ _ _ q => neg_int q
/-! ### bools among ints: n += (a < b) -/
end

/-! ### comparisons -/
/-- the scalars that == tells apart as data does -/
def scal : V → V → Bool
  | .non, .non => true | .non, .int _ => true | .int _, .non => true | .non, .bl _ => true | .bl _, .non => true | .non, .str _ => true | .str _, .non => true
  | .int _, .int _ => true | .bl _, .bl _ => true | .str _, .str _ => true | .byt _, .byt _ => true
  | .int _, .str _ => true | .str _, .int _ => true | .bl _, .str _ => true | .str _, .bl _ => true
  | _, _ => false
def rEq : R2 := fun x y H Q => scal x y = true ∧ Q (.bl (decide (x = y))) H
def rNe : R2 := fun x y H Q => scal x y = true ∧ Q (.bl (!decide (x = y))) H

theorem dec_int {i j : Int} : decide (V.int i = V.int j) = (i == j) := by
  rw [Bool.eq_iff_iff]
  simp
theorem dec_bl {i j : Bool} : decide (V.bl i = V.bl j) = (i == j) := by
  rw [Bool.eq_iff_iff]
  simp
theorem dec_str {i j : Str} : decide (V.str i = V.str j) = (i == j) := by
  rw [Bool.eq_iff_iff]
  simp
theorem dec_byt {i j : Array UInt8} : decide (V.byt i = V.byt j) = (i.toList == j.toList) := by
  rw [Bool.eq_iff_iff]
  cases i
  cases j
  simp

section
variable {X : Cx} {a b c : Expr} {ta tb tc : TE} {pos : Pos}
theorem fin_bl {pins : List (Addr × Obj)} {σ : St} {H : Hp} {s : Shared} {Q : VK} {k k' : Bool} (I : Inv X pins σ H s) (q : Q (.bl k) H) (e : k = k') : EP X pins σ Q (.bool k') s := by
  subst e
  exact ⟨.bl k, H, I, rfl, q⟩
theorem op_eq : OpR X (compareOp .Eq) rEq := by
  intro pins s σ H x y v u Q I rx ry h
  obtain ⟨hs, q⟩ := h
  cases x with
  | non =>
    cases rx
    cases y with
    | non => cases ry; exact PySem.EqNone.eq_none_none (fin_bl I q (by simp))
    | bl j => cases ry; exact PySem.EqNone.eq_none_bool (fin_bl I q (by simp))
    | int j => obtain ⟨t', rfl⟩ := ry; exact PySem.EqNone.eq_none_int (fin_bl I q (by simp))
    | str j => obtain ⟨t', rfl⟩ := ry; exact PySem.EqNone.eq_none_str (fin_bl I q (by simp))
    | _ => exact absurd (show false = true from hs) Bool.false_ne_true
  | bl i =>
    cases rx
    cases y with
    | non => cases ry; exact PySem.EqNone.eq_bool_none (fin_bl I q (by simp))
    | bl j => cases ry; exact eq_bool (fin_bl I q dec_bl)
    | str j => obtain ⟨t', rfl⟩ := ry; exact PySem.EqMixed.eq_bool_str (fin_bl I q (by simp))
    | _ => exact absurd (show false = true from hs) Bool.false_ne_true
  | int i =>
    obtain ⟨t, rfl⟩ := rx
    cases y with
    | non => cases ry; exact PySem.EqNone.eq_int_none (fin_bl I q (by simp))
    | int j => obtain ⟨t', rfl⟩ := ry; exact eq_int (fin_bl I q dec_int)
    | str j => obtain ⟨t', rfl⟩ := ry; exact PySem.EqMixed.eq_int_str (fin_bl I q (by simp))
    | _ => exact absurd (show false = true from hs) Bool.false_ne_true
  | str i =>
    obtain ⟨t, rfl⟩ := rx
    cases y with
    | non => cases ry; exact PySem.EqNone.eq_str_none (fin_bl I q (by simp))
    | bl j => cases ry; exact PySem.EqMixed.eq_str_bool (fin_bl I q (by simp))
    | int j => obtain ⟨t', rfl⟩ := ry; exact PySem.EqMixed.eq_str_int (fin_bl I q (by simp))
    | str j => obtain ⟨t', rfl⟩ := ry; exact eq_str (fin_bl I q dec_str)
    | _ => exact absurd (show false = true from hs) Bool.false_ne_true
  | byt i =>
    obtain ⟨t, rfl⟩ := rx
    cases y with
    | byt j => obtain ⟨t', rfl⟩ := ry; exact PySem.W.eq_bytes (fin_bl I q dec_byt)
    | _ => exact absurd (show false = true from hs) Bool.false_ne_true
  | _ => cases y <;> exact absurd (show false = true from hs) Bool.false_ne_true
theorem op_ne : OpR X (compareOp .NotEq) rNe := by
  intro pins s σ H x y v u Q I rx ry h
  obtain ⟨hs, q⟩ := h
  cases x with
  | non =>
    cases rx
    cases y with
    | non => cases ry; exact PySem.EqNone.ne_none_none (fin_bl I q (by simp))
    | bl j => cases ry; exact PySem.EqNone.ne_none_bool (fin_bl I q (by simp))
    | int j => obtain ⟨t', rfl⟩ := ry; exact PySem.EqNone.ne_none_int (fin_bl I q (by simp))
    | str j => obtain ⟨t', rfl⟩ := ry; exact PySem.EqNone.ne_none_str (fin_bl I q (by simp))
    | _ => exact absurd (show false = true from hs) Bool.false_ne_true
  | bl i =>
    cases rx
    cases y with
    | non => cases ry; exact PySem.EqNone.ne_bool_none (fin_bl I q (by simp))
    | bl j => cases ry; exact ne_bool (fin_bl I q (congrArg not dec_bl))
    | str j => obtain ⟨t', rfl⟩ := ry; exact PySem.EqMixed.ne_bool_str (fin_bl I q (by simp))
    | _ => exact absurd (show false = true from hs) Bool.false_ne_true
  | int i =>
    obtain ⟨t, rfl⟩ := rx
    cases y with
    | non => cases ry; exact PySem.EqNone.ne_int_none (fin_bl I q (by simp))
    | int j => obtain ⟨t', rfl⟩ := ry; exact ne_int (fin_bl I q (congrArg not dec_int))
    | str j => obtain ⟨t', rfl⟩ := ry; exact PySem.EqMixed.ne_int_str (fin_bl I q (by simp))
    | _ => exact absurd (show false = true from hs) Bool.false_ne_true
  | str i =>
    obtain ⟨t, rfl⟩ := rx
    cases y with
    | non => cases ry; exact PySem.EqNone.ne_str_none (fin_bl I q (by simp))
    | bl j => cases ry; exact PySem.EqMixed.ne_str_bool (fin_bl I q (by simp))
    | int j => obtain ⟨t', rfl⟩ := ry; exact PySem.EqMixed.ne_str_int (fin_bl I q (by simp))
    | str j => obtain ⟨t', rfl⟩ := ry; exact ne_str (fin_bl I q (congrArg not dec_str))
    | _ => exact absurd (show false = true from hs) Bool.false_ne_true
  | byt i =>
    obtain ⟨t, rfl⟩ := rx
    cases y with
    | byt j => obtain ⟨t', rfl⟩ := ry; exact PySem.W.ne_bytes (fin_bl I q (congrArg not dec_byt))
    | _ => exact absurd (show false = true from hs) Bool.false_ne_true
  | _ => cases y <;> exact absurd (show false = true from hs) Bool.false_ne_true

theorem op_lt : OpR X (compareOp .Lt) (rI0 fun i j => .bl (decide (i < j))) := opB0 fun _ _ _ _ _ _ _ q => lt_int q
theorem op_le : OpR X (compareOp .LtE) (rI0 fun i j => .bl (decide (i ≤ j))) := opB0 fun _ _ _ _ _ _ _ q => le_int q
theorem op_ge : OpR X (compareOp .GtE) (rI0 fun i j => .bl (decide (j ≤ i))) := opB0 fun _ _ _ _ _ _ _ q => ge_int q
/-- is, is not of two objects that are tracked lists or instances -/
def isObj : HO → Bool
  | .lst _ => true
  | .ins _ _ _ => true
  | _ => false
theorem nomark (b : Expr) {op : CmpOp} (h : op ≠ .In := by decide) (h2 : op ≠ .NotIn := by decide) : behindInMarks op b = false := by
  have e1 : (op == CmpOp.In) = false := by cases op <;> first | rfl | exact absurd rfl h
  have e2 : (op == CmpOp.NotIn) = false := by cases op <;> first | rfl | exact absurd rfl h2
  cases b <;> simp [behindInMarks, e1, e2]
/-- a comparison as a value; hm: nomark b, or (for in, not in) by with_unfolding_all rfl -/
theorem pe_cmpR {op : CmpOp} {r : R2} (ho : OpR X (compareOp op) r) (ha : PE X a ta) (hb : PE X b tb) (hm : behindInMarks op b = false) : PE X (.Compare a [op] [b] pos) (tOp r ta tb) := by
  refine .mk ?_
  intro pins s σ H Q I h
  exact wpAny_Compare1 (binT ha hb I h fun v u s2 x y H2 I2 rx ry q => ho pins s2 σ H2 x y v u Q I2 rx ry q) hm
/-- a reading of a value as a test -/
def tTest (t : TE) : TT := fun σ H Q => t σ H fun x H' => ∃ k, x = .bl k ∧ Q k H'
theorem pt_cmpR {op : CmpOp} {r : R2} (ho : OpR X (compareOp op) r) (ha : PE X a ta) (hb : PE X b tb) (hm : behindInMarks op b = false) : PT X (.Compare a [op] [b] pos) (tTest (tOp r ta tb)) := by
  refine .mk ?_
  intro pins s σ H Q I h
  refine wpAny_isTrue_Compare1 (thn (ha pins s σ H _ I h) fun v s1 ⟨x, H1, I1, r1, q1⟩ => thn (hb pins s1 σ H1 _ I1 q1) fun u s2 ⟨y, H2, I2, r2, q2⟩ =>
    thn (ho pins s2 σ H2 x y v u _ I2 r1 r2 q2) fun c s3 ⟨z, H3, I3, r3, k, e, q3⟩ => ?_) hm
  subst e
  cases r3
  exact wpAny_truthy_bool ⟨H3, I3, q3⟩
/-- a op1 b op2 c -/
def tChain (r r' : R2) (ta tb tc : TE) : TE := fun σ H Q => ta σ H fun x H1 => tb σ H1 fun y H2 => r x y H2 fun z H3 => ∃ k, z = .bl k ∧
  (if k = true then tc σ H3 fun w' H4 => r' y w' H4 Q else Q (.bl false) H3)
theorem pt_chain {op op' : CmpOp} {r r' : R2} (ho : OpR X (compareOp op) r) (ho' : OpR X (compareOp op') r') (ha : PE X a ta) (hb : PE X b tb) (hc : PE X c tc)
    (hm : lastMarks [op, op'] [b, c] = false := by with_unfolding_all rfl) : PT X (.Compare a [op, op'] [b, c] pos) (tTest (tChain r r' ta tb tc)) := by
  refine .mk ?_
  intro pins s σ H Q I h
  refine isTrue_chain (thn (ha pins s σ H _ I h) fun v s1 ⟨x, H1, I1, r1, q1⟩ => test_link (thn (hb pins s1 σ H1 _ I1 q1) fun u s2 ⟨y, H2, I2, r2, q2⟩ =>
    thn (ho pins s2 σ H2 x y v u _ I2 r1 r2 q2) fun d s3 ⟨z, H3, I3, r3, k, e, q3⟩ => ?_)) hm
  subst e
  cases r3
  refine wpAny_truthy_bool ?_
  cases k with
  | false =>
    obtain ⟨k', e', q'⟩ := q3
    cases e'
    exact ite_ff ⟨H3, I3, q'⟩
  | true =>
    refine ite_tt (test_last (thn (hc pins s3 σ H3 _ I3 q3) fun w' s4 ⟨z', H4, I4, r4, q4⟩ => thn (ho' pins s4 σ H4 y z' u w' _ I4 r2 r4 q4) fun d' s5 ⟨z2, H5, I5, r5, k2, e2, q5⟩ => ?_))
    subst e2
    cases r5
    exact wpAny_truthy_bool ⟨H5, I5, q5⟩

/-! ### truth -/
/-- a value's truth by the abstract heap -/
def TruV (K : PySem.W.Frag) (x : V) (H : Hp) (k : Bool) : Prop :=
  match x with
  | .non => k = false
  | .bl b => k = b
  | .int i => k = (i != 0)
  | .str y => y.length ≤ sizeLine ∧ k = ((y.length : Int) != 0)
  | .byt y => y.size ≤ sizeLine ∧ k = ((y.size : Int) != 0)
  | .ref p => (∃ xs, SqL K H p xs ∧ k = !xs.isEmpty) ∨ (∃ xs, SqT K H p xs ∧ k = !xs.isEmpty) ∨ ∃ kvs, H p = some (.dK kvs) ∧ k = !kvs.isEmpty
  | _ => False
theorem line63 : (sizeLine : Nat) < 2 ^ 63 := by rw [sizeLine_eq]; decide
/-! ### strs and bytes -/
def PlainIxT (b : Expr) : Prop := ∀ o i, subscripted b false o i = operate [o, i] (getItem o i)
/-! ### scalar builtins, by CallR -/
theorem vals1 {x : V} {us : List Value} (r : Vals [x] us) : ∃ u, us = [u] ∧ RelV x u := by
  cases r with
  | cons r1 r2 => cases r2; exact ⟨_, rfl, r1⟩
theorem vals2 {x y : V} {us : List Value} (r : Vals [x, y] us) : ∃ u w', us = [u, w'] ∧ RelV x u ∧ RelV y w' := by
  cases r with
  | cons r1 r2 =>
    cases r2 with
    | cons r3 r4 => cases r4; exact ⟨_, _, rfl, r1, r3⟩
theorem call_abs : CallR X (.builtin "abs") (fun xs H Q => ∃ i, xs = [.int i] ∧ Q (.int (if i < 0 then -i else i)) H) := by
  intro pins s σ H xs us Q I r h
  obtain ⟨i, rfl, q⟩ := h
  obtain ⟨u, rfl, t, rfl⟩ := vals1 r
  exact call_abs_int fun u tk => ⟨.int (if i < 0 then -i else i), H, I.tok _, ⟨_, rfl⟩, q⟩
theorem call_max2 (hc : X.calm = true) : CallR X (.builtin "max") (fun xs H Q => ∃ i j, xs = [.int i, .int j] ∧ Q (.int (if j > i then j else i)) H) := by
  intro pins s σ H xs us Q I r h
  obtain ⟨i, j, rfl, q⟩ := h
  obtain ⟨u, w', rfl, ⟨t, rfl⟩, ⟨t', rfl⟩⟩ := vals2 r
  refine max_two_ints (I.ok.hd hc) fun h' tk k => ⟨_, H, I.kept k, ?_, q⟩
  by_cases hj : j > i
  · rw [if_pos hj, if_pos hj]; exact ⟨_, rfl⟩
  · rw [if_neg hj, if_neg hj]; exact ⟨_, rfl⟩
theorem call_min2 (hc : X.calm = true) : CallR X (.builtin "min") (fun xs H Q => ∃ i j, xs = [.int i, .int j] ∧ Q (.int (if j < i then j else i)) H) := by
  intro pins s σ H xs us Q I r h
  obtain ⟨i, j, rfl, q⟩ := h
  obtain ⟨u, w', rfl, ⟨t, rfl⟩, ⟨t', rfl⟩⟩ := vals2 r
  refine min_two_ints (I.ok.hd hc) fun h' tk k => ⟨_, H, I.kept k, ?_, q⟩
  by_cases hj : j < i
  · rw [if_pos hj, if_pos hj]; exact ⟨_, rfl⟩
  · rw [if_neg hj, if_neg hj]; exact ⟨_, rfl⟩
theorem call_int1 : CallR X (.type "int") (fun xs H Q => (∃ i, xs = [.int i] ∧ Q (.int i) H) ∨ ∃ k, xs = [.bl k] ∧ Q (.int (if k then 1 else 0)) H) := by
  intro pins s σ H xs us Q I r h
  rcases h with ⟨i, rfl, q⟩ | ⟨k, rfl, q⟩
  · obtain ⟨u, rfl, t, rfl⟩ := vals1 r
    exact call_int_int ⟨.int i, H, I, ⟨_, rfl⟩, q⟩
  · obtain ⟨u, rfl, r1⟩ := vals1 r
    cases r1
    exact call_int_bool ⟨.int (if k then 1 else 0), H, I.tok _, ⟨_, rfl⟩, q⟩
/-- len of a str, a bytes, a list, a tuple -/
def LenV (K : PySem.W.Frag) (x : V) (H : Hp) (n : Nat) : Prop :=
  match x with
  | .str y => y.length ≤ sizeLine ∧ n = y.length
  | .byt y => y.size ≤ sizeLine ∧ n = y.size
  | .ref p => (∃ xs, SqL K H p xs ∧ n = xs.length) ∨ ∃ xs, SqT K H p xs ∧ n = xs.length
  | _ => False
end
end L2

namespace L2
open PySem PySem.Spec PyProof.Rows

/-! ### an instance, its attributes a map -/
structure ObjM (h : Heap) (x dx C : Addr) (mA : Str → Option Value) : Prop where
  obj : h.get? x = some (PySem.W.instObj C dx)
  ns : h.Ns1 dx mA
  ne : dx ≠ x

theorem lookIn_ns {h : Heap} {dx : Addr} {mA : Str → Option Value} (n : h.Ns1 dx mA) : ∃ od, h.get? dx = some od ∧ ∀ name, PySem.W.lookIn name od = some (mA name) := by
  obtain ⟨o, es, ep, ho, hd, hk, _, hm⟩ := n
  refine ⟨o, ho, fun name => ?_⟩
  have e := hm name
  unfold nsFind findBy at e
  rw [← Array.find?_toList] at e
  unfold PySem.W.lookIn
  rw [hd]
  dsimp only
  split
  · rename_i y q
    rw [q] at e
    exact congrArg some e
  · rename_i q
    rw [q] at e
    have a : es.toList.any (·.refKey) = false := by
      rw [List.any_eq_false]
      intro y hy
      obtain ⟨z, t, hkey⟩ := hk y (Array.mem_toList_iff.mp hy)
      simp [DictEntry.refKey, hkey]
    have a' : ¬ es.toList.any (·.refKey) = true := by rw [a]; exact Bool.false_ne_true
    rw [if_neg a']
    exact congrArg some e

theorem ObjM.look {h : Heap} {x dx C : Addr} {mA : Str → Option Value} (I : ObjM h x dx C mA) : ∃ od, PySem.W.InstAt h x (PySem.W.instObj C dx) C (some od) ∧ ∀ name, PySem.W.lookIn name od = some (mA name) :=
  let ⟨od, ho, hl⟩ := lookIn_ns I.ns
  ⟨od, ⟨I.obj, rfl, rfl, ho⟩, hl⟩

section
variable {prog : Program} {w : World} {A : Around} {E : Value → Shared → Prop} {s : Shared} {K : PySem.W.Frag} {x dx C f : Addr} {mA : Str → Option Value} {name : Str} {v : Value}

end

/-! ### the attributes as a list of pairs -/
def putF (f : Str) (v : V) : List (Str × V) → List (Str × V)
  | [] => [(f, v)]
  | (g, x) :: r => if g = f then (g, v) :: r else (g, x) :: putF f v r
section
variable {P : Program} {w : World} {H H' : Hp} {h h' : Heap} {a C dx : Addr} {fs fs' : List (Str × V)}
theorem ins_get (hok : HOk P w H h) (e : H a = some (.ins C dx fs)) : ∃ mA, ObjM h a dx C mA ∧ (∀ f, RelO (fs.lookup f) (mA f)) ∧ PySem.Within mA (fs.map (·.1)) ∧ fs.length ≤ 1000 ∧ H dx = some (.own a) := by
  obtain ⟨d, z, ne, ob, mA, n, r, q⟩ := (show ObjOk P w H h a (.ins C dx fs) from hok a _ e)
  exact ⟨mA, ⟨ob, n, ne⟩, r, q, z, d⟩
end

/-! ### what of the text a class must have -/
structure Cls (K : PySem.W.Frag) (C : Addr) : Prop where
  pg : PySem.W.plainGet K C Str.empty = true
  hd : PySem.W.hasDictIn K C = true
  po : PySem.W.plainOver K C = true
  sa : PySem.W.findIn K (.ref C) "__setattr__" = some (some (.builtin "object.__setattr__"))
theorem Cls.get {K : PySem.W.Frag} {C : Addr} (c : Cls K C) (f : Str) : PySem.W.plainGet K C f = true := c.pg
/-- no class of it has the name -/
def NoAttr (K : PySem.W.Frag) (C : Addr) (f : Str) : Prop := PySem.W.findIn K (.ref C) f = some none
/-- a constant of the class -/
structure Con (K : PySem.W.Frag) (C : Addr) (f : Str) (v : V) (u : Value) : Prop where
  at_ : PySem.W.findIn K (.ref C) f = some (some u)
  rel : RelV v u
  get : PySem.W.specialIn K u "__get__" = some none
  cp : PySem.W.copiedNames.contains f = false
/-- a method: a plain def of the class or of one above it -/
structure Meth (K : PySem.W.Frag) (C : Addr) (m : Str) (f : Addr) : Prop where
  at_ : PySem.W.findIn K (.ref C) m = some (some (.ref f))
  fn : PySem.W.isFn K (.ref f) = true
  kp : PySem.W.keepIn K (.ref f) = true

section
variable {X : Cx} {pins : List (Addr × Obj)} {σ : St} {H : Hp} {s : Shared} {a C dx : Addr} {fs : List (Str × V)} {f : Str} {v : V} {A : Around} {E : Value → Shared → Prop}

end

/-! ### readings and rules -/
/-- e.f, an attribute of the instance -/
def tFld (K : PySem.W.Frag) (ta : TE) (f : Str) : TE := fun σ H Q => ta σ H fun x H1 => ∃ a C dx fs v, x = .ref a ∧ H1 a = some (.ins C dx fs) ∧ Cls K C ∧ NoAttr K C f ∧ fs.lookup f = some v ∧ Q v H1
/-- e.f, a constant of the class -/
def tCon (K : PySem.W.Frag) (ta : TE) (f : Str) : TE := fun σ H Q => ta σ H fun x H1 => ∃ a C dx fs v u, x = .ref a ∧ H1 a = some (.ins C dx fs) ∧ Cls K C ∧ Con K C f v u ∧ fs.lookup f = none ∧ Q v H1
/-- e.f = value -/
def sFld (K : PySem.W.Frag) (ta tv : TE) (f : Str) : TS := fun D σ H => tv σ H fun y H1 => ta σ H1 fun x H2 => ∃ a C dx fs, x = .ref a ∧ H2 a = some (.ins C dx fs) ∧ Cls K C ∧ NoAttr K C f ∧ fs.length < 1000 ∧
  D.nx σ (upd H2 a (.ins C dx (putF f y fs)))
/-- an augmented operator on two values -/
def InOp (X : Cx) (op : Operator) (rd : V → V → Hp → VK → Prop) : Prop :=
  ∀ (pins : List (Addr × Obj)) (s : Shared) (σ : St) (H : Hp) (x y : V) (u v : Value) (Q : VK), Inv X pins σ H s → RelV x u → RelV y v → rd x y H Q → wpAny (model X.prog X.w) X.A (inplaceOp op u v) (EP X pins σ Q) X.xe s
/-- e.f op= value -/
def sFldAug (K : PySem.W.Frag) (ta tv : TE) (rd : V → V → Hp → VK → Prop) (f : Str) : TS := fun D σ H => ta σ H fun x H1 => ∃ a C dx fs v, x = .ref a ∧ H1 a = some (.ins C dx fs) ∧ Cls K C ∧ NoAttr K C f ∧ fs.lookup f = some v ∧
  tv σ H1 fun y H2 => rd v y H2 fun z H3 => ∃ dx' fs', H3 a = some (.ins C dx' fs') ∧ fs'.length < 1000 ∧ D.nx σ (upd H3 a (.ins C dx' (putF f z fs')))

section
variable {X : Cx} {o e value : Expr} {f : Str} {pos pos' tpos : Pos} {ta tv : TE}
def rAdd : V → V → Hp → VK → Prop := fun x y H Q => ∃ i j, x = .int i ∧ y = .int j ∧ Q (.int (i + j)) H
def rSub : V → V → Hp → VK → Prop := fun x y H Q => ∃ i j, x = .int i ∧ y = .int j ∧ Q (.int (i - j)) H
end

/-! ### isinstance -/
section
variable {X : Cx} {pins : List (Addr × Obj)} {σ : St} {H : Hp} {s : Shared} {A : Around} {E : Value → Shared → Prop} {Q : Value → Shared → Prop} {c : Value} {b : Bool}
/-- the type of a value, as the fragment's deciders take it; for an instance its class -/
inductive TyOf (K : PySem.W.Frag) (H : Hp) : V → Value → Prop where
  | non : TyOf K H .non (.type "NoneType")
  | bl (x : Bool) : TyOf K H (.bl x) (.type "bool")
  | int (i : Int) : TyOf K H (.int i) (.type "int")
  | str (x : Str) : TyOf K H (.str x) (.type "str")
  | flt (x : UInt64) : TyOf K H (.flt x) (.type "float")
  | lst {a : Addr} {xs : List V} (e : H a = some (.lst xs)) : TyOf K H (.ref a) (.type "list")
  | frz {a : Addr} {o : Obj} {xs : List V} (e : H a = some (.frz o (.lst xs))) : TyOf K H (.ref a) (.type "list")
  | tup {a : Addr} {xs : List V} (e : H a = some (.tup xs)) : TyOf K H (.ref a) (.type "tuple")
  | dK {a : Addr} {kvs : List (Key × V)} (e : H a = some (.dK kvs)) : TyOf K H (.ref a) (.type "dict")
  | dT {a : Addr} {kvs : List (List Key × V)} (e : H a = some (.dT kvs)) : TyOf K H (.ref a) (.type "dict")
  | ins {a C dx : Addr} {fs : List (Str × V)} (e : H a = some (.ins C dx fs)) (cl : Cls K C) (ha : PySem.W.findIn K (.ref C) "__class__" = some (some (.builtin "object.__class__")))
      (hn : PySem.W.specialIn K (.builtin "object.__class__") "__get__" = some (some (.builtin "getset_descriptor.__get__"))) (htk : PySem.W.takesIn K (.builtin "object.__class__") = some true)
      (hm : PySem.W.mroIn K C (.type "object") = some true) : TyOf K H (.ref a) (.ref C)
/-- isinstance(x, c) for one class c, a built-in or an own one: kitOne's answer -/
theorem isinst_ok {x : V} {u t : Value} (I : Inv X pins σ H s) (rx : RelV x u) (ty : TyOf X.K H x t) (e : PySem.W.kitOne X.K t c = some b) (h : ∀ tk, Q (.bool b) { s with toks := tk }) :
    wpAny (model X.prog X.w) A (call (.builtin "isinstance") [u, c]) Q E s := by
  cases ty with
  | non => cases (show u = Value.none from rx); exact PySem.W.kia_one PySem.W.kitx_none I.kIn True.intro e (fun z => nomatch z) h
  | bl y => cases (show u = Value.bool y from rx); exact PySem.W.kia_one PySem.W.kitx_bool I.kIn True.intro e (fun z => nomatch z) h
  | int i => obtain ⟨t, q⟩ := (show ∃ t, u = Value.int i t from rx); cases q; exact PySem.W.kia_one PySem.W.kitx_int I.kIn True.intro e (fun z => nomatch z) h
  | str y => obtain ⟨t, q⟩ := (show ∃ t, u = Value.str y t from rx); cases q; exact PySem.W.kia_one PySem.W.kitx_str I.kIn True.intro e (fun z => nomatch z) h
  | flt y => obtain ⟨t, q⟩ := (show ∃ t, u = Value.float y t from rx); cases q; exact PySem.W.kia_one PySem.W.kitx_float I.kIn True.intro e (fun z => nomatch z) h
  | @lst a xs ea =>
    cases (show u = Value.ref a from rx)
    obtain ⟨_, _, n, _, h1⟩ := (show ObjOk X.prog X.w H s.heap a (.lst xs) from I.hok a _ ea)
    exact PySem.W.kia_one PySem.W.kitx_list I.kIn ⟨_, h1, rfl⟩ e (fun z => nomatch z) h
  | @frz a ob xs ea =>
    cases (show u = Value.ref a from rx)
    obtain ⟨_, _, _, n, _, h1⟩ := (show ObjOk X.prog X.w H s.heap a (.frz ob (.lst xs)) from I.hok a _ ea)
    exact PySem.W.kia_one PySem.W.kitx_list I.kIn ⟨_, h1, rfl⟩ e (fun z => nomatch z) h
  | @tup a xs ea =>
    cases (show u = Value.ref a from rx)
    obtain ⟨_, _, _, p⟩ := (show ObjOk X.prog X.w H s.heap a (.tup xs) from I.hok a _ ea)
    obtain ⟨o, h1, h2, _⟩ := p
    exact PySem.W.kia_one PySem.W.kitx_tuple I.kIn ⟨o, h1, h2⟩ e (fun z => nomatch z) h
  | @dK a kvs ea =>
    cases (show u = Value.ref a from rx)
    obtain ⟨_, _, vs, _, p⟩ := (show ObjOk X.prog X.w H s.heap a (.dK kvs) from I.hok a _ ea)
    obtain ⟨o, es, ep, h1, h2, _⟩ := p
    exact PySem.W.kia_one PySem.W.kitx_dict I.kIn ⟨o, h1, h2.1⟩ e (fun z => nomatch z) h
  | @dT a kvs ea =>
    cases (show u = Value.ref a from rx)
    obtain ⟨_, _, xs, _, o, es, ep, h1, h2, _⟩ := (show ObjOk X.prog X.w H s.heap a (.dT kvs) from I.hok a _ ea)
    exact PySem.W.kia_one PySem.W.kitx_dict I.kIn ⟨o, h1, h2.1⟩ e (fun z => nomatch z) h
  | @ins a C dx fs ea cl ha hn htk hm =>
    cases (show u = Value.ref a from rx)
    obtain ⟨mA, O, _⟩ := ins_get I.hok ea
    obtain ⟨od, J, _⟩ := O.look
    exact PySem.W.kia_one (PySem.W.kitx_own (cl.get _) cl.hd ha hn htk hm) I.kIn J e (fun z => nomatch z) h
end
end L2

namespace L2
open PySem PySem.Spec PyProof.Rows

/-! ### room -/
structure Room (k : Nat) (A : Around) : Prop where
  hd : A.handled = none
  dp : A.depth + 3 * k + 5 < recursionLimit
  un : A.units + 16 * k + 200 < cLine
theorem Room.mono {j k : Nat} {A : Around} (r : Room k A) (h : j ≤ k) : Room j A := ⟨r.hd, by have := r.dp; omega, by have := r.un; omega⟩
theorem Room.deeper {k : Nat} {A : Around} (r : Room (k + 1) A) (env : Env) : Room k (A.deeper env) :=
  ⟨r.hd, by have := r.dp; show A.depth + 1 + 3 * k + 5 < _; omega, by have := r.un; show A.units + 3 + 16 * k + 200 < _; omega⟩
theorem Room.depth {k : Nat} {A : Around} (r : Room k A) : A.depth < recursionLimit := by have := r.dp; omega
theorem Room.units {k : Nat} {A : Around} (r : Room k A) : A.units + 64 < cLine := by have := r.un; omega
/-! ### argument lists and displays -/
def tNil : TA := fun _ H Q => Q [] H
def tCons (ta : TE) (tr : TA) : TA := fun σ H Q => ta σ H fun x H1 => tr σ H1 fun xs H2 => Q (x :: xs) H2
section
variable {X : Cx} {e : Expr} {es : List Expr} {te : TE} {t : TA} {pos : Pos}
theorem pa_nil : PA X [] tNil := .mk <| fun _ _ _ _ H Q I h => Calls.spliced_nil ⟨[], H, I, .nil, h⟩
theorem pa_cons (ha : PE X e te) (hr : PA X es t) (hs : starEach (e :: es) X.env = (false, eval e X.env) :: starEach es X.env := by rfl) : PA X (e :: es) (tCons te t) := by
  refine .mk ?_
  intro pos pins s σ H Q I h
  rw [hs]
  show wpAny _ _ (spliced ((false, eval e X.env) :: backTo pos (starEach es X.env))) _ _ s
  refine Calls.spliced_cons (thn (ha pins s σ H _ I h) fun u s1 ⟨x, H1, I1, r1, q1⟩ => ?_)
  exact thn (hr pos pins s1 σ H1 _ I1 q1) fun us s2 ⟨xs, H2, I2, r2, q2⟩ => ⟨x :: xs, H2, I2, .cons r1 r2, q2⟩

/-- a tuple, a list of written items -/
def tTup (t : TA) : TE := fun σ H Q => t σ H fun xs H1 => xs.length ≤ sizeLine ∧ ∀ p, H1 p = none → Q (.ref p) (upd H1 p (.tup xs))
def tLst (t : TA) : TE := fun σ H Q => t σ H fun xs H1 => xs.length ≤ sizeLine ∧ ∀ p, H1 p = none → Q (.ref p) (upd H1 p (.lst xs))
theorem pe_tup {x1} (h : PA X es t) : PE X (.Tuple es x1 pos) (tTup t) := by
  refine .mk ?_
  intro pins s σ H Q I hq
  refine wpAny_Tuple_spliced (thn (h pos pins s σ H _ I hq) fun us s1 ⟨xs, H1, I1, r, z, q⟩ => ⟨by rw [← r.length]; exact z, ?_⟩)
  have hf : H1 s1.heap.objs.size = none := I1.hok.fresh (Nat.le_refl _)
  refine ⟨.ref s1.heap.objs.size, upd H1 s1.heap.objs.size (.tup xs), I1.laid (t' := s1.toks) (fun b u e => Heap.get?_push_of_some _ e) (Nat.le_refl _) ?_, rfl, q _ hf⟩
  exact ⟨z, us, r, ⟨_, Heap.get?_push_size _ rfl, rfl, _, rfl⟩⟩
theorem pe_lst (h : PA X es t) : PE X (.List es pos) (tLst t) := by
  refine .mk ?_
  intro pins s σ H Q I hq
  refine wpAny_List_spliced (thn (h pos pins s σ H _ I hq) fun us s1 ⟨xs, H1, I1, r, z, q⟩ => ⟨by rw [← r.length]; exact z, ?_⟩)
  have hf : H1 s1.heap.objs.size = none := I1.hok.fresh (Nat.le_refl _)
  refine ⟨.ref s1.heap.objs.size, upd H1 s1.heap.objs.size (.lst xs), I1.laid (t' := s1.toks) (fun b u e => Heap.get?_push_of_some _ e) (Nat.le_refl _) ?_, rfl, q _ hf⟩
  exact ⟨z, us, 0, r, Heap.get?_push_size _ rfl⟩
end

/-! ### what a def promises -/
/-- a def's promise: the bound arguments in the parameters' order, the heap, the wanted end, the wanted exception -/
abbrev Sp := List V → Hp → VK → XK → Prop
/-- how an exception lies behind a call (file 08 gives it): the callers' frames, abstract heap and state ahead of the call, the wish, the exception, the state -/
abbrev CXT := List Env → Hp → Shared → XK → Value → Shared → Prop

/-- the state at a call -/
structure Env0 (P : Program) (w : World) (K : PySem.W.Frag) (mg : Str → Option Value) (base : Heap) (A : Around) (outer : List Env) (s : Shared) (H : Hp) : Prop where
  frames : A.frames = some outer
  mod : Mod K mg base
  bs : ∀ b o, base.get? b = some o → s.heap.get? b = some o ∧ H b = none
  bsz : base.objs.size ≤ s.heap.objs.size
  funs : s.heap.FunFrames base outer
  frf : ∀ b ∈ frs outer, H b = none
  hok : HOk P w H s.heap
  bare : AllBare s.gens
/-- a call's end -/
def CE (outer : List Env) (P : Program) (w : World) (H : Hp) (s : Shared) (Q : VK) (u : Value) (s' : Shared) : Prop :=
  ∃ v H', s'.os = s.os ∧ AllBare s'.gens ∧ Un (frs outer) [] H H' s.heap s'.heap ∧ HOk P w H' s'.heap ∧ RelV v u ∧ Q v H'
def CR (CX : CXT) (outer : List Env) (P : Program) (w : World) (H : Hp) (s : Shared) (Q : VK) (E : XK) (r : Result) (s' : Shared) : Prop :=
  match r with
  | .ok (.ret u) => CE outer P w H s Q u s'
  | .ok _ => False
  | .error e => CX outer H s E e s'
structure FnOk (P : Program) (w : World) (K : PySem.W.Frag) (mg : Str → Option Value) (base : Heap) (CX : CXT) (k : Nat) (f : Addr) (fd : FuncData) (ps : List Str) (sp : Sp) : Prop where
  len : ∀ vs H Q E, sp vs H Q E → vs.length = ps.length
  run : ∀ (A : Around) (outer : List Env) (s : Shared) (H : Hp) (args : Args) (us : List Value) (vs : List V) (Q : VK) (E : XK), Room k A → Env0 P w K mg base A outer s H → BindsTo s fd args (ps.zip us) → Vals vs us → sp vs H Q E →
    codeAny (model P w) A (.call (.ref f) args) (CR CX outer P w H s Q E) s
section
variable {X : Cx} {pins : List (Addr × Obj)} {σ : St} {H : Hp} {s s' : Shared}
/-- from a body: what a callee wants -/
theorem Inv.env0 (I : Inv X pins σ H s) : Env0 X.prog X.w X.K X.mg X.base X.A X.stack s H :=
  ⟨I.ok.frames, I.ok.mod, I.bs, Nat.le_trans I.ok.bsz I.sz, I.stack, I.stkFree, I.hok, I.bare⟩
/-- behind a call -/
theorem Inv.after {Q : VK} {u : Value} (I : Inv X pins σ H s) (h : CE X.stack X.prog X.w H s Q u s') : EP X pins σ Q u s' := by
  obtain ⟨v, H', os, bare, un, hok, r, q⟩ := h
  obtain ⟨hh, g, d, t, os'⟩ := s'
  obtain rfl : os' = s.os := os
  exact ⟨v, H', I.call (h' := hh) (g' := g) (d' := d) (t' := t) (ch := []) un hok bare (fun b z => absurd z (by simp)), r, q⟩
end

/-! ### calls -/
/-- f(..): the written arguments, then the defaults dvs; E: what is wanted of an exception -/
def tCall (sp : Sp) (dvs : List V) (E : XK) (t : TA) : TE := fun σ H Q => t σ H fun vs H1 => sp (vs ++ dvs) H1 Q E
/-- o.m(..) of an instance of the class at C -/
def tMeth (C : Addr) (m : Str) (sp : Sp) (dvs : List V) (E : XK) (ta : TE) (t : TA) : TE := fun σ H Q => ta σ H fun x H1 => ∃ a dx fs, x = .ref a ∧ H1 a = some (.ins C dx fs) ∧ fs.lookup m = none ∧
  t σ H1 fun vs H2 => sp (x :: (vs ++ dvs)) H2 Q E
/-- C(..): a new instance and its dict, then __init__ -/
def tMake (C : Addr) (sp : Sp) (dvs : List V) (E : XK) (t : TA) : TE := fun σ H Q => t σ H fun vs H1 => ∀ x dx, H1 x = none → H1 dx = none → dx ≠ x →
  sp (.ref x :: (vs ++ dvs)) (upd (upd H1 dx (.own x)) x (.ins C dx [])) (fun v H2 => v = .non ∧ Q (.ref x) H2) E

/-- how the parameters are bound: us the positional arguments, kw the keywords' values by name, ds the defaults that fill up -/
def Binds (K : PySem.W.Frag) (fd : FuncData) (ps : List Str) (ds : List Value) : Prop :=
  ∀ (s : Shared) (us : List Value), K.In s.heap → (us ++ ds).length = ps.length → BindsTo s fd ⟨us, []⟩ (ps.zip (us ++ ds))
/-- every parameter is given -/
theorem Binds.all {K : PySem.W.Frag} {fd : FuncData} {ps : List Str} (h : ∀ us : List Value, us.length = ps.length → bindArgs fd ⟨us, []⟩ = pure (ps.zip us)) : Binds K fd ps [] := fun s us _ hl => by
  rw [List.append_nil] at hl ⊢
  exact .of_eq (h us hl)

/-- an exception of a callee reaches what this body wants of exceptions -/
def Passes (CX : CXT) (X : Cx) (E : XK) : Prop := ∀ (pins : List (Addr × Obj)) (σ : St) (H : Hp) (s : Shared) (e : Value) (s' : Shared), Inv X pins σ H s → CX X.stack H s E e s' → X.xe e s'

section
variable {X : Cx} {CX : CXT} {k : Nat} {f C : Addr} {fd : FuncData} {ps : List Str} {sp : Sp} {dvs : List V} {ds : List Value} {E : XK} {x m : Str} {p pos apos : Pos} {e o : Expr} {es : List Expr} {ta : TE} {t : TA}

/-- the callee runs -/
theorem run_fn {pins : List (Addr × Obj)} {σ : St} {H : Hp} {s : Shared} {Q : VK} {us : List Value} {vs : List V} (F : FnOk X.prog X.w X.K X.mg X.base CX k f fd ps sp) (hr : Room k X.A) (hb : Binds X.K fd ps ds) (hd : Vals dvs ds) (hx : Passes CX X E)
    (I : Inv X pins σ H s) (r : Vals vs us) (h : sp (vs ++ dvs) H Q E) : wpAny (model X.prog X.w) X.A (call (.ref f) us) (EP X pins σ Q) X.xe s := by
  have r2 : Vals (vs ++ dvs) (us ++ ds) := r.append hd
  have hl : (us ++ ds).length = ps.length := by rw [← r2.length]; exact F.len _ _ _ _ h
  refine wpAny_call (codeAny_mono (F.run X.A X.stack s H ⟨us, []⟩ (us ++ ds) (vs ++ dvs) Q E hr I.env0 (hb s us I.kIn hl) r2 h) fun r s' hq => ?_)
  cases r with
  | error e => exact hx pins σ H s e s' I hq
  | ok fl =>
    cases fl with
    | ret u => exact I.after hq
    | next => exact False.elim hq
    | brk => exact False.elim hq
    | cont => exact False.elim hq

theorem pe_call (F : FnOk X.prog X.w X.K X.mg X.base CX k f fd ps sp) (hr : Room k X.A) (hg : Gl X x) (hm : X.mg x = some (.ref f)) (hk : PySem.W.keepIn X.K (.ref f) = true) (hb : Binds X.K fd ps ds) (hd : Vals dvs ds) (hx : Passes CX X E)
    (ha : PA X (e :: es) t) (hdb : (x == ("__debug__" : Str)) = false := by decide) (he : starEach (e :: es) X.env = (false, eval e X.env) :: starEach es X.env := by rfl) (hpl : (backTo pos (starEach es X.env)).any (·.1) = false := by rfl) :
    PE X (.Call (.Name x p) (e :: es) [] pos) (tCall sp dvs E t) := by
  refine .mk ?_
  intro pins s σ H Q I h
  refine wpAny_Call_Name_kw (ld_glob I hg hm ?_ hdb)
  refine PySem.W.callWith_K (h₀ := X.base) I.ok.mod.kin hk (thn (ha pos pins s σ H _ I h) fun us s1 ⟨vs, H1, I1, r, q⟩ => ⟨I1.kIn, ?_⟩) he hpl
  exact run_fn F hr hb hd hx I1 r q
/-- what a class must have to be made -/
structure Mk (K : PySem.W.Frag) (C f : Addr) : Prop where
  makes : PySem.W.makesIn K C = true
  init : PySem.W.findIn K (.ref C) "__init__" = some (some (.ref f))
  fn : PySem.W.isFn K (.ref f) = true
  kp : PySem.W.keepIn K (.ref C) = true

end

/-! ### keywords -/
/-- the values of the keywords, from the left -/
def PK (X : Cx) (kws : List Keyword) (t : TA) : Prop :=
  ∀ (pos : Pos) (pins : List (Addr × Obj)) (s : Shared) (σ : St) (H : Hp) (Q : List V → Hp → Prop), Inv X pins σ H s → t σ H Q → wpAny (model X.prog X.w) X.A (evalAll ((backToKw pos (keywordEach kws X.env)).map (·.2))) (AP X pins σ Q) X.xe s
section
variable {X : Cx} {CX : CXT} {k : Nat} {f C : Addr} {fd : FuncData} {ps ks : List Str} {sp : Sp} {E : XK} {x m : Str} {p pos apos kpos : Pos} {e o : Expr} {es : List Expr} {kws : List Keyword} {te ta : TE} {t tk : TA} {nm : Option Str}
/-- how a call with keywords binds: g puts the positional values us and the keywords' values ws (names ks) in the parameters' order, defaults among them -/
structure KBinds (K : PySem.W.Frag) (fd : FuncData) (ps ks : List Str) (g : List Value → List Value → List Value) (gV : List V → List V → List V) : Prop where
  to : ∀ (s : Shared) (us ws : List Value), K.In s.heap → (g us ws).length = ps.length → BindsTo s fd ⟨us, ks.zip ws⟩ (ps.zip (g us ws))
  rel : ∀ {vs : List V} {us : List Value} {zs : List V} {ws : List Value}, Vals vs us → Vals zs ws → Vals (gV vs zs) (g us ws)
def tCallK (sp : Sp) (gV : List V → List V → List V) (E : XK) (t tk : TA) : TE := fun σ H Q => t σ H fun vs H1 => tk σ H1 fun zs H2 => sp (gV vs zs) H2 Q E
variable {g : List Value → List Value → List Value} {gV : List V → List V → List V}
end

/-! ### a def's body keeps its promise -/
/-- names: the parameters first -/
structure FnScope (N P : List Str) (sc : Scope) : Prop where
  kind : sc.kind = .function
  co : sc.isCoroutine = false
  gen : sc.isGenerator = false
  nd : N.Nodup
  pre : N.take P.length = P
  par : ∀ x ∈ P, sc.names.lookup x = some .local ∨ sc.names.lookup x = some .cell
  nofree : ∀ y ∈ sc.names, y.2 ≠ .free

theorem bindL_out {kindOf : Str → Option NameKind} {x : Str} : ∀ {binds : List (Str × Value)} {m : Str → Option Value}, (∀ v, (x, v) ∉ binds) → bindL kindOf binds m x = m x
  | [], _, _ => rfl
  | (n, v) :: r, m, h => by
    unfold bindL
    rw [bindL_out fun w hw => h w (List.mem_cons_of_mem _ hw)]
    split
    · have : x ≠ n := by rintro rfl; exact h v List.mem_cons_self
      simp [this]
    · rfl
theorem bindC_out {kindOf : Str → Option NameKind} {x : Str} : ∀ {binds : List (Str × Value)} {m : Str → Option Value}, (∀ v, (x, v) ∉ binds) → bindC kindOf binds m x = m x
  | [], _, _ => rfl
  | (n, v) :: r, m, h => by
    unfold bindC
    rw [bindC_out fun w hw => h w (List.mem_cons_of_mem _ hw)]
    split
    · rfl
    · have : x ≠ n := by rintro rfl; exact h v List.mem_cons_self
      simp [this]
theorem bindL_get {kindOf : Str → Option NameKind} {x : Str} {v : Value} : ∀ {P : List Str} {vs : List Value} {i : Nat} {m : Str → Option Value}, P.Nodup → P[i]? = some x → vs[i]? = some v → kindOf x = some .local →
    bindL kindOf (P.zip vs) m x = some v
  | [], _, _, _, _, h, _, _ => by simp at h
  | _ :: _, [], _, _, _, _, h, _ => by simp at h
  | p :: P, w :: vs, 0, m, nd, h1, h2, hk => by
    simp at h1 h2; subst h1; subst h2
    show bindL kindOf ((p, w) :: P.zip vs) m p = _
    unfold bindL
    rw [bindL_out fun v hv => (List.nodup_cons.mp nd).1 (List.of_mem_zip hv).1, if_pos hk]
    simp
  | p :: P, w :: vs, i + 1, m, nd, h1, h2, hk => by
    show bindL kindOf ((p, w) :: P.zip vs) m x = _
    unfold bindL
    exact bindL_get (i := i) (List.nodup_cons.mp nd).2 (by simpa using h1) (by simpa using h2) hk
theorem bindC_get {kindOf : Str → Option NameKind} {x : Str} {v : Value} : ∀ {P : List Str} {vs : List Value} {i : Nat} {m : Str → Option Value}, P.Nodup → P[i]? = some x → vs[i]? = some v → kindOf x ≠ some .local →
    bindC kindOf (P.zip vs) m x = some v
  | [], _, _, _, _, h, _, _ => by simp at h
  | _ :: _, [], _, _, _, _, h, _ => by simp at h
  | p :: P, w :: vs, 0, m, nd, h1, h2, hk => by
    simp at h1 h2; subst h1; subst h2
    show bindC kindOf ((p, w) :: P.zip vs) m p = _
    unfold bindC
    rw [bindC_out fun v hv => (List.nodup_cons.mp nd).1 (List.of_mem_zip hv).1, if_neg hk]
    simp
  | p :: P, w :: vs, i + 1, m, nd, h1, h2, hk => by
    show bindC kindOf ((p, w) :: P.zip vs) m x = _
    unfold bindC
    exact bindC_get (i := i) (List.nodup_cons.mp nd).2 (by simpa using h1) (by simpa using h2) hk

/-- the names' values at the entry -/
def start (N : List Str) (vs : List V) : St := vs.map some ++ List.replicate (N.length - vs.length) none

/-- the context of a def's body, at its entry; an exception leaves the frame, then lies as CX says -/
def cxOf (CX : CXT) (P : Program) (w : World) (K : PySem.W.Frag) (mg : Str → Option Value) (base : Heap) (N : List Str) (qual : Str) (scope : Scope) (f : Addr) (cd : Value) (A : Around) (outer : List Env) (s : Shared) (H : Hp) (E : XK) : Cx where
  prog := P
  w := w
  K := K
  mg := mg
  base := base
  A := A.deeper (envOfC qual scope s.heap.objs.size f cd)
  N := N
  s₀ := s
  H₀ := H
  env := envOfC qual scope s.heap.objs.size f cd
  outer := outer
  stack := envOfC qual scope s.heap.objs.size f cd :: outer
  ex := []
  calm := true
  fn := fun _ => true
  pn := []
  xe := fun e s' => wpAny (model P w) (A.deeper (envOfC qual scope s.heap.objs.size f cd)) (leaving (envOfC qual scope s.heap.objs.size f cd) e) (fun _ s'' => CX outer H s E e s'') (fun e' s'' => CX outer H s E e' s'') s'

theorem cell_has {sc : Scope} {n : Nat} {x : Str} (h : sc.names.lookup x = some .cell) : ∃ c, (cellsFrom n sc.names []).lookup x = some c := by
  have q := PySem.W.cellsFrom_some sc.names n [] (.inl h)
  exact Option.isSome_iff_exists.mp q

theorem inv_start {CX : CXT} {P : Program} {w : World} {K : PySem.W.Frag} {mg : Str → Option Value} {base : Heap} {N ps : List Str} {qual : Str} {scope : Scope} {f : Addr} {cd : Value} {A : Around} {outer : List Env} {s s1 : Shared} {H : Hp} {E : XK} {us : List Value} {vs : List V}
    (S : FnScope N ps scope) (hd : A.handled = none) (e0 : Env0 P w K mg base A outer s H) (hl : vs.length = ps.length) (r : Vals vs us)
    (x : InCallC s s.heap.objs.size (bindL (envOfC qual scope s.heap.objs.size f cd).kindOf (ps.zip us) fun _ => none) (cellsFrom (s.heap.objs.size + 1) scope.names []) (bindC (envOfC qual scope s.heap.objs.size f cd).kindOf (ps.zip us) fun _ => none) s1) :
    Inv (cxOf CX P w K mg base N qual scope f cd A outer s H E) [] (start N vs) H s1 := by
  have hpl : ps.length ≤ N.length := by have := congrArg List.length S.pre; rw [List.length_take] at this; omega
  obtain ⟨h1, tk, rfl, hk⟩ := x.done
  have noA : ∀ b : Addr, b ∉ (cxOf CX P w K mg base N qual scope f cd A outer s H E).ex := fun b z => absurd (show b ∈ ([] : List Addr) from z) (by simp)
  refine ⟨⟨e0.mod, S.kind, rfl, rfl, Nat.le_refl _, fun y z c h1 h2 => ?_, fun y hy => ?_, fun y c _ h => ?_, fun _ => hd, Around.frames_deeper e0.frames, .inr ⟨rfl, rfl⟩, fun b z => absurd z (noA b), e0.bs, e0.bsz, fun b _ _ => noA b, fun b z => absurd z (noA b), e0.funs, e0.frf⟩,
    rfl, e0.bare, Un.kept hk, ⟨_, x.toInCall.ns, fun i y v h1 h2 h3 => ?_⟩, fun y c h => ⟨_, x.cell y c h⟩, e0.hok.fresh (Nat.le_refl _), fun y c h => ?_, fun p hp => absurd (show p ∈ ([] : List (Addr × Obj)) from hp) (by simp), e0.hok.kept hk, ?_⟩
  · exact name_of_addr x.apart (PySem.mem_of_lookup h1) (PySem.mem_of_lookup h2)
  · have hy : scope.names.lookup y = some .cell ∨ scope.names.lookup y = some .free := hy
    rcases hy with hy | hy
    · exact cell_has hy
    · exact absurd rfl (S.nofree _ (PySem.mem_of_lookup hy))
  · exact Nat.le_of_lt (x.above y c (PySem.mem_of_lookup h))
  · have hi : i < vs.length := by
      unfold start at h2
      by_cases hi : i < vs.length
      · exact hi
      · rw [List.getElem?_append_right (by simpa using hi)] at h2
        rw [List.getElem?_replicate] at h2
        split at h2 <;> cases h2
    have ha : vs[i]? = some v := by
      unfold start at h2
      rw [List.getElem?_append_left (by simpa using hi), List.getElem?_map] at h2
      cases e : vs[i]? with
      | none => rw [e] at h2; cases h2
      | some a => rw [e] at h2; cases h2; rfl
    obtain ⟨u, hu, rv⟩ := r.get ha
    have hp : ps[i]? = some y := by
      rw [← S.pre, List.getElem?_take_of_lt (by omega)]; exact h1
    have ndP : ps.Nodup := by rw [← S.pre]; exact S.nd.sublist (List.take_sublist _ _)
    refine ⟨u, rv, ?_⟩
    rcases S.par y (List.mem_of_getElem? hp) with k | k
    · exact .inl ⟨k, bindL_get ndP hp hu k⟩
    · obtain ⟨c, e⟩ := cell_has (n := s.heap.objs.size + 1) k
      refine .inr ⟨.inl k, c, e, ?_⟩
      have q := x.cell y c e
      rw [bindC_get ndP hp hu (by show scope.names.lookup y ≠ _; rw [k]; decide)] at q
      exact q
  · exact e0.hok.fresh (Nat.le_of_lt (x.above y c (PySem.mem_of_lookup h)))
  · unfold start
    show _ = N.length
    rw [List.length_append, List.length_map, List.length_replicate]
    omega

/-- THE RULE: a def (or a method) of the text, by its body. The body's reading t is chosen for each entry; it is run at the parameters' values -/
theorem fn_of {CX : CXT} {P : Program} {w : World} {K : PySem.W.Frag} {mg : Str → Option Value} {base : Heap} {k : Nat} {f : Addr} {name qual : Str} {params : Arguments} {body : List Stmt} {scope : Scope} {dV kV doc pm cdv ct oc : Value} {an od : Option Addr}
    {osl : Array (Option Value)} {N ps : List Str} {sp : Sp} (lk : K.lookup f = some ⟨oc, od, .func (PySem.W.fnOf name qual params body scope dV kV doc pm an cdv ct), osl⟩) (hcd : PySem.W.codeIn K cdv qual = true) (S : FnScope N ps scope)
    (len : ∀ vs H Q E, sp vs H Q E → vs.length = ps.length)
    (hbody : ∀ (A : Around) (outer : List Env) (s : Shared) (H : Hp) (vs : List V) (Q : VK) (E : XK), Room k (A.deeper (envOfC qual scope s.heap.objs.size f cdv)) → sp vs H Q E →
      ∃ t, PSs (cxOf CX P w K mg base N qual scope f cdv A outer s H E) body t ∧ t { nx := fun _ H' => Q .non H', rt := Q } (start N vs) H) :
    FnOk P w K mg base CX (k + 1) f (PySem.W.fnOf name qual params body scope dV kV doc pm an cdv ct) ps sp := by
  refine ⟨len, fun A outer s H args us vs Q E hr e0 hb r hsp => ?_⟩
  have hl := len _ _ _ _ hsp
  have KX : K.In s.heap := e0.mod.kin.keeps fun b o e => (e0.bs b o e).1
  have lim : s.heap.NoLimit := e0.mod.nolimit.keeps fun b o e => (e0.bs b o e).1
  have hkind : ∀ y ∈ ps.zip us, scope.names.lookup y.1 = some .local ∨ (scope.names.lookup y.1 = some .cell ∧ ((cellsFrom (s.heap.objs.size + 1) scope.names []).lookup y.1).isSome = true) := fun ⟨n, v⟩ hy => by
    rcases S.par n (List.of_mem_zip hy).1 with q | q
    · exact .inl q
    · exact .inr ⟨q, PySem.W.cellsFrom_some _ _ _ (.inl q)⟩
  refine codeAny_call_function hr.depth (KX _ _ lk) rfl S.co S.gen rfl (PySem.W.codeRec_of KX hcd) (hb _ _ _ _ ?_)
  refine wpAny_newFunctionEnv_cells S.kind hkind fun env he s1 x => ?_
  subst he
  refine ⟨lim.keeps x.toInCall.keep, codeAny_func ?_⟩
  obtain ⟨t, ht, hq⟩ := hbody A outer s H vs Q E (hr.deeper _) hsp
  have I : Inv (cxOf CX P w K mg base N qual scope f cdv A outer s H E) [] (start N vs) H s1 := inv_start S hr.hd e0 hl r x
  refine wpAny_mono (ht [] s1 (start N vs) H _ I hq) (fun fl s' hs => ?_) fun e s' hs => hs
  have fin : ∀ {σ' : St} {H' : Hp} {v : V} {u : Value}, Inv (cxOf CX P w K mg base N qual scope f cdv A outer s H E) [] σ' H' s' → RelV v u → Q v H' → CE outer P w H s Q u s' :=
    fun {σ' H' v u} J rv q => ⟨v, H', J.os, J.bare, J.base, J.hok, rv, q⟩
  cases fl with
  | ret u =>
    obtain ⟨v, σ', H', J, rv, q⟩ := hs
    exact fin J rv q
  | next =>
    obtain ⟨σ', H', J, q⟩ := hs
    exact fin (v := V.non) (u := Value.none) J rfl q
  | brk =>
    obtain ⟨_, _, _, q⟩ := hs
    exact False.elim q
  | cont =>
    obtain ⟨_, _, _, q⟩ := hs
    exact False.elim q
end L2

namespace L2
open PySem PySem.Spec PyProof.Rows
section
variable {X : Cx} {x : Str} {p pos : Pos} {e : Expr} {es : List Expr} {t : TA} {id T : String} {r : List V → Hp → VK → Prop}

def tCB (r : List V → Hp → VK → Prop) (t : TA) : TE := fun σ H Q => t σ H fun vs H1 => r vs H1 Q
/-- f(e, ..), f a built-in function -/
theorem pe_callB (hc : CallR X (.builtin id) r) (hg : Gl X x) (hm : X.mg x = none) (hv : bootBuiltins x = some (.builtin id)) (ha : PA X (e :: es) t) (hn : x ≠ "__name__" := by decide) (hdb : (x == ("__debug__" : Str)) = false := by decide)
    (he : starEach (e :: es) X.env = (false, eval e X.env) :: starEach es X.env := by rfl) (hpl : (backTo pos (starEach es X.env)).any (·.1) = false := by rfl) : PE X (.Call (.Name x p) (e :: es) [] pos) (tCB r t) := by
  refine .mk ?_
  intro pins s σ H Q I h
  refine wpAny_Call_Name_kw (ld_blt I hg hm hv ?_ hn hdb)
  exact PyProof.Rows.callWith_builtin1 (thn (ha pos pins s σ H _ I h) fun us s1 ⟨vs, H1, I1, r1, q1⟩ => hc pins s1 σ H1 vs us Q I1 r1 q1) he hpl
/-- T(e, ..), T a built-in type -/
theorem pe_callTy (hc : CallR X (.type T) r) (hg : Gl X x) (hm : X.mg x = none) (hv : bootBuiltins x = some (.type T)) (ha : PA X (e :: es) t) (hn : x ≠ "__name__" := by decide) (hdb : (x == ("__debug__" : Str)) = false := by decide)
    (he : starEach (e :: es) X.env = (false, eval e X.env) :: starEach es X.env := by rfl) (hpl : (backTo pos (starEach es X.env)).any (·.1) = false := by rfl) : PE X (.Call (.Name x p) (e :: es) [] pos) (tCB r t) := by
  refine .mk ?_
  intro pins s σ H Q I h
  refine wpAny_Call_Name_kw (ld_blt I hg hm hv ?_ hn hdb)
  exact PyProof.Rows.callWith_type1 (thn (ha pos pins s σ H _ I h) fun us s1 ⟨vs, H1, I1, r1, q1⟩ => hc pins s1 σ H1 vs us Q I1 r1 q1) he hpl
end
end L2

namespace HT
open PySem PyProof.Rows

/-- t < u of tuples of ints -/
def lexLt : List Int → List Int → Bool
  | [], [] => false
  | [], _ :: _ => true
  | _ :: _, [] => false
  | x :: xs, y :: ys => if x = y then lexLt xs ys else decide (x < y)
section
open PySem.SeqAt
open PySem.AutoSeq1 (wpAny_loadPart')
open PySem.MeetsSeq PySem.MeetsSeq2 PySem.MeetsSeq3

end

section
variable {prog : Program} {w : World} {A : Around} {E : Value → Shared → Prop} {s : Shared}

/-! ### t[a:b], not the whole -/
/-- a slice's bound as a place among n (d where it is left out) -/
def sIx (n d : Nat) : Option Int → Nat
  | none => d
  | some v => if v < 0 then (v + (n : Int)).toNat else min v.toNat n
end
end HT

namespace L2
open PySem PySem.Spec PyProof.Rows

/-! ### the parts of a slice -/
abbrev TO := St → Hp → (Option Int → Hp → Prop) → Prop
/-- a slice's part (left out, or an int) -/
def PO (X : Cx) (e : Option Expr) (t : TO) : Prop :=
  ∀ (pins : List (Addr × Obj)) (s : Shared) (σ : St) (H : Hp) (Q : Option Int → Hp → Prop), Inv X pins σ H s → t σ H Q →
    wpAny (model X.prog X.w) X.A (evalPart e X.env) (fun u s' => ∃ o H', Inv X pins σ H' s' ∧ IsPart u o ∧ Q o H') X.xe s
def tNoPart : TO := fun _ H Q => Q none H
def tPart (t : TE) : TO := fun σ H Q => t σ H fun x H1 => ∃ i, x = .int i ∧ Q (some i) H1

theorem intsAre_of {ns : List Int} : ∀ {us : List Value}, Vals (ns.map V.int) us → IntsAre us ns := by
  induction ns with
  | nil => intro us r; rw [List.map_nil] at r; cases r; exact .nil
  | cons n ns ih =>
    intro us r
    rw [List.map_cons] at r
    cases r with
    | cons r1 r2 =>
      obtain ⟨t, e⟩ := r1
      subst e
      exact .cons n t (ih r2)

section
variable {X : Cx} {e : Expr} {te : TE} {lo hi : Option Expr} {tl th : TO} {pos p2 : Pos}

/-- what a slice of a value is, by values: the slice object stands at sl -/
def SlR (X : Cx) (r : V → Option Int → Option Int → Hp → VK → Prop) : Prop :=
  ∀ (pins : List (Addr × Obj)) (s : Shared) (σ : St) (H : Hp) (x : V) (v vl vu : Value) (lo hi : Option Int) (sl : Addr) (Q : VK), Inv X pins σ H s → RelV x v → s.heap.IsSliceOf sl vl vu .none → IsPart vl lo → IsPart vu hi → r x lo hi H Q →
    ∃ T id, typeLookup (.type T) "__getitem__" = pure (some (.builtin id)) ∧ s.TypeIs v T ∧ wpAny (model X.prog X.w) X.A (getItem v (.ref sl)) (EP X pins σ Q) X.xe s
def tSl (r : V → Option Int → Option Int → Hp → VK → Prop) (te : TE) (tl th : TO) : TE := fun σ H Q => te σ H fun x H1 => tl σ H1 fun l H2 => th σ H2 fun u H3 => r x l u H3 Q
/-- the items of xs[lo:hi] -/
def cutV (xs : List V) (lo hi : Option Int) : List V := (xs.drop (HT.sIx xs.length 0 lo)).take (HT.sIx xs.length xs.length hi - HT.sIx xs.length 0 lo)
/-- t[lo:hi], not the whole of it (the whole would be t itself) -/
def rSlT (K : PySem.W.Frag) : V → Option Int → Option Int → Hp → VK → Prop := fun x lo hi H Q => ∃ a xs, x = .ref a ∧ SqT K H a xs ∧
  ¬ (HT.sIx xs.length 0 lo = 0 ∧ HT.sIx xs.length xs.length hi = xs.length) ∧ ∀ p, H p = none → Q (.ref p) (upd H p (.tup (cutV xs lo hi)))
/-! ### t < u, t + u -/
def rLtT (K : PySem.W.Frag) : R2 := fun x y H Q => ∃ a b ns ms, x = .ref a ∧ y = .ref b ∧ SqT K H a (ns.map V.int) ∧ SqT K H b (ms.map V.int) ∧ Q (.bl (HT.lexLt ns ms)) H
/-- t + u, t not empty: u empty gives t itself -/
def rCatT (K : PySem.W.Frag) : R2 := fun x y H Q => ∃ a b xs ys, x = .ref a ∧ y = .ref b ∧ SqT K H a xs ∧ SqT K H b ys ∧ xs ≠ [] ∧ xs.length + ys.length ≤ sizeLine ∧
  (ys = [] → Q (.ref a) H) ∧ (ys ≠ [] → ∀ p, H p = none → Q (.ref p) (upd H p (.tup (xs ++ ys))))
end
end L2

namespace L2
open PySem PySem.Spec PyProof.Rows

/-! ### places -/
/-- the place that an index of any sign means -/
def ixN (n : Nat) (i : Int) : Option Nat := if 0 ≤ i then (if i < n then some i.toNat else none) else if -(n : Int) ≤ i then some (i + n).toNat else none
def atI {α : Type} (xs : List α) (i : Int) : Option α := (ixN xs.length i).bind fun j => xs[j]?
theorem ixN_seq {n : Nat} {i : Int} {j : Nat} (h : ixN n i = some j) : seqIndex? i n = some j ∧ j < n ∧ -(n : Int) ≤ i ∧ i < n := by
  unfold ixN at h
  by_cases h0 : 0 ≤ i
  · rw [if_pos h0] at h
    by_cases h1 : i < n
    · rw [if_pos h1] at h
      have e : i.toNat = j := Option.some.inj h
      exact ⟨by rw [seqIndex_of h0 h1, e], by omega, by omega, h1⟩
    · rw [if_neg h1] at h; cases h
  · rw [if_neg h0] at h
    by_cases h1 : -(n : Int) ≤ i
    · rw [if_pos h1] at h
      have e : (i + n).toNat = j := Option.some.inj h
      exact ⟨by rw [seqIndex_neg (by omega) h1, e], by omega, h1, by omega⟩
    · rw [if_neg h1] at h; cases h
theorem atI_get {α : Type} {xs : List α} {i : Int} {v : α} (h : atI xs i = some v) : ∃ j, seqIndex? i xs.length = some j ∧ xs[j]? = some v ∧ j < xs.length ∧ -(xs.length : Int) ≤ i ∧ i < xs.length := by
  unfold atI at h
  cases e : ixN xs.length i with
  | none => rw [e] at h; cases h
  | some j =>
    rw [e] at h
    obtain ⟨h1, h2, h3, h4⟩ := ixN_seq e
    exact ⟨j, h1, h, h2, h3, h4⟩
theorem atI_nat {α : Type} {xs : List α} {j : Nat} {v : α} (h : xs[j]? = some v) : atI xs (j : Int) = some v := by
  have hj : j < xs.length := (List.getElem?_eq_some_iff.mp h).1
  have e : ixN xs.length (j : Int) = some j := by
    unfold ixN
    rw [if_pos (by omega), if_pos (by omega)]; simp
  unfold atI; rw [e]; exact h
/-! ### what may be subscripted -/
/-- what stands as an index of a plain subscript -/
def PlainIx (b : Expr) : Prop := ∀ o i, subscripted b false o i = operate [o, i] (getItem o i)
/-- a subscript by values -/
def IxR (X : Cx) (r : R2) : Prop :=
  ∀ (value slice : Expr) (pins : List (Addr × Obj)) (s : Shared) (σ : St) (H : Hp) (x y : V) (v u : Value) (Q : VK), Inv X pins σ H s → RelV x v → RelV y u → r x y H Q →
    subscripted slice false v u = operate [v, u] (getItem v u) → wpAny (model X.prog X.w) X.A (subscriptTail value slice v u) (EP X pins σ Q) X.xe s
/-- a call of a builtin's method by values: the receiver, the arguments -/
def MtR (X : Cx) (id : String) (r : V → List V → Hp → VK → Prop) : Prop :=
  ∀ (pins : List (Addr × Obj)) (s : Shared) (σ : St) (H : Hp) (x : V) (xs : List V) (v : Value) (us : List Value) (Q : VK), Inv X pins σ H s → RelV x v → Vals xs us → r x xs H Q →
    wpAny (model X.prog X.w) X.A (call (.builtin id) (v :: us)) (EP X pins σ Q) X.xe s
section
variable {X : Cx} {a b : Expr} {ta tb : TE} {pos : Pos}
/-- a[b] -/
theorem pe_ix {r : R2} (hr : IxR X r) (ha : PE X a ta) (hb : PE X b tb) (hs : PlainIx b) : PE X (.Subscript a b pos) (tOp r ta tb) := by
  refine .mk ?_
  intro pins s σ H Q I h
  exact Subscript_ (binT ha hb I h fun v u s2 x y H2 I2 rx ry q => hr a b pins s2 σ H2 x y v u Q I2 rx ry q (hs _ _))

def rIxL (K : PySem.W.Frag) : R2 := fun x y H Q => ∃ p xs i v, x = .ref p ∧ y = .int i ∧ SqL K H p xs ∧ atI xs i = some v ∧ Q v H
def rIxT (K : PySem.W.Frag) : R2 := fun x y H Q => ∃ p xs i v, x = .ref p ∧ y = .int i ∧ SqT K H p xs ∧ atI xs i = some v ∧ Q v H
def rIxS : R2 := fun x y H Q => ∃ z i c, x = .str z ∧ y = .int i ∧ z.length ≤ sizeLine ∧ atI z.cps.toList i = some c ∧ Q (.str ⟨#[c]⟩) H
theorem ix_list : IxR X (rIxL X.K) := by
  intro value slice pins s σ H x y v u Q I rx ry h hs
  obtain ⟨p, xs, i, z, rfl, rfl, hq, he, q⟩ := h
  cases rx
  obtain ⟨t, rfl⟩ := ry
  obtain ⟨its, r, pl, hz⟩ := I.list hq
  obtain ⟨j, h1, h2, h3, h4, h5⟩ := atI_get he
  obtain ⟨w, ew, rw'⟩ := r.get h2
  have hl := r.length
  have hn := line63
  have fin : EP X pins σ Q w s := ⟨z, H, I, rw', q⟩
  by_cases h0 : 0 ≤ i
  · have hj : i.toNat = j := by
      rw [seqIndex_of h0 h5] at h1
      exact Option.some.inj h1
    exact item_listR pl.isList h0 (by omega) (by rw [hj]; simpa using ew) fin hs
  · have hj : (i + (its.toArray.size : Int)).toNat = j := by
      rw [seqIndex_neg (by omega) h4] at h1
      rw [List.size_toArray, ← hl]
      exact Option.some.inj h1
    exact subscriptTail_builtinR (x := w) pl.isList.typeIs slot_list_getitem.lookup
      (wpAny_getItem_list_neg (Q := fun r s' => r = w ∧ EP X pins σ Q r s') pl.isList (by omega) (by rw [List.size_toArray] <;> omega) (by omega) (by rw [hj]; simpa using ew) ⟨rfl, fin⟩) hs
theorem ix_tup : IxR X (rIxT X.K) := by
  intro value slice pins s σ H x y v u Q I rx ry h hs
  obtain ⟨p, xs, i, z, rfl, rfl, hq, he, q⟩ := h
  cases rx
  obtain ⟨t, rfl⟩ := ry
  obtain ⟨its, r, pl, hz⟩ := I.tuple hq
  obtain ⟨j, h1, h2, h3, h4, h5⟩ := atI_get he
  obtain ⟨w, ew, rw'⟩ := r.get h2
  have hl := r.length
  have hn := line63
  have fin : EP X pins σ Q w s := ⟨z, H, I, rw', q⟩
  exact subscriptTail_builtinR (x := w) pl.typeIs slot_tuple_getitem.lookup
    (getItem_tuple (j := j) (Q := fun r s' => r = w ∧ EP X pins σ Q r s') pl (by omega) (by omega) (by rw [List.size_toArray, ← hl]; exact h1) (by simpa using ew) ⟨rfl, fin⟩) hs
/-- list, tuple or str -/
def rIx (K : PySem.W.Frag) : R2 := fun x y H Q => rIxL K x y H Q ∨ rIxT K x y H Q ∨ rIxS x y H Q
/-! ### xs[i] = v, any sign -/
def rSetL : V → V → V → Hp → (Hp → Prop) → Prop := fun o i v H Q => ∃ p xs k j, o = .ref p ∧ i = .int k ∧ H p = some (.lst xs) ∧ ixN xs.length k = some j ∧ Q (upd H p (.lst (xs.set j v)))
/-! ### slices -/
/-- xs[lo:hi] of a list: a new list -/
def rSlL (K : PySem.W.Frag) : V → Option Int → Option Int → Hp → VK → Prop := fun x lo hi H Q => ∃ a xs, x = .ref a ∧ SqL K H a xs ∧ ∀ p, H p = none → Q (.ref p) (upd H p (.lst (cutV xs lo hi)))
/-! ### in, not in: flat items -/
def flatV : V → Bool
  | .non => true
  | .bl _ => true
  | .int _ => true
  | .str _ => true
  | _ => false
/-- == of flat values -/
def eqV : V → V → Bool
  | .non, .non => true
  | .bl a, .bl b => a == b
  | .bl a, .int b => (if a then 1 else 0) == b
  | .int a, .bl b => a == (if b then 1 else 0)
  | .int a, .int b => a == b
  | .str a, .str b => a == b
  | _, _ => false
theorem eqAt_V {A : Around} {s : Shared} {y x : V} {u v : Value} (ry : RelV y u) (rx : RelV x v) (fy : flatV y = true) (fx : flatV x = true) : SeqAt.EqAt A s u v (eqV y x) := by
  cases y with
  | non =>
    cases ry
    cases x with
    | non => cases rx; exact SeqAt.EqAt.same _
    | bl b => cases rx; exact SeqAt.EqAt.none_bool b
    | int b => obtain ⟨t, rfl⟩ := rx; exact SeqAt.EqAt.none_int b t
    | str b => obtain ⟨t, rfl⟩ := rx; exact SeqAt.EqAt.none_str b t
    | _ => exact absurd (show false = true from fx) Bool.false_ne_true
  | bl a =>
    cases ry
    cases x with
    | non => cases rx; exact SeqAt.EqAt.bool_none a
    | bl b => cases rx; exact SeqAt.EqAt.bool_bool a b
    | int b => obtain ⟨t, rfl⟩ := rx; exact SeqAt.EqAt.bool_int a b t
    | str b => obtain ⟨t, rfl⟩ := rx; exact SeqAt.EqAt.bool_str a b t
    | _ => exact absurd (show false = true from fx) Bool.false_ne_true
  | int a =>
    obtain ⟨t', rfl⟩ := ry
    cases x with
    | non => cases rx; exact SeqAt.EqAt.int_none a t'
    | bl b => cases rx; exact SeqAt.EqAt.int_bool a t' b
    | int b => obtain ⟨t, rfl⟩ := rx; exact SeqAt.EqAt.int_int a t' b t
    | str b => obtain ⟨t, rfl⟩ := rx; exact SeqAt.EqAt.int_str a t' b t
    | _ => exact absurd (show false = true from fx) Bool.false_ne_true
  | str a =>
    obtain ⟨t', rfl⟩ := ry
    cases x with
    | non => cases rx; exact SeqAt.EqAt.str_none a t'
    | bl b => cases rx; exact SeqAt.EqAt.str_bool a t' b
    | int b => obtain ⟨t, rfl⟩ := rx; exact SeqAt.EqAt.str_int a t' b t
    | str b => obtain ⟨t, rfl⟩ := rx; exact SeqAt.EqAt.str_str a t' b t
    | _ => exact absurd (show false = true from fx) Bool.false_ne_true
  | _ => exact absurd (show false = true from fy) Bool.false_ne_true
/-- the items' answers, read off the values (a value's own answer does not lean on its token) -/
def eqU (x : V) (u : Value) : Bool := match u with
  | .none => eqV .non x
  | .bool b => eqV (.bl b) x
  | .int i _ => eqV (.int i) x
  | .str z _ => eqV (.str z) x
  | _ => false
theorem eqU_of {x y : V} {u : Value} (r : RelV y u) (f : flatV y = true) : eqU x u = eqV y x := by
  cases y with
  | non => cases r; rfl
  | bl b => cases r; rfl
  | int i => obtain ⟨t, rfl⟩ := r; rfl
  | str z => obtain ⟨t, rfl⟩ := r; rfl
  | _ => exact absurd (show false = true from f) Bool.false_ne_true
theorem mem_eqAt {A : Around} {s : Shared} {x : V} {v : Value} (rx : RelV x v) (fx : flatV x = true) : ∀ {xs : List V} {us : List Value}, Vals xs us → xs.all flatV = true → ∀ u ∈ us, SeqAt.EqAt A s u v (eqU x u)
  | _, _, .nil, _ => fun u hu => by cases hu
  | y :: xs, u :: us, .cons r t, f => fun u' hu => by
    rw [List.all_cons, Bool.and_eq_true] at f
    rcases List.mem_cons.mp hu with rfl | hu
    · rw [eqU_of r f.1]; exact eqAt_V r rx f.1 fx
    · exact mem_eqAt rx fx t f.2 u' hu
def inV (x : V) (xs : List V) : Bool := xs.any fun y => eqV y x
/-- x in a list or tuple of flat items -/
def rIn (K : PySem.W.Frag) (neg : Bool) : R2 := fun x y H Q => ∃ p xs, y = .ref p ∧ (SqL K H p xs ∨ SqT K H p xs) ∧ flatV x = true ∧ xs.all flatV = true ∧ Q (.bl (if neg then !inV x xs else inV x xs)) H
/-! ### len, list(x), tuple(x) of any list or tuple that is read -/
theorem call_len_seq : CallR X (.builtin "len") (fun xs H Q => ∃ p ys, xs = [.ref p] ∧ (SqL X.K H p ys ∨ SqT X.K H p ys) ∧ Q (.int ys.length) H) := by
  intro pins s σ H xs us Q I r h
  obtain ⟨p, ys, rfl, hq, q⟩ := h
  obtain ⟨u, rfl, rx⟩ := vals1 r
  cases rx
  have hn := line63
  rcases hq with hq | hq
  · obtain ⟨its, r', pl, hz⟩ := I.list hq
    have hlen := r'.length
    exact Calls.call_len_list pl.isList (by simp only [List.size_toArray] <;> omega) ⟨.int ys.length, H, I.tok _, ⟨s.toks + 1, by rw [List.size_toArray, hlen]⟩, q⟩
  · obtain ⟨its, r', pl, hz⟩ := I.tuple hq
    have hlen := r'.length
    exact len_tuple pl (by simp only [List.size_toArray] <;> omega) ⟨.int ys.length, H, I.tok _, ⟨s.toks + 1, by rw [List.size_toArray, hlen]⟩, q⟩
theorem call_list_of : CallR X (.type "list") (fun xs H Q => ∃ p ys, xs = [.ref p] ∧ (SqL X.K H p ys ∨ SqT X.K H p ys) ∧ ∀ l, H l = none → Q (.ref l) (upd H l (.lst ys))) := by
  intro pins s σ H xs us Q I r h
  obtain ⟨p, ys, rfl, hq, q⟩ := h
  obtain ⟨u, rfl, rx⟩ := vals1 r
  cases rx
  have fin : ∀ (its : List Value), Vals ys its → ys.length ≤ sizeLine → ∀ (h' : Heap) (c' : Nat), (∀ b o', s.heap.get? b = some o' → h'.get? b = some o') →
      h'.get? s.heap.objs.size = some { cls := .type "list", dict := none, data := .seq its.toArray c', slots := #[] } → EP X pins σ Q (.ref s.heap.objs.size) { s with heap := h' } := fun its r' hz h' c' kp e =>
    ⟨.ref s.heap.objs.size, _, I.laid (t' := s.toks) kp (Nat.le_refl _) (show ObjOk X.prog X.w _ h' _ (.lst ys) from ⟨hz, its, c', r', e⟩), rfl, q _ (I.hok.fresh (Nat.le_refl _))⟩
  rcases hq with hq | hq
  · obtain ⟨its, r', pl, hz⟩ := I.list hq
    have hlen := r'.length
    obtain ⟨o, ho, hc, n, hd⟩ := pl.isList
    exact call_list_seq p (.inl rfl) ho hc hd (fun h' c' kp e => fin its r' hz h' c' kp e) (by simp only [List.size_toArray] <;> omega)
  · obtain ⟨its, r', pl, hz⟩ := I.tuple hq
    have hlen := r'.length
    obtain ⟨o, ho, hc, n, hd⟩ := pl
    exact call_list_seq p (.inr rfl) ho hc hd (fun h' c' kp e => fin its r' hz h' c' kp e) (by simp only [List.size_toArray] <;> omega)
/-! ### the call of a builtin's method: o.m(..) -/
/-- the value is of that builtin type -/
def tyV (K : PySem.W.Frag) (T : String) (x : V) (H : Hp) : Prop := match x with
  | .str _ => T = "str"
  | .int _ => T = "int"
  | .ref p => (T = "list" ∧ ∃ xs, SqL K H p xs) ∨ (T = "tuple" ∧ ∃ o, K.lookup p = some o ∧ o.cls = .type "tuple" ∧ o.dict = none) ∨
      (T = "dict" ∧ ((∃ kvs, H p = some (.dK kvs)) ∨ ∃ kvs, H p = some (.dT kvs))) ∨ (T = "set" ∧ ∃ S n, H p = some (.set S n))
  | _ => False
theorem tyV_is {pins : List (Addr × Obj)} {σ : St} {H : Hp} {s : Shared} {T : String} {x : V} {v : Value} (I : Inv X pins σ H s) (r : RelV x v) (ty : tyV X.K T x H) :
    s.TypeIs v T ∧ ∀ a, v = .ref a → ∃ ob, s.heap.get? a = some ob ∧ ob.dict = none := by
  cases x with
  | str z =>
    obtain ⟨t, rfl⟩ := r
    cases (show T = "str" from ty)
    exact ⟨typeIs_str s z t, fun _ e => nomatch e⟩
  | int i =>
    obtain ⟨t, rfl⟩ := r
    cases (show T = "int" from ty)
    exact ⟨typeIs_int s i t, fun _ e => nomatch e⟩
  | ref p =>
    cases r
    rcases ty with ⟨rfl, xs, hq⟩ | ⟨rfl, o, hk, hc, hd⟩ | ⟨rfl, hk⟩ | ⟨rfl, S, n, hk⟩
    · obtain ⟨its, _, pl, _⟩ := I.list hq
      refine ⟨pl.isList.typeIs, fun a e => ?_⟩
      cases e
      obtain ⟨o, n, e, c, hd, _⟩ := pl
      exact ⟨o, e, hd⟩
    · refine ⟨⟨o, I.kIn p o hk, hc⟩, fun a e => ?_⟩
      cases e
      exact ⟨o, I.kIn _ o hk, hd⟩
    · have z : ∃ o, s.heap.get? p = some o ∧ o.ExactDict := by
        rcases hk with ⟨kvs, hk⟩ | ⟨kvs, hk⟩
        · obtain ⟨_, _, _, _, o, _, _, e, ex, _⟩ := I.hok p _ hk
          exact ⟨o, e, ex⟩
        · obtain ⟨_, _, _, _, o, _, _, e, ex, _⟩ := I.hok p _ hk
          exact ⟨o, e, ex⟩
      obtain ⟨o, e, ex⟩ := z
      refine ⟨⟨o, e, ex.1⟩, fun a e2 => ?_⟩
      cases e2
      exact ⟨o, e, ex.2.1⟩
    · obtain ⟨o, _, _, _, e, ex, _⟩ := I.hok p _ hk
      refine ⟨⟨o, e, ex.1⟩, fun a e2 => ?_⟩
      cases e2
      exact ⟨o, e, ex.2.1⟩
  | _ => exact False.elim ty
def tBM0 (K : PySem.W.Frag) (T : String) (r : V → List V → Hp → VK → Prop) (to : TE) : TE := fun σ H Q => to σ H fun x H1 => tyV K T x H1 ∧ r x [] H1 Q
def tBM (K : PySem.W.Frag) (T : String) (r : V → List V → Hp → VK → Prop) (to : TE) (t : TA) : TE := fun σ H Q => to σ H fun x H1 => tyV K T x H1 ∧ t σ H1 fun xs H2 => r x xs H2 Q
variable {o e : Expr} {es : List Expr} {to : TE} {t : TA} {name : Str} {apos cpos : Pos} {T id : String} {r : V → List V → Hp → VK → Prop}
theorem pe_bm (pa : PlainAttrs T) (slot : Slot T name id) (hty : typeOf (.builtin id) = pure (.type "method_descriptor")) (hm : MtR X id r) (ho : PE X o to) (ha : PA X (e :: es) t)
    (hbase : attributeBase o name X.env (eval o X.env) = eval o X.env := by rfl)
    (hfew : ((backTo cpos (starEach (e :: es) X.env)).all (fun x => !x.1) && (backToKw cpos (keywordEach [] X.env)).all (fun x => x.1.isSome)
      && decide ((e :: es).length + ([] : List Keyword).length + (if ([] : List Keyword).isEmpty then 0 else 1) < 30)) = true := by rfl)
    (hline : (apos.endLine == cpos.line) = true := by rfl) (hs : starEach (e :: es) X.env = (false, eval e X.env) :: starEach es X.env := by rfl) (hplain : (backTo cpos (starEach es X.env)).any (·.1) = false := by rfl) :
    PE X (.Call (.Attribute o name apos) (e :: es) [] cpos) (tBM X.K T r to t) := by
  refine .mk ?_
  intro pins s σ H Q I h
  refine wpAny_Call_method_late hbase hfew hline rfl (thn (ho pins s σ H _ I h) fun v s1 ⟨x, H1, I1, r1, ty, q1⟩ => ?_)
  obtain ⟨h1, h2⟩ := tyV_is I1 r1 ty
  refine ⟨T, id, pa, slot, hty, h1, h2, ?_⟩
  have hA := ha cpos pins s1 σ H1 _ I1 q1
  rw [hs] at hA ⊢
  refine Calls.callWith_builtin (by show (false || (backTo cpos (starEach es X.env)).any (·.1)) = false; rw [hplain] <;> rfl) (Calls.evalArgs_plain ?_)
  exact thn hA fun us s2 ⟨vs, H2, I2, r2, q2⟩ => hm pins s2 σ H2 x vs v us Q I2 r1 r2 q2
/- xs.append(e), list.index on a module's tuple .. are MtR facts of 06m -/
end
end L2

namespace L2
open PySem PySem.Spec PyProof.Rows

def MtM (X : Cx) (id : String) (r : V → List V → Hp → VK → Prop) : Prop :=
  ∀ (pins : List (Addr × Obj)) (s : Shared) (σ : St) (H : Hp) (x : V) (xs : List V) (v : Value) (us : List Value) (Q : VK), Inv X pins σ H s → RelV x v → Vals xs us → r x xs H Q →
    wpAny (model X.prog X.w) X.A (call (.builtin id) (v :: us)) (EP X pins σ Q) X.xe s

/-! ### lists of values -/
theorem Vals.one : ∀ {x : V} {us : List Value}, Vals [x] us → ∃ u, us = [u] ∧ RelV x u
  | _, _, .cons r .nil => ⟨_, rfl, r⟩
theorem Vals.rep {xs : List V} {us : List Value} (h : Vals xs us) : ∀ k : Nat, Vals (List.replicate k xs).flatten (List.replicate k us).flatten
  | 0 => .nil
  | k + 1 => by
    rw [List.replicate_succ, List.replicate_succ, List.flatten_cons, List.flatten_cons]
    exact Vals.append h (Vals.rep h k)
theorem foldl_rep (its : List Value) : ∀ (k : Nat) (acc : List Value),
    List.foldl (fun x1 x2 => x1 ++ x2) acc.toArray (List.replicate k its.toArray) = (acc ++ (List.replicate k its).flatten).toArray
  | 0, acc => by simp
  | k + 1, acc => by
    have e : acc.toArray ++ its.toArray = (acc ++ its).toArray := by simp
    have e2 : (acc ++ its) ++ (List.replicate k its).flatten = acc ++ (List.replicate (k + 1) its).flatten := by
      rw [List.replicate_succ, List.flatten_cons, List.append_assoc]
    rw [← e2, ← foldl_rep its k (acc ++ its), ← e, List.replicate_succ, List.foldl_cons]

section
variable {X : Cx} {pins : List (Addr × Obj)} {σ : St} {H : Hp} {s : Shared} {l b : Addr} {xs ys zs : List V}

/-! ### the two steps: a tracked list is rewritten, a new list is laid -/
theorem Inv.lset {its its' : List Value} {n : Nat} {f : Array Value → Array Value} {t' : Nat} (I : Inv X pins σ H s) (hH : H l = some (.lst xs))
    (e : s.heap.get? l = some { cls := .type "list", data := .seq its.toArray n }) (hf : f its.toArray = its'.toArray) (hv : Vals ys its') (hz : ys.length ≤ sizeLine) :
    Inv X pins σ (upd H l (.lst ys)) { s with heap := s.heap.update l (Obj.mapSeq f), toks := t' } := by
  have q := PySem.IsL.update e f
  rw [hf] at q
  refine I.write (x := l) (e := l) (by rw [hH]; exact trivial) (.inl rfl) (fun b' u hb hu => (Heap.get?_update_other s.heap (Obj.mapSeq f) (Ne.symm hb)).trans hu) ⟨_, q⟩ ?_
  exact ⟨hz, its', _, hv, q⟩
theorem Inv.lnew {its : List Value} {t' : Nat} (I : Inv X pins σ H s) (hv : Vals ys its) (hz : ys.length ≤ sizeLine) :
    Inv X pins σ (upd H s.heap.objs.size (.lst ys)) { s with heap := s.heap.push { cls := .type "list", data := .seq its.toArray }, toks := t' } :=
  I.laid (fun _ _ q => Heap.get?_push_of_some _ q) (Nat.le_refl _) ⟨hz, its, 0, hv, Heap.get?_push_size _ rfl⟩
theorem Inv.fresh (I : Inv X pins σ H s) : H s.heap.objs.size = none := I.hok.fresh (Nat.le_refl _)
theorem Inv.lstM (I : Inv X pins σ H s) (hH : H l = some (.lst xs)) : xs.length ≤ sizeLine ∧ ∃ (its : List Value) (n : Nat), Vals xs its ∧ xs.length = its.length ∧ s.heap.get? l = some { cls := .type "list", data := .seq its.toArray n } := by
  obtain ⟨z, its, n, r, e⟩ := I.hok l _ hH
  exact ⟨z, its, n, r, r.length, e⟩

theorem notLongL {n : Nat} (h : n ≤ sizeLine) : Builtin.List.listTooLong n = false := by
  unfold Builtin.List.listTooLong
  exact decide_eq_false (by omega)
end

section
variable {X : Cx}

/-! ### methods -/
def rAppend : V → List V → Hp → VK → Prop := fun x vs H Q => ∃ l xs y, x = .ref l ∧ vs = [y] ∧ H l = some (.lst xs) ∧ xs.length < sizeLine ∧ Q .non (upd H l (.lst (xs ++ [y])))
theorem mt_append : MtM X "list.append" rAppend := by
  intro pins s σ H x vs v us Q I rx rv h
  obtain ⟨l, xs, y, rfl, rfl, hH, hz, q⟩ := h
  cases rx
  obtain ⟨u, rfl, ru⟩ := rv.one
  obtain ⟨z, its, n, r, hl, e⟩ := I.lstM hH
  refine call_meets F.slot_list_append ⟨_, e, rfl⟩ F.entry_list_append (F.args_list_append_2 _ _) (PySem.list_append l its.toArray n u (by rw [List.size_toArray]; omega)) ⟨e, ?_⟩
  refine ⟨.non, _, I.lset (its' := its ++ [u]) hH e (by simp) (r.append (.cons ru .nil)) ?_, rfl, q⟩
  rw [List.length_append, List.length_singleton]
  omega

def rExtend : V → List V → Hp → VK → Prop := fun x vs H Q => ∃ l b xs zs, x = .ref l ∧ vs = [.ref b] ∧ H l = some (.lst xs) ∧ H b = some (.lst zs) ∧ xs.length + zs.length ≤ sizeLine ∧ Q .non (upd H l (.lst (xs ++ zs)))
def rPop : V → List V → Hp → VK → Prop := fun x vs H Q => ∃ l xs y, x = .ref l ∧ vs = [] ∧ H l = some (.lst xs) ∧ xs[xs.length - 1]? = some y ∧ Q y (upd H l (.lst xs.dropLast))
def rPopAt : V → List V → Hp → VK → Prop := fun x vs H Q => ∃ l xs i k y, x = .ref l ∧ vs = [.int i] ∧ H l = some (.lst xs) ∧ -(2 ^ 63) ≤ i ∧ i < 2 ^ 63 ∧ seqIndex? i xs.length = some k ∧ xs[k]? = some y ∧ Q y (upd H l (.lst (xs.eraseIdx k)))
def rReverse : V → List V → Hp → VK → Prop := fun x vs H Q => ∃ l xs, x = .ref l ∧ vs = [] ∧ H l = some (.lst xs) ∧ Q .non (upd H l (.lst xs.reverse))
def rClear : V → List V → Hp → VK → Prop := fun x vs H Q => ∃ l xs, x = .ref l ∧ vs = [] ∧ H l = some (.lst xs) ∧ Q .non (upd H l (.lst []))
/-! ### list + list, list += list, list * int -/
def rCat : R2 := fun x y H Q => ∃ l b xs zs, x = .ref l ∧ y = .ref b ∧ H l = some (.lst xs) ∧ H b = some (.lst zs) ∧ xs.length + zs.length ≤ sizeLine ∧ ∀ p, H p = none → Q (.ref p) (upd H p (.lst (xs ++ zs)))
theorem op_cat : OpR X (binaryOp .Add) rCat := by
  intro pins s σ H x y v u Q I rx ry h
  obtain ⟨l, b, xs, zs, rfl, rfl, hH, hB, hz, q⟩ := h
  cases rx
  cases ry
  obtain ⟨z, its, n, r, hl, e⟩ := I.lstM hH
  obtain ⟨z2, its2, n2, r2, hl2, e2⟩ := I.lstM hB
  refine PySem.P.add_list e e2 ?_ (by rw [List.size_toArray, List.size_toArray]; omega)
  have ea : its.toArray ++ its2.toArray = (its ++ its2).toArray := by simp
  rw [ea]
  exact ⟨.ref _, _, I.lnew (t' := s.toks) (r.append r2) (by rw [List.length_append]; omega), rfl, q _ I.fresh⟩
/-- a list times an int (a negative one is nothing) -/
def rRep : R2 := fun x y H Q => ∃ l k xs, x = .ref l ∧ y = .int k ∧ H l = some (.lst xs) ∧ -(2 ^ 63) ≤ k ∧ k < 2 ^ 63 ∧ xs.length * k.toNat ≤ sizeLine ∧
  ∀ p, H p = none → Q (.ref p) (upd H p (.lst (List.replicate k.toNat xs).flatten))
theorem len_rep {α : Type} (xs : List α) (k : Nat) : (List.replicate k xs).flatten.length = k * xs.length := by
  induction k with
  | zero => simp
  | succ k ih => rw [List.replicate_succ, List.flatten_cons, List.length_append, ih, Nat.succ_mul, Nat.add_comm]
theorem op_rep : OpR X (binaryOp .Mult) rRep := by
  intro pins s σ H x y v u Q I rx ry h
  obtain ⟨l, k, xs, rfl, rfl, hH, h1, h2, hz, q⟩ := h
  cases rx
  obtain ⟨t, rfl⟩ := ry
  obtain ⟨z, its, n, r, hl, e⟩ := I.lstM hH
  have hlen : its.toArray.size * k.toNat ≤ sizeLine := by rw [List.size_toArray, ← hl]; exact hz
  have hcap : ¬ its.toArray.size * k.toNat > (2 ^ 63 - 1) / 8 := by
    have : (sizeLine : Nat) ≤ (2 ^ 63 - 1) / 8 := by decide
    omega
  have hfit : ¬ (!Builtin.List.listFitsIndex k) = true := by
    rw [fitsIndex_both h1 h2]
    exact Bool.false_ne_true
  have hlong : ¬ Builtin.List.listTooLong (its.toArray.size * k.toNat) = true := by
    rw [notLongL hlen]
    exact Bool.false_ne_true
  have hnew : List.foldl (fun x1 x2 => x1 ++ x2) #[] (List.replicate (if its.toArray.isEmpty = true then 0 else k.toNat) its.toArray) = (List.replicate k.toNat its).flatten.toArray := by
    have f0 : ∀ m : Nat, List.foldl (fun x1 x2 => x1 ++ x2) #[] (List.replicate m its.toArray) = (List.replicate m its).flatten.toArray := fun m => by
      have := foldl_rep its m []
      rw [List.nil_append] at this
      exact this
    rw [f0]
    cases its with
    | nil => simp
    | cons a r' => rw [if_neg (by simp)]
  refine wpAny_binaryOp_repeat_ref (T := "list") (U := "int") (by decide) ⟨_, e, rfl⟩ (fun s' => typeIs_int s' k t) noFill_list_mul F.fills_int_mul F.slot_int_rmul repeat_list F.slot_int_index.lookup
    (call_meets F.slot_int_rmul (typeIs_int s k t) F.entry_int_rmul (F.args_int_rmul_2 _ _) (int___rmul___int_list k t l its.toArray n)
      ⟨e, rfl, ⟨_, e, rfl⟩, call_meets F.slot_list_mul ⟨_, e, rfl⟩ F.entry_list_mul (F.args_list_mul_2 _ _) (AutoListH.list___mul___list_int_3 l its.toArray n k t hfit hcap hlong) ⟨e, ?_⟩⟩)
  rw [hnew]
  exact ⟨.ref _, _, I.lnew (t' := s.toks) (r.rep k.toNat) (by rw [len_rep, Nat.mul_comm]; exact hz), rfl, q _ I.fresh⟩

/-! ### del xs[i] -/
end

/-! ### xs[a:b] = ys -/
section
variable {prog : Program} {w : World} {A : Around} {E : Value → Shared → Prop} {s : Shared}
set_option maxRecDepth 100000 in
end

section
variable {X : Cx}
end
end L2

namespace Att
open PySem PySem.W PySem.Calls PyProof.Rows

/-! ### the script -/
theorem ints_of_wellAll {P : Params} {h : Heap} : ∀ (ns : List Int) (vs : List Value), WellAll P h vs (ns.map WData.int) → IntsAre vs ns := by
  intro ns
  induction ns with
  | nil =>
    intro vs w
    rw [List.map_nil] at w
    cases w
    exact .nil
  | cons n ns ih =>
    intro vs w
    rw [List.map_cons] at w
    cases w with
    | cons a b =>
      cases a
      exact .cons _ _ (ih _ b)

theorem script_of {l : OpenLaw} {n : Nat} (hn : l.most = some n) {P : Params} {h : Heap} {args : List WData} {vals : List Value}
    (hpre : l.row.toRowW.claim.pre args = true) (hwl : WellAll P h vals args) :
    ∃ a vs ns, vals = [Value.ref a] ∧ args = [WData.list (ns.map WData.int)] ∧ h.get? a = some { cls := .type "list", data := .seq vs.toArray } ∧ IntsAre vs ns ∧ ns.length ≤ n := by
  have hsh : WShape.hasAll [] args [.list .int] = true := (pre_splitW hpre).1
  have hc : l.pre.holds [] { args := args } = true := (pre_splitW hpre).2
  obtain ⟨d, r, rfl, h1, h2⟩ := hasAllW_cons hsh
  obtain rfl := hasAllW_nil h2
  obtain ⟨xs, rfl, h3⟩ := hasW_list h1
  obtain ⟨ns, rfl⟩ := items_int h3
  have hlen : ns.length ≤ n := by
    unfold OpenLaw.pre at hc
    have h4 : (WTm.not (.lt (.lit (.int (n : Int))) (.len (.arg 0)))).holds [] { args := [.list (ns.map .int)] } = true := by
      have h4 := (holds_andW hc).1
      rw [hn] at h4
      exact h4
    have h5 := condW_of h4 (w_not (w_lt w_lit (w_len_list (w_arg rfl))))
    rw [List.length_map] at h5
    refine Nat.le_of_not_lt fun q => ?_
    have q' : (n : Int) < ((ns.length : Nat) : Int) := by omega
    first
      | (rw [decide_eq_true q'] at h5; exact absurd h5 (by decide))
      | (simp at h5; omega)
  cases hwl with
  | cons w1 w2 =>
    cases w2
    cases w1 with
    | list ho hall => exact ⟨_, _, ns, rfl, rfl, ho, ints_of_wellAll ns _ hall, hlen⟩

theorem post_true (l : OpenLaw) (args : List WData) : l.row.toRowW.claim.post args (.bool true) args = true :=
  postW_of (r := l.row.toRowW) (X := (true == true))
    (show WShape.has [] (.bool true) .bool = true by first | rfl | decide | simp [WShape.has, WShape.arms, WShape.armsAll])
    (show (WTm.eq .res (.lit (.bool true))).value [] { args := args, res := some (.bool true), after := args } = some (.bool (true == true)) from w_eq_bool (w_res rfl) w_lit) rfl

/-! ### the attachment: holds_open's last premise (the goal 'hc' behind k_head) from a wpAny of the law's body -/
/-- the same from a codeAny of the CALL (for a layer whose function contracts speak of calls) -/
theorem attach_call {l : OpenLaw} {n : Nat} {q : Program} {loose : List Str} {XP : (Str → Option Value) → Heap → Prop} {YP : World → Heap → Prop} {d : DefRec}
    (hn : l.most = some n) (hdf : d.params.defaults = [])
    (call : ∀ (w : World) (s₀ s₁ : Shared) (mg mb : Str → Option Value) (fa : Addr) (o : Obj) (pm cd doc : Value) (a : Addr) (vs : List Value) (ns : List Int),
      Ground q loose [] XP w s₀ mg mb s₁.heap → YP w s₁.heap →
      s₁.heap.get? fa = some o → o.data = .func (docDef d.name d.params d.body d.scope pm cd doc) → s₁.heap.CodeRec cd d.name → mg d.name = some (.ref fa) →
      s₁.heap.get? a = some { cls := .type "list", data := .seq vs.toArray } → IntsAre vs ns → ns.length ≤ n → s₁.gens = #[] →
      codeAny (model l.prog w) callerA (.call (.ref fa) ⟨[.ref a], []⟩) (fun r s' => r = .ok (.ret (.bool true)) ∧ OldK s₁.heap s'.heap ∧ s'.os = s₁.os ∧ AllBare s'.gens) s₁) :
    WalkO q loose XP YP l.row.toRowW d [] (fun f vs => PySem.call f vs) := by
  intro w s₀ s₁ mg mb G Y fa o pm cd doc dV kV ho hd hcd hD hmg hg args vals as hpre hlay hrd hwl hlo
  obtain rfl : dV = .none := Dflts.none hD hdf
  obtain rfl : kV = .none := Dflts.noKw hD
  obtain ⟨a, vs, ns, rfl, rfl, hobj, hints, hlen⟩ := script_of hn hpre hwl
  refine enter_call (codeAny_mono (call w s₀ s₁ mg mb fa o pm cd doc a vs ns G Y ho (fd_plain hd) hcd hmg hobj hints hlen hg) fun r s' hq => ?_)
  obtain ⟨rfl, h2, h3, h4⟩ := hq
  exact ⟨.inl ⟨.bool true, .bool true, [], rfl, fun _ => rfl, .bool true, post_true l _, fun _ => ⟨List.Pairwise.nil, fun _ hm => (nomatch hm)⟩⟩, h2, h3, h4⟩

/-! ### rules over ANY heap (no ledger) from facts about the written part K: the library's own take a ledger (News) for what they write -/
section
variable {prog : Program} {w : World} {A : Around} {E : Value → Shared → Prop} {s : Shared} {K : Frag}

/-! the whole heap as the ledger: makes every rule that writes through a ledger a rule over any heap -/
def noObjs (h : Heap) : Heap := { h with objs := #[] }
def ledger (h : Heap) (L d : Addr) : List (Addr × Obj) := (List.range h.objs.size).filterMap fun a => if a = L ∨ a = d then none else (h.get? a).map fun o => (a, o)
end
end Att

namespace L2
open PySem PySem.Spec PyProof.Rows

theorem vals_ints : ∀ {vs : List Value} {ns : List Int}, IntsAre vs ns → Vals (ns.map V.int) vs
  | _, _, .nil => .nil
  | _, _, .cons n t h => .cons ⟨t, rfl⟩ (vals_ints h)

/-- nothing is tracked but the script, known to the object (or it is an object of the module) -/
def Only (H : Hp) : Prop := ∀ b, H b = none ∨ ∃ o xs, H b = some (.frz o (.lst xs))

/-- THE HEAD: the law's promise, at the heap behind the top. F, the promise of the law's def, may use that base is part of the heap (so K.In base, base.Ns mainGlobals mg stand in Mod) -/
theorem law_call {P : Program} {w : World} {K : PySem.W.Frag} {mg mb : Str → Option Value} {CX : CXT} {k : Nat} {fa a : Addr} {fd : FuncData} {x : Str} {sp : Sp} {s₁ : Shared} {vs : List Value} {ns : List Int}
    (KX : K.In s₁.heap) (hns : s₁.heap.Ns mainGlobals mg) (hb : s₁.heap.Ns builtinsNs mb) (hbb : ∀ x : Str, x ≠ "__name__" → mb x = bootBuiltins x) (hlim : s₁.heap.NoLimit) (hg : s₁.gens = #[])
    (ha : s₁.heap.get? a = some { cls := .type "list", data := .seq vs.toArray }) (hi : IntsAre vs ns) (hl : ns.length ≤ sizeLine) (hr : Room k callerA)
    (F : ∀ base : Heap, K.In base → base.Ns mainGlobals mg → FnOk P w K mg base CX k fa fd [x] sp) (hbind : ∀ (s : Shared) (u : Value), BindsTo s fd ⟨[u], []⟩ [(x, u)])
    (hsp : ∀ H : Hp, Only H → SqL K H a (ns.map V.int) → sp [.ref a] H (fun v _ => v = .bl true) fun _ _ _ => False)
    (hCX : ∀ H e s', CX [] H s₁ (fun _ _ _ => False) e s' → False) :
    codeAny (model P w) callerA (.call (.ref fa) ⟨[.ref a], []⟩) (fun r s' => r = .ok (.ret (.bool true)) ∧ OldK s₁.heap s'.heap ∧ s'.os = s₁.os ∧ AllBare s'.gens) s₁ := by
  have rv := vals_ints hi
  have lenV := hi.length
  -- from an abstract heap in which nothing but the script may be tracked
  have core : ∀ H : Hp, Only H → SqL K H a (ns.map V.int) → HOk P w H s₁.heap → (∀ b, H b ≠ none → b = a) → (H a ≠ none → K.lookup a = none) →
      codeAny (model P w) callerA (.call (.ref fa) ⟨[.ref a], []⟩) (fun r s' => r = .ok (.ret (.bool true)) ∧ OldK s₁.heap s'.heap ∧ s'.os = s₁.os ∧ AllBare s'.gens) s₁ := by
    intro H hO hS hok hA hK
    have base_of : ∀ {b : Addr} {o : Obj}, s₁.heap.get? b = some o → H b = none → (hidT s₁.heap H).get? b = some o := fun e n => hidT_get e n
    have noA : ∀ {b : Addr} {o : Obj} {es : Array DictEntry} {ep : Nat}, s₁.heap.get? b = some o → o.data = .dict es ep → H b = none := fun {b o es ep} e d => by
      cases q : H b with
      | none => rfl
      | some u =>
        have e' : b = a := hA b (by rw [q]; simp)
        subst e'
        rw [ha] at e; cases e
        have d' : Data.seq vs.toArray _ = Data.dict es ep := d
        cases d'
    have nsK : ∀ {b : Addr} {m : Str → Option Value}, s₁.heap.Ns b m → (hidT s₁.heap H).Ns b m := fun {b m} ⟨o, es, ep, e, d, r⟩ => ⟨o, es, ep, base_of e (noA e d), d, r⟩
    have hKb : K.In (hidT s₁.heap H) := fun b o e => base_of (KX b o e) (by
      cases q : H b with
      | none => rfl
      | some u =>
        have e' : b = a := hA b (by rw [q]; simp)
        subst e'
        rw [hK (by rw [q]; simp)] at e; cases e)
    have hM : Mod K mg (hidT s₁.heap H) := ⟨hKb, nsK hns, ⟨mb, nsK hb, hbb⟩, let ⟨mc, h1, h2⟩ := hlim; ⟨mc, nsK h1, h2⟩⟩
    have e0 : Env0 P w K mg (hidT s₁.heap H) callerA [] s₁ H := ⟨rfl, hM, fun b o e => of_hidT e, Nat.le_of_eq (hidT_size _ _), trivial, fun b hb => absurd (show b ∈ ([] : List Addr) from hb) (by simp), hok, .of_eq hg⟩
    refine codeAny_mono ((F _ hKb (nsK hns)).run callerA [] s₁ H ⟨[.ref a], []⟩ [.ref a] [.ref a] _ _ hr e0 (hbind s₁ (.ref a)) (.cons rfl .nil) (hsp H hO hS)) fun r s' h => ?_
    cases r with
    | error e => exact (hCX H e s' h).elim
    | ok fl =>
      cases fl with
      | next => exact False.elim h
      | brk => exact False.elim h
      | cont => exact False.elim h
      | ret u =>
        obtain ⟨v, H', os, bare, un, hok', r', q⟩ := h
        have q' : v = .bl true := q
        subst q'
        obtain rfl : u = Value.bool true := r'
        refine ⟨rfl, OldK.of_keep fun b o e => ?_, os, bare⟩
        cases q : H b with
        | none => exact un.keep b o e q (by intro z; exact absurd (show b ∈ ([] : List Addr) from z) (by simp)) (by simp)
        | some u =>
          rcases hO b with z | ⟨ob, xs, z⟩
          · rw [q] at z; cases z
          · have z2 := un.frzs b ob _ z
            obtain ⟨e1, _⟩ := hok b _ z
            obtain ⟨e2, _⟩ := hok' b _ z2
            rw [e] at e1; cases e1
            exact e2
  cases hk : K.lookup a with
  | some o =>
    -- the script is one of the module's own objects
    have e := KX a o hk
    rw [ha] at e
    cases e
    refine core (fun _ => none) (fun _ => .inl rfl) (.inr ⟨_, vs.toArray, _, hk, rfl, rfl, rfl, by rw [List.size_toArray, lenV]; exact hl, by simpa using rv⟩) (fun b u z => by have z' : (none : Option HO) = some u := z; cases z') (fun b z => absurd rfl z) fun z => absurd rfl z
  | none =>
    refine core (fun b => if b = a then some (.frz { cls := .type "list", data := .seq vs.toArray } (.lst (ns.map V.int))) else none) (fun b => ?_) (.inl (.inr ⟨{ cls := .type "list", data := .seq vs.toArray }, if_pos rfl⟩)) (fun b u z => ?_) (fun b z => ?_) fun _ => hk
    · by_cases hb : b = a
      · exact .inr ⟨_, _, if_pos hb⟩
      · exact .inl (if_neg hb)
    · by_cases hb : b = a
      · have z' := (if_pos hb).symm.trans z
        cases z'
        subst hb
        exact ⟨ha, by rw [List.length_map]; exact hl, vs, _, rv, ha⟩
      · have z' := (if_neg hb).symm.trans z
        cases z'
    · by_cases hb : b = a
      · exact hb
      · exact absurd (if_neg hb) z
end L2

namespace L2
open PySem PySem.Spec PyProof.Rows

abbrev KOf {K : PySem.W.Frag} {h : Heap} (_ : K.In h) : PySem.W.Frag := K

/-- the goal that k_head leaves (case hc), from the law's promise. F gives the function object fd (K's own) once, then the promise over every base -/
theorem walk_of {l : PySem.W.OpenLaw} {n k : Nat} {q : Program} {loose : List Str} {XP : (Str → Option Value) → Heap → Prop} {YP : World → Heap → Prop} {d : DefRec} {K : Params → PySem.W.Frag} {CX : World → CXT} {sp : World → Sp} {x : Str}
    (hn : l.most = some n) (hn2 : n ≤ sizeLine) (hdf : d.params.defaults = []) (hr : Room k callerA)
    (hY : ∀ (w : World) (h : Heap), YP w h → (K w.params).In h)
    (F : ∀ (w : World) (mg : Str → Option Value) (fa : Addr) (h : Heap), (K w.params).In h → h.Ns mainGlobals mg → mg d.name = some (.ref fa) →
      ∃ fd : FuncData, (∀ (s : Shared) (u : Value), BindsTo s fd ⟨[u], []⟩ [(x, u)]) ∧
        ∀ base : Heap, (K w.params).In base → base.Ns mainGlobals mg → FnOk l.prog w (K w.params) mg base (CX w) k fa fd [x] (sp w))
    (hsp : ∀ (w : World) (H : Hp) (a : Addr) (ns : List Int), ns.length ≤ n → Only H → SqL (K w.params) H a (ns.map V.int) → sp w [.ref a] H (fun v _ => v = .bl true) fun _ _ _ => False)
    (hCX : ∀ (w : World) (H : Hp) (s : Shared) (e : Value) (s' : Shared), CX w [] H s (fun _ _ _ => False) e s' → False) :
    PySem.W.WalkO q loose XP YP l.row.toRowW d [] (fun f vs => PySem.call f vs) := by
  refine Att.attach_call hn hdf fun w s₀ s₁ mg mb fa o pm cd doc a vs ns G Y ho hd hcd hmg hobj hints hlen hg => ?_
  have KX := hY w _ Y
  obtain ⟨fd, hb, hF⟩ := F w mg fa _ KX G.T.g hmg
  exact law_call KX G.T.g G.T.b G.T.builtins G.T.nolimit hg hobj hints (Nat.le_trans hlen hn2) hr hF hb (fun H hO hS => hsp w H a ns hlen hO hS) fun H e s' => hCX w H s₁ e s'
end L2

/- THE LAST THEOREM (shape; LID, My.* are yours):
   My.Adr: a structure of the addresses that your layer names (classes, functions); My.Txt K t: a structure (Prop) of the equations over K;
   My.txt_mk : {K} {implicit addresses ..} (e1 : nsIn K mainGlobals "law" = some (some (.ref f))) (e2 : K.lookup f = some ⟨oc, od, .func (fnOf "law" "law" params body scope dV kV doc pm an cdv ct), sl⟩) (e3 : codeIn K cdv "law" = true) .. : ∃ t, My.Txt K t

set_option maxRecDepth 100000 in
set_option maxHeartbeats 0 in
theorem PySem.Challenge.cw_LID_holds : PySem.Challenge.rw_LID.Holds := by
  w_on; o_law; k_head; (case hw => w_witness2)
  k_fill
  refine L2.walk_of (l := PySem.Challenge.rw_LID) (n := 63) (k := 40) (x := "script") (CX := fun w => ..) (sp := fun _ => My.sp_law) rfl (by decide) rfl ⟨rfl, by decide, by decide⟩ (fun w h Y => PySem.W.kIn_of Y) ?F ?S ?C
  case F =>
    intro w mg fa h KX G hmg
    have T : ∃ t, My.Txt (L2.KOf KX) t := by
      dsimp only [L2.KOf]                          -- K must stand as «<heap const> w.params» for k_is
      refine' My.txt_mk ?e1 ?e2 ?e3 ..
      (case e1 => PySem.W.k_is)                    -- in the order: a name -> its address -> its object -> its parts
      (case e2 => PySem.W.k_is)
      ..
    obtain ⟨t, T⟩ := T
    have e0 := hmg.symm.trans (PySem.W.mg_of KX G T.law)
    cases e0                                       -- fa is the law's own address
    exact ⟨_, fun s u => .of_eq rfl, fun base kb nb => My.law_fn T kb nb⟩     -- if «.of_eq rfl» comes too early: refine' ⟨_, ?b, fun base kb nb => My.law_fn T kb nb⟩; exact fun s u => .of_eq rfl
  case S => exact fun w H a ns hl hO hS => ..
  case C => exact ..
(the tactic k_is has no namespace: write k_is) -/

/-! SHORT WORDS over the layer: a def of the text, its body, what a loop and a test want. -/
namespace L2
open PySem PySem.Spec PyProof.Rows

/-! ### the text by places -/
/-- the j-th statement of a class's body -/
def inClass (s : Stmt) (j : Nat) : Stmt := match s with
  | .ClassDef _ _ _ body _ _ _ _ _ _ _ => body.getD j (.Pass ⟨0, 0, 0, 0⟩)
  | _ => .Pass ⟨0, 0, 0, 0⟩
def defArgs (s : Stmt) : Arguments := match s with
  | .FunctionDef _ a _ _ _ _ _ _ _ _ => a
  | _ => { posonlyargs := [], args := [], vararg := none, kwonlyargs := [], kw_defaults := [], kwarg := none, defaults := [] }
def defBody (s : Stmt) : List Stmt := match s with
  | .FunctionDef _ _ b _ _ _ _ _ _ _ => b
  | _ => []
def defScope (s : Stmt) : Scope := match s with
  | .FunctionDef _ _ _ _ _ _ sc _ _ _ => sc
  | _ => { kind := .function, names := [], isGenerator := false, isCoroutine := false }

/-! ### no exception leaves a def -/
abbrev CX0 : CXT := fun _ _ _ _ _ _ => False
abbrev E0 : XK := fun _ _ _ => False
theorem pass0 {X : Cx} : Passes CX0 X E0 := fun _ _ _ _ _ _ _ h => h.elim

/-! ### a def (or method) of the text as it stands behind the top -/
structure Fun (K : PySem.W.Frag) (x qual : Str) (st : Stmt) (f : Addr) (fd : FuncData) : Prop where
  ex : ∃ (oc : Value) (od : Option Addr) (kV doc pm : Value) (an : Option Addr) (cdv ct : Value) (osl : Array (Option Value)),
    fd = PySem.W.fnOf x qual (defArgs st) (defBody st) (defScope st) .none kV doc pm an cdv ct ∧ K.lookup f = some ⟨oc, od, .func fd, osl⟩ ∧ PySem.W.codeIn K cdv qual = true
  kp : PySem.W.keepIn K (.ref f) = true
section
variable {P : Program} {w : World} {K : PySem.W.Frag} {mg : Str → Option Value} {base : Heap}
/-- THE RULE for a def: its body as a term of rules, and the reading of that term -/
theorem Fun.ok {x qual : Str} {st : Stmt} {f : Addr} {fd : FuncData} {N ps : List Str} {k : Nat} {sp : Sp} (F : Fun K x qual st f fd) (S : FnScope N ps (defScope st)) (len : ∀ vs H Q E, sp vs H Q E → vs.length = ps.length)
    (hbody : ∀ (cdv : Value) (A : Around) (outer : List Env) (s : Shared) (H : Hp) (vs : List V) (Q : VK) (E : XK), Room k (A.deeper (envOfC qual (defScope st) s.heap.objs.size f cdv)) → sp vs H Q E →
      ∃ t, PSs (cxOf CX0 P w K mg base N qual (defScope st) f cdv A outer s H E).nox (defBody st) t ∧ t { nx := fun _ H' => Q .non H', rt := Q } (start N vs) H) : FnOk P w K mg base CX0 (k + 1) f fd ps sp := by
  obtain ⟨oc, od, kV, doc, pm, an, cdv, ct, osl, rfl, lk, hcd⟩ := F.ex
  refine fn_of lk hcd S len fun A outer s H vs Q E hr hsp => ?_
  obtain ⟨t, h, q⟩ := hbody cdv A outer s H vs Q E hr hsp
  exact ⟨t, h.nox, q⟩
/-- how its arguments bind (no defaults): h is «fun _ _ _ _ _ _ us hl => match us, hl with | [_, _], _ => rfl», one _ a parameter -/
theorem Fun.binds {x qual : Str} {st : Stmt} {f : Addr} {fd : FuncData} {ps : List Str} (F : Fun K x qual st f fd)
    (h : ∀ (kV doc pm : Value) (an : Option Addr) (cdv ct : Value) (us : List Value), us.length = ps.length → bindArgs (PySem.W.fnOf x qual (defArgs st) (defBody st) (defScope st) .none kV doc pm an cdv ct) ⟨us, []⟩ = pure (ps.zip us)) : Binds K fd ps [] := by
  obtain ⟨oc, od, kV, doc, pm, an, cdv, ct, osl, rfl, lk, hcd⟩ := F.ex
  exact .all (h kV doc pm an cdv ct)
theorem fun_mk {x qual : Str} {st : Stmt} {f : Addr} {oc : Value} {od an : Option Addr} {osl : Array (Option Value)} {kV doc pm cdv ct : Value} (l : K.lookup f = some ⟨oc, od, .func (PySem.W.fnOf x qual (defArgs st) (defBody st) (defScope st) .none kV doc pm an cdv ct), osl⟩)
    (c : PySem.W.codeIn K cdv qual = true) (k : PySem.W.keepIn K (.ref f) = true) : Fun K x qual st f (PySem.W.fnOf x qual (defArgs st) (defBody st) (defScope st) .none kV doc pm an cdv ct) := ⟨⟨oc, od, kV, doc, pm, an, cdv, ct, osl, rfl, l, c⟩, k⟩
end
theorem hu_of {A : Around} {k : Nat} (hr : Room k A) : A.units + 1 < cLine := Nat.lt_of_le_of_lt (Nat.add_le_add_left (by decide : 1 ≤ 64) _) hr.units
theorem small1000 {n : Nat} (h : n ≤ 1000) : n < sizeLine := Nat.lt_of_le_of_lt h (by decide)

/-! ### expressions in short: the name that stands in the i-th slot -/
section
variable {X : Cx}
theorem pv (i : Nat) {x : Str} {pos : Pos} (hN : X.N[i]? = some x := by rfl) (hv : Vis X.env.scope x := by first | exact Or.inl rfl | exact Or.inr (Or.inl rfl) | exact Or.inr (Or.inr rfl)) (hd : (x == ("__debug__" : Str)) = false := by decide)
    (hcd : (x == ("__classdict__" : Str)) = false := by decide) : PE X (.Name x pos) (tVar i) := pe_var hN hv hd hcd
end

/-! ### tests -/
theorem iteF {A B : Prop} (h : B) : if false = true then A else B := by
  rw [if_neg Bool.false_ne_true]
  exact h
theorem iteT {A B : Prop} (h : A) : if true = true then A else B := by
  rw [if_pos rfl]
  exact h
/-! ### heaps -/
/-- all that was tracked is as it was -/
def Same (H H' : Hp) : Prop := ∀ b o, H b = some o → H' b = some o
theorem Same.refl (H : Hp) : Same H H := fun _ _ h => h
theorem Same.trans {H H1 H2 : Hp} (a : Same H H1) (b : Same H1 H2) : Same H H2 := fun c o h => b c o (a c o h)
theorem Same.free {H H' : Hp} (e : Same H H') {l : Addr} (h : H' l = Option.none) : H l = Option.none := by
  cases q : H l with
  | none => rfl
  | some o =>
    rw [e l o q] at h
    cases h
theorem Same.seq {K : PySem.W.Frag} {H H' : Hp} {a : Addr} {xs : List V} (e : Same H H') (h : SqL K H a xs) : SqL K H' a xs := by
  rcases h with (h | ⟨o, h⟩) | h
  · exact .inl (.inl (e _ _ h))
  · exact .inl (.inr ⟨o, e _ _ h⟩)
  · exact .inr h

end L2

set_option Elab.async false
set_option linter.all false
set_option maxRecDepth 100000
set_option maxHeartbeats 1000000
namespace L2
open PySem PySem.Spec PyProof.Rows

section
variable {prog : Program} {w : World} {A : Around} {R : Result → Shared → Prop} {s : Shared}
theorem compLoop_gen {elt target iter : Expr} {ifs : List Expr} {scope : Scope} {pos : Pos} {it acc : Value} {env : Env} (I : Nat → Shared → Prop)
    (turn : ∀ n s, I n s → wpAny (model prog w) A (pyNext it) (fun r s₁ => match r with
      | none => R (.ok .next) s₁
      | some v => wpAny (model prog w) A (letOwnedTupleGo target it v) (fun _ s₁' => wpAny (model prog w) A (assign target env v) (fun _ s₂ =>
          wpAny (model prog w) A (forIn ifs true fun c r => if r = true then do let ok ← isTrue c env (eval c env); pure (ForInStep.yield ok) else pure (ForInStep.yield r)) (fun ok s₃ =>
            if ok = true then wpAny (model prog w) A (eval elt env) (fun x s₄ =>
              wpAny (model prog w) A (call (.builtin "list.append") [acc, x]) (fun _ s₅ => ∃ m, m < n ∧ I m s₅) (fun _ _ => False) s₄) (fun _ _ => False) s₃
            else ∃ m, m < n ∧ I m s₃) (fun _ _ => False) s₂) (fun _ _ => False) s₁') (fun _ _ => False) s₁) (fun _ _ => False) s)
    (n : Nat) (h : I n s) :
    codeAny (model prog w) A (.compLoop (.ListComp elt [⟨target, iter, ifs, 0⟩] scope pos) 0 it acc env) R s := by
  refine codeAny_loop rfl I (fun n s hI => ?_) n h
  show wpAny _ A ((compTurn (.ListComp elt [⟨target, iter, ifs, 0⟩] scope pos) 0 it acc env).onRaise (fun x => do noteFrame x env; theTreesLotGoes x)) _ _ s
  refine wpAny_noted ?_
  rw [compTurn_list]
  refine wpAny_bind (wpAny_standAt (wpAny_bind (wpAny_mono (turn n s hI) (fun r s₁ h₁ => ?_) fun _ _ z => False.elim z)))
  cases r with
  | none => exact wpAny_pure h₁
  | some v =>
    refine wpAny_bind (wpAny_mono h₁ (fun _ s₁' h₁' => wpAny_bind (wpAny_mono h₁' (fun _ s₂ h₂ => wpAny_bind (wpAny_mono h₂ (fun ok s₃ h₃ => ?_) fun _ _ z => False.elim z)) fun _ _ z => False.elim z)) fun _ _ z => False.elim z)
    cases ok with
    | false => exact wpAny_pure ⟨rfl, h₃⟩
    | true =>
      exact wpAny_bind (wpAny_bind (wpAny_mono h₃ (fun x s₄ h₄ => wpAny_bind (wpAny_mono h₄ (fun _ s₅ h₅ => wpAny_pure (wpAny_pure ⟨rfl, h₅⟩)) fun _ _ z => False.elim z)) fun _ _ z => False.elim z))
end

/-! ### the closure of a block -/
def closGo (cells : List (Str × Addr)) : List (Str × NameKind) → List (Str × Addr) → List (Str × Addr)
  | [], cs => cs
  | (n, k) :: r, cs => closGo cells r (if (k == .free) = true then (match cells.lookup n with | some c => (n, c) :: cs | none => cs) else cs)
theorem closGo_mem {cells : List (Str × Addr)} : ∀ {names : List (Str × NameKind)} {cs : List (Str × Addr)}, (∀ p ∈ cs, cells.lookup p.1 = some p.2) → ∀ p ∈ closGo cells names cs, cells.lookup p.1 = some p.2
  | [], _, h => h
  | (n, k) :: r, cs, h => by
    unfold closGo
    refine closGo_mem (names := r) fun p hp => ?_
    split at hp
    · cases e : cells.lookup n with
      | none => rw [e] at hp; exact h p hp
      | some c =>
        rw [e] at hp
        rcases List.mem_cons.mp hp with rfl | hp
        · exact e
        · exact h p hp
    · exact h p hp
theorem closGo_keep {cells : List (Str × Addr)} {q : Str × Addr} : ∀ {names : List (Str × NameKind)} {cs : List (Str × Addr)}, q ∈ cs → q ∈ closGo cells names cs
  | [], _, h => h
  | (n, k) :: r, cs, h => by
    unfold closGo
    refine closGo_keep (names := r) ?_
    split
    · cases e : cells.lookup n with
      | none => exact h
      | some c => exact List.mem_cons_of_mem _ h
    · exact h
theorem closGo_has {cells : List (Str × Addr)} {x : Str} {c : Addr} (e : cells.lookup x = some c) : ∀ {names : List (Str × NameKind)} {cs : List (Str × Addr)}, (x, NameKind.free) ∈ names → (x, c) ∈ closGo cells names cs
  | [], _, h => nomatch h
  | (n, k) :: r, cs, h => by
    unfold closGo
    rcases List.mem_cons.mp h with h | h
    · cases h
      rw [if_pos (by rfl), e]
      exact closGo_keep List.mem_cons_self
    · exact closGo_has e h
theorem closureFor_go {env : Env} : ∀ (names : List (Str × NameKind)) (cs : List (Str × Addr)), (∀ y ∈ names, y.2 = .free → ∃ c, env.cells.lookup y.1 = some c) →
    (forIn names cs fun (x : Str × NameKind) (r : List (Str × Addr)) => (if (x.2 == NameKind.free) = true then do let a ← cellOf env x.1; pure (ForInStep.yield ((x.1, a) :: r)) else pure (ForInStep.yield r) : Sem _)) = pure (closGo env.cells names cs)
  | [], cs, _ => rfl
  | (n, k) :: r, cs, h => by
    rw [List.forIn_cons]
    unfold closGo
    by_cases hk : (k == NameKind.free) = true
    · obtain ⟨c, e⟩ := h (n, k) List.mem_cons_self (by simpa using hk)
      have e' : env.cells.lookup n = some c := e
      simp only [hk, if_true, cellOf, e']
      exact closureFor_go r _ fun y hy => h y (List.mem_cons_of_mem _ hy)
    · simp only [hk, if_false]
      exact closureFor_go r _ fun y hy => h y (List.mem_cons_of_mem _ hy)
theorem closureFor_is {scope : Scope} {env : Env} (h : ∀ y ∈ scope.names, y.2 = .free → ∃ c, env.cells.lookup y.1 = some c) : closureFor scope env = pure (closGo env.cells scope.names []) := by
  have q := closureFor_go (env := env) scope.names [] h
  unfold closureFor
  first
    | exact q
    | (rw [show (forIn scope.names ([] : List (Str × Addr)) _ : Sem _) = pure (closGo env.cells scope.names []) from q]; rfl)
    | (simp only [q]; rfl)
theorem lookup_of_mem {α : Type} {x : Str} {c : α} : ∀ {l : List (Str × α)}, (x, c) ∈ l → ∃ d, l.lookup x = some d
  | (n, d) :: r, h => by
    by_cases e : (x == n) = true
    · exact ⟨d, by rw [List.lookup_cons, e]⟩
    · have e' : (x == n) = false := by simpa using e
      rcases List.mem_cons.mp h with h | h
      · cases h; simp at e
      · obtain ⟨d', q⟩ := lookup_of_mem h
        exact ⟨d', by rw [List.lookup_cons, e']; exact q⟩
theorem relabel_free {env : Env} : ∀ {names : List (Str × NameKind)} {x : Str}, names.lookup x = some .free →
    (names.map fun (n, k) => if (k == NameKind.free && env.scope.kind == .function && env.kindOf n == some .cell) then (n, NameKind.cell) else (n, k)).lookup x = some .cell ∨
    (names.map fun (n, k) => if (k == NameKind.free && env.scope.kind == .function && env.kindOf n == some .cell) then (n, NameKind.cell) else (n, k)).lookup x = some .free
  | [], _, h => by simp at h
  | (n, k) :: r, x, h => by
    have ih := @relabel_free env r x
    simp only [List.map_cons]
    cases hx : x == n with
    | true =>
      simp only [List.lookup_cons, hx] at h
      cases h
      split
      · exact .inl (by simp [List.lookup_cons, hx])
      · exact .inr (by simp [List.lookup_cons, hx])
    | false =>
      simp only [List.lookup_cons, hx] at h
      split <;> simp only [List.lookup_cons, hx] <;> exact ih h
theorem relabel_has {env : Env} : ∀ {names : List (Str × NameKind)} {x : Str}, (∀ y ∈ names, y.2 ≠ .cell) →
    ((names.map fun (n, k) => if (k == NameKind.free && env.scope.kind == .function && env.kindOf n == some .cell) then (n, NameKind.cell) else (n, k)).lookup x = some .cell ∨
    (names.map fun (n, k) => if (k == NameKind.free && env.scope.kind == .function && env.kindOf n == some .cell) then (n, NameKind.cell) else (n, k)).lookup x = some .free) → (x, NameKind.free) ∈ names
  | [], _, _, h => by simp at h
  | (n, k) :: r, x, hc, h => by
    have ih := @relabel_has env r x fun y hy => hc y (List.mem_cons_of_mem _ hy)
    simp only [List.map_cons] at h
    have hkc : k ≠ .cell := hc (n, k) List.mem_cons_self
    cases hx : x == n with
    | true =>
      have e : x = n := by simpa using hx
      subst e
      split at h
      · rename_i q
        simp only [Bool.and_eq_true] at q
        have : k = .free := by simpa using q.1.1
        subst this
        exact List.mem_cons_self
      · simp only [List.lookup_cons, hx] at h
        rcases h with h | h
        · cases h; exact absurd rfl hkc
        · cases h; exact List.mem_cons_self
    | false =>
      split at h <;> simp only [List.lookup_cons, hx] at h <;> exact List.mem_cons_of_mem _ (ih h)

/-! ### a list comprehension -/
def compCx (X : Cx) (N' : List Str) (scope : Scope) (C : Addr) (s : Shared) (H : Hp) (fp : List Addr) : Cx where
  prog := X.prog
  w := X.w
  K := X.K
  mg := X.mg
  base := X.base
  A := X.A
  N := N'
  s₀ := s
  H₀ := H
  env := compEnvC scope (closGo X.env.cells scope.names []) C X.env
  outer := X.stack
  stack := X.stack
  ex := fp
  fn := fun _ => false
  calm := X.calm
  pn := []
  xe := fun _ _ => False

inductive Caps (X : Cx) (scope : Scope) : List Nat → List Str → Prop
  | nil : Caps X scope [] []
  | cons {j : Nat} {x : Str} {js : List Nat} {xs : List Str} : X.N[j]? = some x → scope.names.lookup x = some .free → (X.env.kindOf x = some .cell ∨ X.env.kindOf x = some .free) → Caps X scope js xs → Caps X scope (j :: js) (x :: xs)
theorem Caps.get {X : Cx} {scope : Scope} : ∀ {js : List Nat} {xs : List Str} {i : Nat} {x : Str}, Caps X scope js xs → xs[i]? = some x → ∃ j, js[i]? = some j ∧ X.N[j]? = some x ∧ scope.names.lookup x = some .free ∧ (X.env.kindOf x = some .cell ∨ X.env.kindOf x = some .free)
  | _, _, _, _, .nil, h => by simp at h
  | _, _, 0, _, .cons a b c _, h => by simp at h; subst h; exact ⟨_, rfl, a, b, c⟩
  | _, _, i + 1, x, .cons _ _ _ r, h => by
    obtain ⟨j, e, q⟩ := Caps.get (i := i) (x := x) r (by simpa using h)
    exact ⟨j, by simpa using e, q⟩
theorem Caps.length {X : Cx} {scope : Scope} : ∀ {js : List Nat} {xs : List Str}, Caps X scope js xs → js.length = xs.length
  | _, _, .nil => rfl
  | _, _, .cons _ _ _ r => by simp [Caps.length r]

/-- the block's own names are forgotten, the captured ones are those of the frame -/
def cap (σ : St) (own : Nat) (caps : List Nat) : St := List.replicate own none ++ caps.map fun j => (σ[j]?).getD none

structure PTs (X : Cx) (ifs : List Expr) (t : TT) : Prop where
  run : ∀ (pins : List (Addr × Obj)) (s : Shared) (σ : St) (H : Hp) (Q : Bool → Hp → Prop), Inv X pins σ H s → t σ H Q →
    wpAny (model X.prog X.w) X.A (forIn ifs true fun c r => if r = true then do let ok ← isTrue c X.env (eval c X.env); pure (ForInStep.yield ok) else pure (ForInStep.yield r)) (TP X pins σ Q) X.xe s
instance {X : Cx} {ifs : List Expr} {t : TT} : CoeFun (PTs X ifs t) (fun _ => ∀ (pins : List (Addr × Obj)) (s : Shared) (σ : St) (H : Hp) (Q : Bool → Hp → Prop), Inv X pins σ H s → t σ H Q →
    wpAny (model X.prog X.w) X.A (forIn ifs true fun c r => if r = true then do let ok ← isTrue c X.env (eval c X.env); pure (ForInStep.yield ok) else pure (ForInStep.yield r)) (TP X pins σ Q) X.xe s) := ⟨PTs.run⟩
def tTrue : TT := fun _ H Q => Q true H
theorem pts_nil {X : Cx} : PTs X [] tTrue := .mk <| fun _ _ _ H _ I h => wpAny_tests_nil ⟨H, I, h⟩
theorem pts_one {X : Cx} {c : Expr} {t : TT} (h : PT X c t) : PTs X [c] t := .mk <| fun pins s σ H Q I q => wpAny_tests_one (h pins s σ H Q I q)

/-- the target writes the block's own names alone -/
def GOwn (k : Nat) (g : TG) : Prop := ∀ v σ H Q, g v σ H Q → g v σ H fun σ2 H2 => Q σ2 H2 ∧ σ2.length = σ.length ∧ ∀ i, k ≤ i → σ2[i]? = σ[i]?
def GsOwn (k : Nat) (g : TGs) : Prop := ∀ v σ H Q, g v σ H Q → g v σ H fun σ2 H2 => Q σ2 H2 ∧ σ2.length = σ.length ∧ ∀ i, k ≤ i → σ2[i]? = σ[i]?
theorem gown_name {k i : Nat} (h : i < k) : GOwn k (gName i) := fun v σ H Q q => ⟨q, List.length_set .., fun j hj => List.getElem?_set_ne (Nat.ne_of_lt (Nat.lt_of_lt_of_le h hj))⟩
def GMono (g : TG) : Prop := ∀ v σ H (Q Q' : St → Hp → Prop), (∀ σ H, Q σ H → Q' σ H) → g v σ H Q → g v σ H Q'
def GsMono (g : TGs) : Prop := ∀ v σ H (Q Q' : St → Hp → Prop), (∀ σ H, Q σ H → Q' σ H) → g v σ H Q → g v σ H Q'
theorem getElem_pre {α : Type} {l l' : List α} {i : Nat} : (l ++ l')[i]? = if i < l.length then l[i]? else l'[i - l.length]? := by
  by_cases h : i < l.length
  · rw [if_pos h, List.getElem?_append_left h]
  · rw [if_neg h, List.getElem?_append_right (Nat.le_of_not_lt h)]

section
variable {X : Cx} {tg iter elt : Expr} {ifs : List Expr} {scope : Scope} {pos : Pos} {own capN : List Str} {caps : List Nat} {g : TG} {tt : TT} {te : TE} {wi : TI}

/-- the gathered list is laid -/
def CEnd (Q : VK) (ys : List V) (H : Hp) : Prop := ∀ D, H D = none → Q (.ref D) (upd H D (.lst ys))
/-- W: the invariant by the turn, a measure and what has been gathered -/
def tComp (wi : TI) (own : Nat) (caps : List Nat) (g : TG) (tt : TT) (te : TE) : TE := fun σ H Q => wi σ H fun J H1 =>
  ∃ τ, τ = cap σ own caps ∧ ∃ W : Nat → Nat → List V → Hp → Prop, (∃ m, W 0 m [] H1) ∧ ∀ i m ys H, W i m ys H →
    (J.stop i H ∧ CEnd Q ys H) ∨
    (J.go i H ∧ ys.length < sizeLine ∧ ∃ N : List V → Hp → Prop, (∀ ys H, N ys H → ∃ m', m' < m ∧ W (i + 1) m' ys H) ∧ ∀ x H', J.yld i H x H' → g x τ H' fun τ2 H2 => tt τ2 H2 fun b H3 =>
      if b = true then te τ2 H3 fun y H4 => N (ys ++ [y]) H4 else N ys H3)

/-- an iterator's turns around A, where HP is true of the heap -/
structure TurnC (P : Program) (w : World) (K : PySem.W.Frag) (A : Around) (HP : Hp → Prop) (tg : Expr) (J : It) (fp : List Addr) (it : Addr) (tn : Nat → Heap → Prop) : Prop where
  obj : ∀ i h, tn i h → ∀ b ∈ fp, ∃ o, h.get? b = some o ∧ ∀ v, o.data ≠ .cell v
  keep : ∀ i h h', tn i h → (∀ b ∈ fp, ∀ o, h.get? b = some o → h'.get? b = some o) → tn i h'
  item : ∀ (X : Cx), X.prog = P → X.w = w → X.K = K → X.A = A → ∀ (i : Nat) (pins : List (Addr × Obj)) (s : Shared) (σ : St) (H : Hp) (E : Value → Shared → Prop), HP H → Inv X pins σ H s → (∀ b ∈ fp, FpOk X pins H b) → tn i s.heap → J.go i H →
    wpAny (model P w) A (pyNext (.ref it)) (fun r s1 => ∃ u, r = some u ∧
      wpAny (model P w) A (letOwnedTupleGo tg (.ref it) u) (fun _ s2 => ∃ x H', Inv X pins σ H' s2 ∧ RelV x u ∧ J.yld i H x H' ∧ tn (i + 1) s2.heap ∧ ∀ b ∈ fp, H' b = none) E s1) E s
  done : ∀ (X : Cx), X.prog = P → X.w = w → X.K = K → X.A = A → ∀ (i : Nat) (pins : List (Addr × Obj)) (s : Shared) (σ : St) (H : Hp) (E : Value → Shared → Prop), HP H → Inv X pins σ H s → (∀ b ∈ fp, FpOk X pins H b) → tn i s.heap → J.stop i H →
    wpAny (model P w) A (pyNext (.ref it)) (fun r s1 => r = none ∧ Inv X pins σ H s1) E s
  self : ∀ (i : Nat) (s : Shared) (Q : Value → Shared → Prop) (E : Value → Shared → Prop), tn i s.heap → Q (.ref it) s → wpAny (model P w) A (pyIter (.ref it)) Q E s
abbrev Cx.still (X : Cx) : Cx := { X with calm := true }
theorem Cx.Ok.still {X : Cx} (ok : X.Ok) (h : X.A.handled = none) : X.still.Ok :=
  ⟨ok.mod, ok.kind, ok.glob, ok.blt, ok.above, ok.inj, ok.has, ok.cab, fun _ => h, ok.frames, ok.stk, ok.exf, ok.bs, ok.bsz, ok.noex, ok.exfs, ok.funs, ok.frf⟩
theorem Inv.still {X : Cx} {pins : List (Addr × Obj)} {σ : St} {H : Hp} {s : Shared} (I : Inv X pins σ H s) (h : X.A.handled = none) : Inv X.still pins σ H s := ⟨I.ok.still h, I.os, I.bare, I.base, I.loc, I.cell, I.free, I.freeC, I.pin, I.hok, I.len⟩
theorem Inv.unstill {X : Cx} {pins : List (Addr × Obj)} {σ : St} {H : Hp} {s : Shared} (ok : X.Ok) (I : Inv X.still pins σ H s) : Inv X pins σ H s := ⟨ok, I.os, I.bare, I.base, I.loc, I.cell, I.free, I.freeC, I.pin, I.hok, I.len⟩
theorem TurnC.of {P : Program} {w : World} {K : PySem.W.Frag} {A : Around} {tg : Expr} {J : It} {fp : List Addr} {it : Addr} {tn : Nat → Heap → Prop} (T : Turn P w K tg J fp it tn) (h : A.handled = none) : TurnC P w K A (fun _ => True) tg J fp it tn where
  obj := T.obj
  keep := T.keep
  item := fun X h1 h2 h3 h4 i pins s σ H E _ I hf st hg => by
    subst h4
    exact thn (T.item X.still h1 h2 h3 rfl i pins s σ H E (I.still h) hf st hg) fun r s1 ⟨u, e, q⟩ => ⟨u, e, thn q fun _ s2 ⟨x, H', I', r'⟩ => ⟨x, H', I'.unstill I.ok, r'⟩⟩
  done := fun X h1 h2 h3 h4 i pins s σ H E _ I hf st hg => by
    subst h4
    exact thn (T.done X.still h1 h2 h3 rfl i pins s σ H E (I.still h) hf st hg) fun r s1 ⟨e, I'⟩ => ⟨e, I'.unstill I.ok⟩
  self := fun i s Q E st q => T.self A i s Q E st q
/-- what is known where the loop is through: the list is the frame's own -/
theorem comp_block {it : Addr} {fp : List Addr} {tn : Nat → Heap → Prop} {J : It} {pins : List (Addr × Obj)} {σ : St} {H : Hp} {s₂ : Shared} {E : Value → Shared → Prop} {RR : Value → Addr → Result → Shared → Prop} {Q : VK}
    {HP : Hp → Prop} (hkind : scope.kind = .function) (hcell : ∀ y ∈ scope.names, y.2 ≠ .cell) (hfree : ∀ y ∈ scope.names, y.2 = .free → ∃ c, X.env.cells.lookup y.1 = some c) (hcaps : Caps X scope caps capN)
    (hg : ∀ C s H fp, PG (compCx X (own ++ capN) scope C s H fp) tg g) (ht : ∀ C s H fp, PTs (compCx X (own ++ capN) scope C s H fp) ifs tt) (he : ∀ C s H fp, PE (compCx X (own ++ capN) scope C s H fp) elt te) (hgo : GOwn own.length g)
    (I : Inv X pins σ H s₂) (T : TurnC X.prog X.w X.K X.A HP tg J fp it tn) (st : tn 0 s₂.heap) (hf : ∀ b ∈ fp, FpOk X pins H b)
    {W : Nat → Nat → List V → Hp → Prop} {m0 : Nat} (hw : ∀ i m ys H, W i m ys H → HP H) (w0 : W 0 m0 [] H)
    (turn : ∀ i m ys H, W i m ys H → (J.stop i H ∧ CEnd Q ys H) ∨
      (J.go i H ∧ ys.length < sizeLine ∧ ∃ N : List V → Hp → Prop, (∀ ys H, N ys H → ∃ m', m' < m ∧ W (i + 1) m' ys H) ∧ ∀ x H', J.yld i H x H' → g x (cap σ own.length caps) H' fun τ2 H2 => tt τ2 H2 fun b H3 =>
        if b = true then te τ2 H3 fun y H4 => N (ys ++ [y]) H4 else N ys H3))
    (hRR : ∀ D C m' H' s', Inv X pins σ H' s' → s'.heap.Ns C m' → H' C = none → s₂.heap.objs.size ≤ C → Q (.ref D) H' → RR (.ref D) C (.ok .next) s') :
    wpAny (model X.prog X.w) X.A (newList []) (fun acc s₃ => wpAny (model X.prog X.w) X.A (newFunctionEnv scope X.env.globals (closGo X.env.cells scope.names []) [] X.env.qual none .none (some X.env)) (fun cenv s₄ =>
      codeAny (model X.prog X.w) X.A (.compStart (.ListComp elt [⟨tg, iter, ifs, 0⟩] scope pos) 0 (.ref it) acc { cenv with scope := relabel scope X.env }) (RR acc cenv.locals) s₄) E s₃) E s₂ := by
  refine wpAny_newObj_type (wpAny_newFunctionEnv hcell (by intro y hy; simp at hy) (fun h₁ hns₁ hsb₁ => ?_) hkind)
  dsimp only at hns₁ hsb₁ ⊢
  generalize hH2 : s₂.heap.push { cls := .type "list", dict := none, data := .seq ([] : List Value).toArray } = H2 at hns₁ hsb₁ ⊢
  have hC : H2.objs.size = s₂.heap.objs.size + 1 := by rw [← hH2, Heap.size_push]
  have hDC : s₂.heap.objs.size ≠ H2.objs.size := by rw [hC]; exact Nat.ne_of_lt (Nat.lt_succ_self _)
  have hCle : s₂.heap.objs.size ≤ H2.objs.size := by rw [hC]; exact Nat.le_succ _
  have below : ∀ b, b < s₂.heap.objs.size → b ≠ H2.objs.size ∧ b ≠ s₂.heap.objs.size := fun b hb => ⟨by rw [hC]; exact Nat.ne_of_lt (Nat.lt_succ_of_lt hb), Nat.ne_of_lt hb⟩
  have old : ∀ b o, s₂.heap.get? b = some o → h₁.get? b = some o := fun b o e => hsb₁.extBut b o (below b (Heap.lt_size e)).1 (Heap.get?_push_of_some _ (hH2 ▸ Heap.get?_push_of_some _ e))
  have hacc : h₁.get? s₂.heap.objs.size = some { cls := .type "list", data := .seq ([] : List Value).toArray } := hsb₁.extBut _ _ hDC (Heap.get?_push_of_some _ (hH2 ▸ Heap.get?_push_size _ rfl))
  -- the block's context
  let Y : Cx := compCx X (own ++ capN) scope H2.objs.size s₂ H fp
  have clIn : ∀ x c, (closGo X.env.cells scope.names []).lookup x = some c → X.env.cells.lookup x = some c := fun x c e => closGo_mem (fun p hp => by simp at hp) (x, c) (PySem.mem_of_lookup e)
  have fpLt : ∀ b ∈ fp, b < s₂.heap.objs.size := fun b hb => by
    obtain ⟨o, e, _⟩ := T.obj 0 _ st b hb
    exact Heap.lt_size e
  have clLt : ∀ x c, X.env.cells.lookup x = some c → c < s₂.heap.objs.size := fun x c e => by
    obtain ⟨v, q⟩ := I.cell x c e
    exact q.lt
  have okY : Y.Ok := {
    mod := I.ok.mod
    kind := hkind
    glob := I.ok.glob
    blt := I.ok.blt
    above := hCle
    inj := fun x y c e1 e2 => I.ok.inj x y c (clIn x c e1) (clIn y c e2)
    has := fun x hx => by
      have hm := relabel_has (env := X.env) hcell hx
      obtain ⟨c, e⟩ := hfree _ hm rfl
      exact lookup_of_mem (closGo_has e hm)
    cab := fun x c hx => by cases hx
    hd := I.ok.hd
    frames := I.ok.frames
    stk := .inl rfl
    exf := fun b hb => ⟨(below b (fpLt b hb)).1, fun x c e => (hf b hb).2.2.2.2.1 x c (clIn x c e)⟩
    bs := I.bs
    bsz := Nat.le_trans I.ok.bsz I.sz
    noex := fun b o e hb => by
      rcases (hf b hb).2.2.2.1 with z | z
      · exact I.ok.noex b o e z
      · exact absurd (Nat.lt_of_lt_of_le (Heap.lt_size e) (Nat.le_trans I.ok.bsz z)) (Nat.lt_irrefl _)
    exfs := fun b hb z => by
      rcases List.mem_cons.mp (I.stkSub b z) with z | z
      · exact (hf b hb).2.1 z
      · exact (hf b hb).2.2.1 z
    funs := I.stack
    frf := I.stkFree }
  have lenτ : (cap σ own.length caps).length = (own ++ capN).length := by
    unfold cap
    simp [hcaps.length]
  have IY0 : Inv Y [] (cap σ own.length caps) H { s₂ with heap := h₁, toks := s₂.toks + ([] : List (Str × Value)).length } := {
    ok := okY
    os := rfl
    bare := I.bare
    base := Un.kept old
    loc := ⟨_, hns₁, fun i x v e1 e2 e3 => by
      have e1' : (own ++ capN)[i]? = some x := e1
      unfold cap at e2
      rw [getElem_pre] at e1' e2
      rw [List.length_replicate] at e2
      by_cases hi : i < own.length
      · rw [if_pos hi, List.getElem?_replicate] at e2
        split at e2 <;> cases e2
      · rw [if_neg hi] at e1' e2
        obtain ⟨j, hj, hN, hfr, hvis⟩ := hcaps.get e1'
        rw [List.getElem?_map, hj] at e2
        have e2' : (σ[j]?).getD none = some v := Option.some.inj e2
        have e2'' : σ[j]? = some (some v) := by
          cases q : σ[j]? with
          | none => rw [q] at e2'; cases e2'
          | some z => rw [q] at e2'; exact congrArg some e2'
        obtain ⟨m, hn, hl⟩ := I.loc
        obtain ⟨u, r, l⟩ := hl j x v hN e2'' (.inr hvis)
        refine ⟨u, r, .inr ⟨relabel_free (env := X.env) hfr, ?_⟩⟩
        obtain ⟨c, e⟩ := hfree (x, .free) (PySem.mem_of_lookup hfr) rfl
        obtain ⟨d, ed⟩ := lookup_of_mem (closGo_has (names := scope.names) (cs := []) e (PySem.mem_of_lookup hfr))
        have ed' := clIn x d ed
        refine ⟨d, ed, ?_⟩
        rcases l with ⟨lk, lm⟩ | ⟨lk, c', lc, lz⟩
        · rw [lk] at hvis
          rcases hvis with z | z <;> cases z
        · rw [ed'] at lc
          cases lc
          obtain ⟨o, ho, hd⟩ := lz
          exact ⟨o, old _ _ ho, hd⟩⟩
    cell := fun x c e => by
      obtain ⟨v, o, ho, hd⟩ := I.cell x c (clIn x c e)
      exact ⟨v, o, old _ _ ho, hd⟩
    free := I.hok.fresh hCle
    freeC := fun x c e => I.freeC x c (clIn x c e)
    pin := fun p hp => absurd (show p ∈ ([] : List (Addr × Obj)) from hp) (by simp)
    hok := I.hok.kept old
    len := lenτ }
  have loop : ∀ s₃ : Shared, s₃ = { s₂ with heap := h₁, toks := s₂.toks + ([] : List (Str × Value)).length } →
      codeAny (model X.prog X.w) X.A (.compLoop (.ListComp elt [⟨tg, iter, ifs, 0⟩] scope pos) 0 (.ref it) (.ref s₂.heap.objs.size) Y.env) (RR (.ref s₂.heap.objs.size) H2.objs.size) s₃ := by
    rintro s₃ rfl
    have fpOk : ∀ {H' : Hp} {o : Obj}, (∀ b ∈ fp, H' b = none) → ∀ b ∈ fp, FpOk Y [(s₂.heap.objs.size, o)] H' b := fun {H' o} hn b hb =>
      ⟨hn b hb, (below b (fpLt b hb)).1, okY.exfs b hb, .inl hb, fun x c e => (hf b hb).2.2.2.2.1 x c (clIn x c e), fun p hp => by
        have hp' : p ∈ [(s₂.heap.objs.size, o)] := hp
        rw [List.mem_singleton.mp hp']
        exact Ne.symm (below b (fpLt b hb)).2⟩
    have nfsD : s₂.heap.objs.size ∉ Y.fs := fun z => by
      rcases List.mem_cons.mp (I.stkSub _ z) with z | z
      · exact absurd I.lt (by rw [← z]; exact Nat.lt_irrefl _)
      · exact I.nofs (Nat.le_refl _) z
    have pinD : ∀ {pl : List (Addr × Obj)} {τ : St} {H' : Hp} {s' : Shared} {o : Obj}, Inv Y pl τ H' s' → s'.heap.get? s₂.heap.objs.size = some o → H' s₂.heap.objs.size = none → (∀ v, o.data ≠ .cell v) → Inv Y [(s₂.heap.objs.size, o)] τ H' s' := fun {pl τ H' s' o} J' e n d =>
      J'.pins_of fun p hp => by
        rw [List.mem_singleton.mp hp]
        exact ⟨e, n, hDC, nfsD, d⟩
    refine compLoop_gen (fun k s' => ∃ (i : Nat) (ys : List V) (its : List Value) (n : Nat) (H' : Hp), Inv Y [] (cap σ own.length caps) H' s' ∧ tn i s'.heap ∧ (∀ b ∈ fp, H' b = none) ∧ s'.heap.get? s₂.heap.objs.size = some { cls := .type "list", data := .seq its.toArray n } ∧
      H' s₂.heap.objs.size = none ∧ Vals ys its ∧ ys.length ≤ sizeLine ∧ W i k ys H') ?_ m0
      ⟨0, [], [], 0, H, IY0, T.keep 0 _ _ st fun b _ o e => old b o e, fun b hb => (hf b hb).1, hacc, I.hok.fresh (Nat.le_refl _), .nil, Nat.zero_le _, w0⟩
    rintro k s' ⟨i, ys, its, n, H', I', st', fr', hD, nD, rv, hz, w'⟩
    have IP := pinD I' hD nD (fun v q => by cases q)
    rcases turn i k ys H' w' with ⟨stop, q⟩ | ⟨go, hlt, N, hN, step⟩
    · -- the end
      refine thn (T.done Y rfl rfl rfl rfl i _ s' _ H' _ (hw i k ys H' w') IP (fpOk fr') st' stop) fun r s4 ⟨hr, I4⟩ => ?_
      subst hr
      have pD := I4.pin (s₂.heap.objs.size, _) (List.mem_append_right _ (List.mem_singleton.mpr rfl))
      have eD : s4.heap.get? s₂.heap.objs.size = some { cls := .type "list", data := .seq its.toArray n } := pD.1
      have u : Un (frs X.stack) fp H H' s₂.heap s4.heap := I4.base
      have nT : ∀ b u', H' b = some u' → b ≠ s₂.heap.objs.size := fun b u' e => ne_of_none e nD
      have uD : Un (frs X.stack) fp H (upd H' s₂.heap.objs.size (.lst ys)) s₂.heap s4.heap := {
        keep := u.keep
        slot := u.slot
        free := fun b o e1 e2 e3 => by
          rw [upd_ne (below b (Heap.lt_size e1)).2]
          exact u.free b o e1 e2 e3
        there := u.there
        tups := fun b xs e => by
          have e' := u.tups b xs e
          rw [upd_ne (nT b _ e')]
          exact e'
        frzs := fun b o xs e => by
          have e' := u.frzs b o xs e
          rw [upd_ne (nT b _ e')]
          exact e'
        tbls := fun b ps e => by
          obtain ⟨more, e'⟩ := u.tbls b ps e
          exact ⟨more, by rw [upd_ne (nT b _ e')]; exact e'⟩ }
      have hokD : HOk X.prog X.w (upd H' s₂.heap.objs.size (.lst ys)) s4.heap := fun b o e => by
        by_cases hb : b = s₂.heap.objs.size
        · subst hb
          rw [upd_same] at e
          cases e
          exact ⟨hz, its, n, rv, eD⟩
        · rw [upd_ne hb] at e
          exact (I4.hok b o e).stay (fun c v _ q => q) (fun c q => by rw [upd_ne (nT c _ q)]; exact q) fun c xs q => by rw [upd_ne (nT c _ q)]; exact q
      have IX : Inv X pins σ (upd H' s₂.heap.objs.size (.lst ys)) s4 := I.call' (s' := s4) I4.os uD hokD I4.bare fun b hb => by
        obtain ⟨f0, f1, f2, f3, f4, f5⟩ := hf b hb
        exact ⟨f3, f1, f4, f5⟩
      obtain ⟨m', hn', _⟩ := I4.loc
      exact hRR _ _ m' _ _ IX hn' (by rw [upd_ne (Ne.symm hDC)]; exact I4.free) hCle (q _ nD)
    · -- a turn
      refine thn (T.item Y rfl rfl rfl rfl i _ s' _ H' _ (hw i k ys H' w') IP (fpOk fr') st' go) fun r s4 ⟨u, hr, h4⟩ => ?_
      subst hr
      refine thn h4 fun _ s5 ⟨x, H5, I5, r5, y5, st5, fr5⟩ => ?_
      have I5' := I5.pinned (fpOk fr5) (T.obj _ _ st5)
      refine thn (hg H2.objs.size s₂ H fp _ s5 _ H5 x u _ I5' r5 (hgo _ _ _ _ (step x H5 y5))) fun _ s6 ⟨τ6, H6, I6, q6, l6, k6⟩ => ?_
      refine thn (ht H2.objs.size s₂ H fp _ s6 τ6 H6 _ I6 q6) fun b s7 ⟨H7, I7, q7⟩ => ?_
      have back : ∀ {τ : St} (i' : Nat) (v : V), (∀ j, own.length ≤ j → τ[j]? = (cap σ own.length caps)[j]?) → (cap σ own.length caps)[i']? = some (some v) → τ[i']? = some (some v) := fun {τ} i' v hk e => by
        by_cases hi : i' < own.length
        · exfalso
          unfold cap at e
          rw [getElem_pre, List.length_replicate, if_pos hi, List.getElem?_replicate] at e
          split at e <;> cases e
        · rw [hk i' (Nat.le_of_not_lt hi)]
          exact e
      cases b with
      | false =>
        rw [if_neg Bool.false_ne_true] at q7 ⊢
        obtain ⟨m', hm, w7⟩ := hN _ _ q7
        have z := I7.pin (s₂.heap.objs.size, _) (List.mem_append_right _ (List.mem_append_left _ (List.mem_singleton.mpr rfl)))
        refine ⟨m', hm, i + 1, ys, its, n, H7, (I7.pins_of (pins' := []) fun p hp => by simp at hp).weak l6.symm fun i' v e => back i' v k6 e, T.keep _ _ _ st5 fun b hb o e => (I7.pin (b, o) (List.mem_append_right _ (List.mem_append_right _ (mem_pinsAt hb e)))).1, fun b hb => ?_, z.1, z.2.1, rv, hz, w7⟩
        obtain ⟨o, e, d⟩ := T.obj _ _ st5 b hb
        exact (I7.pin (b, o) (List.mem_append_right _ (List.mem_append_right _ (mem_pinsAt hb e)))).2.1
      | true =>
        rw [if_pos rfl] at q7 ⊢
        refine thn (he H2.objs.size s₂ H fp _ s7 τ6 H7 _ I7 q7) fun vy s8 ⟨y, H8, I8, r8, q8⟩ => ?_
        obtain ⟨m', hm, w8⟩ := hN _ _ q8
        have z := I8.pin (s₂.heap.objs.size, _) (List.mem_append_right _ (List.mem_append_left _ (List.mem_singleton.mpr rfl)))
        have zD : s8.heap.get? s₂.heap.objs.size = some { cls := .type "list", data := .seq its.toArray n } := z.1
        have ln : its.length = ys.length := rv.length.symm
        refine append_at (hsz := by rw [List.size_toArray, ln]; exact hz) zD fun h9 hs9 hD9 => ?_
        have fpN : ∀ b ∈ fp, b ≠ s₂.heap.objs.size := fun b hb => (below b (fpLt b hb)).2
        have I9 : Inv Y [] τ6 H8 { s8 with heap := h9, toks := s8.toks } := (I8.pins_of (pins' := []) fun p hp => by simp at hp).turned (it := s₂.heap.objs.size) (fun b o hb e => hs9.extBut b o hb e) z.2.1 hDC (.inr (Nat.le_refl _)) (fun x c e => Nat.ne_of_lt (clLt x c (clIn x c e))) fun p hp => by
          have hp' : p ∈ ([] : List (Addr × Obj)) := hp
          simp at hp'
        refine ⟨m', hm, i + 1, ys ++ [y], its ++ [vy], n + 1, H8, I9.weak l6.symm fun i' v e => back i' v k6 e, T.keep _ _ _ st5 fun b hb o e => hs9.extBut b o (fpN b hb) (I8.pin (b, o) (List.mem_append_right _ (List.mem_append_right _ (mem_pinsAt hb e)))).1, fun b hb => ?_, ?_, z.2.1, rv.append (.cons r8 .nil), ?_, w8⟩
        · obtain ⟨o, e, d⟩ := T.obj _ _ st5 b hb
          exact (I8.pin (b, o) (List.mem_append_right _ (List.mem_append_right _ (mem_pinsAt hb e)))).2.1
        · rw [hD9, List.push_toArray]
        · rw [List.length_append, List.length_singleton]
          exact hlt
  exact codeAny_compStart_list (loop _ rfl) (T.self 0 _ _ _ (T.keep 0 _ _ st fun b _ o e => old b o e) (loop _ rfl))

theorem free_has {pins : List (Addr × Obj)} {σ : St} {H : Hp} {s : Shared} (I : Inv X pins σ H s) (hfr : (scope.names.all fun y => !(y.2 == .free) || X.env.kindOf y.1 == some .cell || X.env.kindOf y.1 == some .free) = true) :
    ∀ y ∈ scope.names, y.2 = .free → ∃ c, X.env.cells.lookup y.1 = some c := fun y hy e => by
  have q := List.all_eq_true.mp hfr y hy
  rw [e] at q
  refine I.ok.has y.1 ?_
  simpa using q
theorem all_nocell {names : List (Str × NameKind)} (h : (names.all fun y => !(y.2 == .cell)) = true) : ∀ y ∈ names, y.2 ≠ .cell := fun y hy => by
  have q := List.all_eq_true.mp h y hy
  simpa using q
theorem all_names {names : List (Str × NameKind)} (h : (names.all fun y => !(y.2 == .local) || names.lookup y.1 == some .local) = true) : ∀ y ∈ names, y.2 = .local → names.lookup y.1 = some .local := fun y hy e => by
  have q := List.all_eq_true.mp h y hy
  rw [e] at q
  simpa using q

/-- name = [elt for tg in iter if ..] where the stores are exchanged (the name is a plain local) -/
theorem ps_setc {i : Nat} {x : Str} {pos' spos : Pos} (own : List Str) (capN : List Str) (caps : List Nat) (hN : X.N.Nodup) (hix : X.N[i]? = some x) (hx : Loc X.env.scope x) (hcaps : Caps X scope caps capN) (hc : X.calm = true) (hi : PI X tg iter wi)
    (hg : ∀ C s H fp, PG (compCx X (own ++ capN) scope C s H fp) tg g) (ht : ∀ C s H fp, PTs (compCx X (own ++ capN) scope C s H fp) ifs tt) (he : ∀ C s H fp, PE (compCx X (own ++ capN) scope C s H fp) elt te) (hgo : GOwn own.length g)
    (hsw : swapsWith (.ListComp elt [⟨tg, iter, ifs, 0⟩] scope pos) (some (.Name x pos')) spos.line X.env = pure true := by rfl)
    (hk : scope.kind = .function := by rfl) (hcl : (scope.names.all fun y => !(y.2 == .cell)) = true := by rfl) (hnm : (scope.names.all fun y => !(y.2 == .local) || scope.names.lookup y.1 == some .local) = true := by rfl)
    (hfr : (scope.names.all fun y => !(y.2 == .free) || X.env.kindOf y.1 == some .cell || X.env.kindOf y.1 == some .free) = true := by rfl) (hs : ∀ x, foldedSetIterable iter X.env x = pure x := by intro _; rfl)
    (hf : X.fn x = true ∨ X.env.scope.names.lookup x = some .local := by first | exact .inl rfl | exact .inr rfl | assumption) :
    PS X (.Assign [.Name x pos'] (.ListComp elt [⟨tg, iter, ifs, 0⟩] scope pos) spos) (tAsg (tComp wi own.length caps g tt te) (gName i)) := by
  refine .mk ?_
  intro pins s σ H D I h
  rw [exec_Assign_Name_used _ _ _ _ hsw]
  refine wpAny_bind (wpAny_standAt (wpAny_bind ?_))
  have hfree := free_has I hfr
  show wpAny _ X.A (do let _ ← comprehension (.ListComp elt [⟨tg, iter, ifs, 0⟩] scope pos) scope X.env _ (newList []) false (eval iter X.env) (some (assign (.Name x pos') X.env))) _ _ s
  refine wpAny_bind (wpAny_mono (wpAny_comprehension_free (use := some (assign (.Name x pos') X.env)) (Q := fun _ s' => SP X pins D .next s') rfl hs (closureFor_is hfree) hk (all_names hnm)
    (thn (hi pins s σ H _ I h) fun v s1 h1 => thn h1 fun itv s2 h2 => ?_)) (fun _ s' hq => wpAny_pure (wpAny_pure hq)) fun _ _ e => e)
  obtain ⟨it, fp, tn, J, H2, e, I2, T, st2, f2, τ, rfl, W, ⟨m0, w0⟩, turn⟩ := h2
  subst e
  refine comp_block (Q := fun v H' => D.nx (σ.set i (some v)) H') hk (all_nocell hcl) (free_has I2 hfr) hcaps hg ht he hgo I2 (TurnC.of T (I2.ok.hd hc)) st2 f2 (fun _ _ _ _ _ => trivial) w0 turn ?_
  intro Da C m' H' s' IX hn nC hC q
  show wpAny _ X.A (assign (.Name x pos') X.env (.ref Da)) _ _ _
  have nL : C ≠ X.env.locals := Nat.ne_of_gt (Nat.lt_of_lt_of_le I2.lt hC)
  have nCl : ∀ x c, X.env.cells.lookup x = some c → c ≠ C := fun x c e => by
    obtain ⟨v, z⟩ := I2.cell x c e
    exact Nat.ne_of_lt (Nat.lt_of_lt_of_le z.lt hC)
  refine wpAny_assign_Name (store_ok2 IX hN hix hx (show RelV (.ref Da) (.ref Da) from rfl) (fun s'' I'' hch => ?_) hf)
  obtain ⟨a, hs1, ha⟩ := hch
  have nCa : C ≠ a := by
    rcases ha with e | e
    · rw [e]; exact nL
    · exact Ne.symm (nCl _ _ e)
  refine ⟨m', hn.sameBut hs1 nCa, fun h' hs' => ⟨_, H', I''.turned (t' := s''.toks) (it := C) (fun b o hb e => hs'.extBut b o hb e) nC nL (.inr (Nat.le_trans I2.sz hC)) nCl (fun p hp => ?_), q⟩⟩
  exact Nat.ne_of_lt (Nat.lt_of_lt_of_le (Heap.lt_size (I2.pin p hp).1) hC)
end
end L2

set_option Elab.async false
set_option linter.all false
set_option maxRecDepth 100000
set_option maxHeartbeats 1000000
namespace L2
open PySem PySem.Spec PyProof.Rows
section
variable {X : Cx} {pins : List (Addr × Obj)} {σ : St} {H : Hp} {s : Shared} {h' : Heap}
end

/-! ### enumerate over a list -/
def Ite (K : PySem.W.Frag) (a : Addr) : It :=
  ⟨fun i H => ∃ xs x, SqL K H a xs ∧ xs[i]? = some x, fun i H x H' => ∃ t y, x = .ref t ∧ H t = none ∧ H' = upd H t (.tup [.int i, y]) ∧ ∀ xs, SqL K H a xs → xs[i]? = some y, fun i H => ∃ xs, SqL K H a xs ∧ xs.length ≤ i⟩
section
variable {X : Cx} {tg : Expr}
def iEnum (K : PySem.W.Frag) (tl : TA) : TI := fun σ H R => tl σ H fun vs H1 => ∃ a, vs = [.ref a] ∧ (∃ xs, SqL K H1 a xs) ∧ R (Ite K a) H1
end
end L2

set_option Elab.async false
set_option linter.all false
set_option maxRecDepth 100000
set_option maxHeartbeats 1000000
namespace L2
open PySem PySem.Spec PyProof.Rows

/-! ### data: what a value is, through lists and tuples -/
mutual
inductive Dt (K : PySem.W.Frag) (H : Hp) : V → PyData → Prop
  | non : Dt K H .non .none
  | bl (b : Bool) : Dt K H (.bl b) (.bool b)
  | int (i : Int) : Dt K H (.int i) (.int i)
  | str (x : Str) : Dt K H (.str x) (.str x)
  | lst {a : Addr} {xs : List V} {ds : List PyData} : SqL K H a xs → Dts K H xs ds → Dt K H (.ref a) (.list ds)
  | tup {a : Addr} {xs : List V} {ds : List PyData} : SqT K H a xs → Dts K H xs ds → Dt K H (.ref a) (.tuple ds)
inductive Dts (K : PySem.W.Frag) (H : Hp) : List V → List PyData → Prop
  | nil : Dts K H [] []
  | cons {x : V} {d : PyData} {xs : List V} {ds : List PyData} : Dt K H x d → Dts K H xs ds → Dts K H (x :: xs) (d :: ds)
end
section
variable {X : Cx} {pins : List (Addr × Obj)} {σ : St} {H : Hp} {s : Shared}
mutual
theorem Dt.reads (I : Inv X pins σ H s) : ∀ (d : PyData) {x : V} {v : Value}, Dt X.K H x d → RelV x v → ∃ as, Reads s.heap v d as
  | .none, _, _, h, r => by cases h; cases r; exact ⟨_, .none⟩
  | .bool b, _, _, h, r => by cases h; cases r; exact ⟨_, .bool b⟩
  | .int i, _, _, h, r => by cases h; obtain ⟨t, rfl⟩ := r; exact ⟨_, .int i t⟩
  | .str x, _, _, h, r => by cases h; obtain ⟨t, rfl⟩ := r; exact ⟨_, .str x t⟩
  | .list ds, _, _, h, r => by
    cases h with
    | lst hq hs =>
      cases r
      obtain ⟨its, rv, p, _⟩ := I.list hq
      obtain ⟨as, q⟩ := Dts.reads I ds hs rv
      obtain ⟨o, ho, hc, n, hd⟩ := p.isList
      exact ⟨_, .list ho hc hd (by simpa using q)⟩
  | .tuple ds, _, _, h, r => by
    cases h with
    | tup hq hs =>
      cases r
      obtain ⟨its, rv, p, _⟩ := I.tuple hq
      obtain ⟨as, q⟩ := Dts.reads I ds hs rv
      obtain ⟨o, ho, hc, n, hd⟩ := p
      exact ⟨_, .tuple ho hc hd (by simpa using q)⟩
  | .dict _, _, _, h, _ => nomatch h
theorem Dts.reads (I : Inv X pins σ H s) : ∀ (ds : List PyData) {xs : List V} {vs : List Value}, Dts X.K H xs ds → Vals xs vs → ∃ as, ReadsAll s.heap vs ds as
  | [], _, _, h, r => by cases h; cases r; exact ⟨_, .nil⟩
  | d :: ds, _, _, h, r => by
    cases h with
    | cons h1 h2 =>
      cases r with
      | cons r1 r2 =>
        obtain ⟨as, q1⟩ := Dt.reads I d h1 r1
        obtain ⟨bs, q2⟩ := Dts.reads I ds h2 r2
        exact ⟨_, .cons q1 q2⟩
end
/-- a == b, a != b of data -/
def rEqD (K : PySem.W.Frag) : R2 := fun x y H Q => ∃ d e, Dt K H x d ∧ Dt K H y e ∧ d.canLay0 = true ∧ e.canLay0 = true ∧ d.depth ≤ 60 ∧ Q (.bl (PyData.eqv d e)) H
def rNeD (K : PySem.W.Frag) : R2 := fun x y H Q => ∃ d e, Dt K H x d ∧ Dt K H y e ∧ d.canLay0 = true ∧ e.canLay0 = true ∧ d.depth ≤ 60 ∧ Q (.bl (!PyData.eqv d e)) H
theorem op_eqD (hu : X.A.units + 64 < cLine) : OpR X (compareOp .Eq) (rEqD X.K) := by
  intro pins s σ H x y v u Q I rx ry h
  obtain ⟨d, e, hx, hy, cx, cy, hd, q⟩ := h
  obtain ⟨as, r1⟩ := hx.reads I d rx
  obtain ⟨bs, r2⟩ := hy.reads I e ry
  have hm : min d.depth e.depth ≤ 60 := Nat.le_trans (Nat.min_le_left _ _) hd
  exact SeqAt.compareEq_reads r1 r2 cx cy (by omega) ⟨.bl _, H, I, rfl, q⟩
theorem op_neD (hu : X.A.units + 64 < cLine) : OpR X (compareOp .NotEq) (rNeD X.K) := by
  intro pins s σ H x y v u Q I rx ry h
  obtain ⟨d, e, hx, hy, cx, cy, hd, q⟩ := h
  obtain ⟨as, r1⟩ := hx.reads I d rx
  obtain ⟨bs, r2⟩ := hy.reads I e ry
  have hm : min d.depth e.depth ≤ 60 := Nat.le_trans (Nat.min_le_left _ _) hd
  exact SeqAt.compareNe_reads r1 r2 cx cy (by omega) ⟨.bl _, H, I, rfl, q⟩

/-! ### sorted, any, all, isinstance -/
theorem call_sorted : CallR X (.builtin "sorted") (fun xs H Q => ∃ (p : Addr) (ns : List Int), xs = [.ref p] ∧ SqL X.K H p (ns.map V.int) ∧ ns.length < 64 ∧ ∀ (l : Addr) (ns' : List Int), H l = none → ns'.Perm ns → ns'.Pairwise (· ≤ ·) → Q (.ref l) (upd H l (.lst (ns'.map V.int)))) := by
  intro pins s σ H xs us Q I r h
  obtain ⟨p, ns, rfl, hq, h64, q⟩ := h
  obtain ⟨u, rfl, rx⟩ := vals1 r
  cases rx
  obtain ⟨its, rv, pl, hz⟩ := I.list hq
  have hi := intsAre_of rv
  have hlen : its.length = ns.length := by have := rv.length; rw [List.length_map] at this; exact this.symm
  refine sorted_ints pl.isList hi (by omega) fun out ns' a1 a2 a3 => ?_
  obtain ⟨e, he⟩ := sortedAll_at s.heap its out
  refine ⟨.ref (s.heap.objs.size + 1), _, I.laid (t' := s.toks) (fun b o q => sortedAll_old q) (Nat.le_succ _) (show ObjOk X.prog X.w _ _ _ (.lst (ns'.map V.int)) from ⟨?_, out.toList, e, vals_ints a1, by simpa using he⟩), rfl, q _ ns' (I.hok.fresh (Nat.le_succ _)) a2 a3⟩
  rw [List.length_map, a2.length_eq]
  exact Nat.le_trans (Nat.le_of_lt h64) (by decide)
/-- isinstance(x, T), T a built-in type -/
theorem call_isinst : CallR X (.builtin "isinstance") (fun xs H Q => ∃ x T t b, xs = [x, .ty T] ∧ TyOf X.K H x t ∧ PySem.W.kitOne X.K t (.type T) = some b ∧ Q (.bl b) H) := by
  intro pins s σ H xs us Q I r h
  obtain ⟨x, T, t, b, rfl, ty, e, q⟩ := h
  obtain ⟨u, w', rfl, rx, rT⟩ := vals2 r
  cases rT
  exact isinst_ok I rx ty e fun tk => ⟨.bl b, H, I.tok tk, rfl, q⟩
end
end L2

set_option Elab.async false
set_option linter.all false
set_option maxRecDepth 100000
set_option maxHeartbeats 1000000
namespace L2
open PySem PySem.Spec PyProof.Rows

section
variable {X : Cx} {pos : Pos} {a b : Expr} {ta tb : TE}
/-! ### more arithmetic -/
def CDivL (i j : Int) : Prop := 0 < j ∧ j < 2 ^ 200
theorem op_fdivL : OpR X (binaryOp .FloorDiv) (rI CDivL fun i j => .int (i / j)) := opI fun i j _ _ _ _ _ hc q => by
  have h1 : (0 : Int) < j := hc.1
  have h2 : j < 2 ^ 200 := hc.2
  refine floordiv_int (by omega) (by rw [Int.fdiv_eq_ediv_of_nonneg i (by omega)]; exact q) (.inl (PyProof.noPylong_of_log2 ?_))
  have h3 : j.natAbs < 2 ^ 200 := by omega
  have h4 : j.natAbs ≠ 0 := by omega
  exact Nat.lt_of_lt_of_le ((Nat.log2_lt h4).mpr h3) (by decide)
def CMulL (i j : Int) : Prop := (-(2 ^ 200) < i ∧ i < 2 ^ 200) ∧ (-(2 ^ 200) < j ∧ j < 2 ^ 200)
theorem bitsL {k : Int} (h1 : -(2 ^ 200) < k) (h2 : k < 2 ^ 200) : Builtin.Int.intBits k ≤ 2 ^ 20 := by
  unfold Builtin.Int.intBits
  have h3 : k.natAbs < 2 ^ 200 := by omega
  have e : (2 : Nat) ^ 20 = 1048576 := by decide
  split
  · omega
  · rename_i h
    have h4 : k.natAbs ≠ 0 := by
      intro z
      apply h
      first | exact z | simpa using z | omega
    have := (Nat.log2_lt h4).mpr h3
    omega
theorem op_mulL : OpR X (binaryOp .Mult) (rI CMulL fun i j => .int (i * j)) := opI fun _ _ _ _ _ _ _ hc q => mul_int q (.of_bits (bitsL hc.1.1 hc.1.2) (bitsL hc.2.1 hc.2.2))
/-- a written power -/
theorem pe_pow {i j c : Int} {k1 k2 : Nat} {p1 p2 : Pos} (h : i ^ j.toNat = c) (h0 : (decide (0 ≤ j) && decide (j ≤ 1000000) && decide (i.natAbs < 2 ^ 64)) = true := by decide) : PE X (.BinOp (.Constant (.int i) k1 p1) .Pow (.Constant (.int j) k2 p2) pos) (tC (.int c)) := by
  simp only [Bool.and_eq_true, decide_eq_true_eq] at h0
  refine .mk ?_
  intro pins s σ H Q I q
  refine pe_op op_pow pe_int pe_int pins s σ H Q I ⟨_, _, rfl, rfl, ⟨h0.1.1, h0.1.2, h0.2⟩, ?_⟩
  subst h
  exact q
/-- -10 ** 9 is -(10 ** 9) -/
theorem pe_negpow {i j c : Int} {k1 k2 : Nat} {p1 p2 p3 : Pos} (h : -(i ^ j.toNat) = c) (h0 : (decide (0 ≤ j) && decide (j ≤ 1000000) && decide (i.natAbs < 2 ^ 64)) = true := by decide) :
    PE X (.UnaryOp .USub (.BinOp (.Constant (.int i) k1 p1) .Pow (.Constant (.int j) k2 p2) p3) pos) (tC (.int c)) := .mk <| fun pins s σ H Q I q =>
  pe_un un_neg (pe_pow (c := i ^ j.toNat) rfl h0) pins s σ H Q I ⟨_, rfl, by subst h; exact q⟩

/-! ### built-ins by name -/
def rAbs : List V → Hp → VK → Prop := fun xs H Q => ∃ i : Int, xs = [.int i] ∧ Q (.int (if i < 0 then -i else i)) H
theorem call_absN : CallR X (.builtin "abs") rAbs := call_abs
def rMax : List V → Hp → VK → Prop := fun xs H Q => ∃ i j : Int, xs = [.int i, .int j] ∧ Q (.int (if j > i then j else i)) H
theorem call_maxN (hc : X.calm = true) : CallR X (.builtin "max") rMax := call_max2 hc
def rMin : List V → Hp → VK → Prop := fun xs H Q => ∃ i j : Int, xs = [.int i, .int j] ∧ Q (.int (if j < i then j else i)) H
theorem call_minN (hc : X.calm = true) : CallR X (.builtin "min") rMin := call_min2 hc
def rLenS (K : PySem.W.Frag) : List V → Hp → VK → Prop := fun xs H Q => ∃ (p : Addr) (ys : List V), xs = [.ref p] ∧ (SqL K H p ys ∨ SqT K H p ys) ∧ Q (.int ys.length) H
theorem call_lenN : CallR X (.builtin "len") (rLenS X.K) := call_len_seq
end

/-! ### readings, step by step -/
section
variable {σ : St} {H H' : Hp} {Q : VK} {D : Ends} {t u : TS} {te ta tb tc : TE} {tt tt' : TT} {g : TG}
theorem rd_seq (h : t { D with nx := u D } σ H) : tSeq t u D σ H := h
theorem rd_next (h : D.nx σ H) : tNext D σ H := h
theorem rd_asg (h : te σ H fun x H1 => g x σ H1 D.nx) : tAsg te g D σ H := h
theorem rd_set {i : Nat} {v : V} {R : St → Hp → Prop} (h : R (σ.set i (some v)) H) : gName i v σ H R := h
theorem rd_ret (h : te σ H D.rt) : tRet te D σ H := h
theorem rd_if (h : tt σ H fun b H1 => if b = true then t D σ H1 else u D σ H1) : tIfS tt t u D σ H := h
theorem rd_drop (h : te σ H fun _ H1 => D.nx σ H1) : tDrop te D σ H := h
theorem rd_var {i : Nat} {v : V} (e : σ[i]? = some (some v)) (h : Q v H) : tVar i σ H Q := ⟨v, e, h⟩
theorem rd_C {v : V} (h : Q v H) : tC v σ H Q := h
theorem rd_op {r : R2} (h : ta σ H fun x H1 => tb σ H1 fun y H2 => r x y H2 Q) : tOp r ta tb σ H Q := h
theorem rd_I0 {f : Int → Int → V} {i j : Int} (h : Q (f i j) H) : rI0 f (.int i) (.int j) H Q := ⟨i, j, rfl, rfl, h⟩
theorem rd_eqI {i j : Int} (h : Q (.bl (decide (i = j))) H) : rEq (.int i) (.int j) H Q := ⟨rfl, by rw [show (decide (V.int i = V.int j)) = decide (i = j) by simp]; exact h⟩
theorem rd_neI {i j : Int} (h : Q (.bl (!decide (i = j))) H) : rNe (.int i) (.int j) H Q := ⟨rfl, by rw [show (decide (V.int i = V.int j)) = decide (i = j) by simp]; exact h⟩
theorem rd_test {R : Bool → Hp → Prop} (h : te σ H fun x H' => ∃ k, x = .bl k ∧ R k H') : tTest te σ H R := h
theorem rd_B {R : Bool → Hp → Prop} (h : te σ H fun x H' => ∃ k, x = .bl k ∧ R k H') : tB te σ H R := h
theorem rd_and {R : Bool → Hp → Prop} (h : tt σ H fun c H1 => if c = true then tt' σ H1 R else R false H1) : tAnd tt tt' σ H R := h
theorem rd_or {R : Bool → Hp → Prop} (h : tt σ H fun c H1 => if c = true then R true H1 else tt' σ H1 R) : tOr tt tt' σ H R := h
theorem rd_not {R : Bool → Hp → Prop} (h : tt σ H fun c H1 => R (!c) H1) : tNot tt σ H R := h
theorem rd_isbl {b : Bool} {R : Bool → Prop} (h : R b) : ∃ c, V.bl b = .bl c ∧ R c := ⟨b, rfl, h⟩
theorem rd_ifx (h : tt σ H fun c H1 => if c = true then ta σ H1 Q else tb σ H1 Q) : tIf tt ta tb σ H Q := h
theorem rd_nil {R : List V → Hp → Prop} (h : R [] H) : tNil σ H R := h
theorem rd_cons {tr : TA} {R : List V → Hp → Prop} (h : ta σ H fun x H1 => tr σ H1 fun xs H2 => R (x :: xs) H2) : tCons ta tr σ H R := h
theorem rd_call {sp : Sp} {E : XK} {tr : TA} (h : tr σ H fun vs H1 => sp vs H1 Q E) : tCall sp [] E tr σ H Q := by
  show tr σ H fun vs H1 => sp (vs ++ []) H1 Q E
  simpa using h
theorem rd_cb {r : List V → Hp → VK → Prop} {tr : TA} (h : tr σ H fun vs H1 => r vs H1 Q) : tCB r tr σ H Q := h
theorem rd_abs {i : Int} (h : Q (.int (if i < 0 then -i else i)) H) : rAbs [.int i] H Q := ⟨i, rfl, h⟩
theorem rd_max {i j : Int} (h : Q (.int (if j > i then j else i)) H) : rMax [.int i, .int j] H Q := ⟨i, j, rfl, h⟩
theorem rd_min {i j : Int} (h : Q (.int (if j < i then j else i)) H) : rMin [.int i, .int j] H Q := ⟨i, j, rfl, h⟩
theorem rd_lst {tr : TA} (h : tr σ H fun xs H1 => xs.length ≤ sizeLine ∧ ∀ p, H1 p = none → Q (.ref p) (upd H1 p (.lst xs))) : tLst tr σ H Q := h
theorem rd_tup {tr : TA} (h : tr σ H fun xs H1 => xs.length ≤ sizeLine ∧ ∀ p, H1 p = none → Q (.ref p) (upd H1 p (.tup xs))) : tTup tr σ H Q := h
theorem rd_dec {p : Prop} [Decidable p] {A B : Prop} (h1 : p → A) (h2 : ¬ p → B) : if decide p = true then A else B := by
  by_cases h : p
  · rw [decide_eq_true h]; exact iteT (h1 h)
  · rw [decide_eq_false h]; exact iteF (h2 h)
theorem rd_ndec {p : Prop} [Decidable p] {A B : Prop} (h1 : ¬ p → A) (h2 : p → B) : if (!decide p) = true then A else B := by
  by_cases h : p
  · rw [decide_eq_true h]; exact iteF (h2 h)
  · rw [decide_eq_false h]; exact iteT (h1 h)
theorem rd_bool {b : Bool} {A B : Prop} (h1 : b = true → A) (h2 : b = false → B) : if b = true then A else B := by
  cases b with
  | true => exact iteT (h1 rfl)
  | false => exact iteF (h2 rfl)
end

/-! ### heaps that grow -/
theorem Same.upd {H H' : Hp} {p : Addr} {o : HO} (e : Same H H') (hp : H' p = none) : Same H (upd H' p o) := fun b u h => by
  have q := e b u h
  rw [upd_ne (ne_of_none q hp)]
  exact q
theorem rd_menu {K : PySem.W.Frag} {p : Addr} {xs : List V} {i : Int} {v : V} {H : Hp} {Q : VK} (hp : H p = none) (e : atI xs i = some v) (h : ∀ H', Same H H' → Q v H') : rIxL K (.ref p) (.int i) (upd H p (.lst xs)) Q :=
  ⟨p, xs, i, v, rfl, rfl, SqL.of upd_same, e, h _ ((Same.refl H).upd hp)⟩
theorem rd_ixL {K : PySem.W.Frag} {p : Addr} {xs : List V} {i : Int} {v : V} {H : Hp} {Q : VK} (hq : SqL K H p xs) (e : atI xs i = some v) (h : Q v H) : rIxL K (.ref p) (.int i) H Q := ⟨p, xs, i, v, rfl, rfl, hq, e, h⟩
theorem rd_ixT {K : PySem.W.Frag} {p : Addr} {xs : List V} {i : Int} {v : V} {H : Hp} {Q : VK} (hq : SqT K H p xs) (e : atI xs i = some v) (h : Q v H) : rIxT K (.ref p) (.int i) H Q := ⟨p, xs, i, v, rfl, rfl, hq, e, h⟩
theorem rd_lenL {K : PySem.W.Frag} {p : Addr} {xs : List V} {H : Hp} {Q : VK} (hq : SqL K H p xs) (h : Q (.int xs.length) H) : rLenS K [.ref p] H Q := ⟨p, xs, rfl, .inl hq, h⟩
/-! ### comprehensions: the forms one uses -/
section
variable {K : PySem.W.Frag} {a : Addr} {xs : List V} {own : Nat} {caps : List Nat} {g : TG} {tt : TT} {te : TE} {σ τ : St} {H1 : Hp} {Q : VK}
/-- over a list that the block leaves as it is, by an invariant -/
theorem comp_list (hτ : τ = cap σ own caps) (hz : xs.length ≤ sizeLine) (Pv : Nat → List V → Hp → Prop) (h0 : Pv 0 [] H1) (hl : ∀ i ys H, i ≤ xs.length → Pv i ys H → SqL K H a xs ∧ ys.length ≤ i)
    (hs : ∀ i x ys H, xs[i]? = some x → Pv i ys H → g x τ H fun τ2 H2 => tt τ2 H2 fun b H3 => if b = true then te τ2 H3 fun y H4 => Pv (i + 1) (ys ++ [y]) H4 else Pv (i + 1) ys H3)
    (hd : ∀ ys H, Pv xs.length ys H → CEnd Q ys H) :
    ∃ τ, τ = cap σ own caps ∧ ∃ W : Nat → Nat → List V → Hp → Prop, (∃ m, W 0 m [] H1) ∧ ∀ i m ys H, W i m ys H →
      ((Itl K a).stop i H ∧ CEnd Q ys H) ∨
      ((Itl K a).go i H ∧ ys.length < sizeLine ∧ ∃ N : List V → Hp → Prop, (∀ ys H, N ys H → ∃ m', m' < m ∧ W (i + 1) m' ys H) ∧ ∀ x H', (Itl K a).yld i H x H' → g x τ H' fun τ2 H2 => tt τ2 H2 fun b H3 =>
        if b = true then te τ2 H3 fun y H4 => N (ys ++ [y]) H4 else N ys H3) := by
  refine ⟨τ, hτ, fun i m ys H => m = xs.length - i ∧ i ≤ xs.length ∧ Pv i ys H, ⟨xs.length, by simp, Nat.zero_le _, h0⟩, ?_⟩
  rintro i m ys H ⟨rfl, hi, p⟩
  obtain ⟨q, ly⟩ := hl i ys H hi p
  by_cases hlt : i < xs.length
  · refine .inr ⟨⟨xs, xs[i], q, by simp [hlt]⟩, Nat.lt_of_le_of_lt ly (Nat.lt_of_lt_of_le hlt hz), Pv (i + 1), fun ys' H' p' => ⟨xs.length - (i + 1), by omega, rfl, hlt, p'⟩, fun x H' y => ?_⟩
    obtain ⟨e, y⟩ := y
    subst e
    exact hs i x ys _ (y xs q) p
  · have e : i = xs.length := by omega
    subst e
    exact .inl ⟨⟨xs, q, Nat.le_refl _⟩, hd ys H p⟩
/-- over a range -/
theorem comp_range {lo : Int} {n : Nat} (hτ : τ = cap σ own caps) (hz : n ≤ sizeLine) (Pv : Nat → List V → Hp → Prop) (h0 : Pv 0 [] H1) (hl : ∀ i ys H, i ≤ n → Pv i ys H → ys.length ≤ i)
    (hs : ∀ i ys H, i < n → Pv i ys H → g (.int (lo + i)) τ H fun τ2 H2 => tt τ2 H2 fun b H3 => if b = true then te τ2 H3 fun y H4 => Pv (i + 1) (ys ++ [y]) H4 else Pv (i + 1) ys H3)
    (hd : ∀ ys H, Pv n ys H → CEnd Q ys H) :
    ∃ τ, τ = cap σ own caps ∧ ∃ W : Nat → Nat → List V → Hp → Prop, (∃ m, W 0 m [] H1) ∧ ∀ i m ys H, W i m ys H →
      ((Itr lo n).stop i H ∧ CEnd Q ys H) ∨
      ((Itr lo n).go i H ∧ ys.length < sizeLine ∧ ∃ N : List V → Hp → Prop, (∀ ys H, N ys H → ∃ m', m' < m ∧ W (i + 1) m' ys H) ∧ ∀ x H', (Itr lo n).yld i H x H' → g x τ H' fun τ2 H2 => tt τ2 H2 fun b H3 =>
        if b = true then te τ2 H3 fun y H4 => N (ys ++ [y]) H4 else N ys H3) := by
  refine ⟨τ, hτ, fun i m ys H => m = n - i ∧ i ≤ n ∧ Pv i ys H, ⟨n, by simp, Nat.zero_le _, h0⟩, ?_⟩
  rintro i m ys H ⟨rfl, hi, p⟩
  have ly := hl i ys H hi p
  by_cases hlt : i < n
  · refine .inr ⟨hlt, Nat.lt_of_le_of_lt ly (Nat.lt_of_lt_of_le hlt hz), Pv (i + 1), fun ys' H' p' => ⟨n - (i + 1), by omega, rfl, hlt, p'⟩, fun x H' y => ?_⟩
    obtain ⟨e, y⟩ := y
    subst e y
    exact hs i ys _ hlt p
  · have e : i = n := by omega
    subst e
    exact .inl ⟨Nat.le_refl _, hd ys H p⟩
end
end L2
namespace L2
open PySem PySem.Spec PyProof.Rows
section
variable {σ : St} {H H' : Hp} {Q : VK}
theorem rd_Ic {C : Int → Int → Prop} {f : Int → Int → V} {i j : Int} (h : Q (f i j) H) (hc : C i j) : rI C f (.int i) (.int j) H Q := ⟨i, j, rfl, rfl, hc, h⟩
theorem rd_ixLc {K : PySem.W.Frag} {p : Addr} {xs : List V} {i : Int} {v : V} (hq : SqL K H p xs) (h : Q v H) (e : atI xs i = some v) : rIxL K (.ref p) (.int i) H Q := ⟨p, xs, i, v, rfl, rfl, hq, e, h⟩
theorem cmul_r {i j : Int} (h : (decide (-(2 ^ 64) < j) && decide (j < 2 ^ 64)) = true) : CMul i j := by
  simp only [Bool.and_eq_true, decide_eq_true_eq] at h
  exact .inr h
theorem cmul_l {i j : Int} (h : (decide (-(2 ^ 64) < i) && decide (i < 2 ^ 64)) = true) : CMul i j := by
  simp only [Bool.and_eq_true, decide_eq_true_eq] at h
  exact .inl h
theorem cdivL {i j : Int} (h : (decide (0 < j) && decide (j < 2 ^ 200)) = true) : CDivL i j := by
  simp only [Bool.and_eq_true, decide_eq_true_eq] at h
  exact h
end
end L2
namespace L2
open PySem PySem.Spec PyProof.Rows
section
variable {σ : St} {H H' : Hp} {Q : VK} {D : Ends}
theorem rd_for {wi : TI} {g : TG} {tb : TS} (h : wi σ H fun J H1 => ∃ W : Nat → Nat → St → Hp → Prop, (∃ m, W 0 m σ H1) ∧ ∀ i m σ H, W i m σ H →
    (J.stop i H ∧ D.nx σ H) ∨ (J.go i H ∧ ∃ N : St → Hp → Prop, (∀ σ' H', N σ' H' → ∃ m', m' < m ∧ W (i + 1) m' σ' H') ∧ ∀ x H', J.yld i H x H' → g x σ H' fun σ2 H2 => tb { D with nx := N, ct := N, bk := D.nx } σ2 H2)) : tFor wi g tb D σ H := h
theorem rd_rng1 {ta : TA} {R : It → Hp → Prop} (h : ta σ H fun vs H1 => ∃ j : Int, vs = [.int j] ∧ -(2 ^ 62) ≤ j ∧ j < 2 ^ 62 ∧ R (Itr 0 j.toNat) H1) : iRng1 ta σ H R := h
theorem rd_iL {K : PySem.W.Frag} {tl : TE} {R : It → Hp → Prop} (h : tl σ H fun x H1 => ∃ a, x = .ref a ∧ (∃ xs, SqL K H1 a xs) ∧ R (Itl K a) H1) : iList K tl σ H R := h
theorem rd_comp {wi : TI} {own : Nat} {caps : List Nat} {g : TG} {tt : TT} {te : TE} (h : wi σ H fun J H1 =>
    ∃ τ, τ = cap σ own caps ∧ ∃ W : Nat → Nat → List V → Hp → Prop, (∃ m, W 0 m [] H1) ∧ ∀ i m ys H, W i m ys H →
    (J.stop i H ∧ CEnd Q ys H) ∨
    (J.go i H ∧ ys.length < sizeLine ∧ ∃ N : List V → Hp → Prop, (∀ ys H, N ys H → ∃ m', m' < m ∧ W (i + 1) m' ys H) ∧ ∀ x H', J.yld i H x H' → g x τ H' fun τ2 H2 => tt τ2 H2 fun b H3 =>
      if b = true then te τ2 H3 fun y H4 => N (ys ++ [y]) H4 else N ys H3)) : tComp wi own caps g tt te σ H Q := h
theorem rd_tt {R : Bool → Hp → Prop} (h : R true H) : tTrue σ H R := h
theorem rd_bm {K : PySem.W.Frag} {T : String} {r : V → List V → Hp → VK → Prop} {to : TE} {t : TA} (h : to σ H fun x H1 => tyV K T x H1 ∧ t σ H1 fun xs H2 => r x xs H2 Q) : tBM K T r to t σ H Q := h
theorem rd_append {l : Addr} {xs : List V} {y : V} (hq : H l = some (.lst xs)) (hz : xs.length < sizeLine) (h : Q .non (upd H l (.lst (xs ++ [y])))) : rAppend (.ref l) [y] H Q := ⟨l, xs, y, rfl, rfl, hq, hz, h⟩
/-- data of ints -/
theorem Dts.ints {K : PySem.W.Frag} {H : Hp} : ∀ (ns : List Int), Dts K H (ns.map V.int) (ns.map PyData.int)
  | [] => .nil
  | n :: ns => .cons (.int n) (Dts.ints ns)
theorem canLay_ints : ∀ ns : List Int, PyData.canLayAll0 (ns.map PyData.int) = true
  | [] => by simp [PyData.canLayAll0]
  | n :: ns => by simp [PyData.canLayAll0, PyData.canLay0, canLay_ints ns]
theorem depth_ints : ∀ ns : List Int, PyData.depthAll (ns.map PyData.int) ≤ 1
  | [] => by simp [PyData.depthAll]
  | n :: ns => by simp [PyData.depthAll, PyData.depth, depth_ints ns]
theorem atI_ints {ns : List Int} {i : Int} (h0 : 0 ≤ i) (h1 : i < ns.length) : atI (ns.map V.int) i = some (.int (ns.getD i.toNat 0)) := by
  have e : i = ((i.toNat : Nat) : Int) := by omega
  have hl : i.toNat < ns.length := by omega
  rw [e]
  have q : (ns.map V.int)[i.toNat]? = some (.int (ns.getD i.toNat 0)) := by
    rw [List.getElem?_map, List.getElem?_eq_getElem hl, List.getD_eq_getElem?_getD, List.getElem?_eq_getElem hl]
    rfl
  exact atI_nat q
end
end L2
namespace L2
open PySem PySem.Spec PyProof.Rows
section
variable {σ : St} {H H' : Hp} {Q : VK} {D : Ends}
theorem rd_chain {r r' : R2} {ta tb tc : TE} (h : ta σ H fun x H1 => tb σ H1 fun y H2 => r x y H2 fun z H3 => ∃ k, z = .bl k ∧ (if k = true then tc σ H3 fun w' H4 => r' y w' H4 Q else Q (.bl false) H3)) : tChain r r' ta tb tc σ H Q := h
/-- two like data are equal -/
theorem rd_neSame {K : PySem.W.Frag} {x y : V} {d : PyData} (hx : Dt K H x d) (hy : Dt K H y d) (hc : d.canLay0 = true) (hd : d.depth ≤ 60) (h : Q (.bl false) H) : rNeD K x y H Q :=
  ⟨d, d, hx, hy, hc, hc, hd, by rw [SeqAt.eqv_refl d hc]; exact h⟩
theorem Dt.intList {K : PySem.W.Frag} {a : Addr} {ns : List Int} (h : SqL K H a (ns.map V.int)) : Dt K H (.ref a) (.list (ns.map PyData.int)) := .lst h (.ints ns)
theorem lay_ints (ns : List Int) : (PyData.list (ns.map PyData.int)).canLay0 = true := by simpa [PyData.canLay0] using canLay_ints ns
theorem dep_ints (ns : List Int) : (PyData.list (ns.map PyData.int)).depth ≤ 60 := by
  have := depth_ints ns
  simp only [PyData.depth]
  omega
theorem rd_false {A B : Prop} (h : B) : if false = true then A else B := iteF h
theorem rd_true {A B : Prop} (h : A) : if true = true then A else B := iteT h
theorem rd_ntrue {A B : Prop} (h : B) : if (!true) = true then A else B := iteF h
end
end L2
namespace L2
open PySem PySem.Spec PyProof.Rows
section
variable {X : Cx} {pos : Pos}
def rInst (K : PySem.W.Frag) : List V → Hp → VK → Prop := fun xs H Q => ∃ x T t b, xs = [x, .ty T] ∧ TyOf K H x t ∧ PySem.W.kitOne K t (.type T) = some b ∧ Q (.bl b) H
theorem call_instN : CallR X (.builtin "isinstance") (rInst X.K) := call_isinst
def rSorted (K : PySem.W.Frag) : List V → Hp → VK → Prop := fun xs H Q => ∃ (p : Addr) (ns : List Int), xs = [.ref p] ∧ SqL K H p (ns.map V.int) ∧ ns.length < 64 ∧ ∀ (l : Addr) (ns' : List Int), H l = none → ns'.Perm ns → ns'.Pairwise (· ≤ ·) → Q (.ref l) (upd H l (.lst (ns'.map V.int)))
theorem call_sortedN : CallR X (.builtin "sorted") (rSorted X.K) := call_sorted
def rAllB (K : PySem.W.Frag) : List V → Hp → VK → Prop := fun xs H Q => ∃ (p : Addr) (bs : List Bool), xs = [.ref p] ∧ SqL K H p (bs.map V.bl) ∧ Q (.bl (bs.all id)) H
def rAnyB (K : PySem.W.Frag) : List V → Hp → VK → Prop := fun xs H Q => ∃ (p : Addr) (bs : List Bool), xs = [.ref p] ∧ SqL K H p (bs.map V.bl) ∧ Q (.bl (bs.any id)) H
def rListOf (K : PySem.W.Frag) : List V → Hp → VK → Prop := fun xs H Q => ∃ (p : Addr) (ys : List V), xs = [.ref p] ∧ (SqL K H p ys ∨ SqT K H p ys) ∧ ∀ l, H l = none → Q (.ref l) (upd H l (.lst ys))
theorem call_listN : CallR X (.type "list") (rListOf X.K) := call_list_of
def rInt1 : List V → Hp → VK → Prop := fun xs H Q => (∃ i : Int, xs = [.int i] ∧ Q (.int i) H) ∨ ∃ k : Bool, xs = [.bl k] ∧ Q (.int (if k then 1 else 0)) H
theorem call_intN : CallR X (.type "int") rInt1 := call_int1
def rIsN : R2 := fun x y H Q => y = .non ∧ Q (.bl (decide (x = .non))) H
def rNotN : R2 := fun x y H Q => y = .non ∧ Q (.bl (!decide (x = .non))) H
end
section
variable {σ : St} {H H' : Hp} {Q : VK}
theorem rd_instN {K : PySem.W.Frag} {x : V} {T : String} {t : Value} {b : Bool} (ty : TyOf K H x t) (e : PySem.W.kitOne K t (.type T) = some b) (h : Q (.bl b) H) : rInst K [x, .ty T] H Q := ⟨x, T, t, b, rfl, ty, e, h⟩
theorem rd_listN {K : PySem.W.Frag} {p : Addr} {ys : List V} (hq : SqL K H p ys) (h : ∀ l, H l = none → Q (.ref l) (upd H l (.lst ys))) : rListOf K [.ref p] H Q := ⟨p, ys, rfl, .inl hq, h⟩
theorem rd_intB {k : Bool} (h : Q (.int (if k then 1 else 0)) H) : rInt1 [.bl k] H Q := .inr ⟨k, rfl, h⟩
end
end L2
namespace L2
open PySem PySem.Spec PyProof.Rows
/-- a written menu of ints, at a place that lies in it -/
theorem rd_menuI {K : PySem.W.Frag} {p : Addr} {ns : List Int} {i : Int} {H : Hp} {Q : VK} (hp : H p = none) (h0 : 0 ≤ i) (h1 : i < ns.length) (h : ∀ (z : Int) (H' : Hp), z ∈ ns → Same H H' → Q (.int z) H') : rIxL K (.ref p) (.int i) (upd H p (.lst (ns.map V.int))) Q := by
  have hi : i.toNat < ns.length := by omega
  refine rd_menu hp (atI_ints h0 h1) fun H' hs => h _ H' ?_ hs
  rw [List.getD_eq_getElem?_getD, List.getElem?_eq_getElem hi]
  exact List.getElem_mem hi
end L2
namespace L2
open PySem PySem.Spec PyProof.Rows
theorem kit_list_list {K : PySem.W.Frag} : PySem.W.kitOne K (.type "list") (.type "list") = some true := by first | rfl | (with_unfolding_all rfl) | decide
theorem kit_tuple_tuple {K : PySem.W.Frag} : PySem.W.kitOne K (.type "tuple") (.type "tuple") = some true := by first | rfl | (with_unfolding_all rfl) | decide
end L2

set_option Elab.async false
set_option linter.all false
set_option maxRecDepth 100000
/-! THE HAND LAYER, for ints, bools, texts, own classes, DICTS (int and text keys), calls, loops. Paste it whole ahead of your own text; what your proof does not reach may be deleted. -/
namespace L2
open PySem PySem.Spec PyProof.Rows

end L2

namespace L2
open PySem PySem.Spec PyProof.Rows

section
variable (P : Program) (w : World)
end

section
variable {P : Program} {w : World} {H H' : Hp} {h h' : Heap} {a : Addr} {o : HO}
end

section
variable {P : Program} {w : World} {H : Hp} {h h' : Heap} {x e : Addr} {o' : HO}
end

/-! ### kept unless tracked; of the frames at fs (the callers') the slots may change (an exception that passes writes there); of the records at ex (iterators) nothing is said -/
section
variable {fs fs' ex ex' : List Addr} {H H1 H2 : Hp} {h h1 h2 h' : Heap} {a x e : Addr} {o : HO}
end

/-! ### the heap without what is tracked -/
/-! ### OpenK's ledger, filled with every new object but one -/
end L2

namespace L2
open PySem PySem.Spec PyProof.Rows

section
variable {X : Cx} {pins : List (Addr × Obj)} {σ : List (Option V)} {H H' : Hp} {s : Shared} {h' : Heap}

end

/-! ### the judgements -/
end L2

namespace L2
open PySem PySem.Spec PyProof.Rows
section
variable {X : Cx}

/-! ### names and constants -/
/-! ### arithmetic -/
variable {a b : Expr} {ta tb : TE} {pos : Pos}
/-! ### comparisons -/
/-! ### and, or, not -/
variable {tA tB' : TT} {rest : List Expr}
end
end L2

namespace L2
open PySem PySem.Spec PyProof.Rows

/-! ### a list, a tuple that is read: tracked, frozen, or an object of the module -/
section
variable {X : Cx} {pins : List (Addr × Obj)} {σ : St} {H : Hp} {s : Shared} {a : Addr} {xs ys : List V}
end

/-! ### another wish about exceptions -/
section
variable {X : Cx} {pins : List (Addr × Obj)} {σ : St} {H : Hp} {s : Shared} {E : Value → Shared → Prop}
end

/-! ### blocks and small statements -/
section
variable {X : Cx} {st : Stmt} {rest : List Stmt} {t u : TS} {e : Expr} {te : TE} {pos : Pos}
end

/-! ### targets -/
section
variable {X : Cx} {pos : Pos}
end

/-! ### while -/
section
variable {X : Cx} {pos : Pos}
end

/-! ### what a loop or a comprehension walks -/
end L2

namespace L2
open PySem PySem.Spec PyProof.Rows
section
variable {X : Cx} {tg : Expr}
/-! ### for -/
end

/-! ### the forms one uses -/
end L2

namespace L2
open PySem PySem.Spec PyProof.Rows

section
variable {X : Cx} {a b c : Expr} {ta tb tc : TE} {pos : Pos}

/-! ### ints -/
/-! ### bools among ints: n += (a < b) -/
end

/-! ### comparisons -/
section
variable {X : Cx} {a b c : Expr} {ta tb tc : TE} {pos : Pos}
/-! ### truth -/
/-! ### strs and bytes -/
/-! ### scalar builtins, by CallR -/
end
end L2

namespace L2
open PySem PySem.Spec PyProof.Rows

/-! ### an instance, its attributes a map -/
section
variable {prog : Program} {w : World} {A : Around} {E : Value → Shared → Prop} {s : Shared} {K : PySem.W.Frag} {x dx C f : Addr} {mA : Str → Option Value} {name : Str} {v : Value}

end

/-! ### the attributes as a list of pairs -/
section
variable {P : Program} {w : World} {H H' : Hp} {h h' : Heap} {a C dx : Addr} {fs fs' : List (Str × V)}
end

/-! ### what of the text a class must have -/
section
variable {X : Cx} {pins : List (Addr × Obj)} {σ : St} {H : Hp} {s : Shared} {a C dx : Addr} {fs : List (Str × V)} {f : Str} {v : V} {A : Around} {E : Value → Shared → Prop}

end

/-! ### readings and rules -/
section
variable {X : Cx} {o e value : Expr} {f : Str} {pos pos' tpos : Pos} {ta tv : TE}
end

/-! ### isinstance -/
section
variable {X : Cx} {pins : List (Addr × Obj)} {σ : St} {H : Hp} {s : Shared} {A : Around} {E : Value → Shared → Prop} {Q : Value → Shared → Prop} {c : Value} {b : Bool}
end
end L2

namespace L2
open PySem PySem.Spec PyProof.Rows

/-! ### room -/
/-! ### argument lists and displays -/
section
variable {X : Cx} {e : Expr} {es : List Expr} {te : TE} {t : TA} {pos : Pos}
end

/-! ### what a def promises -/
section
variable {X : Cx} {pins : List (Addr × Obj)} {σ : St} {H : Hp} {s s' : Shared}
end

/-! ### calls -/
section
variable {X : Cx} {CX : CXT} {k : Nat} {f C : Addr} {fd : FuncData} {ps : List Str} {sp : Sp} {dvs : List V} {ds : List Value} {E : XK} {x m : Str} {p pos apos : Pos} {e o : Expr} {es : List Expr} {ta : TE} {t : TA}

end

/-! ### keywords -/
section
variable {X : Cx} {CX : CXT} {k : Nat} {f C : Addr} {fd : FuncData} {ps ks : List Str} {sp : Sp} {E : XK} {x m : Str} {p pos apos kpos : Pos} {e o : Expr} {es : List Expr} {kws : List Keyword} {te ta : TE} {t tk : TA} {nm : Option Str}
variable {g : List Value → List Value → List Value} {gV : List V → List V → List V}
end

/-! ### a def's body keeps its promise -/
end L2

namespace L2
open PySem PySem.Spec PyProof.Rows
section
variable {X : Cx} {x : Str} {p pos : Pos} {e : Expr} {es : List Expr} {t : TA} {id T : String} {r : List V → Hp → VK → Prop}

end
end L2

namespace L2
open PySem PySem.Spec PyProof.Rows

/-! ### lists of pairs as tables -/
section
variable {κ : Type} [DecidableEq κ]
def valV (kvs : List (κ × V)) (k : κ) : Option V := (kvs.find? fun kv => decide (kv.1 = k)).map (·.2)
/-- in its place, or at the end -/
def putK (kvs : List (κ × V)) (k : κ) (v : V) : List (κ × V) :=
  if (kvs.any fun kv => decide (kv.1 = k)) = true then kvs.map (fun kv => if kv.1 = k then (kv.1, v) else kv) else kvs ++ [(k, v)]
def dropK (kvs : List (κ × V)) (k : κ) : List (κ × V) := kvs.filter fun kv => decide (kv.1 ≠ k)

end


/-! ### a tracked dict, its keys ints and texts or tuples of these -/
/-- raw entries of a dict with tuple keys -/
abbrev KT (H : Hp) : List (List Key × V) → List (List Key × Addr × Value) → Prop := Paired fun p q => p.1 = q.1 ∧ H q.2.1 = some (.tup (p.1.map kV)) ∧ RelV p.2 q.2.2
section
variable {P : Program} {w : World} {H : Hp} {h : Heap} {a : Addr}
end

/-- what the dict at a holds at the key y -/
def DGet (H : Hp) (a : Addr) (y : V) (r : Option V) : Prop :=
  (∃ kvs k, Rd H a (.dK kvs) ∧ y = kV k ∧ r = valV kvs k) ∨ ∃ kvs k b, Rd H a (.dT kvs) ∧ y = .ref b ∧ H b = some (.tup (k.map kV)) ∧ r = valV kvs k
/-- the heap behind a[y] = v -/
def DPut (H : Hp) (a : Addr) (y v : V) (H' : Hp) : Prop :=
  (∃ kvs k, H a = some (.dK kvs) ∧ y = kV k ∧ kvs.length < sizeLine ∧ H' = upd H a (.dK (putK kvs k v))) ∨
  ∃ kvs k b, H a = some (.dT kvs) ∧ y = .ref b ∧ H b = some (.tup (k.map kV)) ∧ kvs.length < sizeLine ∧ H' = upd H a (.dT (putK kvs k v))
section
variable {X : Cx} {pins : List (Addr × Obj)} {σ : St} {H : Hp} {s : Shared} {a : Addr} {y v : V} {u r : Value} {o : Option V} {A : Around} {E : Value → Shared → Prop}

end

section
variable {X : Cx} {pins : List (Addr × Obj)} {σ : St} {H : Hp} {s : Shared} {a : Addr} {kvs : List (Key × V)} {k : Key} {u : Value} {A : Around} {E : Value → Shared → Prop}
end


/-! ### readings and rules -/
/-- the element of a subscription, not a slice -/
def NoSl (i : Expr) : Prop := ∀ ov iv, subscripted i false ov iv = operate [ov, iv] (getItem ov iv)
/-- d[y] -/
def tDGet (td ty : TE) : TE := fun σ H Q => td σ H fun x H1 => ty σ H1 fun y H2 => ∃ a v, x = .ref a ∧ DGet H2 a y (some v) ∧ Q v H2
/-- y in d, y not in d -/
def tDIn (ty td : TE) : TE := fun σ H Q => ty σ H fun y H1 => td σ H1 fun x H2 => ∃ a o, x = .ref a ∧ DGet H2 a y o ∧ Q (.bl o.isSome) H2
def tDNotIn (ty td : TE) : TE := fun σ H Q => ty σ H fun y H1 => td σ H1 fun x H2 => ∃ a o, x = .ref a ∧ DGet H2 a y o ∧ Q (.bl (!o.isSome)) H2
/-- d[y] = v -/
def sDPut (td ty tv : TE) : TS := fun D σ H => tv σ H fun v H1 => td σ H1 fun x H2 => ty σ H2 fun y H3 => ∃ a H4, x = .ref a ∧ DPut H3 a y v H4 ∧ D.nx σ H4
/-- d[y] op= v -/
def sDAug (td ty tv : TE) (rd : V → V → Hp → VK → Prop) : TS := fun D σ H => td σ H fun x H1 => ty σ H1 fun y H2 => ∃ a v, x = .ref a ∧ DGet H2 a y (some v) ∧
  tv σ H2 fun y2 H3 => rd v y2 H3 fun z H4 => ∃ H5, DPut H4 a y z H5 ∧ D.nx σ H5
/-- del d[y] -/
def sDDel (td ty : TE) : TS := fun D σ H => td σ H fun x H1 => ty σ H1 fun y H2 => ∃ a kvs k, x = .ref a ∧ H2 a = some (.dK kvs) ∧ y = kV k ∧ (valV kvs k).isSome = true ∧ D.nx σ (upd H2 a (.dK (dropK kvs k)))

section
variable {X : Cx} {o i e value : Expr} {pos pos' tpos : Pos} {td ty tv : TE}
end


/-! ### displays -/
/-- {}, to be a dict of the kind that is wanted -/
def tDNewK : TE := fun _ H Q => ∀ p, H p = none → Q (.ref p) (upd H p (.dK []))
def tDNewT : TE := fun _ H Q => ∀ p, H p = none → Q (.ref p) (upd H p (.dT []))
section
variable {X : Cx} {pos : Pos}
end

/-- the pairs of a display, from the left -/
def tPairs : List (TE × TE) → St → Hp → (List (V × V) → Hp → Prop) → Prop
  | [], _, H, Q => Q [] H
  | (tk, tv) :: r, σ, H, Q => tk σ H fun x H1 => tv σ H1 fun y H2 => tPairs r σ H2 fun ps H3 => Q ((x, y) :: ps) H3
abbrev VV : List (V × V) → List (Value × Value) → Prop := Paired fun p q => RelV p.1 q.1 ∧ RelV p.2 q.2
def PPs (X : Cx) (pos : Pos) (keys : List (Option Expr)) (values : List Expr) (trs : List (TE × TE)) : Prop :=
  ∀ (pins : List (Addr × Obj)) (s : Shared) (σ : St) (H : Hp) (Q : List (V × V) → Hp → Prop), Inv X pins σ H s → tPairs trs σ H Q →
    wpAny (model X.prog X.w) X.A (evalPairs (pairTrees keys values X.env pos)) (fun vs s' => ∃ ps H', Inv X pins σ H' s' ∧ VV ps vs ∧ Q ps H') X.xe s
def mergeK (kvs more : List (Key × V)) : List (Key × V) := more.foldl (fun acc kv => putK acc kv.1 kv.2) kvs
/-- {k: v, ..} with keys ints and texts; the new dict stands empty while the pairs are made -/
def tDisp (trs : List (TE × TE)) : TE := fun σ H Q => ∀ p, H p = none → tPairs trs σ (upd H p (.dK [])) fun ps H2 => H2 p = some (.dK []) ∧ ∃ kvs : List (Key × V), ps = kvs.map (fun kv => (kV kv.1, kv.2)) ∧ kvs.length ≤ 15 ∧ Q (.ref p) (upd H2 p (.dK (mergeK [] kvs)))
/-! ### methods -/
/-- a method call o.m(e) of a built-in, with one argument: what must be seen of the text -/
structure M1 (X : Cx) (o : Expr) (m : Str) (apos : Pos) (e : Expr) (cpos : Pos) : Prop where
  base : attributeBase o m X.env (eval o X.env) = eval o X.env
  few : ((backTo cpos (starEach [e] X.env)).all (fun x => !x.1) && (backToKw cpos (keywordEach [] X.env)).all (fun x => x.1.isSome)
    && decide (([e] : List Expr).length + ([] : List Keyword).length + (if ([] : List Keyword).isEmpty then 0 else 1) < 30)) = true
  line : (apos.endLine == cpos.line) = true
  trees : backTo cpos (starEach [e] X.env) = [(false, eval e X.env)]
structure M2 (X : Cx) (o : Expr) (m : Str) (apos : Pos) (e f : Expr) (cpos : Pos) : Prop where
  base : attributeBase o m X.env (eval o X.env) = eval o X.env
  few : ((backTo cpos (starEach [e, f] X.env)).all (fun x => !x.1) && (backToKw cpos (keywordEach [] X.env)).all (fun x => x.1.isSome)
    && decide (([e, f] : List Expr).length + ([] : List Keyword).length + (if ([] : List Keyword).isEmpty then 0 else 1) < 30)) = true
  line : (apos.endLine == cpos.line) = true
  trees : backTo cpos (starEach [e, f] X.env) = [(false, eval e X.env), (false, eval f X.env)]

/-- a is a dict, whatever its keys -/
def IsD (H : Hp) (a : Addr) : Prop := (∃ kvs, Rd H a (.dK kvs)) ∨ ∃ kvs, Rd H a (.dT kvs)
section
variable {X : Cx} {pins : List (Addr × Obj)} {σ : St} {H : Hp} {s : Shared} {a : Addr} {y d : V} {u r : Value} {o : Option V} {A : Around} {E : Value → Shared → Prop}
end

def tDGet1 (td ty : TE) : TE := fun σ H Q => td σ H fun x H1 => ∃ a, x = .ref a ∧ IsD H1 a ∧ ty σ H1 fun y H2 => ∃ o, DGet H2 a y o ∧ Q (o.getD .non) H2
def tDGet2 (td ty tx : TE) : TE := fun σ H Q => td σ H fun x H1 => ∃ a, x = .ref a ∧ IsD H1 a ∧ ty σ H1 fun y H2 => tx σ H2 fun z H3 => ∃ o, DGet H3 a y o ∧ Q (o.getD z) H3
/-- d.pop(k): there; d.pop(k, x): there or not -/
def tDPop1 (td ty : TE) : TE := fun σ H Q => td σ H fun x H1 => ∃ a, x = .ref a ∧ IsD H1 a ∧ ty σ H1 fun y H2 => ∃ kvs k v, H2 a = some (.dK kvs) ∧ y = kV k ∧ valV kvs k = some v ∧ Q v (upd H2 a (.dK (dropK kvs k)))
def tDPop2 (td ty tx : TE) : TE := fun σ H Q => td σ H fun x H1 => ∃ a, x = .ref a ∧ IsD H1 a ∧ ty σ H1 fun y H2 => tx σ H2 fun z H3 => ∃ kvs k, H3 a = some (.dK kvs) ∧ y = kV k ∧
  (∀ v, valV kvs k = some v → Q v (upd H3 a (.dK (dropK kvs k)))) ∧ (valV kvs k = none → Q z H3)
section
variable {X : Cx} {o e f : Expr} {apos cpos : Pos} {td ty tx : TE}
end

/-! ### dict(d): a copy -/
section
variable {X : Cx} {pins : List (Addr × Obj)} {σ : St} {H : Hp} {s : Shared} {a : Addr} {kvs : List (Key × V)} {A : Around} {E : Value → Shared → Prop}
end


section
variable {X : Cx} {pins : List (Addr × Obj)} {σ : St} {H : Hp} {s : Shared} {a : Addr} {y : V} {u : Value} {A : Around} {E : Value → Shared → Prop}
end
end L2

namespace Att
open PySem PySem.W PySem.Calls PyProof.Rows

/-! ### the script -/
/-! ### the attachment: holds_open's last premise (the goal 'hc' behind k_head) from a wpAny of the law's body -/
/-! ### rules over ANY heap (no ledger) from facts about the written part K: the library's own take a ledger (News) for what they write -/
section
variable {prog : Program} {w : World} {A : Around} {E : Value → Shared → Prop} {s : Shared} {K : Frag}

/-! the whole heap as the ledger: makes every rule that writes through a ledger a rule over any heap -/
end
end Att

namespace L2
open PySem PySem.Spec PyProof.Rows

end L2

namespace L2
open PySem PySem.Spec PyProof.Rows

end L2



/-! SHORT WORDS over the layer: a def of the text, its body, what a loop and a test want. -/
namespace L2
open PySem PySem.Spec PyProof.Rows

/-! ### the text by places -/
/-! ### no exception leaves a def -/
/-! ### a def (or method) of the text as it stands behind the top -/
section
variable {P : Program} {w : World} {K : PySem.W.Frag} {mg : Str → Option Value} {base : Heap}
end
/-! ### expressions in short: the name that stands in the i-th slot -/
section
variable {X : Cx}
end

/-! ### tests -/
/-! ### heaps -/
/-! ### a dict's pairs: keys that differ -/
section
variable {κ : Type} [DecidableEq κ]
end
end L2

set_option Elab.async false
set_option linter.all false
set_option maxRecDepth 100000
set_option maxHeartbeats 1000000
namespace L2
open PySem PySem.Spec PyProof.Rows
section
variable {prog : Program} {w : World} {A : Around} {E : Value → Shared → Prop} {s : Shared}
/-! ### what zip draws from -/
structure ItS (prog : Program) (w : World) (it fr : Addr) (S : Nat → Heap → Prop) (get : Nat → Option Value) : Prop where
  stay : ∀ k h h', S k h → (∀ o, h.get? it = some o → h'.get? it = some o) → (∀ o, h.get? fr = some o → h'.get? fr = some o) → S k h'
  lt : ∀ k h, S k h → it < h.objs.size
  next : ∀ k x (A : Around) (E : Value → Shared → Prop) (s : Shared) (Q : Value → Shared → Prop), get k = some x → S k s.heap → (∀ h', S (k + 1) h' → Heap.SameBut it s.heap h' → Q x { s with heap := h' }) → wpAny (model prog w) A (Builtin.SmallTypes.nextOf (.ref it)) Q E s
  fin : ∀ k (A : Around) (E : Value → Shared → Prop) (s : Shared) (Q : Value → Shared → Prop), A.handled = none → get k = none → S k s.heap →
    (∀ h' e, Heap.ExtBut it s.heap h' → (∃ o, h'.get? e = some o ∧ o.cls = .type "StopIteration") → E (.ref e) { s with heap := h' }) → wpAny (model prog w) A (Builtin.SmallTypes.nextOf (.ref it)) Q E s

/-- a zip's own objects stand apart, and apart from what it draws from -/
structure ZAp (z TI TO i1 i2 l1 l2 : Addr) : Prop where
  a1 : TI ≠ z
  a2 : TO ≠ z
  a3 : i1 ≠ z
  a4 : i2 ≠ z
  a5 : TI ≠ TO
  a6 : TI ≠ i1
  a7 : TI ≠ i2
  a8 : TO ≠ i1
  a9 : TO ≠ i2
  a10 : i1 ≠ i2
  b1 : l1 ≠ z
  b2 : l1 ≠ TO
  b3 : l1 ≠ i2
  b4 : l2 ≠ z
  b5 : l2 ≠ TO
  b6 : l2 ≠ i1
end
end L2

set_option Elab.async false
set_option linter.all false
set_option maxRecDepth 100000
set_option maxHeartbeats 1000000
namespace L2
open PySem PySem.Spec PyProof.Rows
/-! ### zip of two lists, of two tuples -/
structure Src (P : Program) (w : World) (K : PySem.W.Frag) (sq : Hp → Addr → List V → Prop) (ti : Heap → Addr → Addr → Nat → Prop) : Prop where
  read : ∀ (X : Cx), X.prog = P → X.w = w → X.K = K → ∀ (pins : List (Addr × Obj)) (σ : St) (H : Hp) (s : Shared) (l : Addr) (xs : List V), Inv X pins σ H s → sq H l xs →
    ∃ (its : List Value) (S : Addr → Nat → Heap → Prop), Vals xs its ∧ (∀ it, l ≠ it → ItS P w it l (S it) (fun k => its.toArray[k]?)) ∧ (∀ it k, ti s.heap it l k → S it k s.heap) ∧ ∀ it k h, S it k h → ti h it l k
  uniq : ∀ (X : Cx), X.prog = P → X.w = w → X.K = K → ∀ (pins : List (Addr × Obj)) (σ : St) (H : Hp) (s : Shared) (l : Addr) (xs ys : List V), Inv X pins σ H s → sq H l xs → sq H l ys → xs = ys
  obj : ∀ h it l k, ti h it l k → ∃ o, h.get? it = some o ∧ ∀ v, o.data ≠ .cell v
  keep : ∀ h h' it l k, ti h it l k → (∀ o, h.get? it = some o → h'.get? it = some o) → ti h' it l k
def Itz (sq : Hp → Addr → List V → Prop) (l1 l2 : Addr) : It :=
  ⟨fun i H => ∃ xs ys x y, sq H l1 xs ∧ sq H l2 ys ∧ xs[i]? = some x ∧ ys[i]? = some y,
   fun i H v H' => ∃ t x y, v = .ref t ∧ H t = none ∧ H' = upd H t (.tup [x, y]) ∧ (∀ xs, sq H l1 xs → xs[i]? = some x) ∧ ∀ ys, sq H l2 ys → ys[i]? = some y,
   fun i H => ∃ xs ys, sq H l1 xs ∧ sq H l2 ys ∧ (xs.length ≤ i ∨ ys.length ≤ i)⟩
section
variable {prog : Program} {w : World} {A : Around} {E : Value → Shared → Prop} {s : Shared}
end
section
variable {X : Cx} {tg : Expr}
def iZip (sq : Hp → Addr → List V → Prop) (tl : TA) : TI := fun σ H R => tl σ H fun vs H1 => ∃ a b, vs = [.ref a, .ref b] ∧ (∃ xs, sq H1 a xs) ∧ (∃ ys, sq H1 b ys) ∧ R (Itz sq a b) H1
end
end L2

set_option Elab.async false
set_option linter.all false
set_option maxRecDepth 100000
set_option maxHeartbeats 1000000
namespace L2
open PySem PySem.Spec PyProof.Rows
/-! ### zip: the forms one uses -/
section
variable {sq : Hp → Addr → List V → Prop} {l1 l2 : Addr} {xs ys : List V} {g : TG} {tb : TS} {D : Ends} {σ : St} {H : Hp}
end
section
variable {sq : Hp → Addr → List V → Prop} {l1 l2 : Addr} {xs ys : List V} {own : Nat} {caps : List Nat} {g : TG} {tt : TT} {te : TE} {σ τ : St} {H1 : Hp} {Q : VK}
end
/-! ### list.count, list.clear -/
section
variable {X : Cx}
def rCount (K : PySem.W.Frag) : V → List V → Hp → VK → Prop := fun x vs H Q => ∃ l xs y, x = .ref l ∧ vs = [y] ∧ SqL K H l xs ∧ flatV y = true ∧ xs.all flatV = true ∧ Q (.int (xs.countP fun z => eqV z y : Nat)) H
end
/-! ### more readings -/
section
variable {σ : St} {H H' : Hp} {Q : VK} {D : Ends}
theorem rd_rep {l : Addr} {k : Int} {xs : List V} (hq : H l = some (.lst xs)) (h0 : 0 ≤ k) (h1 : xs.length * k.toNat ≤ sizeLine) (h2 : k < 2 ^ 63) (h : ∀ p, H p = none → Q (.ref p) (upd H p (.lst (List.replicate k.toNat xs).flatten))) : rRep (.ref l) (.int k) H Q :=
  ⟨l, k, xs, rfl, rfl, hq, by omega, h2, h1, h⟩
end
end L2

set_option Elab.async false
set_option linter.all false
set_option maxRecDepth 100000
set_option maxHeartbeats 1000000
namespace L2
open PySem PySem.Spec PyProof.Rows
section
variable {K : PySem.W.Frag} {a : Addr} {xs : List V} {g : TG} {tb : TS} {D : Ends} {σ : L2.St} {H : Hp}
end
section
variable {σ : L2.St} {H : Hp} {Q : VK}
end
end L2

set_option Elab.async false
set_option linter.all false
set_option maxRecDepth 100000
set_option maxHeartbeats 1000000
namespace L2
open PySem PySem.Spec PyProof.Rows
/-! ### a thing is tracked from here on -/
section
variable {X : Cx} {pins : List (Addr × Obj)} {σ : L2.St} {H : Hp} {s : Shared}
end
/-! ### a lambda's body -/
def lamCx (X : Cx) (N' : List Str) (qual : Str) (scope : Scope) (L f : Addr) (cd : Value) (A : Around) (s : Shared) (H : Hp) : Cx where
  prog := X.prog
  w := X.w
  K := X.K
  mg := X.mg
  base := X.base
  A := A.deeper (PySem.W.envX qual scope L f cd (closGo X.env.cells scope.names []))
  N := N'
  s₀ := s
  H₀ := H
  env := PySem.W.envX qual scope L f cd (closGo X.env.cells scope.names [])
  outer := X.stack
  stack := PySem.W.envX qual scope L f cd (closGo X.env.cells scope.names []) :: X.stack
  ex := []
  fn := fun _ => false
  calm := true
  pn := []
  xe := fun _ _ => False
/-- the names in a lambda's body: its parameter, the captured ones -/
def capL (σ : L2.St) (v : V) (caps : List Nat) : L2.St := some v :: caps.map fun j => (σ[j]?).getD none
section
variable {X : Cx} {pins : List (Addr × Obj)} {σ : L2.St} {H : Hp} {s : Shared} {A : Around} {f c' : Addr} {name qual x : Str} {params : Arguments} {body : Expr} {scope : Scope} {pm ctv u : Value} {v : V} {caps : List Nat} {capN : List Str} {te : TE} {Q : VK} {E : Value → Shared → Prop}
end
/-! ### a lambda is made -/
/-- the made code -/
def LamC (c' : Addr) (qual : Str) : Heap → Prop := fun h => h.CodeRec (.ref c') qual
/-- the table of the code that makes it -/
def LamT (P : Addr) (pos : Pos) (qual : Str) (H : Hp) : Prop := ∃ ps, H P = some (.tbl ps) ∧ TriplesOk ps.toList ∧ (codeAmong pos ps.toList = none ∨ ∃ c', codeAmong pos ps.toList = some (.ref c') ∧ H c' = some (.ext (LamC c' qual)))
/-- all that was tracked is as it was, but the table -/
def SameB (P : Addr) (H H' : Hp) : Prop := ∀ b o, b ≠ P → H b = some o → H' b = some o
/-- the builtins' module -/
def BmAt (mg : Str → Option Value) (base : Heap) : Prop := ∃ bm ob, mg "__builtins__" = some (.ref bm) ∧ bm ≠ builtinsNs ∧ base.get? bm = some ob ∧ ob.cls = .type "module" ∧ ob.dict = some builtinsNs ∧ ob.data = .plain
section
variable {X : Cx} {pins : List (Addr × Obj)} {σ : L2.St} {H : Hp} {s : Shared} {A : Around} {c P : Addr} {qual : Str} {params : Arguments} {body : Expr} {scope : Scope} {pos : Pos} {fl : Nat} {Q : Value → Shared → Prop} {E : Value → Shared → Prop} {clos : List (Str × Addr)} {M : Model}
end
end L2

set_option Elab.async false
set_option linter.all false
set_option maxRecDepth 100000
set_option maxHeartbeats 1000000
namespace L2
open PySem PySem.Spec PyProof.Rows
/-! ### sorted by a key -/
section
variable {X : Cx} {pins : List (Addr × Obj)} {σ : L2.St} {H : Hp} {s : Shared} {l f : Addr} {xs : List V} {its : List Value} {J : Hp → Prop} {Q : Value → Shared → Prop} {E : Value → Shared → Prop}
end
/-! ### sorted(e, key=lambda x: body) -/
def tSortK (K : PySem.W.Frag) (P : Addr) (lpos : Pos) (qual : Str) (caps : List Nat) (tl te : TE) : TE := fun σ H Q => tl σ H fun v H1 => ∃ (l : Addr) (xs : List V), v = .ref l ∧ SqL K H1 l xs ∧ xs.length < 64 ∧ LamT P lpos qual H1 ∧
  ∀ H2, LamT P lpos qual H2 → SameB P H1 H2 → (∀ (H' : Hp) (x : V), Same H2 H' → x ∈ xs → te (capL σ x caps) H' fun k H3 => Same H' H3 ∧ ∃ n : Int, k = .int n) ∧
    ∀ (H3 : Hp) (D : Addr) (ys : List V), Same H2 H3 → H3 D = none → ys.Perm xs → Q (.ref D) (upd H3 D (.lst ys))
section
variable {X : Cx} {c P : Addr} {k : Nat} {e body : Expr} {params : Arguments} {scope : Scope} {p pos kpos lpos : Pos} {x : Str} {capN : List Str} {caps : List Nat} {tl te : TE}
end
end L2

set_option Elab.async false
set_option linter.all false
set_option maxRecDepth 100000
set_option maxHeartbeats 1000000
namespace L2
open PySem PySem.Spec PyProof.Rows
/-! ### the head of a law whose text makes a lambda: one code table is tracked -/
section
variable {P : Program} {w : World} {K : PySem.W.Frag} {mg : Str → Option Value} {base : Heap}
end
end L2

set_option Elab.async false
set_option linter.all false
set_option maxRecDepth 100000
namespace L2
open PySem PySem.Spec PyProof.Rows
/-! ### the greatest and the least of a list, a range as a list, how often -/
theorem ints_items : ∀ {us : List Value} {ns : List Int}, IntsAre us ns → ∃ l : List (Int × Tok), us = l.map (fun p => Value.int p.1 p.2) ∧ l.map (·.1) = ns
  | _, _, .nil => ⟨[], rfl, rfl⟩
  | _, _, .cons n t h => by
    obtain ⟨l, e1, e2⟩ := ints_items h
    exact ⟨(n, t) :: l, by rw [List.map_cons, e1], by rw [List.map_cons, e2]⟩
theorem items_eq {l : List (Int × Tok)} : (l.map (fun p => Value.int p.1 p.2)).toArray = intItems l.toArray := by simp [intItems]
theorem num_eq {l : List (Int × Tok)} {i : Nat} : numAt l.toArray i = (l.map (·.1)).getD i 0 := by
  unfold numAt
  rw [List.getElem?_toArray, List.getD_eq_getElem?_getD, List.getElem?_map]
section
variable {X : Cx} {pos : Pos}
def rMaxL (K : PySem.W.Frag) : List V → Hp → VK → Prop := fun xs H Q => ∃ (p : Addr) (ns : List Int), xs = [.ref p] ∧ SqL K H p (ns.map V.int) ∧ ns ≠ [] ∧ ∀ M : Int, M ∈ ns → (∀ a ∈ ns, a ≤ M) → Q (.int M) H
def rMinL (K : PySem.W.Frag) : List V → Hp → VK → Prop := fun xs H Q => ∃ (p : Addr) (ns : List Int), xs = [.ref p] ∧ SqL K H p (ns.map V.int) ∧ ns ≠ [] ∧ ∀ M : Int, M ∈ ns → (∀ a ∈ ns, M ≤ a) → Q (.int M) H
theorem call_maxL (hc : X.calm = true) : CallR X (.builtin "max") (rMaxL X.K) := by
  intro pins s σ H xs us Q I r h
  obtain ⟨p, ns, rfl, hq, hne, q⟩ := h
  obtain ⟨u, rfl, rx⟩ := vals1 r
  cases rx
  obtain ⟨its, rv, pl, hz⟩ := I.list hq
  obtain ⟨l, rfl, rfl⟩ := ints_items (intsAre_of rv)
  have hl := pl.isList
  rw [items_eq] at hl
  have hpos : 0 < l.length := by
    cases l with
    | nil => exact absurd rfl hne
    | cons a l => exact Nat.succ_pos _
  refine max_intList (I.ok.hd hc) hl (by simpa using hpos) fun v h' tk hv hk => ?_
  obtain ⟨t, rfl⟩ := intItems_at hv
  obtain ⟨h1, h2⟩ := argBest_gt (numAt l.toArray) (l.toArray.size - 1)
  have hsz : l.toArray.size = l.length := List.size_toArray ..
  rw [hsz] at h1 h2
  rw [hsz]
  refine ⟨.int _, H, I.kept hk, ⟨_, rfl⟩, q _ ?_ fun a ha => ?_⟩
  · rw [num_eq]
    exact PySem.getD_mem (by rw [List.length_map]; omega)
  · obtain ⟨j, hj, rfl⟩ := PySem.mem_getD ha
    rw [List.length_map] at hj
    rw [← num_eq]
    exact h2 j (by omega)
theorem call_minL (hc : X.calm = true) : CallR X (.builtin "min") (rMinL X.K) := by
  intro pins s σ H xs us Q I r h
  obtain ⟨p, ns, rfl, hq, hne, q⟩ := h
  obtain ⟨u, rfl, rx⟩ := vals1 r
  cases rx
  obtain ⟨its, rv, pl, hz⟩ := I.list hq
  obtain ⟨l, rfl, rfl⟩ := ints_items (intsAre_of rv)
  have hl := pl.isList
  rw [items_eq] at hl
  have hpos : 0 < l.length := by
    cases l with
    | nil => exact absurd rfl hne
    | cons a l => exact Nat.succ_pos _
  refine min_intList (I.ok.hd hc) hl (by simpa using hpos) fun v h' tk hv hk => ?_
  obtain ⟨t, rfl⟩ := intItems_at hv
  obtain ⟨h1, h2⟩ := argBest_lt (numAt l.toArray) (l.toArray.size - 1)
  have hsz : l.toArray.size = l.length := List.size_toArray ..
  rw [hsz] at h1 h2
  rw [hsz]
  refine ⟨.int _, H, I.kept hk, ⟨_, rfl⟩, q _ ?_ fun a ha => ?_⟩
  · rw [num_eq]
    exact PySem.getD_mem (by rw [List.length_map]; omega)
  · obtain ⟨j, hj, rfl⟩ := PySem.mem_getD ha
    rw [List.length_map] at hj
    rw [← num_eq]
    exact h2 j (by omega)
/-- range(n), held -/
def rRng1 : List V → Hp → VK → Prop := fun xs H Q => ∃ n : Int, xs = [.int n] ∧ ∀ r, H r = none → Q (.ref r) (upd H r (.rng 0 n))
def rListR : List V → Hp → VK → Prop := fun xs H Q => ∃ (r : Addr) (n : Nat), xs = [.ref r] ∧ H r = some (.rng 0 n) ∧ n ≤ 1000 ∧ ∀ l, H l = none → Q (.ref l) (upd H l (.lst ((List.range n).map fun (j : Nat) => V.int (j : Int))))
end
end L2

set_option Elab.async false
set_option linter.all false
set_option maxRecDepth 100000
set_option maxHeartbeats 1000000
namespace L2
open PySem PySem.Spec PyProof.Rows
theorem dict_mapFields (o : Obj) (f : Array Value → Array Value) : (o.mapFields f).dict = o.dict := by
  unfold Obj.mapFields
  split <;> rfl
/-! ### what is noted in an exception's record -/
/-- an exception's record: its class, its fields; field 1 its entry, field 2 what it came behind -/
structure RecE (h : Heap) (e : Addr) (oe : Obj) (vs : Array Value) : Prop where
  at_ : h.get? e = some oe
  fld : oe.data = .fields vs
  sz : 2 < vs.size
  dct : oe.dict = none
theorem RecE.nofr {h B : Heap} {l : List Env} {e : Addr} {oe : Obj} {vs : Array Value} (r : RecE h e oe vs) (ff : h.FunFrames B l) : e ∉ frs l := fun hm => by
  obtain ⟨_, o, eo, nf⟩ := ff.mem hm
  rw [r.at_] at eo
  cases eo
  exact nf vs r.fld
/-- the entry that a frame gets -/
structure Noted (l : List Env) (e : Addr) (oe : Obj) (fl : Value) (h h' : Heap) : Prop where
  kept : ∀ b o, b ≠ e → b ∉ frs l → h.get? b = some o → h'.get? b = some o
  slot : ∀ b o, b ∈ frs l → h.get? b = some o → ∃ sl, h'.get? b = some { o with slots := sl }
  ent : ∃ (T : Addr) (oT : Obj) (ts : Array Value), h.get? T = none ∧ T ≠ e ∧ h'.get? e = some (oe.mapFields (·.setIfInBounds 1 (.ref T))) ∧ h'.get? T = some oT ∧ oT.data = .fields ts ∧ ts[3]? = some fl
section
variable {M : Model} {A : Around} {E : Value → Shared → Prop} {s : Shared}
theorem entry_new {B : Heap} {env : Env} {l : List Env} {L e : Addr} {oe : Obj} {vs : Array Value} {hd0 : Value} {nx : Bool} {Q : Unit → Shared → Prop} (hfr : A.frames = some (env :: l)) (ff : s.heap.FunFrames B (env :: l)) (hf : env.frame = some L) (r : RecE s.heap e oe vs)
    (k : ∀ h', Noted (env :: l) e oe (rawInt L) s.heap h' → Q () { s with heap := h' }) :
    wpAny M A (do let a ← frameOf env; let pl ← entryPlaceOf L nx; let b ← EntryCells.newEntry hd0 a .none (rawInt L) .none pl; setField (.ref e) 1 b) Q E s := by
  have ne := r.nofr ff
  refine wpAny_bind (wpAny_frameOf_fun hfr ff hf fun g hg => ?_)
  refine wpAny_bind (wpAny_entryPlaceOf fun qq hqq => ?_)
  unfold EntryCells.newEntry newFields
  refine wpAny_bind (wpAny_newObj_type ?_ (hqq.sizeOk5 _ _ _ _ _))
  have eg : g.get? e = some oe := (hg.2.1 e ne).trans r.at_
  generalize hT : ({ cls := .type "traceback", dict := none, data := .fields ([hd0, .ref L, .none, rawInt L, .none] ++ (if qq.isEmpty then List.replicate 6 Value.none else qq)).toArray } : Obj) = oT
  have dT : oT.data = .fields ([hd0, .ref L, .none, rawInt L, .none] ++ (if qq.isEmpty then List.replicate 6 Value.none else qq)).toArray := by rw [← hT]
  have ep : (g.push oT).get? e = some oe := Heap.get?_push_of_some _ eg
  have nT : g.objs.size ≠ e := Nat.ne_of_gt (Heap.lt_size eg)
  have fT : oT.isFreed = false := Obj.isFreed_of_fields dT
  refine wpAny_setField ep r.fld (Nat.lt_trans (by decide) r.sz) (k _ ⟨fun b o be bf eb => ?_, fun b o bf eb => ?_, g.objs.size, oT, _, ?_, nT, ?_, ?_, dT, ?_⟩)
  · rw [Heap.get?_update_other _ _ (Ne.symm be)]
    exact Heap.get?_push_of_some _ ((hg.2.1 b bf).trans eb)
  · obtain ⟨sl, es⟩ := hg.2.2 b o eb
    have be : e ≠ b := fun z => ne (z ▸ bf)
    exact ⟨sl, by rw [Heap.get?_update_other _ _ be]; exact Heap.get?_push_of_some _ es⟩
  · exact Heap.get?_none_of_le (by rw [hg.1]; exact Nat.le_refl _)
  · exact Heap.get?_update_self _ ep (Obj.isFreed_of_fields (Obj.data_mapFields r.fld _))
  · rw [Heap.get?_update_other _ _ (Ne.symm nT)]
    exact Heap.get?_push_size _ fT
  · simp
theorem flight_none {e T : Addr} {oe oT : Obj} {vs ts : Array Value} {Q : Unit → Shared → Prop} (he : s.heap.get? e = some oe) (hd : oe.data = .fields vs) (h1 : vs[1]? = some (.ref T)) (hT : s.heap.get? T = some oT) (dT : oT.data = .fields ts) (h3 : 3 < ts.size)
    (k : ∀ h', (∀ b o, b ≠ T → s.heap.get? b = some o → h'.get? b = some o) → (∃ o2 ts2, h'.get? T = some o2 ∧ o2.data = .fields ts2 ∧ ts2[3]? = some .none) → Q () { s with heap := h' }) : wpAny M A (setFlight (.ref e) none) Q E s := by
  refine wpAny_setFlight_none he hd h1 hT dT h3 (k _ (fun b o nb eb => ?_) ⟨_, _, Heap.get?_update_self _ hT (Obj.isFreed_of_fields (Obj.data_mapFields dT _)), Obj.data_mapFields dT _, ?_⟩)
  · rw [Heap.get?_update_other _ _ (Ne.symm nb)]
    exact eb
  · simp [h3]
end
/-! ### an exception in the air -/
structure Air (fl : Value) (B : Heap) (l : List Env) (e C : Addr) (h : Heap) : Prop where
  st : B.StaysIn h
  new : B.get? e = none
  ff : h.FunFrames B l
  rec_ : ∃ (oe : Obj) (vs : Array Value) (T : Addr) (oT : Obj) (ts : Array Value), RecE h e oe vs ∧ oe.cls = .ref C ∧ vs[2]? = some .none ∧ vs[1]? = some (.ref T) ∧ B.get? T = none ∧ T ≠ e ∧ h.get? T = some oT ∧ oT.data = .fields ts ∧ ts[3]? = some fl
def SlotR (l : List Env) (h h' : Heap) : Prop := ∀ b o, b ∈ frs l → h.get? b = some o → ∃ sl, h'.get? b = some { o with slots := sl }
theorem SlotR.trans {l : List Env} {h h1 h2 : Heap} (a : SlotR l h h1) (b : SlotR l h1 h2) : SlotR l h h2 := fun c o m e => by
  obtain ⟨sl, e1⟩ := a c o m e
  obtain ⟨sl2, e2⟩ := b c _ m e1
  exact ⟨sl2, e2⟩
theorem ff_slots {B h h' : Heap} : ∀ {l : List Env}, h.FunFrames B l → SlotR l h h' → h'.FunFrames B l
  | [], _, _ => trivial
  | env :: l, ⟨k, ⟨L, o, hf, hb, ho, nf⟩, r⟩, sr => by
    have hm : L ∈ frs (env :: l) := List.mem_filterMap.mpr ⟨env, List.mem_cons_self, hf⟩
    obtain ⟨sl, es⟩ := sr L o hm ho
    refine ⟨k, ⟨L, _, hf, hb, es, fun vs => nf vs⟩, ff_slots r fun b o2 m e => sr b o2 ?_ e⟩
    obtain ⟨env2, h1, h2⟩ := List.mem_filterMap.mp m
    exact List.mem_filterMap.mpr ⟨env2, List.mem_cons_of_mem _ h1, h2⟩
theorem ff_tail {B h : Heap} {env : Env} {l : List Env} (f : h.FunFrames B (env :: l)) : h.FunFrames B l := f.2.2
section
variable {M : Model} {A : Around} {E : Value → Shared → Prop} {s : Shared}
/-- noting a frame on an exception that is in the air -/
theorem air_note {B : Heap} {env : Env} {l : List Env} {L e C : Addr} {Q : Unit → Shared → Prop} (hfr : A.frames = some (env :: l)) (hf : env.frame = some L) (a : Air .none B (env :: l) e C s.heap)
    (k : ∀ h', Air (rawInt L) B (env :: l) e C h' → SlotR (env :: l) s.heap h' → Q () { s with heap := h' }) : wpAny M A (noteFrame (.ref e) env) Q E s := by
  obtain ⟨oe, vs, T, oT, ts, r, hc, h2, h1, nT, Te, eT, dT, h3⟩ := a.rec_
  have T3 : 3 < ts.size := (Array.getElem?_eq_some_iff.mp h3).1
  unfold noteFrame
  simp only [hf]
  refine wpAny_bind (wpAny_field r.at_ r.fld h1 ?_)
  rw [if_pos (show (Value.ref T != Value.none) = true by simp)]
  refine wpAny_bind (wpAny_field eT dT h3 ?_)
  rw [if_neg (show ¬ ((Value.none == rawInt L) = true) by simp [rawInt])]
  refine wpAny_bind (wpAny_setField eT dT T3 ?_)
  have oth : ∀ b, b ≠ T → (s.heap.update T (Obj.mapFields (·.setIfInBounds 3 Value.none))).get? b = s.heap.get? b := fun b nb => Heap.get?_update_other _ _ (Ne.symm nb)
  have fT : ∀ b ∈ frs (env :: l), b ≠ T := fun b hb z => by
    obtain ⟨_, o, eo, nf⟩ := a.ff.mem hb
    rw [z, eT] at eo
    cases eo
    exact nf ts dT
  have sr : SlotR (env :: l) s.heap (s.heap.update T (Obj.mapFields (·.setIfInBounds 3 Value.none))) := fun b o m eo => ⟨o.slots, by rw [oth b (fT b m)]; exact eo⟩
  have r2 : RecE (s.heap.update T (Obj.mapFields (·.setIfInBounds 3 Value.none))) e oe vs := ⟨by rw [oth e (Ne.symm Te)]; exact r.at_, r.fld, r.sz, r.dct⟩
  refine entry_new (s := { s with heap := s.heap.update T (Obj.mapFields (·.setIfInBounds 3 Value.none)) }) hfr (ff_slots a.ff sr) hf r2 fun h' n => k h' ?_ (sr.trans fun b o m eo => n.slot b o m eo)
  obtain ⟨T2, oT2, ts2, q1, q2, q3, q4, q5, q6⟩ := n.ent
  have st : B.StaysIn h' := fun b o eb => n.kept b o (fun z => by rw [z, a.new] at eb; cases eb) (fun hm => by rw [(a.ff.mem hm).1] at eb; cases eb) (by rw [oth b (fun z => by rw [z, nT] at eb; cases eb)]; exact a.st b o eb)
  refine ⟨st, a.new, ff_slots (ff_slots a.ff sr) fun b o m eo => n.slot b o m eo, ?_⟩
  refine ⟨_, _, T2, oT2, ts2, ⟨q3, Obj.data_mapFields r.fld _, by simp; exact r.sz, (dict_mapFields _ _).trans r.dct⟩, (Obj.cls_mapFields _ _).trans hc, ?_, ?_, ?_, q2, q4, q5, q6⟩
  · rw [Array.getElem?_setIfInBounds_ne (by decide)]
    exact h2
  · have : 1 < vs.size := Nat.lt_trans (by decide) r.sz
    simp [this]
  · cases z : B.get? T2 with
    | none => rfl
    | some o =>
      have e1 : (s.heap.update T (Obj.mapFields (·.setIfInBounds 3 Value.none))).get? T2 = some o := by rw [oth T2 (fun w => by rw [w, nT] at z; cases z)]; exact a.st _ _ z
      rw [show (s.heap.update T (Obj.mapFields (·.setIfInBounds 3 Value.none))).get? T2 = none from q1] at e1
      cases e1
/-- it is let go of -/
theorem air_land {fl : Value} {B : Heap} {l : List Env} {e C : Addr} {Q : Unit → Shared → Prop} (a : Air fl B l e C s.heap) (k : ∀ h', Air .none B l e C h' → SlotR l s.heap h' → Q () { s with heap := h' }) : wpAny M A (setFlight (.ref e) none) Q E s := by
  obtain ⟨oe, vs, T, oT, ts, r, hc, h2, h1, nT, Te, eT, dT, h3⟩ := a.rec_
  refine flight_none r.at_ r.fld h1 eT dT (Array.getElem?_eq_some_iff.mp h3).1 fun h' kp tt => ?_
  have fT : ∀ b ∈ frs l, b ≠ T := fun b hb z => by
    obtain ⟨_, o, eo, nf⟩ := a.ff.mem hb
    rw [z, eT] at eo
    cases eo
    exact nf ts dT
  have sr : SlotR l s.heap h' := fun b o m eo => ⟨o.slots, kp b o (fT b m) eo⟩
  obtain ⟨o2, ts2, w1, w2, w3⟩ := tt
  exact k h' ⟨fun b o eb => kp b o (fun z => by rw [z, nT] at eb; cases eb) (a.st b o eb), a.new, ff_slots a.ff sr, oe, vs, T, o2, ts2, ⟨kp _ _ (Ne.symm Te) r.at_, r.fld, r.sz, r.dct⟩, hc, h2, h1, nT, Te, w1, w2, w3⟩ sr
/-- it leaves a frame -/
theorem air_leave {B : Heap} {env : Env} {l : List Env} {L e C : Addr} {Q : Unit → Shared → Prop} (hfr : A.frames = some (env :: l)) (hf : env.frame = some L) (a : Air .none B (env :: l) e C s.heap)
    (k : ∀ h', Air .none B l e C h' → SlotR (env :: l) s.heap h' → Q () { s with heap := h' }) : wpAny M A (leaving env (.ref e)) Q E s := by
  unfold leaving
  refine wpAny_bind (air_note hfr hf a fun h1 a1 s1 => ?_)
  refine air_land (s := { s with heap := h1 }) a1 fun h2 a2 s2 => k h2 ⟨a2.st, a2.new, ff_tail a2.ff, a2.rec_⟩ (s1.trans s2)
/-- a new one leaves the frame that made it -/
theorem air_made {B h0 : Heap} {env : Env} {l : List Env} {L e C : Addr} {us : List Value} {Q : Unit → Shared → Prop} (hfr : A.frames = some (env :: l)) (hf : env.frame = some L) (st : B.StaysIn h0) (ff : h0.FunFrames B (env :: l)) (hm : Heap.MadeExcOf h0 s.heap e (.ref C) us)
    (k : ∀ h', Air .none B l e C h' → SlotR (env :: l) h0 h' → Q () { s with heap := h' }) : wpAny M A (leaving env (.ref e)) Q E s := by
  obtain ⟨t, he, htn, ht⟩ := hm.there
  have ff1 : s.heap.FunFrames B (env :: l) := ff_slots ff fun b o m eo => ⟨o.slots, hm.keeps b o eo⟩
  have r : RecE s.heap e _ _ := ⟨he, rfl, by show 2 < 6; decide, rfl⟩
  have fresh : ∀ b, h0.get? b = none → B.get? b = none := fun b hb => by
    cases z : B.get? b with
    | none => rfl
    | some o => have := st b o z; rw [hb] at this; cases this
  unfold leaving noteFrame
  simp only [hf]
  refine wpAny_bind (wpAny_bind (wpAny_field he rfl (x := .none) rfl ?_))
  rw [if_neg (by decide)]
  refine entry_new hfr ff1 hf r fun h1 n => ?_
  obtain ⟨T, oT, ts, q1, q2, q3, q4, q5, q6⟩ := n.ent
  have d1 : ((⟨.ref C, none, .fields #[.ref t, .none, .none, .none, .bool false, .none], #[]⟩ : Obj).mapFields (·.setIfInBounds 1 (.ref T))).data = .fields (#[Value.ref t, .none, .none, .none, .bool false, .none].setIfInBounds 1 (.ref T)) := Obj.data_mapFields rfl _
  have sr : SlotR (env :: l) s.heap h1 := fun b o m eo => n.slot b o m eo
  have nT : B.get? T = none := by
    cases z : B.get? T with
    | none => rfl
    | some o => have := hm.keeps _ _ (st _ _ z); rw [q1] at this; cases this
  have a1 : Air (rawInt L) B (env :: l) e C h1 := ⟨fun b o eb => n.kept b o (fun z => by rw [z, fresh e hm.new] at eb; cases eb) (fun hmem => by rw [(ff.mem hmem).1] at eb; cases eb) (hm.keeps b o (st b o eb)), fresh e hm.new, ff_slots ff1 sr,
    _, _, T, oT, ts, ⟨q3, Obj.data_mapFields rfl _, by simp, dict_mapFields _ _⟩, Obj.cls_mapFields _ _, by simp, by simp, nT, q2, q4, q5, q6⟩
  refine air_land (s := { s with heap := h1 }) a1 fun h2 a2 s2 => k h2 ⟨a2.st, a2.new, ff_tail a2.ff, a2.rec_⟩ ?_
  exact fun b o m eo => (sr.trans s2) b o m (hm.keeps b o eo)
end
end L2

set_option Elab.async false
set_option linter.all false
set_option maxRecDepth 100000
set_option maxHeartbeats 1000000
namespace L2
open PySem PySem.Spec PyProof.Rows
/-! ### how an exception lies behind a call -/
theorem ObjOk.is {P : Program} {w : World} {H : Hp} {h : Heap} {a : Addr} {o : HO} (x : ObjOk P w H h a o) : ∃ ob, h.get? a = some ob := by
  cases o with
  | lst xs => obtain ⟨_, _, _, _, e⟩ := x; exact ⟨_, e⟩
  | tup xs => obtain ⟨_, _, _, ob, e, _⟩ := x; exact ⟨_, e⟩
  | dK kvs => obtain ⟨_, _, _, _, ob, _, _, e, _⟩ := x; exact ⟨_, e⟩
  | dT kvs => obtain ⟨_, _, _, _, ob, _, _, e, _⟩ := x; exact ⟨_, e⟩
  | set S n => obtain ⟨ob, _, _, _, e, _⟩ := x; exact ⟨_, e⟩
  | ins C dx fs => obtain ⟨_, _, _, e, _⟩ := x; exact ⟨_, e⟩
  | own y => exact x
  | xd fs => obtain ⟨_, ⟨_, _, _, e, _⟩, _⟩ := x; exact ⟨_, e⟩
  | rng lo hi => obtain ⟨_, _, _, e⟩ := x; exact ⟨_, e⟩
  | frz ob u => exact ⟨_, x.1⟩
  | tbl ps => exact ⟨_, show h.get? a = some _ from x⟩
  | met f y => exact ⟨_, show h.get? a = some _ from x⟩
  | ext φ => exact x.2.1
/-- all that is no frame of l, and is tracked or old, lies in B -/
def Cov (l : List Env) (H : Hp) (h0 h B : Heap) : Prop := ∀ b o, h.get? b = some o → b ∉ frs l → (H b ≠ none ∨ ∃ o0, h0.get? b = some o0) → B.get? b = some o
def Fly (P : Program) (w : World) : CXT := fun l H s E e s' => ∃ (ea C : Addr) (H' : Hp) (B : Heap), e = .ref ea ∧ s'.os = s.os ∧ AllBare s'.gens ∧ Un (frs l) [] H H' s.heap s'.heap ∧ HOk P w H' s'.heap ∧
  Air .none B l ea C s'.heap ∧ Cov l H' s.heap s'.heap B ∧ E (.ref C) none H'
section
variable {X : Cx} {pins : List (Addr × Obj)} {σ : L2.St} {H : Hp} {s : Shared}
/-- an exception that was made in a body leaves its frame -/
theorem fly_made {l : List Env} {E : XK} {ea C : Addr} {us : List Value} {h1 : Heap} {EE : Value → Shared → Prop} (I : Inv X pins σ H s) (hst : X.stack = X.env :: l) (ho : X.outer = l) (hfr : X.env.frame = some X.env.locals) (hx : X.ex = [])
    (hm : Heap.MadeExcOf s.heap h1 ea (.ref C) us) (hE : E (.ref C) none H) :
    wpAny (model X.prog X.w) X.A (leaving X.env (.ref ea)) (fun _ s2 => Fly X.prog X.w l X.H₀ X.s₀ E (.ref ea) s2) EE { s with heap := h1 } := by
  have fr := I.ok.frames
  rw [hst] at fr
  have ff := I.stack
  rw [hst] at ff
  have hmem : ∀ env ∈ X.env :: l, ∀ b, env.frame = some b → b ∈ frs (X.env :: l) := fun env he b hb => List.mem_filterMap.mpr ⟨env, he, hb⟩
  have free := I.stkFree
  rw [hst] at free
  have hfs : X.fs = frs l := by show frs X.outer = _; rw [ho]
  have sub : ∀ b, b ∈ frs (X.env :: l) → b = X.env.locals ∨ b ∈ frs l := fun b hb => by
    obtain ⟨env, he, hf⟩ := List.mem_filterMap.mp hb
    rcases List.mem_cons.mp he with rfl | he
    · rw [hfr] at hf
      exact .inl (Option.some.inj hf).symm
    · exact .inr (List.mem_filterMap.mpr ⟨env, he, hf⟩)
  refine air_made (B := PySem.W.hideAll s.heap (frs (X.env :: l))) (h0 := s.heap) fr hfr (fun b o q => PySem.W.of_hideAll _ q) (PySem.W.funFrames_hide ff hmem) hm fun h2 f1 f4 => ?_
  have kb : ∀ b o, s.heap.get? b = some o → b ∉ frs (X.env :: l) → h2.get? b = some o := fun b o e n => f1.st b o (PySem.W.hideAll_get _ e n)
  have lN : ∀ b o, X.s₀.heap.get? b = some o → b ≠ X.env.locals := fun b o e z => Nat.lt_irrefl _ (Nat.lt_of_lt_of_le (z ▸ Heap.lt_size e) I.ok.above)
  have ex0 : ∀ b : Addr, b ∉ X.ex := fun b z => by rw [hx] at z; cases z
  have slot : ∀ b o, s.heap.get? b = some o → b ∈ frs l → ∃ sl, h2.get? b = some { o with slots := sl } := fun b o e hb => by
    refine f4 b o ?_ e
    obtain ⟨env, he, hf⟩ := List.mem_filterMap.mp hb
    exact List.mem_filterMap.mpr ⟨env, List.mem_cons_of_mem _ he, hf⟩
  have un := I.base
  rw [hfs, hx] at un
  have tnf : ∀ b, H b ≠ none → b ∉ frs (X.env :: l) := fun b hb hm' => hb (free b hm')
  refine ⟨ea, C, H, _, rfl, I.os, I.bare, ⟨fun b o e n hb _ => ?_, fun b o e n hb _ => ?_, fun b o e n _ => un.free b o e n (by simp), fun b o e _ => ?_, un.tups, un.frzs, un.tbls⟩, fun b o q => ?_, f1, fun b o e n hc => ?_, hE⟩
  · refine kb b o (un.keep b o e n hb (by simp)) fun z => ?_
    rcases sub b z with z | z
    · exact lN b o e z
    · exact hb z
  · obtain ⟨sl, e2⟩ := un.slot b o e n hb (by simp)
    obtain ⟨sl2, e3⟩ := slot b _ e2 hb
    exact ⟨sl2, e3⟩
  · obtain ⟨o2, e2⟩ := un.there b o e (by simp)
    by_cases hb : b ∈ frs l
    · obtain ⟨sl, e3⟩ := slot b o2 e2 hb
      exact ⟨_, e3⟩
    · exact ⟨o2, kb b o2 e2 fun z => by
        rcases sub b z with z | z
        · exact lN b o e z
        · exact hb z⟩
  · refine (I.hok b o q).stay (fun c u hc e => kb c u e (tnf c ?_)) (fun _ z => z) fun _ _ z => z
    rcases hc with rfl | hc
    · rw [q]; exact fun z => by cases z
    · rw [hc]; exact fun z => by cases z
  · have hb2 : b ∉ frs (X.env :: l) := by
      rcases hc with hc | ⟨o0, e0⟩
      · exact tnf b hc
      · intro z
        rcases sub b z with z | z
        · exact lN b o0 e0 z
        · exact n z
    have ⟨o2, e2⟩ : ∃ o2, s.heap.get? b = some o2 := by
      rcases hc with hc | ⟨o0, e0⟩
      · cases q : H b with
        | none => exact absurd q hc
        | some u => exact (I.hok b u q).is
      · exact un.there b o0 e0 (by simp)
    have e3 := kb b o2 e2 hb2
    rw [e] at e3
    cases e3
    exact PySem.W.hideAll_get _ e2 hb2
/-- one that came from a callee leaves the frame -/
theorem fly_on {l : List Env} {E E' : XK} {e : Value} {s1 : Shared} {EE : Value → Shared → Prop} (I : Inv X pins σ H s) (hst : X.stack = X.env :: l) (ho : X.outer = l) (hfr : X.env.frame = some X.env.locals) (hx : X.ex = [])
    (hf : Fly X.prog X.w X.stack H s E' e s1) (hE : ∀ c d H', E' c d H' → E c d H') :
    wpAny (model X.prog X.w) X.A (leaving X.env e) (fun _ s2 => Fly X.prog X.w l X.H₀ X.s₀ E e s2) EE s1 := by
  obtain ⟨ea, C, H', B, rfl, os, bare, u1, hok, fl, cov, he⟩ := hf
  have fr := I.ok.frames
  rw [hst] at fr fl cov u1
  have ff := I.stack
  rw [hst] at ff
  have free := I.stkFree
  rw [hst] at free
  have hfs : X.fs = frs l := by show frs X.outer = _; rw [ho]
  have sub : ∀ b, b ∈ frs (X.env :: l) → b = X.env.locals ∨ b ∈ frs l := fun b hb => by
    obtain ⟨env, he, hf⟩ := List.mem_filterMap.mp hb
    rcases List.mem_cons.mp he with rfl | he
    · rw [hfr] at hf
      exact .inl (Option.some.inj hf).symm
    · exact .inr (List.mem_filterMap.mpr ⟨env, he, hf⟩)
  have sup : ∀ b, b ∈ frs l → b ∈ frs (X.env :: l) := fun b hb => by
    obtain ⟨env, he, hf⟩ := List.mem_filterMap.mp hb
    exact List.mem_filterMap.mpr ⟨env, List.mem_cons_of_mem _ he, hf⟩
  have free' : ∀ b ∈ frs (X.env :: l), H' b = none := fun b hb => by
    obtain ⟨_, o, e, _⟩ := ff.mem hb
    exact u1.free b o e (free b hb) (by simp)
  have lN : ∀ b o, X.s₀.heap.get? b = some o → b ≠ X.env.locals := fun b o e z => Nat.lt_irrefl _ (Nat.lt_of_lt_of_le (z ▸ Heap.lt_size e) I.ok.above)
  have un := I.base
  rw [hfs, hx] at un
  refine air_leave fr hfr fl fun h2 f1 f4 => ?_
  have old : ∀ b o, X.s₀.heap.get? b = some o → b ∉ frs l → b ∉ frs (X.env :: l) := fun b o e n z => by
    rcases sub b z with z | z
    · exact lN b o e z
    · exact n z
  have slot : ∀ b o, s1.heap.get? b = some o → b ∈ frs l → ∃ sl, h2.get? b = some { o with slots := sl } := fun b o e hb => by
    exact f4 b o (sup b hb) e
  refine ⟨ea, C, H', B, rfl, os.trans I.os, bare, ⟨fun b o e n hb _ => ?_, fun b o e n hb _ => ?_, fun b o e n _ => ?_, fun b o e _ => ?_, fun b xs q => u1.tups b xs (un.tups b xs q), fun b ob v q => u1.frzs b ob v (un.frzs b ob v q), fun b ps q => ?_⟩, fun b o q => ?_, f1, fun b o e n hc => ?_, hE _ _ _ he⟩
  · have e1 := un.keep b o e n hb (by simp)
    have e2 := u1.keep b o e1 (un.free b o e n (by simp)) (old b o e hb) (by simp)
    exact f1.st b o (cov b o e2 (old b o e hb) (.inr ⟨o, e1⟩))
  · obtain ⟨sl, e1⟩ := un.slot b o e n hb (by simp)
    obtain ⟨sl2, e2⟩ := u1.slot b _ e1 (un.free b o e n (by simp)) (sup b hb) (by simp)
    obtain ⟨sl3, e3⟩ := slot b _ e2 hb
    exact ⟨sl3, e3⟩
  · obtain ⟨o1, e1⟩ := un.there b o e (by simp)
    exact u1.free b o1 e1 (un.free b o e n (by simp)) (by simp)
  · obtain ⟨o1, e1⟩ := un.there b o e (by simp)
    obtain ⟨o2, e2⟩ := u1.there b o1 e1 (by simp)
    by_cases hb : b ∈ frs l
    · obtain ⟨sl, e3⟩ := slot b o2 e2 hb
      exact ⟨_, e3⟩
    · exact ⟨o2, f1.st b o2 (cov b o2 e2 (old b o e hb) (.inr ⟨o1, e1⟩))⟩
  · obtain ⟨m1, e1⟩ := un.tbls b ps q
    obtain ⟨m2, e2⟩ := u1.tbls b _ e1
    exact ⟨m1 ++ m2, by rw [e2, Array.append_assoc]⟩
  · refine (hok b o q).stay (fun c u hc e => f1.st c u (cov c u e (fun z => ?_) (.inl ?_))) (fun _ z => z) fun _ _ z => z
    · have := free' c z
      rcases hc with rfl | hc
      · rw [q] at this; cases this
      · rw [hc] at this; cases this
    · rcases hc with rfl | hc
      · rw [q]; exact fun z => by cases z
      · rw [hc]; exact fun z => by cases z
  · have hb2 : b ∉ frs (X.env :: l) := by
      rcases hc with hc | ⟨o0, e0⟩
      · exact fun z => hc (free' b z)
      · exact old b o0 e0 n
    have ⟨o2, e2, hc2⟩ : ∃ o2, s1.heap.get? b = some o2 ∧ (H' b ≠ none ∨ ∃ o0, s.heap.get? b = some o0) := by
      rcases hc with hc | ⟨o0, e0⟩
      · cases q : H' b with
        | none => exact absurd q hc
        | some u =>
          obtain ⟨o2, e2⟩ := (hok b u q).is
          exact ⟨o2, e2, .inl (fun z => by cases z)⟩
      · obtain ⟨o1, e1⟩ := un.there b o0 e0 (by simp)
        obtain ⟨o2, e2⟩ := u1.there b o1 e1 (by simp)
        exact ⟨o2, e2, .inr ⟨o1, e1⟩⟩
    have e3 := cov b o2 e2 hb2 hc2
    have e4 := f1.st b o2 e3
    rw [e] at e4
    cases e4
    exact e3
end
/-! ### what a context does with exceptions -/
structure Flier (X : Cx) (E : XK) : Prop where
  made : ∀ (pins : List (Addr × Obj)) (σ : L2.St) (H : Hp) (s : Shared) (ea C : Addr) (us : List Value) (h1 : Heap), Inv X pins σ H s → Heap.MadeExcOf s.heap h1 ea (.ref C) us → E (.ref C) none H → X.xe (.ref ea) { s with heap := h1 }
  pass : Passes (Fly X.prog X.w) X E
  own : PassesOwn (model X.prog X.w) X.A X.env X.xe
theorem flier_def {P : Program} {w : World} {K : PySem.W.Frag} {mg : Str → Option Value} {base : Heap} {N : List Str} {qual : Str} {scope : Scope} {f : Addr} {cd : Value} {A : Around} {outer : List Env} {s : Shared} {H : Hp} {E : XK} :
    Flier (cxOf (Fly P w) P w K mg base N qual scope f cd A outer s H E) E where
  made := fun pins σ H' s' ea C us h1 I hm hE => fly_made I rfl rfl rfl rfl hm hE
  pass := fun pins σ H' s' e s1 I hf => fly_on I rfl rfl rfl rfl hf fun _ _ _ z => z
  own := PassesOwn.leaving
/-! ### raise C(..), C an own class below ValueError -/
abbrev veBm : List Value := [.type "ValueError", .type "Exception", .type "BaseException", .type "object"]
def ExcC (K : PySem.W.Frag) (C : Addr) : Prop := PySem.W.excIn K C veBm "ValueError.__new__" = true
theorem ExcC.parts {K : PySem.W.Frag} {h : Heap} {C : Addr} (KX : K.In h) (z : ExcC K C) :
    ∃ tl N nm qn bs hs sn sub ab col dd k0 k1 k2 k3 k5 mN, h.get? C = some (excClassObj nm qn C N bs tl hs sn sub ab col dd k0 k1 k2 k3 k5 "ValueError.__new__") ∧ h.Ns N mN ∧ mN "__init__" = none ∧ OwnTail h veBm tl := by
  unfold ExcC PySem.W.excIn at z
  split at z
  case h_2 => cases z
  case h_1 dd cd sl look =>
    split at z
    case h_2 => cases z
    case h_1 C2 tl k0 k1 k2 k3 nn k5 hmro hslots =>
      simp only [Bool.and_eq_true, beq_iff_eq, Bool.not_eq_true'] at z
      obtain ⟨⟨⟨⟨⟨zc, zn⟩, zd⟩, zt⟩, zo⟩, zi⟩ := z
      subst zc
      subst zn
      have e := KX _ _ look
      obtain ⟨nm, bs, mr, nsA, qn, hs, sn, sub, ab, col, del⟩ := cd
      simp only at hmro zd zo zi
      subst hmro
      subst zd
      have es : sl = #[k0, k1, k2, k3, some (.builtin "ValueError.__new__"), k5] := by
        cases sl with
        | mk ll => simp only at hslots; rw [hslots]
      subst es
      exact ⟨tl, nsA, nm, qn, bs, hs, sn, sub, ab, col, dd, k0, k1, k2, k3, k5, h.nsMap nsA, e, .of_isNs (PySem.W.isNs_of_in KX zo), PySem.W.nsMap_none_of_in KX zo zi, PySem.W.tail_of_in KX zt⟩
def tRaise (C : Addr) (E : XK) (t : TA) : TS := fun _ σ H => t σ H fun vs H1 => vs.length ≤ sizeLine ∧ E (.ref C) none H1
section
variable {X : Cx} {E : XK} {x : Str} {C : Addr} {e : Expr} {es : List Expr} {t : TA} {np cpos pos : Pos}
theorem ps_raise (fl : Flier X E) (hc : X.calm = true) (hg : Gl X x) (hm : X.mg x = some (.ref C)) (hC : ExcC X.K C) (ha : PA X (e :: es) t) (hdb : (x == ("__debug__" : Str)) = false := by decide)
    (he : starEach (e :: es) X.env = (false, eval e X.env) :: starEach es X.env := by rfl) (hpl : (backTo cpos (starEach es X.env)).any (·.1) = false := by rfl) :
    PS X (.Raise (some (.Call (.Name x np) (e :: es) [] cpos)) none pos) (tRaise C E t) := by
  refine .mk ?_
  intro pins s σ H D I h
  obtain ⟨tl, N, nm, qn, bs, hs, sn, sub, ab, col, dd, k0, k1, k2, k3, k5, mN, oC, oN, oi, oT⟩ := hC.parts I.ok.mod.kin
  refine wpAny_Raise_call_subU (C := C) (nm := nm) (q := qn) (N := N) (bs := bs) (bm := tl) (hdct := hs) (sn := sn) (sub := sub) (ab := ab) (col := col) (dd := dd) (k0 := k0) (k1 := k1) (k2 := k2) (k3 := k3) (k5 := k5)
    PySem.F.excBase_ValueError (by decide) PySem.F.excBase_ValueError (mN := mN) (oT.hasType (by decide)) (I.ok.hd hc) ?hp oi (ld_glob I hg hm ⟨rfl, ?_⟩ hdb)
  case hp =>
    rw [he]
    show (false || (backTo cpos (starEach es X.env)).any (·.1)) = false
    rw [hpl]
    rfl
  have hr := ha cpos pins s σ H _ I h
  rw [he] at hr ⊢
  refine Calls.evalArgs_plain (wpAny_mono hr (fun us s2 hq => ?_) fun _ _ z => z)
  obtain ⟨vs, H1, I1, rv, hz, hE⟩ := hq
  refine ⟨rfl, by rw [← rv.length]; exact hz, I1.bk _ _ oC, oN.keeps I1.bk, oT.keeps I1.bk, fun h1 ea hm' => ?_⟩
  exact fl.made pins σ H1 s2 ea C us h1 I1 hm' hE
end
end L2

set_option Elab.async false
set_option linter.all false
set_option maxRecDepth 100000
set_option maxHeartbeats 1000000
namespace L2
open PySem PySem.Spec PyProof.Rows
/-! ### does an own exception match an own class -/
theorem kit_sub {K : PySem.W.Frag} {M : Model} {h : Heap} {C V : Addr} {b : Bool} (KX : K.In h) (zC : ExcC K C) (hk : PySem.W.kitOne K (.ref C) (.ref V) = some b) : PySem.W.Looks M h (isSubtype (.ref C) (.ref V)) b := by
  unfold PySem.W.kitOne at hk
  split at hk
  · rename_i e
    have e2 : C = V := by
      have := beq_iff_eq.mp e
      cases this
      rfl
    subst e2
    cases hk
    intro A Q E s kp q
    obtain ⟨tl, N, nm, qn, bs, hs, sn, sub, ab, col, dd, k0, k1, k2, k3, k5, mN, oC, oN, oi, oT⟩ := zC.parts (KX.keeps kp)
    obtain ⟨hp, g, d, t, os⟩ := s
    refine wpAny_isSubtype_exc oC ?_
    rw [show (Value.ref C :: tl).contains (.ref C) = true by simp]
    exact q
  · exact (PySem.W.kit_cls KX hk).2.2
theorem exc_match {K : PySem.W.Frag} {M : Model} {A : Around} {E : Value → Shared → Prop} {s : Shared} {C V e : Addr} {oe : Obj} {b : Bool} {Q : Bool → Shared → Prop} (KX : K.In s.heap) (zC : ExcC K C) (zV : ExcC K V) (hk : PySem.W.kitOne K (.ref C) (.ref V) = some b)
    (he : s.heap.get? e = some oe) (hcls : oe.cls = .ref C) (hq : Q b s) : wpAny M A (excMatches (.ref e) (.ref V)) Q E s := by
  obtain ⟨tl, N, nm, qn, bs, hs, sn, sub, ab, col, dd, k0, k1, k2, k3, k5, mN, oV, oN, oi, oT⟩ := zV.parts KX
  have lk := kit_sub (M := M) KX zC hk
  obtain ⟨hp, g, d, t, os⟩ := s
  have hb : (Value.ref V :: tl).contains (.type "BaseException") = true := by rw [List.contains_cons, oT.hasType (show veBm.contains (.type "BaseException") = true by decide), Bool.or_true]
  have nt := tc_notTuple
  unfold excMatches
  repeat (first | (with_reducible refine wpAny_loadPart_at he ?_; rw [hcls]) | with_reducible refine wpAny_loadPart_at oV ?_ | (with_reducible refine wpAny_isSubtype_exc oV ?_; rw [hb]) | wp_step)
  refine lk _ _ _ _ (fun _ _ z => z) ?_
  cases b <;> (wp_walk; exact hq)
/-! ### while it is looked at -/
theorem fly_turn {P : Program} {w : World} {l : List Env} {H H' : Hp} {s s1 : Shared} {b0 B h5 : Heap} (ff : s.heap.FunFrames b0 l) (free : ∀ b ∈ frs l, H b = none) (u1 : Un (frs l) [] H H' s.heap s1.heap) (hok : HOk P w H' s1.heap)
    (cov : Cov l H' s.heap s1.heap B) (a5 : B.StaysIn h5) (sr : SlotR l s1.heap h5) : Un (frs l) [] H H' s.heap h5 ∧ HOk P w H' h5 ∧ Cov l H' s.heap h5 B := by
  have free' : ∀ b ∈ frs l, H' b = none := fun b hb => by
    obtain ⟨_, o, e, _⟩ := ff.mem hb
    exact u1.free b o e (free b hb) (by simp)
  refine ⟨⟨fun b o e n hb _ => ?_, fun b o e n hb _ => ?_, u1.free, fun b o e _ => ?_, u1.tups, u1.frzs, u1.tbls⟩, fun b o q => ?_, fun b o e n hc => ?_⟩
  · exact a5 b o (cov b o (u1.keep b o e n hb (by simp)) hb (.inr ⟨o, e⟩))
  · obtain ⟨sl, e1⟩ := u1.slot b o e n hb (by simp)
    obtain ⟨sl2, e2⟩ := sr b _ hb e1
    exact ⟨sl2, e2⟩
  · obtain ⟨o1, e1⟩ := u1.there b o e (by simp)
    by_cases hb : b ∈ frs l
    · obtain ⟨sl, e2⟩ := sr b o1 hb e1
      exact ⟨_, e2⟩
    · exact ⟨o1, a5 b o1 (cov b o1 e1 hb (.inr ⟨o, e⟩))⟩
  · refine (hok b o q).stay (fun c u hc e => a5 c u (cov c u e (fun z => ?_) (.inl ?_))) (fun _ z => z) fun _ _ z => z
    · have := free' c z
      rcases hc with rfl | hc
      · rw [q] at this; cases this
      · rw [hc] at this; cases this
    · rcases hc with rfl | hc
      · rw [q]; exact fun z => by cases z
      · rw [hc]; exact fun z => by cases z
  · have ⟨o2, e2⟩ : ∃ o2, s1.heap.get? b = some o2 := by
      rcases hc with hc | ⟨o0, e0⟩
      · cases q : H' b with
        | none => exact absurd q hc
        | some u => exact (hok b u q).is
      · exact u1.there b o0 e0 (by simp)
    have e3 := cov b o2 e2 n hc
    have e4 := a5 b o2 e3
    rw [e] at e4
    cases e4
    exact e3
/-- an exception that is held: its class, and that it came behind nothing -/
def IsExc (C ea : Addr) : Heap → Prop := fun h => ∃ (oe : Obj) (vs : Array Value), RecE h ea oe vs ∧ oe.cls = .ref C ∧ vs[2]? = some .none
section
variable {X : Cx} {pins : List (Addr × Obj)} {σ : L2.St} {H : Hp} {s : Shared}
/-- it is tracked from here on -/
theorem Inv.track {C ea : Addr} (I : Inv X pins σ H s) (hn : H ea = none) (h0 : X.s₀.heap.get? ea = none) (hx : IsExc C ea s.heap) (hp : ∀ p ∈ X.pn ++ pins, p.1 ≠ ea) : Inv X pins σ (upd H ea (.ext (IsExc C ea))) s := by
  obtain ⟨oe, vs, r, hc, h2⟩ := id hx
  have ne : ∀ b o, H b = some o → b ≠ ea := fun b o e => ne_of_none e hn
  have old : ∀ b o, X.s₀.heap.get? b = some o → b ≠ ea := fun b o e z => by rw [z, h0] at e; cases e
  refine ⟨I.ok, I.os, I.bare, ⟨I.base.keep, I.base.slot, fun b o e n hb => ?_, I.base.there, fun b xs q => ?_, fun b o u q => ?_, fun b ps q => ?_⟩, I.loc, I.cell, ?_, fun x c e => ?_, fun p hm => ?_, fun b o q => ?_, I.len⟩
  · rw [upd_ne (old b o e)]
    exact I.base.free b o e n hb
  · have := I.base.tups b xs q
    rw [upd_ne (ne _ _ this)]
    exact this
  · have := I.base.frzs b o u q
    rw [upd_ne (ne _ _ this)]
    exact this
  · obtain ⟨m, e⟩ := I.base.tbls b ps q
    exact ⟨m, by rw [upd_ne (ne _ _ e)]; exact e⟩
  · obtain ⟨m, hm, _⟩ := I.loc
    have : X.env.locals ≠ ea := fun z => by
      obtain ⟨o, es, ep, eo, hd, _⟩ := hm
      rw [z, r.at_] at eo
      cases eo
      have := r.fld
      rw [hd] at this
      cases this
    rw [upd_ne this]
    exact I.free
  · have : c ≠ ea := fun z => by
      obtain ⟨v, o, eo, hd⟩ := I.cell x c e
      rw [z, r.at_] at eo
      cases eo
      have q := r.fld
      rw [hd] at q
      cases q
    rw [upd_ne this]
    exact I.freeC x c e
  · obtain ⟨a, b, c⟩ := I.pin p hm
    exact ⟨a, by rw [upd_ne (hp p hm)]; exact b, c⟩
  · by_cases hb : b = ea
    · subst hb
      rw [upd_same] at q
      cases q
      refine ⟨hx, ⟨oe, r.at_⟩, fun h1 h2 z k => ?_⟩
      obtain ⟨oe, vs, r, c1, c2⟩ := z
      exact ⟨oe, vs, ⟨k _ r.at_, r.fld, r.sz, r.dct⟩, c1, c2⟩
    · rw [upd_ne hb] at q
      exact (I.hok b o q).stay (fun c u _ e => e) (fun c e => by rw [upd_ne (ne _ _ e)]; exact e) fun c xs e => by rw [upd_ne (ne _ _ e)]; exact e
end
/-! ### try: .. except V as n: (the suite returns) -/
abbrev Cx.inTry (X : Cx) (pn : List (Addr × Obj)) (xe : Value → Shared → Prop) : Cx := { X with pn := pn, xe := xe }
abbrev Cx.inExc (X : Cx) (ea : Addr) : Cx := { X with A := X.A.mark (some (.ref ea)), calm := false, xe := fun _ _ => False }
section
variable {X : Cx} {pins pins' : List (Addr × Obj)} {σ : L2.St} {H : Hp} {s : Shared}
theorem Cx.Ok.inTry (ok : X.Ok) (pn : List (Addr × Obj)) (xe : Value → Shared → Prop) : (X.inTry pn xe).Ok :=
  ⟨ok.mod, ok.kind, ok.glob, ok.blt, ok.above, ok.inj, ok.has, ok.cab, ok.hd, ok.frames, ok.stk, ok.exf, ok.bs, ok.bsz, ok.noex, ok.exfs, ok.funs, ok.frf⟩
theorem Cx.Ok.inExc (ok : X.Ok) (ea : Addr) : (X.inExc ea).Ok :=
  ⟨ok.mod, ok.kind, ok.glob, ok.blt, ok.above, ok.inj, ok.has, ok.cab, fun z => (by cases z), ok.frames, ok.stk, ok.exf, ok.bs, ok.bsz, ok.noex, ok.exfs, ok.funs, ok.frf⟩
theorem Inv.inTry (I : Inv X pins σ H s) (xe : Value → Shared → Prop) : Inv (X.inTry (X.pn ++ pins) xe) [] σ H s :=
  ⟨I.ok.inTry _ _, I.os, I.bare, I.base, I.loc, I.cell, I.free, I.freeC, fun p hp => I.pin p (by simpa using hp), I.hok, I.len⟩
theorem Inv.outTry {xe : Value → Shared → Prop} (ok : X.Ok) (I : Inv (X.inTry (X.pn ++ pins) xe) pins' σ H s) : Inv X pins σ H s :=
  ⟨ok, I.os, I.bare, I.base, I.loc, I.cell, I.free, I.freeC, fun p hp => I.pin p (List.mem_append_left _ hp), I.hok, I.len⟩
theorem Inv.inExc (I : Inv X pins σ H s) (ea : Addr) : Inv (X.inExc ea) pins σ H s :=
  ⟨I.ok.inExc ea, I.os, I.bare, I.base, I.loc, I.cell, I.free, I.freeC, I.pin, I.hok, I.len⟩
theorem Inv.outExc {ea : Addr} (ok : X.Ok) (I : Inv (X.inExc ea) pins σ H s) : Inv X pins σ H s :=
  ⟨ok, I.os, I.bare, I.base, I.loc, I.cell, I.free, I.freeC, I.pin, I.hok, I.len⟩
theorem SP.outTry {xe : Value → Shared → Prop} {D : Ends} {f : Flow} {s' : Shared} (ok : X.Ok) (h : SP (X.inTry (X.pn ++ pins) xe) pins' D f s') : SP X pins D f s' := by
  cases f with
  | next => obtain ⟨σ', H', I, q⟩ := h; exact ⟨σ', H', I.outTry ok, q⟩
  | brk => obtain ⟨σ', H', I, q⟩ := h; exact ⟨σ', H', I.outTry ok, q⟩
  | cont => obtain ⟨σ', H', I, q⟩ := h; exact ⟨σ', H', I.outTry ok, q⟩
  | ret u => obtain ⟨v, σ', H', I, r, q⟩ := h; exact ⟨v, σ', H', I.outTry ok, r, q⟩
/-- a name of the frame goes: of the names nothing is said any more -/
theorem Inv.goes {h' : Heap} {m' : Str → Option Value} {tk : Nat} (I : Inv X pins σ H s) (hn : h'.Ns X.env.locals m') (sb : Heap.SameBut X.env.locals s.heap h') : Inv X pins (List.replicate X.N.length none) H { s with heap := h', toks := tk } := by
  have kp : ∀ b o, b ≠ X.env.locals → s.heap.get? b = some o → h'.get? b = some o := fun b o nb e => sb.extBut b o nb e
  have lN : ∀ b o, X.s₀.heap.get? b = some o → b ≠ X.env.locals := fun b o e z => Nat.lt_irrefl _ (Nat.lt_of_lt_of_le (z ▸ Heap.lt_size e) I.ok.above)
  obtain ⟨m, hm, _⟩ := I.loc
  refine ⟨I.ok, I.os, I.bare, ⟨fun b o e n hb hx => kp b o (lN b o e) (I.base.keep b o e n hb hx), fun b o e n hb hx => ?_, I.base.free, fun b o e hx => ?_, I.base.tups, I.base.frzs, I.base.tbls⟩, ⟨m', hn, fun i x v _ z => ?_⟩, fun x c e => ?_, I.free, I.freeC, fun p hp => ?_, fun b o q => ?_, List.length_replicate⟩
  · obtain ⟨sl, e1⟩ := I.base.slot b o e n hb hx
    exact ⟨sl, kp b _ (lN b o e) e1⟩
  · obtain ⟨o1, e1⟩ := I.base.there b o e hx
    exact ⟨o1, kp b _ (lN b o e) e1⟩
  · rw [List.getElem?_replicate] at z
    split at z <;> cases z
  · obtain ⟨v, o, eo, hd⟩ := I.cell x c e
    refine ⟨v, o, kp c o (fun z => ?_) eo, hd⟩
    obtain ⟨o2, es, ep, e2, hd2, _⟩ := hm
    rw [z, e2] at eo
    cases eo
    rw [hd2] at hd
    cases hd
  · obtain ⟨a, b, c⟩ := I.pin p hp
    exact ⟨kp _ _ c.1 a, b, c⟩
  · refine (I.hok b o q).stay (fun c u hc e => kp c u (fun z => ?_) e) (fun _ z => z) fun _ _ z => z
    have := I.free
    rcases hc with rfl | hc
    · rw [← z, q] at this; cases this
    · rw [← z, hc] at this; cases this
end
def exB (K : PySem.W.Frag) (V : Addr) (i n : Nat) (th : Addr → TS) (D : Ends) : XK := fun cls _ H1 => ∃ C, cls = .ref C ∧ ExcC K C ∧ PySem.W.kitOne K (.ref C) (.ref V) = some true ∧
  ∀ (ea : Addr) (σ' : L2.St), H1 ea = none → σ'.length = n → th ea { D with nx := fun _ _ => False, bk := fun _ _ => False, ct := fun _ _ => False } (σ'.set i (some (.ref ea))) (upd H1 ea (.ext (IsExc C ea)))
def tTryAs (K : PySem.W.Frag) (V : Addr) (i n : Nat) (tb : XK → TS) (th : Addr → TS) : TS := fun D σ H => tb (exB K V i n th D) D σ H
section
variable {X : Cx} {x n : Str} {V : Addr} {i : Nat} {body : List Stmt} {b0 : Stmt} {suite : List Stmt} {tb : XK → TS} {th : Addr → TS} {np hp pos : Pos} {l : List Env}
theorem ps_tryAs (hst : X.stack = X.env :: l) (hex : X.ex = []) (hfr : X.env.frame = some X.env.locals) (hg : Gl X x) (hm : X.mg x = some (.ref V)) (zV : ExcC X.K V) (hN : X.N.Nodup) (hi : X.N[i]? = some n) (hl : X.env.kindOf n = some .local)
    (hb : ∀ (EB : XK) (pn : List (Addr × Obj)) (xe : Value → Shared → Prop), Passes (Fly X.prog X.w) (X.inTry pn xe) EB → PSs (X.inTry pn xe) body (tb EB))
    (hs : ∀ ea, PSs (X.inExc ea) (b0 :: suite) (th ea)) (hdb : (x == ("__debug__" : Str)) = false := by decide) :
    PS X (.Try body [.ExceptHandler (some (.Name x np)) (some n) (b0 :: suite) hp] [] [] pos) (tTryAs X.K V i X.N.length tb th) := by
  refine .mk ?_
  intro pins s σ H D I h
  have ok := I.ok
  have hloc : Loc X.env.scope n := .inl hl
  refine wpAny_Try_except (wpAny_mono (hb (exB X.K V i X.N.length th D) (X.pn ++ pins) _ (fun pins' σ' H' s' e s1 I' hf => ?_) [] s σ H D (I.inTry _) h) (fun f s1 hq => ?_) fun e s1 z => z)
  rotate_left
  · have hq := hq.outTry ok
    cases f with
    | next =>
      obtain ⟨σ', H', I', q⟩ := hq
      exact wpAny_execs_nil ⟨σ', H', I', q⟩
    | brk => exact hq
    | cont => exact hq
    | ret u => exact hq
  obtain ⟨ea, C, H1, B, rfl, os, bare, u1, hok, a, cov, C', eC, zC, hk, rd⟩ := hf
  cases eC
  have fr : X.A.frames = some (X.env :: l) := by rw [← hst]; exact ok.frames
  have a : Air .none B (X.env :: l) ea C s1.heap := by rw [← hst]; exact a
  have ff : s'.heap.FunFrames X.base X.stack := I'.stack
  have free : ∀ b ∈ frs X.stack, H' b = none := I'.stkFree
  -- the exception is no old thing
  have ne0 : s'.heap.get? ea = none := by
    cases z : s'.heap.get? ea with
    | none => rfl
    | some o =>
      obtain ⟨o1, e1⟩ := u1.there ea o z (by simp)
      obtain ⟨oe, vs, T, oT, ts, r, _⟩ := a.rec_
      have := cov ea o1 e1 (by rw [hst]; exact r.nofr a.ff) (.inr ⟨o, z⟩)
      rw [a.new] at this
      cases this
  have hn1 : H1 ea = none := by
    cases z : H1 ea with
    | none => rfl
    | some o =>
      obtain ⟨o1, e1⟩ := (hok ea o z).is
      obtain ⟨oe, vs, T, oT, ts, r, _⟩ := a.rec_
      have := cov ea o1 e1 (by rw [hst]; exact r.nofr a.ff) (.inl (by rw [z]; exact fun w => by cases w))
      rw [a.new] at this
      cases this
  have n0 : X.s₀.heap.get? ea = none := by
    cases z : X.s₀.heap.get? ea with
    | none => rfl
    | some o =>
      obtain ⟨o1, e1⟩ := I'.base.there ea o z (by rw [show (X.inTry (X.pn ++ pins) _).ex = X.ex from rfl, hex]; simp)
      rw [ne0] at e1
      cases e1
  have np : ∀ p ∈ X.pn ++ pins, p.1 ≠ ea := fun p hp z => by
    have := (I'.pin p (List.mem_append_left _ hp)).1
    rw [z, ne0] at this
    cases this
  refine air_note fr hfr a fun h4 a4 s4 => ?_
  refine air_land (s := { s1 with heap := h4 }) a4 fun h5 a5 s5 => ?_
  have turn : ∀ (h6 : Heap), Air .none B (X.env :: l) ea C h6 → SlotR (X.env :: l) s1.heap h6 → Inv X pins σ' H1 { s1 with heap := h6 } := fun h6 a6 s6 => by
    obtain ⟨u6, hok6, _⟩ := fly_turn (l := X.stack) ff free u1 hok cov a6.st (by rw [hst]; exact s6)
    exact (I'.call' (s' := { s1 with heap := h6 }) (ch := []) os u6 hok6 bare (fun b z => absurd z (by simp))).outTry ok
  have J5 := turn h5 a5 (s4.trans s5)
  have K5 := J5.inExc ea
  obtain ⟨oe, vs, T, oT, ts, r, hc, _⟩ := id a5.rec_
  refine wpAny_handleBy_cons (codeAny_handlers_test (ld_glob K5 hg hm ?_ hdb)) (by intro q; cases q)
  refine exc_match (K := X.K) K5.kIn zC zV hk r.at_ hc ?_
  refine codeAny_handlers_suite_as ?_
  refine air_land (s := { s1 with heap := h5 }) a5 fun h6 a6 s6 => ?_
  have J6 := turn h6 a6 ((s4.trans s5).trans s6)
  have hx6 : IsExc C ea h6 := by
    obtain ⟨oe, vs, T, oT, ts, r, hc, h2, _⟩ := a6.rec_
    exact ⟨oe, vs, r, hc, h2⟩
  have E6 := J6.track hn1 n0 hx6 np
  refine store_ok E6 hN hi hloc (v := .ref ea) rfl (fun s7 I7 => ?_) (.inr hl)
  have q := hs ea pins s7 (σ'.set i (some (.ref ea))) _ { D with nx := fun _ _ => False, bk := fun _ _ => False, ct := fun _ _ => False } (I7.inExc ea) (rd ea σ' hn1 J5.len)
  refine wpAny_mono q (fun f s8 hq => ?_) (fun _ _ z => z.elim)
  cases f with
  | next => obtain ⟨_, _, _, z⟩ := hq; exact z.elim
  | brk => obtain ⟨_, _, _, z⟩ := hq; exact z.elim
  | cont => obtain ⟨_, _, _, z⟩ := hq; exact z.elim
  | ret u =>
    obtain ⟨v, σ8, H8, I8, rv, qv⟩ := hq
    have J8 := I8.outExc ok
    obtain ⟨m8, hn8, _⟩ := J8.loc
    refine wpAny_nameGoes hl hn8 (by rw [ok.kind]; rfl) fun h9 m9 hn9 sb9 => ?_
    exact ⟨v, _, H8, J8.goes hn9 sb9, rv, qv⟩
end
end L2

set_option Elab.async false
set_option linter.all false
set_option maxRecDepth 100000
set_option maxHeartbeats 1000000
namespace L2
open PySem PySem.Spec PyProof.Rows
/-! ### an iteration's end while an exception is handled -/
theorem IsExc.at {C ea : Addr} {h h' : Heap} (x : IsExc C ea h) (k : ∀ o, h.get? ea = some o → h'.get? ea = some o) : IsExc C ea h' := by
  obtain ⟨oe, vs, r, c1, c2⟩ := x
  exact ⟨oe, vs, ⟨k _ r.at_, r.fld, r.sz, r.dct⟩, c1, c2⟩
theorem entry_unchain : entryFor table "proto.unchain" = some Builtin.«proto.unchain» := entryFor_of_fast (by kernel_rfl)
section
variable {prog : Program} {w : World} {A : Around} {E : Value → Shared → Prop} {s : Shared}
theorem unchain_none {C ea : Addr} {v : Value} {Q : Value → Shared → Prop} (x : IsExc C ea s.heap) (k : Q .none s) : wpAny (model prog w) A (runValue (.builtin "proto.unchain" ⟨[v, .ref ea, .ref ea, .bool false], []⟩)) Q E s := by
  obtain ⟨oe, vs, r, c1, c2⟩ := x
  refine wpAny_runValue (codeAny_builtin entry_unchain ?_)
  show wpAny _ _ (Builtin.«proto.unchain» _) _ _ _
  unfold Builtin.«proto.unchain»
  dsimp only
  refine wpAny_bind (wpAny_field r.at_ r.fld c2 ?_)
  rw [if_pos (show (Value.none == Value.none) = true by rfl)]
  exact wpAny_pure k
theorem next_end {C ea it l : Addr} {i : Nat} {items : Array Value} {Q : Option Value → Shared → Prop} (hh : A.handled = some (.ref ea)) (x : IsExc C ea s.heap) (hne : ea ≠ it) (hit : s.heap.IsListIter it l i) (hl : s.heap.IsList l items) (hx : items[i]? = none)
    (k : ∀ h', Heap.ExtBut it s.heap h' → Q none { s with heap := h' }) : wpAny (model prog w) A (pyNext (.ref it)) Q E s := by
  obtain ⟨o, ho, hc, hd⟩ := id hit
  obtain ⟨ol, hol, _, nl, hdl⟩ := hl
  have lt : ea < s.heap.objs.size := by
    obtain ⟨oe, vs, r, _⟩ := x
    exact Heap.lt_size r.at_
  unfold pyNext
  refine wpAny_bind (wpAny_attempt (wpAny_callSpecial?_slot (name := Str.ofString "__next__") hit.typeIs slot_listiter_next (wpAny_call_entry slot_listiter_next hit.typeIs entry_listiter_next ?_ (args_listiter_next _))))
  show wpAny _ _ (field (.ref it) 0 >>= fun _ => _) _ _ s
  refine wpAny_bind (wpAny_field ho hd (x := .ref l) rfl ?_)
  show wpAny _ _ (if (Value.ref l == Value.none) = true then _ else _) _ _ s
  rw [if_neg (by exact Bool.false_ne_true)]
  show wpAny _ _ (field (.ref it) 1 >>= fun _ => _) _ _ s
  refine wpAny_bind (wpAny_field ho hd (x := .int i 0) rfl ?_)
  show wpAny _ _ (seqItems? (.ref l) >>= fun _ => _) _ _ s
  refine wpAny_bind (wpAny_seqItems hol hdl ?_)
  simp only [Int.toNat_natCast, hx]
  refine wpAny_bind (wpAny_rule (wpAny_bind (wpAny_setField ho hd (by simp) ?_)))
  have x1 : IsExc C ea (s.heap.update it (Obj.mapFields (·.setIfInBounds 0 Value.none))) := x.at fun o e => by rw [Heap.get?_update_other _ _ (Ne.symm hne)]; exact e
  show wpAny _ _ (newExc (.type "StopIteration") [] >>= fun _ => _) _ _ _
  refine wpAny_bind ?_
  simp only [newExc, newTuple]
  refine wpAny_bind (wpAny_newObj_type ?_ (by size_fits))
  refine wpAny_bind (m := firstArgMember _ _) (wpAny_of_eq (a := Value.none) (by first | rfl | (simp only [firstArgMember]; rfl)) ?_)
  refine wpAny_newObj_type ?_ (by size_fits)
  simp only [raiseNew]
  refine wpAny_bind (wpAny_handled ?_)
  rw [show A.in1.handled = some (.ref ea) from hh]
  dsimp only
  generalize hg : s.heap.update it (Obj.mapFields (·.setIfInBounds 0 Value.none)) = g at x1 ⊢
  have ge : Heap.ExtBut it s.heap g := by rw [← hg]; exact (Heap.SameBut.update ..).extBut
  generalize hn : (g.push { cls := .type "tuple", data := .seq #[] }).objs.size = n
  have ltn : ea < n := by
    obtain ⟨oe, vs, r, _⟩ := x1
    rw [← hn, Heap.size_push]
    exact Nat.lt_succ_of_lt (Heap.lt_size r.at_)
  rw [if_pos (show (Value.ref ea != Value.ref n) = true by simp; exact Nat.ne_of_lt ltn)]
  generalize hg2 : (g.push { cls := .type "tuple", data := .seq #[] }).push _ = g2
  have kp : ∀ b o, g.get? b = some o → g2.get? b = some o := fun b o e => by rw [← hg2]; exact Heap.get?_push_of_some _ (Heap.get?_push_of_some _ e)
  have en : ∃ o vs, g2.get? n = some o ∧ o.data = .fields vs ∧ o.cls = .type "StopIteration" ∧ 2 < vs.size := ⟨_, _, by rw [← hg2, ← hn]; exact Heap.get?_push_size _ rfl, rfl, rfl, by simp; omega⟩
  obtain ⟨on, vn, e1, e2, e3, e4⟩ := en
  have x2 : IsExc C ea g2 := x1.at fun o e => kp _ _ e
  refine wpAny_bind (wpAny_holding (unchain_none (s := { s with heap := g2 }) x2 ?_))
  refine wpAny_bind (m := updateField n 2 (.ref ea)) ?_
  unfold updateField
  refine wpAny_bind (wpAny_load e1 ?_)
  simp only [e2]
  rw [if_pos e4]
  refine wpAny_update e1 ?_
  refine wpAny_throw ?_
  refine wpAny_bind (wpAny_isInstance (T := "StopIteration") (b := true) ⟨_, Heap.get?_update_self _ e1 (Obj.isFreed_of_fields (Obj.data_mapFields e2 _)), (Obj.cls_mapFields _ _).trans e3⟩ isSubtype_stop ?_)
  refine wpAny_pure (k _ fun b o nb e => ?_)
  have nn : n ≠ b := by
    rw [← hn, Heap.size_push]
    exact Nat.ne_of_gt (Nat.lt_succ_of_lt (Heap.lt_size (ge b o nb e)))
  rw [Heap.get?_update_other _ _ nn]
  exact kp _ _ (ge b o nb e)
end
end L2

set_option Elab.async false
set_option linter.all false
set_option maxRecDepth 100000
set_option maxHeartbeats 1000000
namespace L2
open PySem PySem.Spec PyProof.Rows
/-! ### a call within an except suite -/
structure RoomX (k : Nat) (A : Around) : Prop where
  dp : A.depth + 3 * k + 5 < recursionLimit
  un : A.units + 16 * k + 200 < cLine
theorem Room.x {k : Nat} {A : Around} (r : Room k A) : RoomX k A := ⟨r.dp, r.un⟩
theorem RoomX.mark {k : Nat} {A : Around} {v : Option Value} (r : RoomX k A) : RoomX k (A.mark v) := ⟨r.dp, r.un⟩
theorem RoomX.mono {j k : Nat} {A : Around} (r : RoomX k A) (h : j ≤ k) : RoomX j A := ⟨by have := r.dp; omega, by have := r.un; omega⟩
theorem RoomX.deeper {k : Nat} {A : Around} (r : RoomX (k + 1) A) (env : Env) : RoomX k (A.deeper env) :=
  ⟨by have := r.dp; show A.depth + 1 + 3 * k + 5 < _; omega, by have := r.un; show A.units + 3 + 16 * k + 200 < _; omega⟩
theorem RoomX.depth {k : Nat} {A : Around} (r : RoomX k A) : A.depth < recursionLimit := by have := r.dp; omega
/-- an exception is held -/
def Held (ea : Addr) (H : Hp) : Prop := ∃ C, H ea = some (.ext (IsExc C ea))
/-- what a def promises where an exception is handled -/
structure FnX (P : Program) (w : World) (K : PySem.W.Frag) (mg : Str → Option Value) (base : Heap) (k : Nat) (f : Addr) (fd : FuncData) (ps : List Str) (sp : Sp) : Prop where
  len : ∀ vs H Q E, sp vs H Q E → vs.length = ps.length
  run : ∀ (A : Around) (ea : Addr) (outer : List Env) (s : Shared) (H : Hp) (args : Args) (us : List Value) (vs : List V) (Q : VK) (E : XK), RoomX k A → A.handled = some (.ref ea) → Held ea H → Env0 P w K mg base A outer s H → BindsTo s fd args (ps.zip us) → Vals vs us → sp vs H Q E →
    codeAny (model P w) A (.call (.ref f) args) (CR CX0 outer P w H s Q E) s
section
variable {P : Program} {w : World} {K : PySem.W.Frag} {mg : Str → Option Value} {base : Heap}
theorem Fun.okX {x qual : Str} {st : Stmt} {f : Addr} {fd : FuncData} {N ps : List Str} {k : Nat} {sp : Sp} (F : Fun K x qual st f fd) (S : FnScope N ps (defScope st)) (len : ∀ vs H Q E, sp vs H Q E → vs.length = ps.length)
    (hbody : ∀ (cdv : Value) (A : Around) (outer : List Env) (s : Shared) (H : Hp) (vs : List V) (Q : VK) (E : XK) (ea : Addr), RoomX k (A.deeper (envOfC qual (defScope st) s.heap.objs.size f cdv)) → Held ea H → sp vs H Q E →
      ∃ t, PSs ((cxOf CX0 P w K mg base N qual (defScope st) f cdv A outer s H E).inExc ea) (defBody st) t ∧ t { nx := fun _ H' => Q .non H', rt := Q } (start N vs) H) : FnX P w K mg base (k + 1) f fd ps sp := by
  obtain ⟨oc, od, kV, doc, pm, an, cdv, ct, osl, rfl, lk, hcd⟩ := F.ex
  refine ⟨len, fun A ea outer s H args us vs Q E hr hh hea e0 hb r hsp => ?_⟩
  obtain ⟨A0, rfl, hA0⟩ : ∃ A0 : Around, A = A0.mark (some (.ref ea)) ∧ A0.handled = none := ⟨{ A with handled := none }, by cases A; cases hh; rfl, rfl⟩
  have hl := len _ _ _ _ hsp
  have KX : K.In s.heap := e0.mod.kin.keeps fun b o e => (e0.bs b o e).1
  have lim : s.heap.NoLimit := e0.mod.nolimit.keeps fun b o e => (e0.bs b o e).1
  have hkind : ∀ y ∈ ps.zip us, (defScope st).names.lookup y.1 = some .local ∨ ((defScope st).names.lookup y.1 = some .cell ∧ ((cellsFrom (s.heap.objs.size + 1) (defScope st).names []).lookup y.1).isSome = true) := fun ⟨n, v⟩ hy => by
    rcases S.par n (List.of_mem_zip hy).1 with q | q
    · exact .inl q
    · exact .inr ⟨q, PySem.W.cellsFrom_some _ _ _ (.inl q)⟩
  refine codeAny_call_function hr.depth (KX _ _ lk) rfl S.co S.gen rfl (PySem.W.codeRec_of KX hcd) (hb _ _ _ _ ?_)
  refine wpAny_newFunctionEnv_cells S.kind hkind fun env he s1 x => ?_
  subst he
  refine ⟨lim.keeps x.toInCall.keep, codeAny_func ?_⟩
  obtain ⟨t, ht, hq⟩ := hbody cdv A0 outer s H vs Q E ea (RoomX.deeper (A := A0) ⟨hr.dp, hr.un⟩ _) hea hsp
  have I : Inv (cxOf CX0 P w K mg base N qual (defScope st) f cdv A0 outer s H E) [] (start N vs) H s1 := inv_start S hA0 ⟨e0.frames, e0.mod, e0.bs, e0.bsz, e0.funs, e0.frf, e0.hok, e0.bare⟩ hl r x
  refine wpAny_mono (ht [] s1 (start N vs) H _ (I.inExc ea) hq) (fun fl s' hs => ?_) fun e s' hs => hs.elim
  have fin : ∀ {σ' : L2.St} {H' : Hp} {v : V} {u : Value}, Inv ((cxOf CX0 P w K mg base N qual (defScope st) f cdv A0 outer s H E).inExc ea) [] σ' H' s' → RelV v u → Q v H' → CE outer P w H s Q u s' :=
    fun {σ' H' v u} J rv q => ⟨v, H', J.os, J.bare, J.base, J.hok, rv, q⟩
  cases fl with
  | ret u =>
    obtain ⟨v, σ', H', J, rv, q⟩ := hs
    exact fin J rv q
  | next =>
    obtain ⟨σ', H', J, q⟩ := hs
    exact fin (v := V.non) (u := Value.none) J rfl q
  | brk =>
    obtain ⟨_, _, _, q⟩ := hs
    exact False.elim q
  | cont =>
    obtain ⟨_, _, _, q⟩ := hs
    exact False.elim q
theorem Fun.okF {x qual : Str} {st : Stmt} {f : Addr} {fd : FuncData} {N ps : List Str} {k : Nat} {sp : Sp} (F : Fun K x qual st f fd) (S : FnScope N ps (defScope st)) (len : ∀ vs H Q E, sp vs H Q E → vs.length = ps.length)
    (hbody : ∀ (cdv : Value) (A : Around) (outer : List Env) (s : Shared) (H : Hp) (vs : List V) (Q : VK) (E : XK), Room k (A.deeper (envOfC qual (defScope st) s.heap.objs.size f cdv)) → sp vs H Q E →
      ∃ t, PSs (cxOf (Fly P w) P w K mg base N qual (defScope st) f cdv A outer s H E) (defBody st) t ∧ t { nx := fun _ H' => Q .non H', rt := Q } (start N vs) H) : FnOk P w K mg base (Fly P w) (k + 1) f fd ps sp := by
  obtain ⟨oc, od, kV, doc, pm, an, cdv, ct, osl, rfl, lk, hcd⟩ := F.ex
  exact fn_of lk hcd S len fun A outer s H vs Q E hr hsp => hbody cdv A outer s H vs Q E hr hsp
end
theorem hh_exc {X : Cx} (ea : Addr) : (X.inExc ea).A.handled = some (.ref ea) := rfl
def tCallX (ea : Addr) (sp : Sp) (t : TA) : TE := fun σ H Q => t σ H fun vs H1 => Held ea H1 ∧ sp vs H1 Q fun _ _ _ => False
section
variable {X : Cx} {k : Nat} {f C ea : Addr} {fd : FuncData} {ps : List Str} {sp : Sp} {x m : Str} {p pos apos : Pos} {e o : Expr} {es : List Expr} {ta : TE} {t : TA}
theorem pe_callX (hh : X.A.handled = some (.ref ea)) (F : FnX X.prog X.w X.K X.mg X.base k f fd ps sp) (hr : RoomX k X.A) (hg : Gl X x) (hm : X.mg x = some (.ref f)) (hk : PySem.W.keepIn X.K (.ref f) = true) (hb : Binds X.K fd ps [])
    (ha : PA X (e :: es) t) (hdb : (x == ("__debug__" : Str)) = false := by decide) (he : starEach (e :: es) X.env = (false, eval e X.env) :: starEach es X.env := by rfl) (hpl : (backTo pos (starEach es X.env)).any (·.1) = false := by rfl) :
    PE X (.Call (.Name x p) (e :: es) [] pos) (tCallX ea sp t) := by
  refine .mk ?_
  intro pins s σ H Q I h
  refine wpAny_Call_Name_kw (ld_glob I hg hm ?_ hdb)
  refine PySem.W.callWith_K (h₀ := X.base) I.ok.mod.kin hk (thn (ha pos pins s σ H _ I h) fun us s1 ⟨vs, H1, I1, r, hd, q⟩ => ⟨I1.kIn, ?_⟩) he hpl
  have hl : us.length = ps.length := by rw [← r.length]; exact F.len _ _ _ _ q
  have r2 : Vals vs (us ++ []) := by rw [List.append_nil]; exact r
  refine wpAny_call (codeAny_mono (F.run X.A ea X.stack s1 H1 ⟨us, []⟩ (us ++ []) vs Q _ hr hh hd I1.env0 (hb s1 us I1.kIn (by rw [List.append_nil]; exact hl)) r2 q) fun r s' hq => ?_)
  cases r with
  | error e => exact False.elim hq
  | ok fl =>
    cases fl with
    | ret u => exact I1.after hq
    | next => exact False.elim hq
    | brk => exact False.elim hq
    | cont => exact False.elim hq
end
/-! ### what class an exception has -/
section
variable {K : PySem.W.Frag}
/-- the written part of an exception's class: __class__ is found as of any object -/
structure ExcI (K : PySem.W.Frag) (D : Addr) : Prop where
  ga : PySem.W.findIn K (.ref D) "__getattribute__" = some (some (.builtin "BaseException.__getattribute__"))
  hk : PySem.W.findIn K (.ref D) "__getattr__" = some none
  cls : (PySem.W.clsIn K D).isSome = true
  at_ : PySem.W.findIn K (.ref D) "__class__" = some (some (.builtin "object.__class__"))
  get : PySem.W.specialIn K (.builtin "object.__class__") "__get__" = some (some (.builtin "getset_descriptor.__get__"))
  tk : PySem.W.takesIn K (.builtin "object.__class__") = some true
  mro : PySem.W.mroIn K D (.type "object") = some true
  sub : PySem.W.subIn K (.ref D) (.type "BaseException") = some true
theorem exc_class {prog : Program} {w : World} {A : Around} {E : Value → Shared → Prop} {Q : Option Value → Shared → Prop} {s : Shared} {x D : Addr} {ox : Obj} (z : ExcI K D) (X : K.In s.heap) (I : PySem.W.InstAt s.heap x ox D none) (k : Q (some (.ref D)) { s with toks := s.toks + 1 }) :
    wpAny (model prog w) A (getAttr? (.ref x) "__class__") Q E s := by
  have hf : PySem.W.findObj K D none "__class__" = some (.bind (.builtin "getset_descriptor.__get__") (.builtin "object.__class__")) := by
    obtain ⟨cd, hc⟩ := Option.isSome_iff_exists.mp z.cls
    unfold PySem.W.findObj
    rw [hc, Option.bind_some, z.at_, Option.bind_some]
    simp [z.get, z.tk]
  obtain ⟨hh, g, d, t, os⟩ := s
  have L0 := I.type (M := model prog w)
  have L1 := PySem.W.looks_findIn (M := model prog w) X z.ga
  have L2 := PySem.W.looks_findIn (M := model prog w) X z.hk
  have L3 := PySem.W.looks_find (M := model prog w) X I hf
  have L4 := PySem.W.looks_subIn (M := model prog w) X z.sub
  have hx2 : (Value.builtin "BaseException.__getattribute__" == Value.builtin "object.__getattribute__") = false := by decide +kernel
  unfold getAttr? getAttrBy? getAttrBy
  refine wpAny_bind (wpAny_mkText (wpAny_bind (wpAny_attempt (wpAny_holding (wpAny_bind (L0.at (wpAny_bind (L1.at ?_))))))))
  dsimp only
  rw [if_neg (by rw [hx2, Bool.and_false]; exact Bool.false_ne_true)]
  unfold getAttrByItsOwn hookBefore
  refine wpAny_bind ?_
  rw [if_pos (show onTheHeap (Value.ref D) = true from rfl)]
  refine L2.at ?_
  refine wpAny_bind (wpAny_attempt (wpAny_holding ?_))
  unfold callGetattribute
  rw [if_neg (by rw [Bool.false_and]; exact Bool.false_ne_true)]
  unfold boundAndCalled
  refine wpAny_bind (wpAny_of_eq (PySem.F.attrBase_ValueError.ga.bind (.ref x)) ?_)
  refine wpAny_call (codeAny_call_builtin PySem.F.attrBase_ValueError.ga.plain F.entry_bexc_ga ?_)
  have hk : builtinKind "BaseException.__getattribute__" = some .slot := by decide +kernel
  have hsplit : splitId "BaseException.__getattribute__" = some ("BaseException", "__getattribute__") := by decide +kernel
  have ha := F.args_bexc_ga (.ref x) (.str "__class__" t)
  have LI : PySem.W.Looks (model prog w) hh (isInstance (.ref x) (.type "BaseException")) true := L0.andThen L4
  show wpAny _ _ (checkBuiltinCall "BaseException.__getattribute__" ⟨[.ref x, .str "__class__" t], []⟩) _ _ _
  simp only [checkBuiltinCall, hk, hsplit]
  refine wpAny_bind (LI.at ?_)
  rw [if_neg (show ¬ ((!true) = true) by decide)]
  have ent : ∀ (P : Value → Shared → Prop) (E' : Value → Shared → Prop), P (.ref D) ⟨hh, g, d, t + 1, os⟩ → wpAny (model prog w) A.in1 (Builtin.«object.__getattribute__» ⟨[.ref x, .str "__class__" t], []⟩) (fun fin s' => match fin with | .done (.ret v) => P v s' | _ => False) E' ⟨hh, g, d, t + 1, os⟩ := fun P E' hP => by
    unfold Builtin.«object.__getattribute__»
    refine wpAny_bind (wpAny_pure ?_)
    refine wpAny_bind (wpAny_pure ?_)
    refine wpAny_bind (L0.at ?_)
    refine wpAny_bind (L3.at ?_)
    dsimp only
    show wpAny _ _ (holding [.builtin "object.__class__"] (call (.builtin "getset_descriptor.__get__") [.builtin "object.__class__", .ref x, .ref D]) >>= ret) _ _ _
    refine wpAny_bind (wpAny_holding (wpAny_call (PySem.W.class_get (ox := ox) (od := none) X I z.mro ?_)))
    exact wpAny_pure hP
  have post : wpAny (model prog w) A.in1 (Builtin.«object.__getattribute__» ⟨[.ref x, .str "__class__" t], []⟩) (fun fin s' => match fin with | .done (.ret v) => wpAny (model prog w) A (handedOut v) (fun a s' => wpAny (model prog w) A (pure (some a)) Q E s') (fun _ _ => False) s' | _ => False) (fun _ _ => False) ⟨hh, g, d, t + 1, os⟩ := ent _ _ (PySem.W.handed_on rfl (wpAny_pure k))
  cases hsig : Manifest.signature? "BaseException.__getattribute__" with
  | none =>
    refine wpAny_pure (wpAny_mono post (fun fin s' h => ?_) fun _ _ h => h.elim)
    rcases fin with (_ | _ | _ | _) | _ <;> first | exact wpAny_mono h (fun v s'' hv => hv) (fun _ _ z => z.elim) | exact h.elim
  | some sig =>
    have ha' : Bind.checkArgs "BaseException.__getattribute__" sig ⟨[.ref x, .str "__class__" t], []⟩ = pure () := by simpa only [argsOk, hsig] using ha
    simp only [ha']
    refine wpAny_pure (wpAny_mono post (fun fin s' h => ?_) fun _ _ h => h.elim)
    rcases fin with (_ | _ | _ | _) | _ <;> first | exact wpAny_mono h (fun v s'' hv => hv) (fun _ _ z => z.elim) | exact h.elim
theorem kitx_exc {x D : Addr} {ox : Obj} (z : ExcI K D) : PySem.W.KitX K (.ref x) (.ref D) (fun h => PySem.W.InstAt h x ox D none) where
  ty := fun _ _ _ I => I.type
  it := fun _ _ X _ => by
    have hcD := z.cls
    unfold PySem.W.clsIn at hcD
    split at hcD
    · rename_i c' d' cd' sl' ho
      intro A' Q' E' s' k q
      unfold isType loadHead
      exact wpAny_bind (wpAny_loadPart (k _ _ (X _ _ ho)) (wpAny_pure q))
    · cases hcD
  ne := fun h tp dd its n sl X htp => by
    have hcD := z.cls
    refine Bool.eq_false_iff.mpr fun q => ?_
    have e : D = tp := Value.ref.inj (beq_iff_eq.mp q)
    subst e
    unfold PySem.W.clsIn at hcD
    split at hcD
    · rename_i c' d' cd' sl' ho
      have z := (X _ _ ho).symm.trans htp
      cases z
    · cases hcD
  ca := fun {prog w A E Q s} X I k => exc_class z X I k
end
section
variable {X : Cx} {ea : Addr}
def rInstE (K : PySem.W.Frag) : List V → Hp → VK → Prop := fun xs H Q => ∃ (ea C : Addr) (y : V) (c : Value) (b : Bool), xs = [.ref ea, y] ∧ ((∃ D, y = .ref D ∧ c = .ref D) ∨ ∃ T, y = .ty T ∧ c = .type T) ∧ H ea = some (.ext (IsExc C ea)) ∧ ExcI K C ∧ PySem.W.kitOne K (.ref C) c = some b ∧ Q (.bl b) H
theorem call_instE : CallR X (.builtin "isinstance") (rInstE X.K) := by
  intro pins s σ H xs us Q I r h
  obtain ⟨ea, C, y, c, b, rfl, ry, he, z, hk, q⟩ := h
  obtain ⟨u, w', rfl, rx, ry'⟩ := vals2 r
  cases rx
  obtain ⟨⟨oe, vs, re, hc, _⟩, _⟩ := I.hok _ _ he
  have ew : w' = c := by
    rcases ry with ⟨D, rfl, rfl⟩ | ⟨T, rfl, rfl⟩
    · cases ry'
      rfl
    · cases ry'
      rfl
  subst ew
  exact PySem.W.kia_one (kitx_exc (ox := oe) z) I.kIn ⟨re.at_, hc, by unfold PySem.W.notCls; rw [re.fld], by rw [re.dct]; trivial⟩ hk (fun z => nomatch z) fun tk => ⟨.bl b, H, I.tok tk, rfl, q⟩
/-- sum of a list of ints, within an except suite -/
def rSumX (K : PySem.W.Frag) (ea : Addr) : List V → Hp → VK → Prop := fun xs H Q => ∃ (p : Addr) (ns : List Int), xs = [.ref p] ∧ SqL K H p (ns.map V.int) ∧ Held ea H ∧ Q (.int ns.sum) H
theorem walks_listX {prog : Program} {w : World} {A : Around} {C ea : Addr} (hh : A.handled = some (.ref ea)) (I ax : Addr) (hne : ax ≠ I) (hea : ea ≠ I) (items : Array Value) :
    Walks prog w A I [I, ax, ea] [I] items.size (fun i v => items[i]? = some v) (fun i h => h.IsListIter I ax i ∧ h.IsList ax items ∧ IsExc C ea h) where
  sub := fun b hb => by simp at hb; simp [hb]
  frame := fun _ _ _ st hk => ⟨st.1.at fun o e => hk I (by simp) o e, st.2.1.at fun o e => hk ax (by simp) o e, st.2.2.at fun o e => hk ea (by simp) o e⟩
  item := fun i s Q E hi st hQ => by
    refine wpAny_pyNext_list_item st.1 st.2.1 (x := items[i]) (by simp [hi]) fun h' hit' hs' => ?_
    exact hQ _ h' s.toks (by simp [hi]) ⟨hit', st.2.1.extBut hs'.extBut hne, st.2.2.at fun o e => hs'.extBut ea o hea e⟩ fun b o hb e => hs'.extBut b o (fun h => hb (by simp [h])) e
  done := fun s Q E st hQ => next_end hh st.2.2 hea st.1 st.2.1 (by simp) fun h' he' => hQ h' s.toks fun b o hb e => he' b o (fun h => hb (by simp [h])) e
  self := fun _ _ _ _ st hQ => wpAny_pyIter_listiter st.1 hQ
theorem sum_take {ns : List Int} : ∀ n, n ≤ ns.length → preSum (fun i => ns.getD i 0) n = (ns.take n).sum
  | 0, _ => rfl
  | n + 1, h => by
    show preSum (fun i => ns.getD i 0) n + ns.getD n 0 = _
    have e : ns.take (n + 1) = ns.take n ++ [ns.getD n 0] := by
      rw [List.take_add_one, List.getElem?_eq_getElem (by omega), List.getD_eq_getElem?_getD, List.getElem?_eq_getElem (by omega)]
      rfl
    rw [sum_take n (by omega), e, List.sum_append]
    simp
theorem call_sumX (hh : X.A.handled = some (.ref ea)) : CallR X (.builtin "sum") (rSumX X.K ea) := by
  intro pins s σ H xs us Q I r h
  obtain ⟨p, ns, rfl, hq, ⟨C, he⟩, q⟩ := h
  obtain ⟨u, rfl, rx⟩ := vals1 r
  cases rx
  obtain ⟨its, rv, pl, hz⟩ := I.list hq
  obtain ⟨l, rfl, rfl⟩ := ints_items (intsAre_of rv)
  have hl := pl.isList
  rw [items_eq] at hl
  have hx : IsExc C ea s.heap := (I.hok _ _ he).1
  have hlt : ea < s.heap.objs.size := by
    obtain ⟨oe, vs, r, _⟩ := hx
    exact Heap.lt_size r.at_
  refine call_sum_walkG (iter_intList hl fun s₂ e st hfp hlI => ?_)
  subst e
  refine ⟨_, _, _, _, _, _, fun i => (l.map (·.1)).getD i 0, rfl, walks_listX (A := X.A.in1) (C := C) (ea := ea) hh _ p hlI (Nat.ne_of_lt hlt) (intItems l.toArray), ⟨st.1, st.2, hx.at fun o e => Heap.get?_push_of_some _ e⟩, fun b hb => ?_, fun i v hv => ?_, fun h' tk t' hk => ?_⟩
  · rcases List.mem_cons.mp hb with rfl | hb
    · exact hfp _ (by simp)
    · rcases List.mem_cons.mp hb with rfl | hb
      · exact hfp _ (by simp)
      · rw [List.mem_singleton.mp hb]
        show ea < (s.heap.push _).objs.size
        rw [Heap.size_push]
        exact Nat.lt_succ_of_lt hlt
  · obtain ⟨t, e⟩ := intItems_at hv
    exact ⟨t, by rw [e, num_eq]⟩
  · refine ⟨.int _, H, I.kept (old_kept hk), ⟨_, rfl⟩, ?_⟩
    have e : (intItems l.toArray).size = (l.map (·.1)).length := by simp [intItems]
    rw [e, sum_take _ (Nat.le_refl _), List.take_length]
    exact q
/-- the place of the first -/
def rIndex (K : PySem.W.Frag) : V → List V → Hp → VK → Prop := fun x vs H Q => ∃ (l : Addr) (xs : List V) (y : V) (j : Nat), x = .ref l ∧ vs = [y] ∧ SqL K H l xs ∧ flatV y = true ∧ xs.all flatV = true ∧ j < xs.length ∧ xs.length ≤ 1000 ∧ (∀ z, xs[j]? = some z → eqV z y = true) ∧ (∀ m z, m < j → xs[m]? = some z → eqV z y = false) ∧ Q (.int (j : Nat)) H
theorem eqU_at {y : V} : ∀ {xs : List V} {us : List Value}, Vals xs us → xs.all flatV = true → ∀ (m : Nat) (u : Value), us[m]? = some u → ∃ z, xs[m]? = some z ∧ eqU y u = eqV z y
  | _, _, .nil, _ => fun m u e => by simp at e
  | x :: xs, v :: us, .cons r t, f => fun m u e => by
    rw [List.all_cons, Bool.and_eq_true] at f
    cases m with
    | zero =>
      cases e
      exact ⟨x, rfl, eqU_of r f.1⟩
    | succ m =>
      obtain ⟨z, e1, e2⟩ := eqU_at t f.2 m u (by simpa using e)
      exact ⟨z, by simpa using e1, e2⟩
theorem mt_index : MtR X "list.index" (rIndex X.K) := by
  intro pins s σ H x vs v us Q I rx rv h
  obtain ⟨l, xs, y, j, rfl, rfl, hq, fy, fs, hj, hx, hit, hno, q⟩ := h
  cases rx
  obtain ⟨u, rfl, ru⟩ := rv.one
  obtain ⟨its, r, pl, hz⟩ := I.list hq
  obtain ⟨⟨cls, dd, data, sl⟩, ho, hc, n, hd⟩ := id pl.isList
  simp only at hc hd
  subst hc hd
  have hl := r.length
  refine call_meets F.slot_list_index ⟨_, ho, rfl⟩ F.entry_list_index (F.args_list_index_2 _ _) (SeqAt.list_indexAt l its.toArray n dd sl u (eqU y) j (by rw [List.size_toArray]; omega) (by omega) ?_ ?_) ⟨ho, fun z hz' => mem_eqAt ru fy r fs z (by simpa using hz'), ?_⟩
  · obtain ⟨z, e1, e2⟩ := eqU_at (y := y) r fs j its[j] (List.getElem?_eq_getElem (by omega))
    rw [List.getElem_toArray, e2]
    exact hit z e1
  · intro m hm hmj
    obtain ⟨z, e1, e2⟩ := eqU_at (y := y) r fs m (its[m]'(by omega)) (List.getElem?_eq_getElem (by omega))
    rw [List.getElem_toArray, e2]
    exact hno m z hmj e1
  · exact ⟨.int (j : Nat), H, I.tok _, ⟨s.toks, rfl⟩, q⟩
end
/-! ### a comprehension over a list, within an except suite, its items untouched -/
section
variable {P : Program} {w : World} {K : PySem.W.Frag}
theorem turnC_listX {A : Around} {ea : Addr} {tg : Expr} (a it : Addr) (hh : A.handled = some (.ref ea)) (hne : ea ≠ it) : TurnC P w K A (Held ea) tg (Itl K a) [it] it (fun i h => h.IsListIter it a i) where
  obj := (turn_list (P := P) (w := w) (K := K) (tg := tg) a it).obj
  keep := (turn_list (P := P) (w := w) (K := K) (tg := tg) a it).keep
  item := by
    intro X hP hw hK hA i pins s σ H E hp I hf st hg
    subst hP hw hK hA
    obtain ⟨xs, x, hq, hx⟩ := hg
    obtain ⟨its, rv, p, hz⟩ := I.list hq
    obtain ⟨u, hu, ru⟩ := rv.get hx
    obtain ⟨f0, f1, f2, f3, f4, f5⟩ := hf it (by simp)
    refine wpAny_pyNext_list_item st p.isList (x := u) (by simpa using hu) fun h' st' sb => ?_
    have I1 : Inv X pins σ H { s with heap := h' } := I.turned (t' := s.toks) (fun b o hb e => (sb.2 b hb).trans e) f0 f1 f3 f4 f5
    obtain ⟨o, e, c, d⟩ := id st'
    exact ⟨u, rfl, go_of (s := { s with heap := h' }) e c d (by decide) ⟨x, H, I1, ru, ⟨rfl, fun ys hy => by rw [I.list_inj hy hq]; exact hx⟩, st', fun b hb => (hf b hb).1⟩⟩
  done := by
    intro X hP hw hK hA i pins s σ H E hp I hf st hg
    subst hP hw hK hA
    obtain ⟨xs, hq, hx⟩ := hg
    obtain ⟨its, rv, p, hz⟩ := I.list hq
    obtain ⟨f0, f1, f2, f3, f4, f5⟩ := hf it (by simp)
    have hl := rv.length
    obtain ⟨C, he⟩ := hp
    exact next_end hh (I.hok _ _ he).1 hne st p.isList (by simp; omega) fun h' eb => ⟨rfl, I.turned (t' := s.toks) (fun b o hb e => eb b o hb e) f0 f1 f3 f4 f5⟩
  self := fun _ _ _ _ st h => wpAny_pyIter_listiter st h
end
def tCompX (K : PySem.W.Frag) (ea : Addr) (tl : TE) (own : Nat) (caps : List Nat) (g : TG) (tt : TT) (te : TE) : TE := fun σ H Q => tl σ H fun v H1 => ∃ (a : Addr) (xs : List V) (f : V → V), v = .ref a ∧ SqL K H1 a xs ∧ xs.length < sizeLine ∧ Held ea H1 ∧
  (∀ x ∈ xs, g x (cap σ own caps) H1 fun τ2 H2 => tt τ2 H2 fun b H3 => b = true ∧ te τ2 H3 fun y H4 => H4 = H1 ∧ y = f x) ∧ ∀ D, H1 D = none → Q (.ref D) (upd H1 D (.lst (xs.map f)))
section
variable {X : Cx} {ea : Addr} {tg elt iter : Expr} {ifs : List Expr} {scope : Scope} {pos : Pos} {tl te : TE} {g : TG} {tt : TT}
theorem pe_compX (hh : X.A.handled = some (.ref ea)) (own : List Str) (capN : List Str) (caps : List Nat) (hcaps : Caps X scope caps capN) (hl : PE X iter tl)
    (hg : ∀ C s H fp, PG (compCx X (own ++ capN) scope C s H fp) tg g) (ht : ∀ C s H fp, PTs (compCx X (own ++ capN) scope C s H fp) ifs tt) (he : ∀ C s H fp, PE (compCx X (own ++ capN) scope C s H fp) elt te) (hgo : GOwn own.length g) (hgm : ∀ x τ H (R R' : L2.St → Hp → Prop), (∀ τ H, R τ H → R' τ H) → g x τ H R → g x τ H R')
    (htm : ∀ τ H (R R' : Bool → Hp → Prop), (∀ b H, R b H → R' b H) → tt τ H R → tt τ H R') (hem : ∀ τ H (R R' : VK), (∀ v H, R v H → R' v H) → te τ H R → te τ H R')
    (hk : scope.kind = .function := by rfl) (hcl : (scope.names.all fun y => !(y.2 == .cell)) = true := by rfl) (hnm : (scope.names.all fun y => !(y.2 == .local) || scope.names.lookup y.1 == some .local) = true := by rfl)
    (hfr : (scope.names.all fun y => !(y.2 == .free) || X.env.kindOf y.1 == some .cell || X.env.kindOf y.1 == some .free) = true := by rfl) (hs : ∀ x, foldedSetIterable iter X.env x = pure x := by intro _; rfl) :
    PE X (.ListComp elt [⟨tg, iter, ifs, 0⟩] scope pos) (tCompX X.K ea tl own.length caps g tt te) := by
  refine .mk ?_
  intro pins s σ H Q I h
  rw [eval_ListComp]
  have hfree := free_has I hfr
  refine wpAny_comprehension_free (use := none) rfl hs (closureFor_is hfree) hk (all_names hnm) (thn (hl pins s σ H _ I h) fun v s1 ⟨x, H1, I1, r1, q1⟩ => ?_)
  obtain ⟨a, xs, f, rfl, hq, hz, hd, step, fin⟩ := q1
  cases r1
  obtain ⟨its, rv, p, hz'⟩ := I1.list hq
  refine wpAny_pyIter_list p.isList ?_
  have I2 : Inv X pins σ H1 { s1 with heap := s1.heap.push { cls := .type "list_iterator", data := .fields #[.ref a, .int 0 0] } } := I1.kept (t' := s1.toks) fun b o e => Heap.get?_push_of_some _ e
  have hne : ea ≠ s1.heap.objs.size := by
    obtain ⟨C, he⟩ := hd
    obtain ⟨⟨oe, vs, r, _⟩, _⟩ := I1.hok _ _ he
    exact Nat.ne_of_lt (Heap.lt_size r.at_)
  refine comp_block (Q := Q) (HP := Held ea) hk (all_nocell hcl) (free_has I2 hfr) hcaps hg ht he hgo I2 (turnC_listX a _ hh hne) ⟨_, Heap.get?_push_size _ rfl, rfl, rfl⟩ (fun b hb => by
    have e : b = s1.heap.objs.size := by simpa using hb
    subst e
    exact I1.fpOk (Nat.le_refl _) (I1.hok.fresh (Nat.le_refl _))) (W := fun i m ys H => H = H1 ∧ i + m = xs.length ∧ ys = (xs.take i).map f) (m0 := xs.length) (fun i m ys H w => by rw [w.1]; exact hd) ⟨rfl, Nat.zero_add _, rfl⟩ (fun i m ys H w => ?_) ?_
  · obtain ⟨rfl, hm, rfl⟩ := w
    by_cases hi : i < xs.length
    · right
      refine ⟨⟨xs, xs[i], hq, List.getElem?_eq_getElem hi⟩, ?_, fun ys H' => H' = H ∧ ys = (xs.take (i + 1)).map f, fun ys H' ⟨e1, e2⟩ => ⟨m - 1, by omega, e1, by omega, e2⟩, ?_⟩
      · rw [List.length_map, List.length_take]
        omega
      · rintro y H' ⟨rfl, hy⟩
        have ey : y = xs[i] := by
          have := hy xs hq
          rw [List.getElem?_eq_getElem hi] at this
          exact (Option.some.inj this).symm
        subst ey
        refine hgm _ _ _ _ _ (fun τ2 H2 q => ?_) (step _ (List.getElem_mem hi))
        refine htm _ _ _ _ (fun b H3 q => ?_) q
        obtain ⟨rfl, q⟩ := q
        rw [if_pos rfl]
        refine hem _ _ _ _ (fun y H4 q => ?_) q
        obtain ⟨rfl, rfl⟩ := q
        refine ⟨rfl, ?_⟩
        rw [List.take_add_one, List.getElem?_eq_getElem hi, List.map_append]
        rfl
    · left
      refine ⟨⟨xs, hq, by omega⟩, fun D hD => ?_⟩
      rw [List.take_of_length_le (by omega)]
      exact fin D hD
  · intro D C m' H' s' IX hn nC hC q
    refine ⟨m', hn, fun h' hs' => ⟨.ref D, H', IX.turned (t' := s'.toks) (it := C) (fun b o hb e => hs'.extBut b o hb e) nC (Nat.ne_of_gt (Nat.lt_of_lt_of_le I2.lt hC)) (.inr (Nat.le_trans I2.sz hC)) (fun x c e => ?_) (fun p hp => ?_), rfl, q⟩⟩
    · obtain ⟨v, z⟩ := I2.cell x c e
      exact Nat.ne_of_lt (Nat.lt_of_lt_of_le z.lt hC)
    · exact Nat.ne_of_lt (Nat.lt_of_lt_of_le (Heap.lt_size (I2.pin p hp).1) hC)
end
theorem mono_g {i : Nat} (x : V) (τ : L2.St) (H : Hp) (R R' : L2.St → Hp → Prop) (h : ∀ τ H, R τ H → R' τ H) (q : gName i x τ H R) : gName i x τ H R' := h _ _ q
theorem mono_t (τ : L2.St) (H : Hp) (R R' : Bool → Hp → Prop) (h : ∀ b H, R b H → R' b H) (q : tTrue τ H R) : tTrue τ H R' := h _ _ q
theorem mono_int (τ : L2.St) (H : Hp) (R R' : VK) (h : ∀ v H, R v H → R' v H) (q : tCB rInt1 (tCons (tVar 0) tNil) τ H R) : tCB rInt1 (tCons (tVar 0) tNil) τ H R' := by
  obtain ⟨v, e, q⟩ := q
  refine ⟨v, e, ?_⟩
  rcases q with ⟨i, e1, q⟩ | ⟨k, e1, q⟩
  · exact .inl ⟨i, e1, h _ _ q⟩
  · exact .inr ⟨k, e1, h _ _ q⟩
theorem rd_raise {C : Addr} {E : XK} {t : TA} {D : Ends} {σ : L2.St} {H : Hp} (h : t σ H fun vs H1 => vs.length ≤ sizeLine ∧ E (.ref C) none H1) : tRaise C E t D σ H := h
theorem rd_tryAs {K : PySem.W.Frag} {V : Addr} {i n : Nat} {tb : XK → TS} {th : Addr → TS} {D : Ends} {σ : L2.St} {H : Hp} (h : tb (exB K V i n th D) D σ H) : tTryAs K V i n tb th D σ H := h
theorem rd_callX {ea : Addr} {sp : Sp} {t : TA} {σ : L2.St} {H : Hp} {Q : VK} (h : t σ H fun vs H1 => Held ea H1 ∧ sp vs H1 Q fun _ _ _ => False) : tCallX ea sp t σ H Q := h
theorem rd_compX {K : PySem.W.Frag} {ea : Addr} {tl te : TE} {own : Nat} {caps : List Nat} {g : TG} {tt : TT} {σ : L2.St} {H : Hp} {Q : VK} (h : tl σ H fun v H1 => ∃ (a : Addr) (xs : List V) (f : V → V), v = .ref a ∧ SqL K H1 a xs ∧ xs.length < sizeLine ∧ Held ea H1 ∧
  (∀ x ∈ xs, g x (cap σ own caps) H1 fun τ2 H2 => tt τ2 H2 fun b H3 => b = true ∧ te τ2 H3 fun y H4 => H4 = H1 ∧ y = f x) ∧ ∀ D, H1 D = none → Q (.ref D) (upd H1 D (.lst (xs.map f)))) : tCompX K ea tl own caps g tt te σ H Q := h
theorem rd_cont {D : Ends} {σ : L2.St} {H : Hp} (h : D.ct σ H) : tCont D σ H := h
end L2

set_option linter.all false
namespace My
abbrev absI (i : Int) : Int := if i < 0 then -i else i
def midOf (ss : List Int) (near : Int) : Int :=
  if absI (ss.getD (ss.length / 2) 0 - near) < absI (ss.getD ((ss.length - 1) / 2) 0 - near) then ss.getD (ss.length / 2) 0 else ss.getD ((ss.length - 1) / 2) 0
def mayF (rs : List Int) (v : Int) : Bool := decide (2 * ((rs.filter fun x => decide (x < v)).length : Int) ≤ rs.length) && decide (2 * ((rs.filter fun x => decide (v < x)).length : Int) ≤ rs.length)
def bestF (near d : Int) (l : List Int) : Int := l.foldl (fun d x => if absI (x - near) < absI (d - near) then x else d) d
/-! ### sorted lists by place -/
theorem getD_at {l : List Int} {i : Nat} (h : i < l.length) : l.getD i 0 = l[i] := by
  rw [List.getD_eq_getElem?_getD, List.getElem?_eq_getElem h]
  rfl
theorem srt_le {l : List Int} (hl : l.Pairwise (· ≤ ·)) {i j : Nat} (hij : i ≤ j) (hj : j < l.length) : l.getD i 0 ≤ l.getD j 0 := by
  rw [getD_at (Nat.lt_of_le_of_lt hij hj), getD_at hj]
  rcases Nat.lt_or_eq_of_le hij with h | h
  · exact List.pairwise_iff_getElem.mp hl i j (Nat.lt_of_le_of_lt hij hj) hj h
  · subst h; exact Int.le_refl _
/-- of the first m at most, where none behind fits -/
theorem count_le {l : List Int} {p : Int → Bool} {m : Nat} (h : ∀ i, m ≤ i → i < l.length → p (l.getD i 0) = false) : (l.filter p).length ≤ m := by
  have e : l.filter p = (l.take m).filter p ++ (l.drop m).filter p := by rw [← List.filter_append, List.take_append_drop]
  have z : (l.drop m).filter p = [] := by
    rw [List.filter_eq_nil_iff]
    intro x hx
    obtain ⟨i, hi, ex⟩ := List.getElem_of_mem hx
    rw [List.length_drop] at hi
    rw [List.getElem_drop] at ex
    have q := h (m + i) (Nat.le_add_right _ _) (by omega)
    rw [getD_at (by omega), ex] at q
    simp [q]
  rw [e, z, List.append_nil]
  exact Nat.le_trans (List.length_filter_le _ _) (List.length_take_le _ _)
/-- of those from m on at most, where none ahead fits -/
theorem count_le' {l : List Int} {p : Int → Bool} {m : Nat} (hm : m ≤ l.length) (h : ∀ i, i < m → p (l.getD i 0) = false) : (l.filter p).length ≤ l.length - m := by
  have e : l.filter p = (l.take m).filter p ++ (l.drop m).filter p := by rw [← List.filter_append, List.take_append_drop]
  have z : (l.take m).filter p = [] := by
    rw [List.filter_eq_nil_iff]
    intro x hx
    obtain ⟨i, hi, ex⟩ := List.getElem_of_mem hx
    rw [List.length_take] at hi
    rw [List.getElem_take] at ex
    have q := h i (by omega)
    rw [getD_at (by omega), ex] at q
    simp [q]
  rw [e, z, List.nil_append]
  exact Nat.le_trans (List.length_filter_le _ _) (by rw [List.length_drop]; exact Nat.le_refl _)
/-! ### the nearest, the least of these -/
structure Best (near r : Int) (l : List Int) : Prop where
  mem : r ∈ l
  min : ∀ x ∈ l, absI (r - near) ≤ absI (x - near)
  lst : ∀ x ∈ l, absI (x - near) ≤ absI (r - near) → r ≤ x
end My

set_option linter.all false
namespace My
open PySem L2
/-! ### a voter, plainly -/
@[reducible] def toV : Option Int → V
  | none => .non
  | some i => .int i
def setOk (a b c d e : Int) : Bool := decide (3 ≤ a ∧ a ≤ 9 ∧ 0 ≤ b ∧ b ≤ 1000000 ∧ 1 ≤ c ∧ c ≤ 1000000 ∧ 1 ≤ d ∧ d ≤ 1000 ∧ 1 ≤ e ∧ e ≤ 1000)
def saidF : Option Int → Bool
  | none => true
  | some i => decide (absI i ≤ 1000000000)
structure VS where
  many : Nat
  thr : Int
  rate : Int
  misses : Int
  backs : Int
  last : Int
  outs : List Bool
  cnts : List Int
def sortI (l : List Int) : List Int := l.mergeSort fun a b => decide (a ≤ b)
theorem sortI_perm (l : List Int) : (sortI l).Perm l := List.mergeSort_perm l _
theorem sortI_pw (l : List Int) : (sortI l).Pairwise (· ≤ ·) := by
  have := List.pairwise_mergeSort (le := fun a b : Int => decide (a ≤ b)) (by intro a b c; simp; omega) (by intro a b; simp; omega) l
  simpa [sortI] using this
theorem srt_uniq : ∀ {a b : List Int}, a.Perm b → a.Pairwise (· ≤ ·) → b.Pairwise (· ≤ ·) → a = b
  | [], b, h, _, _ => (List.nil_perm.mp h).symm
  | x :: a, [], h, _, _ => by
    have := h.length_eq
    simp at this
  | x :: a, y :: b, h, ha, hb => by
    have hx : x ∈ y :: b := h.mem_iff.mp List.mem_cons_self
    have hy : y ∈ x :: a := h.mem_iff.mpr List.mem_cons_self
    have e : x = y := by
      have h1 : y ≤ x := by
        rcases List.mem_cons.mp hx with q | q
        · omega
        · exact (List.pairwise_cons.mp hb).1 x q
      have h2 : x ≤ y := by
        rcases List.mem_cons.mp hy with q | q
        · omega
        · exact (List.pairwise_cons.mp ha).1 y q
      omega
    subst e
    rw [srt_uniq (List.Perm.cons_inv h) (List.pairwise_cons.mp ha).2 (List.pairwise_cons.mp hb).2]
theorem srt_is {l ss : List Int} (h : ss.Perm l) (hw : ss.Pairwise (· ≤ ·)) : ss = sortI l := srt_uniq (h.trans (sortI_perm l).symm) hw (sortI_pw l)
def midE (l : List Int) (near : Int) : Int := if l.length = 0 then near else midOf (sortI l) near
def movF (one goal most : Int) : Int := if goal > one then (if goal < one + most then goal else one + most) else (if goal > one - most then goal else one - most)
/-- the numbers of those that are there -/
def thereF (vals : List (Option Int)) (outs : List Bool) (n : Nat) : List Int := (List.range n).filterMap fun j => if outs.getD j true = true then none else vals.getD j none
def nearF (thr value : Int) : Option Int → Bool
  | none => false
  | some i => decide (absI (i - value) ≤ thr)
def anotherF (outs : List Bool) (j : Nat) : Bool := (List.range outs.length).any fun k => !decide (k = j) && !outs.getD k true
abbrev OC := List Bool × List Int
def turnF (misses backs : Int) (near : Bool) (some : Bool) (j : Nat) (s : OC) : OC :=
  if s.1.getD j true = true then
    (if (near && some) = true then (if s.2.getD j 0 + 1 = backs then (s.1.set j false, s.2.set j 0) else (s.1, s.2.set j (s.2.getD j 0 + 1))) else (s.1, s.2.set j 0))
  else
    (if near = true then (s.1, s.2.set j (if 0 > s.2.getD j 0 - 1 then 0 else s.2.getD j 0 - 1))
    else if s.2.getD j 0 + 1 ≥ misses ∧ anotherF s.1 j = true then (s.1.set j true, s.2.set j 0) else (s.1, s.2.set j (s.2.getD j 0 + 1)))
def loopF (misses backs thr value : Int) (some : Bool) (vals : List (Option Int)) : Nat → OC → OC
  | 0, s => s
  | n + 1, s => turnF misses backs (nearF thr value (vals.getD n none)) some n (loopF misses backs thr value some vals n s)
def closeF (ns : List Int) (value thr : Int) : Nat := (ns.filter fun x => decide (absI (x - value) ≤ thr)).length
def wordF (ns : List Int) (value thr : Int) (many : Nat) : Str :=
  if ns.length = 0 then "lost" else if ns.length = 1 then "single" else if closeF ns value thr * 2 ≤ ns.length then "split" else if closeF ns value thr = many then "all" else "most"
def VS.there (v : VS) (vals : List (Option Int)) : List Int := thereF vals v.outs v.many
def VS.value (v : VS) (vals : List (Option Int)) : Int := midE (v.there vals) v.last
def VS.oc (v : VS) (vals : List (Option Int)) : OC := loopF v.misses v.backs v.thr (v.value vals) (decide (0 < (v.there vals).length)) vals v.many (v.outs, v.cnts)
def VS.step (v : VS) (vals : List (Option Int)) : VS :=
  { v with last := movF v.last (v.value vals) v.rate, outs := (v.oc vals).1, cnts := (v.oc vals).2 }
def VS.word (v : VS) (vals : List (Option Int)) : Str := wordF (v.there vals) (v.value vals) v.thr v.many
/-- what holds of a voter between two steps -/
structure VS.Ok (v : VS) : Prop where
  m3 : 3 ≤ v.many
  m9 : v.many ≤ 9
  ol : v.outs.length = v.many
  cl : v.cnts.length = v.many
end My

set_option Elab.async false
set_option linter.all false
set_option maxRecDepth 100000
namespace My
open PySem L2
/-! ### the two ways of a turn -/
def judgeF (misses : Int) (near : Bool) (j : Nat) (s : OC) : OC :=
  if near = true then (s.1, s.2.set j (if 0 > s.2.getD j 0 - 1 then 0 else s.2.getD j 0 - 1))
  else if s.2.getD j 0 + 1 ≥ misses ∧ anotherF s.1 j = true then (s.1.set j true, s.2.set j 0) else (s.1, s.2.set j (s.2.getD j 0 + 1))
def backF (backs : Int) (agrees : Bool) (j : Nat) (s : OC) : OC :=
  if agrees = true then (if s.2.getD j 0 + 1 = backs then (s.1.set j false, s.2.set j 0) else (s.1, s.2.set j (s.2.getD j 0 + 1))) else (s.1, s.2.set j 0)
/-! ### a voter with other marks -/
def VS.put (v : VS) (s : OC) : VS := { v with outs := s.1, cnts := s.2 }
/-! ### all but some objects stay -/
def SameX (l : List Addr) (H H' : Hp) : Prop := ∀ b o, b ∉ l → H b = some o → H' b = some o
/-! ### a voter in the heap -/
def flds (v : VS) (lo co : Addr) : List (Str × V) := [("many", .int v.many), ("threshold", .int v.thr), ("rate", .int v.rate), ("misses", .int v.misses), ("backs", .int v.backs), ("last", .int v.last), ("left_out", .ref lo), ("counts", .ref co)]
structure VO (C : Addr) (H : Hp) (x dx lo co : Addr) (v : VS) : Prop where
  ins : H x = some (.ins C dx (flds v lo co))
  hlo : H lo = some (.lst (v.outs.map V.bl))
  hco : H co = some (.lst (v.cnts.map V.int))
  ok : v.Ok
  ne : lo ≠ co
section
variable {C : Addr} {H H' : Hp} {x dx lo co : Addr} {v : VS}
end
theorem atI_int {ns : List Int} {i : Nat} (h1 : i < ns.length) : atI (ns.map V.int) i = some (.int (ns.getD i 0)) := by
  have := atI_ints (ns := ns) (i := (i : Int)) (by omega) (by omega)
  rw [this, Int.toNat_natCast]
def VS.state (v : VS) (j : Nat) : Str := if v.outs.getD j true = true then "out" else if v.cnts.getD j 0 > 0 then "suspect" else "good"
def fl6 (a b c d e st : Int) : List (Str × V) := [("many", .int a), ("threshold", .int b), ("rate", .int c), ("misses", .int d), ("backs", .int e), ("last", .int st)]
def fl7 (a b c d e st : Int) (lo : Addr) : List (Str × V) := [("many", .int a), ("threshold", .int b), ("rate", .int c), ("misses", .int d), ("backs", .int e), ("last", .int st), ("left_out", .ref lo)]
def VS.new (a b c d e start : Int) : VS := ⟨a.toNat, b, c, d, e, start, List.replicate a.toNat false, List.replicate a.toNat 0⟩
theorem flat_rep {α : Type} {n : Nat} {x : α} : (List.replicate n [x]).flatten = List.replicate n x := by
  induction n with
  | zero => rfl
  | succ n ih => rw [List.replicate_succ, List.flatten_cons, ih, List.replicate_succ]; rfl
end My
namespace My
open PySem L2
end My

set_option linter.all false
set_option maxRecDepth 100000
namespace My
open PySem L2
/-! ### counts stay within their bounds -/
structure OcW (backs : Int) (s : OC) : Prop where
  b1 : 1 ≤ backs
  c0 : ∀ j, 0 ≤ s.2.getD j 0
  lt : ∀ j, j < s.1.length → s.1.getD j true = true → s.2.getD j 0 < backs
structure VS.Wf (v : VS) : Prop where
  ok : v.Ok
  oc : OcW v.backs (v.outs, v.cnts)
  r0 : 0 ≤ v.rate
  b3 : v.backs ≤ 1000
/-! ### the law's own turn is the voter's -/
def ltF (misses backs : Int) (near some : Bool) (j : Nat) (s : OC) : OC :=
  if s.1.getD j true = true then
    (if (s.2.getD j 0 + 1) * (if (near && some) = true then 1 else 0) ≥ backs then (s.1.set j false, (s.2.set j ((s.2.getD j 0 + 1) * (if (near && some) = true then 1 else 0))).set j 0) else (s.1, s.2.set j ((s.2.getD j 0 + 1) * (if (near && some) = true then 1 else 0))))
  else
    (if near = true then (s.1, s.2.set j (if s.2.getD j 0 - 1 > 0 then s.2.getD j 0 - 1 else 0))
    else if s.2.getD j 0 + 1 ≥ misses ∧ ((s.1.countP fun b => !b : Nat) : Int) > 1 then (s.1.set j true, (s.2.set j (s.2.getD j 0 + 1)).set j 0) else (s.1, s.2.set j (s.2.getD j 0 + 1)))
/-! ### the law's own word and way -/
/-! ### the middle of a sorted row, from both ends -/
def inner (ss : List Int) (i : Nat) : List Int := (ss.drop i).take (ss.length - 2 * i)
/-! ### the law's own voter in the heap -/
def dkv (p lo co : Addr) (g : Int) : List (Key × V) := [(Sum.inr "settings", .ref p), (Sum.inr "given", .int g), (Sum.inr "out", .ref lo), (Sum.inr "many", .ref co)]
structure DO (H : Hp) (d p lo co : Addr) (v : VS) : Prop where
  hd : H d = some (.dK (dkv p lo co v.last))
  hp : H p = some (.tup [.int v.many, .int v.thr, .int v.rate, .int v.misses, .int v.backs])
  hlo : H lo = some (.lst (v.outs.map V.bl))
  hco : H co = some (.lst (v.cnts.map V.int))
  ok : v.Ok
  ne : lo ≠ co
section
variable {H H' : Hp} {d p lo co : Addr} {v : VS}
end
/-! ### data -/
theorem eqv_nil (ns : List Int) : PyData.eqv (.list (ns.map PyData.int)) (.list []) = decide (ns = []) := by
  cases ns <;> simp [PyData.eqv, PyData.eqvAll]
def toD : Option Int → PyData
  | none => .none
  | some i => .int i
/-! ### a voter beside the law's own -/
structure PA where
  x : Addr
  dx : Addr
  lo : Addr
  co : Addr
  d : Addr
  ld : Addr
  cd : Addr
def PA.foot (f : PA) : List Addr := [f.x, f.lo, f.co, f.d, f.ld, f.cd]
structure Pr (C : Addr) (H : Hp) (p : Addr) (f : PA) (v : VS) : Prop where
  vo : VO C H f.x f.dx f.lo f.co v
  dO : DO H f.d p f.ld f.cd v
  wf : v.Wf
  n1 : f.lo ≠ f.ld
  n2 : f.lo ≠ f.cd
  n3 : f.co ≠ f.ld
  n4 : f.co ≠ f.cd
end My
namespace My
open PySem L2
end My

set_option linter.all false
set_option maxRecDepth 100000
namespace My
open PySem L2
/-! ### runs -/
def vAt (v : VS) (rows : List (List (Option Int))) : Nat → VS
  | 0 => v
  | i + 1 => (vAt v rows i).step (rows.getD i [])
/-- the i-th pair of a run -/
def prAt (v : VS) (rows : List (List (Option Int))) (i : Nat) : Int × Str := ((vAt v rows (i + 1)).last, (vAt v rows i).word (rows.getD i []))
/-- who changes between two states -/
def chF (v v' : VS) (n : Nat) : List (Int × Bool) := (List.range n).filterMap fun j => if v'.outs.getD j true = v.outs.getD j true then none else some ((j : Int), v'.outs.getD j true)
def trAt (v : VS) (rows : List (List (Option Int))) : Nat → List (Int × Int × Bool)
  | 0 => []
  | i + 1 => trAt v rows i ++ (chF (vAt v rows i) (vAt v rows (i + 1)) v.many).map fun c => ((i : Int), c.1, c.2)
/-! ### a turn touches its own place alone -/
/-! ### one stays in -/
def InF (outs : List Bool) : Prop := ∃ j, j < outs.length ∧ outs.getD j true = false
end My
namespace My
open PySem L2
/-! ### rows, pairs and triples in the heap -/
structure RowsIn (H : Hp) (D : Addr) (as : List Addr) (rows : List (List (Option Int))) : Prop where
  lst : H D = some (.lst (as.map V.ref))
  len : as.length = rows.length
  row : ∀ (i : Nat) (a : Addr), as[i]? = some a → H a = some (.lst ((rows.getD i []).map toV))
def RowsOk (m : Nat) (rows : List (List (Option Int))) : Prop := ∀ i, i < rows.length → (rows.getD i []).length = m ∧ (rows.getD i []).all saidF = true
def KeepT (H H' : Hp) : Prop := ∀ a xs, H a = some (.tup xs) → H' a = some (.tup xs)
def PrsIn (H : Hp) (xs : List V) (l : List (Int × Str)) : Prop := xs.length = l.length ∧ ∀ (i : Nat) (p : Int × Str), l[i]? = some p → ∃ a, xs[i]? = some (.ref a) ∧ H a = some (.tup [.int p.1, .str p.2])
def TrsIn (H : Hp) (xs : List V) (l : List (Int × Int × Bool)) : Prop := xs.length = l.length ∧ ∀ (i : Nat) (p : Int × Int × Bool), l[i]? = some p → ∃ a, xs[i]? = some (.ref a) ∧ H a = some (.tup [.int p.1, .int p.2.1, .bl p.2.2])
def ChIn (H : Hp) (xs : List V) (l : List (Int × Bool)) : Prop := xs.length = l.length ∧ ∀ (i : Nat) (p : Int × Bool), l[i]? = some p → ∃ a, xs[i]? = some (.ref a) ∧ H a = some (.tup [.int p.1, .bl p.2])
end My
namespace My
open PySem L2
/-! ### the law's own rows -/
def RwIn (H : Hp) (xs : List V) (v v' : VS) (i : Nat) : Prop := xs.length = v.many ∧ ∀ j, j < v.many → ∃ a, xs[j]? = some (.ref a) ∧ H a = some (.tup [.bl (if j < i then v'.outs.getD j true else v.outs.getD j true), .int (if j < i then v'.cnts.getD j 0 else v.cnts.getD j 0)])
def cF (o nr sm : Bool) (c : Int) : Int := if o = true then (c + 1) * (if (nr && sm) = true then 1 else 0) else (if c + 1 - 2 * (if nr = true then 1 else 0) > 0 then c + 1 - 2 * (if nr = true then 1 else 0) else 0)
end My

set_option linter.all false
set_option maxRecDepth 100000
namespace My
open PySem L2
/-! ### more than half within a stretch: so is the one in the middle -/
/-- those that are in -/
def inL (outs : List Bool) (n : Nat) : List Nat := (List.range n).filter fun j => !outs.getD j true
/-- what is said: more than half of those there lie within a stretch -/
structure Said (th : List Nat) (many : Nat) (lo hi : Int) (vals : List (Option Int)) : Prop where
  len : vals.length = many
  said : vals.all saidF = true
  maj : ∃ g : List Nat, g.Nodup ∧ (∀ p ∈ g, p ∈ th ∧ ∃ x, vals.getD p none = some x ∧ lo ≤ x ∧ x ≤ hi) ∧ th.length < 2 * g.length
/-- the first i of an order have been told: of these the first half and one more lie within -/
structure SaidI (od : List Nat) (many : Nat) (lo hi : Int) (i : Nat) (vals : List (Option Int)) : Prop where
  len : vals.length = many
  said : vals.all saidF = true
  at_ : ∀ k, k < i → 2 * k ≤ od.length → k < od.length → ∃ x, vals.getD (od.getD k 0) none = some x ∧ lo ≤ x ∧ x ≤ hi
end My

set_option linter.all false
set_option maxRecDepth 100000
namespace My
open PySem L2
/-! ### liars are found -/
/-- those that are right -/
def rightL (L : List Nat) (n : Nat) : List Nat := (List.range n).filter fun j => !decide (j ∈ L)
structure Lie (L : List Nat) (n : Nat) (thr lo hi : Int) (runs runs' : List Int) (vals : List (Option Int)) : Prop where
  half : 2 * L.length < n
  wide : hi - lo ≤ thr
  right : ∀ j, j < n → j ∉ L → ∃ x, vals.getD j none = some x ∧ lo ≤ x ∧ x ≤ hi
  liar : ∀ j, j ∈ L → j < n ∧ ((runs'.getD j 0 = runs.getD j 0 + 1 ∧ (vals.getD j none = none ∨ ∃ x, vals.getD j none = some x ∧ (hi + thr < x ∨ x < lo - thr))) ∨ runs'.getD j 0 = 0)
  rest : ∀ j, j < n → j ∉ L → runs'.getD j 0 = 0
structure Found (v : VS) (L : List Nat) (runs : List Int) : Prop where
  ok : v.Ok
  m1 : 1 ≤ v.misses
  right : ∀ j, j < v.many → j ∉ L → v.outs.getD j true = false ∧ v.cnts.getD j 0 = 0
  rest : ∀ j, j < v.many → j ∉ L → runs.getD j 0 = 0
  liar : ∀ j, j ∈ L → 0 ≤ runs.getD j 0 ∧ (v.misses ≤ runs.getD j 0 → v.outs.getD j true = true) ∧ (v.outs.getD j true = false → runs.getD j 0 ≤ v.cnts.getD j 0)
/-- the least and the greatest -/
structure Ends2 (rs : List Int) (lo hi : Int) : Prop where
  lm : lo ∈ rs
  hm : hi ∈ rs
  ll : ∀ a ∈ rs, lo ≤ a
  hh : ∀ a ∈ rs, a ≤ hi
def farO (thr lo hi : Int) (o : Option Int) : Prop := o = none ∨ ∃ x, o = some x ∧ (hi + thr < x ∨ x < lo - thr)
/-- the first i of the liars have spoken -/
structure LieI (L : List Nat) (n : Nat) (thr lo hi : Int) (vs : List Int) (runs : List Int) (i : Nat) (vals : List (Option Int)) (runs' : List Int) : Prop where
  vl : vals.length = n
  rl : runs'.length = n
  said : vals.all saidF = true
  right : ∀ j, j < n → j ∉ L → vals.getD j none = some (vs.getD j 0)
  done : ∀ j, j ∈ L.take i → (runs'.getD j 0 = runs.getD j 0 + 1 ∧ farO thr lo hi (vals.getD j none)) ∨ runs'.getD j 0 = 0
  left : ∀ j, j ∉ L.take i → runs'.getD j 0 = runs.getD j 0
/-- the rights' values -/
def rightV (L : List Nat) (vs : List Int) (n : Nat) : List Int := (rightL L n).map fun j => vs.getD j 0
end My

set_option linter.all false
set_option maxRecDepth 100000
namespace My
open PySem L2
/-! ### moved alike -/
def shO (d : Int) : Option Int → Option Int := Option.map (· + d)
def VS.sh (v : VS) (d : Int) : VS := { v with last := v.last + d }
/-! ### in another order -/
/-- a turn, where another is in -/
def turn1 (misses backs : Int) (near some : Bool) (o : Bool) (c : Int) : Bool × Int :=
  if o = true then (if (near && some) = true then (if c + 1 = backs then (false, 0) else (true, c + 1)) else (true, 0))
  else if near = true then (false, if 0 > c - 1 then 0 else c - 1) else if c + 1 ≥ misses then (true, 0) else (false, c + 1)
def VS.near (v : VS) (vals : List (Option Int)) (j : Nat) : Bool := nearF v.thr (v.value vals) (vals.getD j none)
def VS.any (v : VS) (vals : List (Option Int)) : Bool := decide (0 < (v.there vals).length)
def VS.t1 (v : VS) (vals : List (Option Int)) (j : Nat) : Bool × Int := turn1 v.misses v.backs (v.near vals j) (v.any vals) (v.outs.getD j true) (v.cnts.getD j 0)
def VS.free (v : VS) (vals : List (Option Int)) : Prop := (∃ q, q < v.many ∧ v.outs.getD q true = false ∧ v.near vals q = true) ∨ ∃ k1 k2, k1 ≠ k2 ∧ k1 < v.many ∧ k2 < v.many ∧ v.outs.getD k1 true = false ∧ v.outs.getD k2 true = false ∧ (v.t1 vals k1).1 = false ∧ (v.t1 vals k2).1 = false
/-- the same voter, its sensors told in another order -/
structure Turned (v u : VS) (od : List Nat) : Prop where
  many : u.many = v.many
  thr : u.thr = v.thr
  rate : u.rate = v.rate
  misses : u.misses = v.misses
  backs : u.backs = v.backs
  last : u.last = v.last
  outs : ∀ i, i < v.many → u.outs.getD i true = v.outs.getD (od.getD i 0) true
  cnts : ∀ i, i < v.many → u.cnts.getD i 0 = v.cnts.getD (od.getD i 0) 0
structure Ord (od : List Nat) (n : Nat) : Prop where
  perm : od.Perm (List.range n)
def turnV (od : List Nat) (vals : List (Option Int)) : List (Option Int) := od.map fun j => vals.getD j none
end My

set_option linter.all false
set_option maxRecDepth 100000
namespace My
open PySem L2
/-! ### how far others can push the one in the middle -/
theorem midE_odd {l : List Int} {n : Int} (h : l.length % 2 = 1) : midE l n = (sortI l).getD (l.length / 2) 0 := by
  unfold midE midOf
  rw [if_neg (by omega), (sortI_perm l).length_eq, show (l.length - 1) / 2 = l.length / 2 by omega]
  split <;> rfl
theorem far_le {R X : List Int} {n : Int} {half : Nat} (h1 : X.length < R.length) (h2 : R.length + X.length = 2 * half + 1) : (sortI R).getD (half - X.length) 0 ≤ midE (R ++ X) n ∧ midE (R ++ X) n ≤ (sortI R).getD half 0 := by
  have hl : (R ++ X).length = 2 * half + 1 := by rw [List.length_append]; exact h2
  rw [midE_odd (by omega), show (R ++ X).length / 2 = half by omega]
  have hp := sortI_perm (R ++ X)
  have hw := sortI_pw (R ++ X)
  have hq := sortI_perm R
  have hv := sortI_pw R
  have eq1 := hq.length_eq
  have ep := hp.length_eq
  have cnt : ∀ p : Int → Bool, ((sortI R).filter p).length ≤ ((sortI (R ++ X)).filter p).length := fun p => by
    rw [(hp.filter p).length_eq, (hq.filter p).length_eq, List.filter_append, List.length_append]
    omega
  generalize sortI (R ++ X) = tt at hp hw ep cnt ⊢
  generalize sortI R = ss at hq hv eq1 cnt ⊢
  constructor
  · by_cases c : ss.getD (half - X.length) 0 ≤ tt.getD half 0
    · exact c
    · have a := count_le' (l := tt) (p := fun x => decide (ss.getD (half - X.length) 0 ≤ x)) (m := half + 1) (by omega) fun i hi => by
        have := srt_le hw (show i ≤ half by omega) (by omega)
        exact decide_eq_false (by omega)
      have b := cnt fun x => decide (ss.getD (half - X.length) 0 ≤ x)
      have d : ss.length - (half - X.length) ≤ (ss.filter fun x => decide (ss.getD (half - X.length) 0 ≤ x)).length := by
        have e : (ss.drop (half - X.length)).filter (fun x => decide (ss.getD (half - X.length) 0 ≤ x)) = ss.drop (half - X.length) := by
          rw [List.filter_eq_self]
          intro x hx
          obtain ⟨i, hi, rfl⟩ := List.getElem_of_mem hx
          rw [List.length_drop] at hi
          rw [List.getElem_drop]
          have := srt_le hv (show half - X.length ≤ half - X.length + i by omega) (by omega)
          refine decide_eq_true ?_
          have q : ss.getD (half - X.length + i) 0 = ss[half - X.length + i] := by
            rw [List.getD_eq_getElem?_getD, List.getElem?_eq_getElem (by omega)]
            rfl
          rw [← q]
          exact this
        have s := (List.drop_sublist (half - X.length) ss).filter (fun x => decide (ss.getD (half - X.length) 0 ≤ x))
        have := s.length_le
        rw [e, List.length_drop] at this
        exact this
      omega
  · by_cases c : tt.getD half 0 ≤ ss.getD half 0
    · exact c
    · have a := count_le (l := tt) (p := fun x => decide (x ≤ ss.getD half 0)) (m := half) fun i h1 h2 => by
        have := srt_le hw h1 h2
        exact decide_eq_false (by omega)
      have b := cnt fun x => decide (x ≤ ss.getD half 0)
      have d : half + 1 ≤ (ss.filter fun x => decide (x ≤ ss.getD half 0)).length := by
        have e : (ss.take (half + 1)).filter (fun x => decide (x ≤ ss.getD half 0)) = ss.take (half + 1) := by
          rw [List.filter_eq_self]
          intro x hx
          obtain ⟨i, hi, rfl⟩ := List.getElem_of_mem hx
          rw [List.length_take] at hi
          rw [List.getElem_take]
          have := srt_le hv (show i ≤ half by omega) (by omega)
          refine decide_eq_true ?_
          have q : ss.getD i 0 = ss[i]'(by omega) := by
            rw [List.getD_eq_getElem?_getD, List.getElem?_eq_getElem (by omega)]
            rfl
          rw [← q]
          exact this
        have s := (List.take_sublist (half + 1) ss).filter (fun x => decide (x ≤ ss.getD half 0))
        have := s.length_le
        rw [e, List.length_take] at this
        omega
      omega
theorem far_great {R : List Int} {o : Nat} {g n : Int} {half : Nat} (h1 : o < R.length) (h2 : R.length + o = 2 * half + 1) (hg : ∀ x ∈ R, x ≤ g) : midE (R ++ List.replicate o g) n = (sortI R).getD half 0 := by
  have hl : (R ++ List.replicate o g).length = 2 * half + 1 := by rw [List.length_append, List.length_replicate]; exact h2
  rw [midE_odd (by omega), show (R ++ List.replicate o g).length / 2 = half by omega]
  have hs : sortI R ++ List.replicate o g = sortI (R ++ List.replicate o g) := by
    refine srt_is ((sortI_perm R).append_right _) ?_
    rw [List.pairwise_append]
    refine ⟨sortI_pw R, List.pairwise_replicate.mpr (.inr (Int.le_refl g)), fun a ha b hb => ?_⟩
    rw [List.eq_of_mem_replicate hb]
    exact hg a ((sortI_perm R).mem_iff.mp ha)
  rw [← hs, List.getD_eq_getElem?_getD, List.getElem?_append_left (by rw [(sortI_perm R).length_eq]; omega), ← List.getD_eq_getElem?_getD]
theorem far_small {R : List Int} {o : Nat} {g n : Int} {half : Nat} (h1 : o < R.length) (h2 : R.length + o = 2 * half + 1) (hg : ∀ x ∈ R, g ≤ x) : midE (R ++ List.replicate o g) n = (sortI R).getD (half - o) 0 := by
  have hl : (R ++ List.replicate o g).length = 2 * half + 1 := by rw [List.length_append, List.length_replicate]; exact h2
  rw [midE_odd (by omega), show (R ++ List.replicate o g).length / 2 = half by omega]
  have hs : List.replicate o g ++ sortI R = sortI (R ++ List.replicate o g) := by
    refine srt_is (((sortI_perm R).append_left _).trans List.perm_append_comm) ?_
    rw [List.pairwise_append]
    refine ⟨List.pairwise_replicate.mpr (.inr (Int.le_refl g)), sortI_pw R, fun a ha b hb => ?_⟩
    rw [List.eq_of_mem_replicate ha]
    exact hg b ((sortI_perm R).mem_iff.mp hb)
  rw [← hs, List.getD_eq_getElem?_getD, List.getElem?_append_right (by rw [List.length_replicate]; omega), List.length_replicate, ← List.getD_eq_getElem?_getD]
end My

set_option linter.all false
set_option maxRecDepth 100000
namespace My
open PySem L2
/-! ### readings for the laws that sort by a lambda -/
theorem rd_seq_join {t u : TS} {D : Ends} {σ : L2.St} {H : Hp} (σ' : L2.St) (P : Hp → Prop) (hr : ∀ H', P H' → u D σ' H') (h : ∀ N : L2.St → Hp → Prop, (∀ H', P H' → N σ' H') → t { D with nx := N } σ H) : tSeq t u D σ H := h (u D) hr
theorem rd_neNil {K : PySem.W.Frag} {H : Hp} {Q : VK} {a p : Addr} {ns : List Int} (hq : SqL K H a (ns.map V.int)) (hp : SqL K H p []) (h : Q (.bl (!decide (ns = []))) H) : rNeD K (.ref a) (.ref p) H Q :=
  ⟨_, _, .lst hq (.ints ns), .lst hp .nil, lay_ints ns, by simp [PyData.canLay0, PyData.canLayAll0], dep_ints ns, by rw [eqv_nil]; exact h⟩
/-- places, as a list of ints -/
abbrev natV (l : List Nat) : List V := l.map fun (j : Nat) => V.int (j : Int)
end My

set_option Elab.async false
set_option linter.all false
set_option maxRecDepth 100000
set_option maxHeartbeats 4000000
namespace My
open PySem L2 PyProof.Rows
/-! ### the text by places -/
def top (i : Nat) : Stmt := PySem.Challenge.pw_midvalue_k17_what_liars_can_do.main.body.getD i (.Pass ⟨0, 0, 0, 0⟩)
abbrev s_middle : Stmt := top 11
theorem sc_middle : FnScope ["numbers", "near", "ordered", "lesser", "greater"] ["numbers", "near"] (defScope s_middle) := ⟨rfl, rfl, rfl, by decide +kernel, rfl, by decide +kernel, by decide +kernel⟩
abbrev s_refuse_too_many : Stmt := top 9
theorem sc_refuse_too_many : FnScope ["rights", "others"] ["rights", "others"] (defScope s_refuse_too_many) := ⟨rfl, rfl, rfl, by decide +kernel, rfl, by decide +kernel, by decide +kernel⟩
abbrev s_farthest : Stmt := top 7
theorem sc_farthest : FnScope ["rights", "others", "ordered", "half"] ["rights", "others"] (defScope s_farthest) := ⟨rfl, rfl, rfl, by decide +kernel, rfl, by decide +kernel, by decide +kernel⟩
abbrev s_worst : Stmt := top 8
theorem sc_worst : FnScope ["rights", "others", "is_great", "said"] ["rights", "others", "is_great"] (defScope s_worst) := ⟨rfl, rfl, rfl, by decide +kernel, rfl, by decide +kernel, by decide +kernel⟩
abbrev s__law_cell : Stmt := top 13
theorem sc__law_cell : FnScope ["_law_script", "_law_k"] ["_law_script", "_law_k"] (defScope s__law_cell) := ⟨rfl, rfl, rfl, by decide +kernel, rfl, by decide +kernel, by decide +kernel⟩
abbrev s__law_drawn : Stmt := top 14
theorem sc__law_drawn : FnScope ["_law_cell_here", "_law_k", "_law_more"] ["_law_cell_here", "_law_k"] (defScope s__law_drawn) := ⟨rfl, rfl, rfl, by decide +kernel, rfl, by decide +kernel, by decide +kernel⟩
abbrev s__law_word : Stmt := top 15
theorem sc__law_word : FnScope ["_law_e", "_law_flags"] ["_law_e"] (defScope s__law_word) := ⟨rfl, rfl, rfl, by decide +kernel, rfl, by decide +kernel, by decide +kernel⟩
abbrev s__law_told : Stmt := top 16
theorem sc__law_told : FnScope ["_law_rights", "_law_others", "_law_which", "_law_e"] ["_law_rights", "_law_others", "_law_which"] (defScope s__law_told) := ⟨rfl, rfl, rfl, by decide +kernel, rfl, by decide +kernel, by decide +kernel⟩
abbrev s_law : Stmt := top 17
theorem sc_law : FnScope ["_law_script", "_law_k", "_law_more", "_law_rights", "_law_j", "_law_one", "_law_far", "_law_others", "_law_handed", "_law_told_here", "_law_which", "_law_beyond", "_law_drawn_here", "_law_i", "_law_near"] ["_law_script"] (defScope s_law) := ⟨rfl, rfl, rfl, by decide +kernel, rfl, by decide +kernel, by decide +kernel⟩
structure Ad where
  a_middle : Addr
  d_middle : FuncData
  a_refuse_too_many : Addr
  d_refuse_too_many : FuncData
  a_farthest : Addr
  d_farthest : FuncData
  a_worst : Addr
  d_worst : FuncData
  a__law_cell : Addr
  d__law_cell : FuncData
  a__law_drawn : Addr
  d__law_drawn : FuncData
  a__law_word : Addr
  d__law_word : FuncData
  a__law_told : Addr
  d__law_told : FuncData
  a_law : Addr
  d_law : FuncData
  c_VoteError : Addr
  c_BadSettings : Addr
  c_BadStep : Addr
  c_NoSensor : Addr
  c_BadRow : Addr
structure Txt (K : PySem.W.Frag) (mg : Str → Option Value) (A : Ad) : Prop where
  F_middle : Fun K "middle" "middle" s_middle A.a_middle A.d_middle
  b_middle : Binds K A.d_middle ["numbers", "near"] []
  m_middle : mg "middle" = some (.ref A.a_middle)
  F_refuse_too_many : Fun K "refuse_too_many" "refuse_too_many" s_refuse_too_many A.a_refuse_too_many A.d_refuse_too_many
  b_refuse_too_many : Binds K A.d_refuse_too_many ["rights", "others"] []
  m_refuse_too_many : mg "refuse_too_many" = some (.ref A.a_refuse_too_many)
  F_farthest : Fun K "farthest" "farthest" s_farthest A.a_farthest A.d_farthest
  b_farthest : Binds K A.d_farthest ["rights", "others"] []
  m_farthest : mg "farthest" = some (.ref A.a_farthest)
  F_worst : Fun K "worst" "worst" s_worst A.a_worst A.d_worst
  b_worst : Binds K A.d_worst ["rights", "others", "is_great"] []
  m_worst : mg "worst" = some (.ref A.a_worst)
  F__law_cell : Fun K "_law_cell" "_law_cell" s__law_cell A.a__law_cell A.d__law_cell
  b__law_cell : Binds K A.d__law_cell ["_law_script", "_law_k"] []
  m__law_cell : mg "_law_cell" = some (.ref A.a__law_cell)
  F__law_drawn : Fun K "_law_drawn" "_law_drawn" s__law_drawn A.a__law_drawn A.d__law_drawn
  b__law_drawn : Binds K A.d__law_drawn ["_law_cell_here", "_law_k"] []
  m__law_drawn : mg "_law_drawn" = some (.ref A.a__law_drawn)
  F__law_word : Fun K "_law_word" "_law_word" s__law_word A.a__law_word A.d__law_word
  b__law_word : Binds K A.d__law_word ["_law_e"] []
  m__law_word : mg "_law_word" = some (.ref A.a__law_word)
  F__law_told : Fun K "_law_told" "_law_told" s__law_told A.a__law_told A.d__law_told
  b__law_told : Binds K A.d__law_told ["_law_rights", "_law_others", "_law_which"] []
  m__law_told : mg "_law_told" = some (.ref A.a__law_told)
  F_law : Fun K "law" "law" s_law A.a_law A.d_law
  b_law : Binds K A.d_law ["_law_script"] []
  m_law : mg "law" = some (.ref A.a_law)
  n_ValueError : mg "ValueError" = none
  n_abs : mg "abs" = none
  n_int : mg "int" = none
  n_isinstance : mg "isinstance" = none
  n_len : mg "len" = none
  n_list : mg "list" = none
  n_max : mg "max" = none
  n_min : mg "min" = none
  n_range : mg "range" = none
  n_sorted : mg "sorted" = none
  n_sum : mg "sum" = none
  n_tuple : mg "tuple" = none
  m_VoteError : mg "VoteError" = some (.ref A.c_VoteError)
  m_BadSettings : mg "BadSettings" = some (.ref A.c_BadSettings)
  m_BadStep : mg "BadStep" = some (.ref A.c_BadStep)
  m_NoSensor : mg "NoSensor" = some (.ref A.c_NoSensor)
  m_BadRow : mg "BadRow" = some (.ref A.c_BadRow)
  x_VoteError : ExcC K A.c_VoteError
  x_BadStep : ExcC K A.c_BadStep
  i_BadStep : ExcI K A.c_BadStep
  k_BadStep_VoteError : PySem.W.kitOne K (.ref A.c_BadStep) (.ref A.c_VoteError) = some true
  k_BadStep_BadSettings : PySem.W.kitOne K (.ref A.c_BadStep) (.ref A.c_BadSettings) = some false
  k_BadStep_BadStep : PySem.W.kitOne K (.ref A.c_BadStep) (.ref A.c_BadStep) = some true
  k_BadStep_NoSensor : PySem.W.kitOne K (.ref A.c_BadStep) (.ref A.c_NoSensor) = some false
  k_BadStep_BadRow : PySem.W.kitOne K (.ref A.c_BadStep) (.ref A.c_BadRow) = some false
  k_BadStep_V : PySem.W.kitOne K (.ref A.c_BadStep) (.type "ValueError") = some true

local macro_rules | `(tactic| walk_at "rd1") => `(tactic| first
  | (with_reducible refine L2.rd_seq ?_)
  | (with_reducible refine L2.rd_asg ?_)
  | (with_reducible refine L2.rd_set ?_)
  | (with_reducible refine L2.rd_ret ?_)
  | (with_reducible refine L2.rd_retN ?_)
  | (with_reducible refine L2.rd_if ?_)
  | (with_reducible refine L2.rd_drop ?_)
  | (with_reducible refine L2.rd_next ?_)
  | ((with_reducible refine' L2.rd_var ?rdv ?_); (case rdv => exact rfl))
  | (with_reducible refine L2.rd_C ?_)
  | (with_reducible refine L2.rd_op ?_)
  | (with_reducible refine L2.rd_un ?_)
  | (with_reducible refine L2.rd_I0 ?_)
  | ((with_reducible refine L2.rd_Ic ?_ ?rdc); (case rdc => first | exact L2.cmul_r (by decide) | exact L2.cmul_l (by decide) | exact L2.cdivL (by decide) | (show (0 : Int) < _; first | decide | omega)))
  | (with_reducible refine L2.rd_Ic ?_ ?_)
  | (with_reducible refine L2.rd_U ?_)
  | (with_reducible refine L2.rd_eqI ?_)
  | (with_reducible refine L2.rd_neI ?_)
  | (with_reducible refine L2.rd_eqS ?_)
  | (with_reducible refine L2.rd_neS ?_)
  | (with_reducible refine L2.rd_test ?_)
  | (with_reducible refine L2.rd_B ?_)
  | (with_reducible refine L2.rd_bl ?_)
  | (with_reducible refine L2.rd_and ?_)
  | (with_reducible refine L2.rd_or ?_)
  | (with_reducible refine L2.rd_not ?_)
  | (with_reducible refine L2.rd_andV ?_)
  | (with_reducible refine L2.rd_orV ?_)
  | (with_reducible refine L2.rd_notV ?_)
  | (with_reducible refine L2.rd_isbl ?_)
  | (with_reducible refine L2.rd_ifx ?_)
  | (with_reducible refine L2.rd_nil ?_)
  | (with_reducible refine L2.rd_cons ?_)
  | (with_reducible refine L2.rd_call ?_)
  | (with_reducible refine L2.rd_cb ?_)
  | (with_reducible refine L2.rd_abs ?_)
  | (with_reducible refine L2.rd_max ?_)
  | (with_reducible refine L2.rd_min ?_)
  | (with_reducible refine L2.rd_lst ?_)
  | (with_reducible refine L2.rd_tup ?_)
  | (with_reducible refine L2.rd_for ?_)
  | (with_reducible refine L2.rd_rng1 ?_)
  | (with_reducible refine L2.rd_iL ?_)
  | (with_reducible refine L2.rd_iT ?_)
  | (with_reducible refine L2.rd_iE ?_)
  | (with_reducible refine L2.rd_comp ?_)
  | (with_reducible refine L2.rd_tt ?_)
  | (with_reducible refine L2.rd_gcons ?_)
  | (with_reducible refine L2.rd_gnil ?_)
  | (with_reducible refine L2.rd_bm ?_)
  | (with_reducible refine L2.rd_false ?_)
  | (with_reducible refine L2.rd_true ?_)
  | (with_reducible refine L2.rd_nfalse ?_)
  | (with_reducible refine L2.rd_ntrue ?_)
  | (with_reducible refine L2.rd_chain ?_)
  | (with_reducible refine L2.rd_intB ?_)
  | (with_reducible refine L2.rd_isNi ?_)
  | (with_reducible refine L2.rd_isNn ?_)
  | (with_reducible refine L2.rd_notNi ?_)
  | (with_reducible refine L2.rd_notNn ?_)
  | (with_reducible refine L2.rd_fld ?_)
  | (with_reducible refine L2.rd_meth ?_)
  | (with_reducible refine L2.rd_make ?_)
  | (with_reducible refine L2.rd_iZ ?_)
  | (with_reducible refine L2.rd_bm0 ?_)
  | (with_reducible refine L2.rd_sfld ?_)
  | (with_reducible refine L2.rd_gsub ?_)
  | (with_reducible refine L2.rd_dget ?_)
  | (with_reducible refine L2.rd_dput ?_)
  | (with_reducible refine L2.rd_while ?_)
  | (with_reducible refine L2.rd_sl ?_)
  | (with_reducible refine L2.rd_nopart ?_)
  | (with_reducible refine L2.rd_part ?_)
  | (with_reducible refine L2.rd_isint ?_)
  | (with_reducible refine L2.rd_isNr ?_)
  | (with_reducible refine L2.rd_notNr ?_)
  | (with_reducible refine L2.rd_eqB ?_)
  | (with_reducible refine L2.rd_neB ?_)
  | (with_reducible refine L2.rd_raise ?_)
  | (with_reducible refine L2.rd_tryAs ?_)
  | (with_reducible refine L2.rd_callX ?_)
  | (with_reducible refine L2.rd_compX ?_)
  | (with_reducible refine L2.rd_cont ?_))
local macro_rules | `(tactic| walk_at "rd") => `(tactic| (repeat (walk_at "rd1")))

theorem boot_ValueError : bootBuiltins "ValueError" = some (.type "ValueError") := by decide +kernel
def sp_middle (K : PySem.W.Frag) : Sp := fun vs H Q _ => ∃ (p : Addr) (ns : List Int) (near : Int), vs = [.ref p, .int near] ∧ SqL K H p (ns.map V.int) ∧ ns.length < 64 ∧ ∀ H' : Hp, Same H H' → Q (.int (midE ns near)) H'
def sp_cell (K : PySem.W.Frag) : Sp := fun vs H Q _ => ∃ (a : Addr) (ns : List Int) (k : Int), vs = [.ref a, .int k] ∧ SqL K H a (ns.map V.int) ∧ 0 ≤ k ∧ ns.length ≤ 63 ∧ ∀ (c : Int) (H' : Hp), Same H H' → Q (.int c) H'
def sp_drawn : Sp := fun vs H Q _ => ∃ c k : Int, vs = [.int c, .int k] ∧ ∀ m : Int, 0 ≤ m → m < 2 ^ 128 → Q (.int m) H
def sp_law (K : PySem.W.Frag) : Sp := fun vs H Q _ => ∃ (a : Addr) (ns : List Int), vs = [.ref a] ∧ SqL K H a (ns.map V.int) ∧ ns.length ≤ 63 ∧ ∀ H', Q (.bl true) H'
section
variable {P : Program} {w : World} {K : PySem.W.Frag} {mg : Str → Option Value} {base : Heap} {A : Ad}
theorem ok_middle (T : Txt K mg A) : FnOk P w K mg base CX0 1 A.a_middle A.d_middle ["numbers", "near"] (sp_middle K) := by
  refine T.F_middle.ok sc_middle (fun vs H Q E h => ?_) (fun cdv A' outer s H vs Q E hr h => ?_)
  · obtain ⟨p, ns, near, rfl, _⟩ := h
    rfl
  · obtain ⟨p, ns, near, rfl, hS, h64, k⟩ := h
    refine ⟨_, (pss_cons (ps_if (pt_cmpR op_eq (pe_callB (r := rLenS K) call_lenN (by rfl) T.n_len boot_len (pa_cons (pv 0) pa_nil)) pe_int (nomark _))
      (pss_one (ps_ret (pv 1)))
      pss_nil)
      (pss_cons (ps_set (i := 2) sc_middle.nd rfl (Or.inl rfl) (pe_callB (r := rSorted K) call_sortedN (by rfl) T.n_sorted boot_sorted (pa_cons (pv 0) pa_nil)))
      (pss_cons (ps_set (i := 3) sc_middle.nd rfl (Or.inl rfl) (pe_ix (r := rIxL K) ix_list (pv 2) (pe_op op_fdivL (pe_op op_sub (pe_callB (r := rLenS K) call_lenN (by rfl) T.n_len boot_len (pa_cons (pv 2) pa_nil)) pe_int) pe_int) (fun _ _ => rfl)))
      (pss_cons (ps_set (i := 4) sc_middle.nd rfl (Or.inl rfl) (pe_ix (r := rIxL K) ix_list (pv 2) (pe_op op_fdivL (pe_callB (r := rLenS K) call_lenN (by rfl) T.n_len boot_len (pa_cons (pv 2) pa_nil)) pe_int) (fun _ _ => rfl)))
      (pss_cons (ps_if (pt_cmpR op_lt (pe_callB call_absN (by rfl) T.n_abs boot_abs (pa_cons (pe_op op_sub (pv 4) (pv 1)) pa_nil)) (pe_callB call_absN (by rfl) T.n_abs boot_abs (pa_cons (pe_op op_sub (pv 3) (pv 1)) pa_nil)) (nomark _))
      (pss_one (ps_ret (pv 4)))
      pss_nil)
      (pss_one (ps_ret (pv 3)))))))), ?_⟩
    walk_at "rd"
    refine rd_lenL hS ?_
    walk_at "rd"
    unfold midE at k
    refine rd_dec (fun h1 => ?_) (fun h1 => ?_)
    · rw [List.length_map] at h1
      have k' := k H (Same.refl H)
      rw [if_pos (by omega)] at k'
      walk_at "rd"
      exact k'
    rw [List.length_map] at h1
    have hpos : 0 < ns.length := by omega
    walk_at "rd"
    refine ⟨p, ns, rfl, hS, h64, fun l ss hl hperm hpw => ?_⟩
    have hlen : ss.length = ns.length := hperm.length_eq
    have hS2 : SqL K (upd H l (.lst (ss.map V.int))) l (ss.map V.int) := SqL.of upd_same
    have k' := k (upd H l (.lst (ss.map V.int))) ((Same.refl H).upd hl)
    rw [if_neg (by omega), ← srt_is hperm hpw] at k'
    walk_at "rd"
    refine rd_lenL hS2 ?_
    walk_at "rd"
    refine rd_ixLc hS2 ?_ (atI_ints (by rw [List.length_map]; omega) (by rw [List.length_map]; omega))
    walk_at "rd"
    refine rd_lenL hS2 ?_
    walk_at "rd"
    refine rd_ixLc hS2 ?_ (atI_ints (by rw [List.length_map]; omega) (by rw [List.length_map]; omega))
    walk_at "rd"
    unfold midOf at k'
    have e1 : ((((List.map V.int ss).length : Int) - 1) / 2).toNat = (ss.length - 1) / 2 := by rw [List.length_map]; omega
    have e2 : (((List.map V.int ss).length : Int) / 2).toNat = ss.length / 2 := by rw [List.length_map]; omega
    rw [e1, e2]
    refine rd_dec (fun h1 => ?_) (fun h1 => ?_)
    · rw [if_pos h1] at k'
      walk_at "rd"
      exact k'
    · rw [if_neg h1] at k'
      walk_at "rd"
      exact k'
theorem ok_cell (T : Txt K mg A) : FnOk P w K mg base CX0 1 A.a__law_cell A.d__law_cell ["_law_script", "_law_k"] (sp_cell K) := by
  refine T.F__law_cell.ok sc__law_cell (fun vs H Q E h => ?_) (fun cdv A' outer s H vs Q E hr h => ?_)
  · obtain ⟨a, ns, k, rfl, _⟩ := h
    rfl
  · obtain ⟨a, ns, k, rfl, hS, hk, hlen, q⟩ := h
    refine ⟨_, (pss_cons (ps_if (pt_cmpR (r := rEqD K) (op_eqD hr.units) (pv 0) (pe_lst pa_nil) (nomark _))
      (pss_one (ps_ret (pe_op op_mul (pv 1) pe_int)))
      pss_nil)
      (pss_one (ps_ret (pe_op op_add (pe_ix (r := rIxL K) ix_list (pv 0) (pe_op op_mod (pv 1) (pe_callB (r := rLenS K) call_lenN (by rfl) T.n_len boot_len (pa_cons (pv 0) pa_nil))) (fun _ _ => rfl)) (pe_op op_mul (pe_op op_fdivL (pv 1) (pe_callB (r := rLenS K) call_lenN (by rfl) T.n_len boot_len (pa_cons (pv 0) pa_nil))) pe_int))))), ?_⟩
    walk_at "rd"
    refine ⟨Nat.zero_le _, fun p hp => ?_⟩
    have hs1 : Same H (upd H p (.lst [])) := (Same.refl H).upd hp
    have hS1 := hs1.seq hS
    refine ⟨_, _, .lst hS1 (.ints ns), .lst (SqL.of upd_same) .nil, by simpa [PyData.canLay0] using canLay_ints ns, by simp [PyData.canLay0, PyData.canLayAll0], by
      have := depth_ints ns
      simp only [PyData.depth]
      omega, ?_⟩
    walk_at "rd"
    refine rd_bool (fun h1 => ?_) (fun h1 => ?_)
    · walk_at "rd"
      exact q _ _ hs1
    · have hne : 0 < ns.length := by
        cases ns with
        | nil => exact absurd h1 (by simp [PyData.eqv, PyData.eqvAll])
        | cons => simp
      walk_at "rd"
      refine rd_lenL hS1 ?_
      rw [List.length_map]
      walk_at "rd"
      refine rd_ixLc hS1 ?_ (atI_ints (Int.emod_nonneg _ (by omega)) (Int.emod_lt_of_pos _ (by omega)))
      walk_at "rd"
      refine rd_lenL hS1 ?_
      rw [List.length_map]
      walk_at "rd"
      exact q _ _ hs1
      exact ⟨by omega, Int.lt_of_lt_of_le (show (ns.length : Int) < 64 by omega) (by decide)⟩
theorem ok_drawn (T : Txt K mg A) : FnOk P w K mg base CX0 1 A.a__law_drawn A.d__law_drawn ["_law_cell_here", "_law_k"] sp_drawn := by
  refine T.F__law_drawn.ok sc__law_drawn (fun vs H Q E h => ?_) (fun cdv A' outer s H vs Q E hr h => ?_)
  · obtain ⟨c, k, rfl, _⟩ := h
    rfl
  · obtain ⟨c, k, rfl, q⟩ := h
    refine ⟨_, (pss_cons (ps_set (i := 2) sc__law_drawn.nd rfl (Or.inl rfl) (pe_op op_mod (pe_op op_add (pe_op op_mul (pv 0) pe_int) (pe_op op_mul (pe_op op_add (pv 1) pe_int) pe_int)) pe_int))
      (pss_one (ps_ret (pe_op op_mod (pe_op op_mulL (pv 2) (pv 2)) pe_int)))), ?_⟩
    walk_at "rd"
    · exact q _ (Int.emod_nonneg _ (by decide)) (Int.lt_of_lt_of_le (Int.emod_lt_of_pos _ (by decide)) (by decide))
    · have h0 : 0 ≤ (c * 6364136223846793005 + (k + 1) * 1442695040888963407) % 340282366920938463463374607431768211507 := Int.emod_nonneg _ (by decide)
      have h1 : (c * 6364136223846793005 + (k + 1) * 1442695040888963407) % 340282366920938463463374607431768211507 < 340282366920938463463374607431768211507 := Int.emod_lt_of_pos _ (by decide)
      exact ⟨⟨by omega, by omega⟩, by omega, by omega⟩
end
end My

set_option Elab.async false
set_option linter.all false
set_option maxRecDepth 100000
set_option maxHeartbeats 4000000
namespace My
open PySem L2 PyProof.Rows

local macro_rules | `(tactic| walk_at "rd1") => `(tactic| first
  | (with_reducible refine L2.rd_seq ?_)
  | (with_reducible refine L2.rd_asg ?_)
  | (with_reducible refine L2.rd_set ?_)
  | (with_reducible refine L2.rd_ret ?_)
  | (with_reducible refine L2.rd_retN ?_)
  | (with_reducible refine L2.rd_if ?_)
  | (with_reducible refine L2.rd_drop ?_)
  | (with_reducible refine L2.rd_next ?_)
  | ((with_reducible refine' L2.rd_var ?rdv ?_); (case rdv => exact rfl))
  | (with_reducible refine L2.rd_C ?_)
  | (with_reducible refine L2.rd_op ?_)
  | (with_reducible refine L2.rd_un ?_)
  | (with_reducible refine L2.rd_I0 ?_)
  | ((with_reducible refine L2.rd_Ic ?_ ?rdc); (case rdc => first | exact L2.cmul_r (by decide) | exact L2.cmul_l (by decide) | exact L2.cdivL (by decide) | (show (0 : Int) < _; first | decide | omega)))
  | (with_reducible refine L2.rd_Ic ?_ ?_)
  | (with_reducible refine L2.rd_U ?_)
  | (with_reducible refine L2.rd_eqI ?_)
  | (with_reducible refine L2.rd_neI ?_)
  | (with_reducible refine L2.rd_eqS ?_)
  | (with_reducible refine L2.rd_neS ?_)
  | (with_reducible refine L2.rd_test ?_)
  | (with_reducible refine L2.rd_B ?_)
  | (with_reducible refine L2.rd_bl ?_)
  | (with_reducible refine L2.rd_and ?_)
  | (with_reducible refine L2.rd_or ?_)
  | (with_reducible refine L2.rd_not ?_)
  | (with_reducible refine L2.rd_andV ?_)
  | (with_reducible refine L2.rd_orV ?_)
  | (with_reducible refine L2.rd_notV ?_)
  | (with_reducible refine L2.rd_isbl ?_)
  | (with_reducible refine L2.rd_ifx ?_)
  | (with_reducible refine L2.rd_nil ?_)
  | (with_reducible refine L2.rd_cons ?_)
  | (with_reducible refine L2.rd_call ?_)
  | (with_reducible refine L2.rd_cb ?_)
  | (with_reducible refine L2.rd_abs ?_)
  | (with_reducible refine L2.rd_max ?_)
  | (with_reducible refine L2.rd_min ?_)
  | (with_reducible refine L2.rd_lst ?_)
  | (with_reducible refine L2.rd_tup ?_)
  | (with_reducible refine L2.rd_for ?_)
  | (with_reducible refine L2.rd_rng1 ?_)
  | (with_reducible refine L2.rd_iL ?_)
  | (with_reducible refine L2.rd_iT ?_)
  | (with_reducible refine L2.rd_iE ?_)
  | (with_reducible refine L2.rd_comp ?_)
  | (with_reducible refine L2.rd_tt ?_)
  | (with_reducible refine L2.rd_gcons ?_)
  | (with_reducible refine L2.rd_gnil ?_)
  | (with_reducible refine L2.rd_bm ?_)
  | (with_reducible refine L2.rd_false ?_)
  | (with_reducible refine L2.rd_true ?_)
  | (with_reducible refine L2.rd_nfalse ?_)
  | (with_reducible refine L2.rd_ntrue ?_)
  | (with_reducible refine L2.rd_chain ?_)
  | (with_reducible refine L2.rd_intB ?_)
  | (with_reducible refine L2.rd_isNi ?_)
  | (with_reducible refine L2.rd_isNn ?_)
  | (with_reducible refine L2.rd_notNi ?_)
  | (with_reducible refine L2.rd_notNn ?_)
  | (with_reducible refine L2.rd_fld ?_)
  | (with_reducible refine L2.rd_meth ?_)
  | (with_reducible refine L2.rd_make ?_)
  | (with_reducible refine L2.rd_iZ ?_)
  | (with_reducible refine L2.rd_bm0 ?_)
  | (with_reducible refine L2.rd_sfld ?_)
  | (with_reducible refine L2.rd_gsub ?_)
  | (with_reducible refine L2.rd_dget ?_)
  | (with_reducible refine L2.rd_dput ?_)
  | (with_reducible refine L2.rd_while ?_)
  | (with_reducible refine L2.rd_sl ?_)
  | (with_reducible refine L2.rd_nopart ?_)
  | (with_reducible refine L2.rd_part ?_)
  | (with_reducible refine L2.rd_isint ?_)
  | (with_reducible refine L2.rd_isNr ?_)
  | (with_reducible refine L2.rd_notNr ?_)
  | (with_reducible refine L2.rd_eqB ?_)
  | (with_reducible refine L2.rd_neB ?_)
  | (with_reducible refine L2.rd_raise ?_)
  | (with_reducible refine L2.rd_tryAs ?_)
  | (with_reducible refine L2.rd_callX ?_)
  | (with_reducible refine L2.rd_compX ?_)
  | (with_reducible refine L2.rd_cont ?_))
local macro_rules | `(tactic| walk_at "rd") => `(tactic| (repeat (walk_at "rd1")))

def flagI : V → V
  | .bl true => .int 1
  | _ => .int 0
/-- too many others, or an even number of all -/
def badF (r : Nat) (o : Int) : Prop := o ≥ r ∨ ((r : Int) + o) % 2 = 0
def sp_refuse (K : PySem.W.Frag) (C : Addr) : Sp := fun vs H Q E => ∃ (q : Addr) (rs : List Int) (o : Int), vs = [.ref q, .int o] ∧ SqL K H q (rs.map V.int) ∧ (badF rs.length o → E (.ref C) none H) ∧ (¬ badF rs.length o → Q .non H)
def sp_far (K : PySem.W.Frag) (C : Addr) : Sp := fun vs H Q E => ∃ (q : Addr) (rs : List Int) (o : Nat), vs = [.ref q, .int o] ∧ SqL K H q (rs.map V.int) ∧ rs.length < 64 ∧ (badF rs.length o → E (.ref C) none H) ∧
  (¬ badF rs.length o → ∀ (t : Addr) (H' : Hp), Same H H' → H t = none → H' t = some (.tup [.int ((sortI rs).getD ((rs.length + o) / 2 - o) 0), .int ((sortI rs).getD ((rs.length + o) / 2) 0)]) → Q (.ref t) H')
def sp_worst (K : PySem.W.Frag) (C : Addr) : Sp := fun vs H Q E => ∃ (q : Addr) (rs : List Int) (o : Nat) (g : Bool), vs = [.ref q, .int o, .bl g] ∧ SqL K H q (rs.map V.int) ∧ rs.length < 64 ∧ rs ≠ [] ∧ (badF rs.length o → E (.ref C) none H) ∧
  (¬ badF rs.length o → ∀ (l : Addr) (H' : Hp) (m : Int), Same H H' → H l = none → H' l = some (.lst (List.replicate o (V.int m))) → m ∈ rs → (g = true → ∀ a ∈ rs, a ≤ m) → (g = false → ∀ a ∈ rs, m ≤ a) → Q (.ref l) H')
def sp_word (C : Addr) : Sp := fun vs H Q _ => ∃ ea : Addr, vs = [.ref ea] ∧ H ea = some (.ext (IsExc C ea)) ∧ ∀ H' : Hp, Same H H' → Q (.str "BadStep") H'
def sp_told (K : PySem.W.Frag) : Sp := fun vs H Q _ => ∃ (q : Addr) (rs : List Int) (o : Nat) (wh : Int), vs = [.ref q, .int o, .int wh] ∧ SqL K H q (rs.map V.int) ∧ rs.length < 64 ∧ rs ≠ [] ∧ (badF rs.length o → ∀ H' : Hp, Same H H' → Q (.str "BadStep") H') ∧
  (¬ badF rs.length o → wh = 0 → ∀ (t : Addr) (H' : Hp), Same H H' → H t = none → H' t = some (.tup [.int ((sortI rs).getD ((rs.length + o) / 2 - o) 0), .int ((sortI rs).getD ((rs.length + o) / 2) 0)]) → Q (.ref t) H') ∧
  (¬ badF rs.length o → wh ≠ 0 → ∀ (l : Addr) (H' : Hp) (m : Int), Same H H' → H l = none → H' l = some (.lst (List.replicate o (V.int m))) → m ∈ rs → (wh = 2 → ∀ a ∈ rs, a ≤ m) → (wh ≠ 2 → ∀ a ∈ rs, m ≤ a) → Q (.ref l) H')
section
variable {P : Program} {w : World} {K : PySem.W.Frag} {mg : Str → Option Value} {base : Heap} {A : Ad}
theorem ok_refuse (T : Txt K mg A) : FnOk P w K mg base (Fly P w) 1 A.a_refuse_too_many A.d_refuse_too_many ["rights", "others"] (sp_refuse K A.c_BadStep) := by
  refine T.F_refuse_too_many.okF sc_refuse_too_many (fun vs H Q E h => ?_) (fun cdv A' outer s H vs Q E hr h => ?_)
  · obtain ⟨q, rs, o, rfl, _⟩ := h
    rfl
  · obtain ⟨q, rs, o, rfl, hS, kE, kQ⟩ := h
    refine ⟨_, (pss_cons (ps_if (pt_cmpR op_ge (pv 1) (pe_callB (r := rLenS K) call_lenN (by rfl) T.n_len boot_len (pa_cons (pv 0) pa_nil)) (nomark _))
      (pss_one (ps_raise flier_def rfl rfl T.m_BadStep T.x_BadStep (pa_cons pe_str pa_nil)))
      pss_nil)
      (pss_one (ps_if (pt_cmpR op_eq (pe_op op_mod (pe_op op_add (pe_callB (r := rLenS K) call_lenN (by rfl) T.n_len boot_len (pa_cons (pv 0) pa_nil)) (pv 1)) pe_int) pe_int (nomark _))
      (pss_one (ps_raise flier_def rfl rfl T.m_BadStep T.x_BadStep (pa_cons pe_str pa_nil)))
      pss_nil))), ?_⟩
    walk_at "rd"
    refine rd_lenL hS ?_
    rw [List.length_map]
    walk_at "rd"
    refine rd_dec (fun h1 => ?_) (fun h1 => ?_)
    · walk_at "rd"
      exact ⟨by show 1 ≤ sizeLine; decide, kE (.inl h1)⟩
    walk_at "rd"
    refine rd_lenL hS ?_
    rw [List.length_map]
    walk_at "rd"
    refine rd_dec (fun h2 => ?_) (fun h2 => ?_)
    · walk_at "rd"
      exact ⟨by show 1 ≤ sizeLine; decide, kE (.inr h2)⟩
    · walk_at "rd"
      exact kQ (fun z => z.elim h1 h2)
theorem ok_far (T : Txt K mg A) : FnOk P w K mg base (Fly P w) 2 A.a_farthest A.d_farthest ["rights", "others"] (sp_far K A.c_BadStep) := by
  have g_refuse_too_many : FnOk P w K mg base (Fly P w) 1 A.a_refuse_too_many A.d_refuse_too_many ["rights", "others"] (sp_refuse K A.c_BadStep) := ok_refuse T
  refine T.F_farthest.okF sc_farthest (fun vs H Q E h => ?_) (fun cdv A' outer s H vs Q E hr h => ?_)
  · obtain ⟨q, rs, o, rfl, _⟩ := h
    rfl
  · obtain ⟨q, rs, o, rfl, hS, h64, kE, kQ⟩ := h
    refine ⟨_, (pss_cons (ps_expr (pe_call g_refuse_too_many (hr.mono (by decide)) rfl T.m_refuse_too_many T.F_refuse_too_many.kp T.b_refuse_too_many .nil flier_def.pass (pa_cons (pv 0) (pa_cons (pv 1) pa_nil))))
      (pss_cons (ps_set (i := 2) sc_farthest.nd rfl (Or.inl rfl) (pe_callB (r := rSorted K) call_sortedN (by rfl) T.n_sorted boot_sorted (pa_cons (pv 0) pa_nil)))
      (pss_cons (ps_set (i := 3) sc_farthest.nd rfl (Or.inl rfl) (pe_op op_fdivL (pe_op op_add (pe_callB (r := rLenS K) call_lenN (by rfl) T.n_len boot_len (pa_cons (pv 2) pa_nil)) (pv 1)) pe_int))
      (pss_one (ps_ret (pe_tup (pa_cons (pe_ix (r := rIxL K) ix_list (pv 2) (pe_op op_sub (pv 3) (pv 1)) (fun _ _ => rfl)) (pa_cons (pe_ix (r := rIxL K) ix_list (pv 2) (pv 3) (fun _ _ => rfl)) pa_nil)))))))), ?_⟩
    walk_at "rd"
    refine ⟨q, rs, o, rfl, hS, kE, fun hb => ?_⟩
    have kQ := kQ hb
    have hb1 : (o : Int) < rs.length := by unfold badF at hb; omega
    walk_at "rd"
    refine ⟨q, rs, rfl, hS, h64, fun l ss hl hperm hpw => ?_⟩
    have hlen := hperm.length_eq
    have ess := srt_is hperm hpw
    rw [← ess] at kQ
    have s1 : Same H (upd H l (.lst (ss.map V.int))) := (Same.refl H).upd hl
    have l1 : upd H l (.lst (ss.map V.int)) l = some (.lst (ss.map V.int)) := upd_same
    generalize upd H l (.lst (ss.map V.int)) = H1 at s1 l1 ⊢
    walk_at "rd"
    refine rd_lenL (SqL.of l1) ?_
    rw [List.length_map, hlen]
    walk_at "rd"
    have e1 : ((rs.length : Int) + o) / 2 - o = (((rs.length + o) / 2 - o : Nat) : Int) := by omega
    have e2 : ((rs.length : Int) + o) / 2 = (((rs.length + o) / 2 : Nat) : Int) := by omega
    rw [e1]
    refine rd_ixL (SqL.of l1) (atI_int (by omega)) ?_
    walk_at "rd"
    rw [e2]
    refine rd_ixL (SqL.of l1) (atI_int (by omega)) ?_
    walk_at "rd"
    refine ⟨by show 2 ≤ sizeLine; decide, fun t ht => ?_⟩
    exact kQ t _ (s1.upd ht) (s1.free ht) upd_same
theorem ok_worst (T : Txt K mg A) : FnOk P w K mg base (Fly P w) 2 A.a_worst A.d_worst ["rights", "others", "is_great"] (sp_worst K A.c_BadStep) := by
  have g_refuse_too_many : FnOk P w K mg base (Fly P w) 1 A.a_refuse_too_many A.d_refuse_too_many ["rights", "others"] (sp_refuse K A.c_BadStep) := ok_refuse T
  refine T.F_worst.okF sc_worst (fun vs H Q E h => ?_) (fun cdv A' outer s H vs Q E hr h => ?_)
  · obtain ⟨q, rs, o, g, rfl, _⟩ := h
    rfl
  · obtain ⟨q, rs, o, g, rfl, hS, h64, hne, kE, kQ⟩ := h
    refine ⟨_, (pss_cons (ps_expr (pe_call g_refuse_too_many (hr.mono (by decide)) rfl T.m_refuse_too_many T.F_refuse_too_many.kp T.b_refuse_too_many .nil flier_def.pass (pa_cons (pv 0) (pa_cons (pv 1) pa_nil))))
      (pss_cons (ps_set (i := 3) sc_worst.nd rfl (Or.inl rfl) (pe_ifExp (pt_val (pv 2)) (pe_callB (r := rMaxL K) (call_maxL rfl) (by rfl) T.n_max boot_max (pa_cons (pv 0) pa_nil)) (pe_callB (r := rMinL K) (call_minL rfl) (by rfl) T.n_min boot_min (pa_cons (pv 0) pa_nil))))
      (pss_one (ps_ret (pe_op op_rep (pe_lst (pa_cons (pv 3) pa_nil)) (pv 1)))))), ?_⟩
    walk_at "rd"
    refine ⟨q, rs, o, rfl, hS, kE, fun hb => ?_⟩
    have kQ := kQ hb
    have hb1 : (o : Int) < rs.length := by unfold badF at hb; omega
    walk_at "rd"
    have fin : ∀ m : Int, m ∈ rs → (g = true → ∀ a ∈ rs, a ≤ m) → (g = false → ∀ a ∈ rs, m ≤ a) → ∀ p1 R, H p1 = none → upd H p1 (.lst [.int m]) R = none → Q (.ref R) (upd (upd H p1 (.lst [.int m])) R (.lst (List.replicate o (V.int m)))) := fun m h1 h2 h3 p1 R hp1 hR => by
      exact kQ R _ m (((Same.refl H).upd hp1).upd hR) (((Same.refl H).upd hp1).free hR) upd_same h1 h2 h3
    refine rd_bool (fun hg => ?_) (fun hg => ?_)
    · walk_at "rd"
      refine ⟨q, rs, rfl, hS, hne, fun m hm hm' => ?_⟩
      walk_at "rd"
      refine ⟨by show 1 ≤ sizeLine; decide, fun p1 hp1 => ?_⟩
      walk_at "rd"
      refine rd_rep upd_same (by omega) (by show 1 * ((o : Nat) : Int).toNat ≤ sizeLine; have : (64 : Nat) ≤ sizeLine := by decide
                                            omega) (by omega) fun R hR => ?_
      rw [flat_rep, Int.toNat_natCast]
      exact fin m hm (fun _ => hm') (fun z => by rw [hg] at z; cases z) p1 R hp1 hR
    · walk_at "rd"
      refine ⟨q, rs, rfl, hS, hne, fun m hm hm' => ?_⟩
      walk_at "rd"
      refine ⟨by show 1 ≤ sizeLine; decide, fun p1 hp1 => ?_⟩
      walk_at "rd"
      refine rd_rep upd_same (by omega) (by show 1 * ((o : Nat) : Int).toNat ≤ sizeLine; have : (64 : Nat) ≤ sizeLine := by decide
                                            omega) (by omega) fun R hR => ?_
      rw [flat_rep, Int.toNat_natCast]
      exact fin m hm (fun z => by rw [hg] at z; cases z) (fun _ => hm') p1 R hp1 hR
theorem ok_word (T : Txt K mg A) : FnX P w K mg base 1 A.a__law_word A.d__law_word ["_law_e"] (sp_word A.c_BadStep) := by
  refine T.F__law_word.okX sc__law_word (fun vs H Q E h => ?_) (fun cdv A' outer s H vs Q E ea hr held h => ?_)
  · obtain ⟨e, rfl, _⟩ := h
    rfl
  · obtain ⟨e, rfl, he, kQ⟩ := h
    refine ⟨_, (pss_cons (ps_set (i := 1) sc__law_word.nd rfl (Or.inl rfl) (pe_lst (pa_cons (pe_callB (r := rInstE K) call_instE (by rfl) T.n_isinstance boot_isinstance (pa_cons (pv 0) (pa_cons (pe_glob (v := .ref A.c_BadSettings) rfl T.m_BadSettings rfl) pa_nil))) (pa_cons (pe_callB (r := rInstE K) call_instE (by rfl) T.n_isinstance boot_isinstance (pa_cons (pv 0) (pa_cons (pe_glob (v := .ref A.c_BadStep) rfl T.m_BadStep rfl) pa_nil))) (pa_cons (pe_callB (r := rInstE K) call_instE (by rfl) T.n_isinstance boot_isinstance (pa_cons (pv 0) (pa_cons (pe_glob (v := .ref A.c_NoSensor) rfl T.m_NoSensor rfl) pa_nil))) (pa_cons (pe_callB (r := rInstE K) call_instE (by rfl) T.n_isinstance boot_isinstance (pa_cons (pv 0) (pa_cons (pe_glob (v := .ref A.c_BadRow) rfl T.m_BadRow rfl) pa_nil))) pa_nil))))))
      (pss_cons (ps_if (PW.pt (pw_or (pt_cmpR op_ne (pe_callB (r := rSumX K ea) (call_sumX rfl) (by rfl) T.n_sum boot_sum (pa_cons (pe_compX rfl ["_law_flag"] [] [] (.nil) (pv 1) (fun _ _ _ _ => pg_name (i := 0) (show (["_law_flag"] : List Str).Nodup by decide +kernel) rfl (Or.inl rfl) (.inr rfl)) (fun _ _ _ _ => pts_nil) (fun _ _ _ _ => (pe_callTy call_intN (by rfl) T.n_int boot_int (pa_cons (pv 0) pa_nil))) (gown_name (by decide)) mono_g mono_t mono_int) pa_nil)) pe_int (nomark _)) (pw_or1 (pt_not (pt_val (pe_callB (r := rInstE K) call_instE (by rfl) T.n_isinstance boot_isinstance (pa_cons (pv 0) (pa_cons (pe_bltn (v := .ty "ValueError") rfl T.n_ValueError boot_ValueError rfl) pa_nil))))))))
      (pss_one (ps_ret pe_str))
      pss_nil)
      (pss_one (ps_ret (pe_ix (r := rIxL K) ix_list (pe_lst (pa_cons pe_str (pa_cons pe_str (pa_cons pe_str (pa_cons pe_str pa_nil))))) (pe_bm PySem.F.plainAttrs_list PySem.F.slot_list_index PySem.F.type_list_index (r := rIndex K) mt_index (pv 1) (pa_cons pe_bl pa_nil)) (fun _ _ => rfl)))))), ?_⟩
    walk_at "rd"
    refine ⟨e, _, _, _, _, rfl, .inl ⟨_, rfl, rfl⟩, he, T.i_BadStep, T.k_BadStep_BadSettings, ?_⟩
    walk_at "rd"
    refine ⟨e, _, _, _, _, rfl, .inl ⟨_, rfl, rfl⟩, he, T.i_BadStep, T.k_BadStep_BadStep, ?_⟩
    walk_at "rd"
    refine ⟨e, _, _, _, _, rfl, .inl ⟨_, rfl, rfl⟩, he, T.i_BadStep, T.k_BadStep_NoSensor, ?_⟩
    walk_at "rd"
    refine ⟨e, _, _, _, _, rfl, .inl ⟨_, rfl, rfl⟩, he, T.i_BadStep, T.k_BadStep_BadRow, ?_⟩
    walk_at "rd"
    refine ⟨by show 4 ≤ sizeLine; decide, fun F hF => ?_⟩
    have s1 : Same H (upd H F (.lst [.bl false, .bl true, .bl false, .bl false])) := (Same.refl H).upd hF
    have F1 : upd H F (.lst [.bl false, .bl true, .bl false, .bl false]) F = some (.lst [.bl false, .bl true, .bl false, .bl false]) := upd_same
    generalize upd H F (.lst [.bl false, .bl true, .bl false, .bl false]) = H1 at s1 F1 ⊢
    have held1 : Held ea H1 := by
      obtain ⟨C, h⟩ := held
      exact ⟨C, s1 _ _ h⟩
    walk_at "rd"
    refine ⟨F, _, flagI, rfl, SqL.of F1, by show 4 < sizeLine; decide, held1, fun x hx => ?_, fun D hD => ?_⟩
    · obtain ⟨b, rfl⟩ : ∃ b : Bool, x = .bl b := by
        simp only [List.mem_cons, List.not_mem_nil, or_false] at hx
        rcases hx with rfl | rfl | rfl | rfl <;> exact ⟨_, rfl⟩
      walk_at "rd"
      refine ⟨rfl, ?_⟩
      walk_at "rd"
      refine ⟨rfl, ?_⟩
      cases b <;> rfl
    have s2 : Same H1 (upd H1 D (.lst [.int 0, .int 1, .int 0, .int 0])) := (Same.refl H1).upd hD
    have D2 : upd H1 D (.lst [.int 0, .int 1, .int 0, .int 0]) D = some (.lst (([0, 1, 0, 0] : List Int).map V.int)) := upd_same
    have F2 := s2 _ _ F1
    have held2 : Held ea (upd H1 D (.lst [.int 0, .int 1, .int 0, .int 0])) := by
      obtain ⟨C, h⟩ := held1
      exact ⟨C, s2 _ _ h⟩
    rw [show List.map flagI [V.bl false, V.bl true, V.bl false, V.bl false] = [V.int 0, V.int 1, V.int 0, V.int 0] from rfl]
    generalize upd H1 D (.lst [.int 0, .int 1, .int 0, .int 0]) = H2 at s2 D2 F2 held2 ⊢
    have he2 := s2 _ _ (s1 _ _ he)
    walk_at "rd"
    refine ⟨D, [0, 1, 0, 0], rfl, SqL.of D2, held2, ?_⟩
    walk_at "rd"
    refine rd_ndec (fun h => absurd rfl h) (fun _ => ?_)
    walk_at "rd"
    refine ⟨e, _, _, _, _, rfl, .inr ⟨_, rfl, rfl⟩, he2, T.i_BadStep, T.k_BadStep_V, ?_⟩
    walk_at "rd"
    refine ⟨by show 4 ≤ sizeLine; decide, fun p3 hp3 => ?_⟩
    have s3 : Same H2 (upd H2 p3 (.lst [.str "BadSettings", .str "BadStep", .str "NoSensor", .str "BadRow"])) := (Same.refl H2).upd hp3
    have P3 : upd H2 p3 (.lst [.str "BadSettings", .str "BadStep", .str "NoSensor", .str "BadRow"]) p3 = some (.lst [.str "BadSettings", .str "BadStep", .str "NoSensor", .str "BadRow"]) := upd_same
    generalize upd H2 p3 (.lst [.str "BadSettings", .str "BadStep", .str "NoSensor", .str "BadRow"]) = H3 at s3 P3 ⊢
    have F3 := s3 _ _ F2
    walk_at "rd"
    refine ⟨.inl ⟨rfl, _, SqL.of F3⟩, ?_⟩
    walk_at "rd"
    refine ⟨F, _, _, 1, rfl, rfl, SqL.of F3, rfl, rfl, by decide, by decide, fun z hz => ?_, fun m z hm hz => ?_, ?_⟩
    · cases hz
      rfl
    · match m, hm with
      | 0, _ =>
        cases hz
        rfl
    walk_at "rd"
    refine rd_ixL (SqL.of P3) rfl ?_
    exact kQ _ (Same.trans (Same.trans s1 s2) s3)
theorem ok_told (T : Txt K mg A) : FnOk P w K mg base CX0 3 A.a__law_told A.d__law_told ["_law_rights", "_law_others", "_law_which"] (sp_told K) := by
  have g_farthest : FnOk P w K mg base (Fly P w) 2 A.a_farthest A.d_farthest ["rights", "others"] (sp_far K A.c_BadStep) := ok_far T
  have g_worst : FnOk P w K mg base (Fly P w) 2 A.a_worst A.d_worst ["rights", "others", "is_great"] (sp_worst K A.c_BadStep) := ok_worst T
  have g__law_word : FnX P w K mg base 1 A.a__law_word A.d__law_word ["_law_e"] (sp_word A.c_BadStep) := ok_word T
  refine T.F__law_told.ok sc__law_told (fun vs H Q E h => ?_) (fun cdv A' outer s H vs Q E hr h => ?_)
  · obtain ⟨q, rs, o, wh, rfl, _⟩ := h
    rfl
  · obtain ⟨q, rs, o, wh, rfl, hS, h64, hne, kB, k0, k1⟩ := h
    refine ⟨_, (pss_one (ps_tryAs (i := 3) rfl rfl rfl rfl T.m_VoteError T.x_VoteError sc__law_told.nd rfl rfl (fun EB pn xe hp => (pss_cons (ps_if (pt_cmpR op_eq (pv 2) pe_int (nomark _))
      (pss_one (ps_ret (pe_call g_farthest (hr.mono (by decide)) rfl T.m_farthest T.F_farthest.kp T.b_farthest .nil hp (pa_cons (pv 0) (pa_cons (pv 1) pa_nil)))))
      pss_nil)
      (pss_one (ps_ret (pe_call g_worst (hr.mono (by decide)) rfl T.m_worst T.F_worst.kp T.b_worst .nil hp (pa_cons (pv 0) (pa_cons (pv 1) (pa_cons (pe_cmpR op_eq (pv 2) pe_int (nomark _)) pa_nil)))))))) (fun ea => (pss_one (ps_ret (pe_callX (hh_exc ea) g__law_word (hr.x.mark.mono (by decide)) rfl T.m__law_word T.F__law_word.kp T.b__law_word (pa_cons (pv 3) pa_nil))))))), ?_⟩
    walk_at "rd"
    refine rd_dec (fun h0 => ?_) (fun h0 => ?_)
    · walk_at "rd"
      refine ⟨q, rs, o, rfl, hS, h64, fun hb => ⟨A.c_BadStep, rfl, T.x_BadStep, T.k_BadStep_VoteError, fun ea σ' hea hl => ?_⟩, fun hb => k0 hb h0⟩
      walk_at "rd"
      refine rd_var (v := .ref ea) (by rw [List.getElem?_set_self (by rw [hl]; show 3 < 4; decide)]) ?_
      walk_at "rd"
      exact ⟨⟨_, upd_same⟩, ea, rfl, upd_same, fun H' s' => kB hb H' (Same.trans ((Same.refl H).upd hea) s')⟩
    · walk_at "rd"
      refine ⟨q, rs, o, _, rfl, hS, h64, hne, fun hb => ⟨A.c_BadStep, rfl, T.x_BadStep, T.k_BadStep_VoteError, fun ea σ' hea hl => ?_⟩, fun hb l H' m s' nl hl hm g1 g2 => ?_⟩
      · walk_at "rd"
        refine rd_var (v := .ref ea) (by rw [List.getElem?_set_self (by rw [hl]; show 3 < 4; decide)]) ?_
        walk_at "rd"
        exact ⟨⟨_, upd_same⟩, ea, rfl, upd_same, fun H' s' => kB hb H' (Same.trans ((Same.refl H).upd hea) s')⟩
      · exact k1 hb h0 l H' m s' nl hl hm (fun z => g1 (decide_eq_true z)) (fun z => g2 (decide_eq_false z))
end
end My

set_option Elab.async false
set_option linter.all false
set_option maxRecDepth 100000
set_option maxHeartbeats 4000000
namespace My
open PySem L2 PyProof.Rows

local macro_rules | `(tactic| walk_at "rd1") => `(tactic| first
  | (with_reducible refine L2.rd_seq ?_)
  | (with_reducible refine L2.rd_asg ?_)
  | (with_reducible refine L2.rd_set ?_)
  | (with_reducible refine L2.rd_ret ?_)
  | (with_reducible refine L2.rd_retN ?_)
  | (with_reducible refine L2.rd_if ?_)
  | (with_reducible refine L2.rd_drop ?_)
  | (with_reducible refine L2.rd_next ?_)
  | ((with_reducible refine' L2.rd_var ?rdv ?_); (case rdv => exact rfl))
  | (with_reducible refine L2.rd_C ?_)
  | (with_reducible refine L2.rd_op ?_)
  | (with_reducible refine L2.rd_un ?_)
  | (with_reducible refine L2.rd_I0 ?_)
  | ((with_reducible refine L2.rd_Ic ?_ ?rdc); (case rdc => first | exact L2.cmul_r (by decide) | exact L2.cmul_l (by decide) | exact L2.cdivL (by decide) | (show (0 : Int) < _; first | decide | omega)))
  | (with_reducible refine L2.rd_Ic ?_ ?_)
  | (with_reducible refine L2.rd_U ?_)
  | (with_reducible refine L2.rd_eqI ?_)
  | (with_reducible refine L2.rd_neI ?_)
  | (with_reducible refine L2.rd_eqS ?_)
  | (with_reducible refine L2.rd_neS ?_)
  | (with_reducible refine L2.rd_test ?_)
  | (with_reducible refine L2.rd_B ?_)
  | (with_reducible refine L2.rd_bl ?_)
  | (with_reducible refine L2.rd_and ?_)
  | (with_reducible refine L2.rd_or ?_)
  | (with_reducible refine L2.rd_not ?_)
  | (with_reducible refine L2.rd_andV ?_)
  | (with_reducible refine L2.rd_orV ?_)
  | (with_reducible refine L2.rd_notV ?_)
  | (with_reducible refine L2.rd_isbl ?_)
  | (with_reducible refine L2.rd_ifx ?_)
  | (with_reducible refine L2.rd_nil ?_)
  | (with_reducible refine L2.rd_cons ?_)
  | (with_reducible refine L2.rd_call ?_)
  | (with_reducible refine L2.rd_cb ?_)
  | (with_reducible refine L2.rd_abs ?_)
  | (with_reducible refine L2.rd_max ?_)
  | (with_reducible refine L2.rd_min ?_)
  | (with_reducible refine L2.rd_lst ?_)
  | (with_reducible refine L2.rd_tup ?_)
  | (with_reducible refine L2.rd_for ?_)
  | (with_reducible refine L2.rd_rng1 ?_)
  | (with_reducible refine L2.rd_iL ?_)
  | (with_reducible refine L2.rd_iT ?_)
  | (with_reducible refine L2.rd_iE ?_)
  | (with_reducible refine L2.rd_comp ?_)
  | (with_reducible refine L2.rd_tt ?_)
  | (with_reducible refine L2.rd_gcons ?_)
  | (with_reducible refine L2.rd_gnil ?_)
  | (with_reducible refine L2.rd_bm ?_)
  | (with_reducible refine L2.rd_false ?_)
  | (with_reducible refine L2.rd_true ?_)
  | (with_reducible refine L2.rd_nfalse ?_)
  | (with_reducible refine L2.rd_ntrue ?_)
  | (with_reducible refine L2.rd_chain ?_)
  | (with_reducible refine L2.rd_intB ?_)
  | (with_reducible refine L2.rd_isNi ?_)
  | (with_reducible refine L2.rd_isNn ?_)
  | (with_reducible refine L2.rd_notNi ?_)
  | (with_reducible refine L2.rd_notNn ?_)
  | (with_reducible refine L2.rd_fld ?_)
  | (with_reducible refine L2.rd_meth ?_)
  | (with_reducible refine L2.rd_make ?_)
  | (with_reducible refine L2.rd_iZ ?_)
  | (with_reducible refine L2.rd_bm0 ?_)
  | (with_reducible refine L2.rd_sfld ?_)
  | (with_reducible refine L2.rd_gsub ?_)
  | (with_reducible refine L2.rd_dget ?_)
  | (with_reducible refine L2.rd_dput ?_)
  | (with_reducible refine L2.rd_while ?_)
  | (with_reducible refine L2.rd_sl ?_)
  | (with_reducible refine L2.rd_nopart ?_)
  | (with_reducible refine L2.rd_part ?_)
  | (with_reducible refine L2.rd_isint ?_)
  | (with_reducible refine L2.rd_isNr ?_)
  | (with_reducible refine L2.rd_notNr ?_)
  | (with_reducible refine L2.rd_eqB ?_)
  | (with_reducible refine L2.rd_neB ?_)
  | (with_reducible refine L2.rd_raise ?_)
  | (with_reducible refine L2.rd_tryAs ?_)
  | (with_reducible refine L2.rd_callX ?_)
  | (with_reducible refine L2.rd_compX ?_)
  | (with_reducible refine L2.rd_cont ?_))
local macro_rules | `(tactic| walk_at "rd") => `(tactic| (repeat (walk_at "rd1")))

theorem line1000 : (1000 : Nat) ≤ sizeLine := by decide
section
variable {P : Program} {w : World} {K : PySem.W.Frag} {mg : Str → Option Value} {base : Heap} {A : Ad}
theorem ok_law (T : Txt K mg A) : FnOk P w K mg base CX0 9 A.a_law A.d_law ["_law_script"] (sp_law K) := by
  have g__law_cell : FnOk P w K mg base CX0 1 A.a__law_cell A.d__law_cell ["_law_script", "_law_k"] (sp_cell K) := ok_cell T
  have g__law_drawn : FnOk P w K mg base CX0 1 A.a__law_drawn A.d__law_drawn ["_law_cell_here", "_law_k"] sp_drawn := ok_drawn T
  have g__law_told : FnOk P w K mg base CX0 3 A.a__law_told A.d__law_told ["_law_rights", "_law_others", "_law_which"] (sp_told K) := ok_told T
  have g_middle : FnOk P w K mg base CX0 1 A.a_middle A.d_middle ["numbers", "near"] (sp_middle K) := ok_middle T
  refine T.F_law.ok sc_law (fun vs H Q E h => ?_) (fun cdv A' outer s H vs Q E hr h => ?_)
  · obtain ⟨a, ns, rfl, _⟩ := h
    rfl
  · obtain ⟨a, ns, rfl, hS, hlen, kq⟩ := h
    have hu := hu_of hr
    refine ⟨_, (pss_cons (ps_for PassesOwn.never rfl (pi_range1 rfl T.n_range (pa_cons (pe_callB (call_maxN rfl) (by rfl) T.n_max boot_max (pa_cons pe_int (pa_cons (pe_callB (call_minN rfl) (by rfl) T.n_min boot_min (pa_cons pe_int (pa_cons (pe_callB (r := rLenS K) call_lenN (by rfl) T.n_len boot_len (pa_cons (pv 0) pa_nil)) pa_nil))) pa_nil))) pa_nil)) (pg_name (i := 1) sc_law.nd rfl (Or.inl rfl))
      (pss_cons (ps_set (i := 2) sc_law.nd rfl (Or.inl rfl) (pe_call g__law_drawn (hr.mono (by decide)) rfl T.m__law_drawn T.F__law_drawn.kp T.b__law_drawn .nil pass0 (pa_cons (pe_call g__law_cell (hr.mono (by decide)) rfl T.m__law_cell T.F__law_cell.kp T.b__law_cell .nil pass0 (pa_cons (pv 0) (pa_cons (pv 1) pa_nil))) (pa_cons (pv 1) pa_nil))))
      (pss_cons (ps_set (i := 3) sc_law.nd rfl (Or.inr rfl) (pe_lst pa_nil))
      (pss_cons (ps_for PassesOwn.never rfl (pi_range1 rfl T.n_range (pa_cons (pe_op op_add pe_int (pe_op op_mod (pv 2) pe_int)) pa_nil)) (pg_name (i := 4) sc_law.nd rfl (Or.inl rfl))
      (pss_cons (ps_set (i := 5) sc_law.nd rfl (Or.inl rfl) (pe_call g__law_drawn (hr.mono (by decide)) rfl T.m__law_drawn T.F__law_drawn.kp T.b__law_drawn .nil pass0 (pa_cons (pe_call g__law_cell (hr.mono (by decide)) rfl T.m__law_cell T.F__law_cell.kp T.b__law_cell .nil pass0 (pa_cons (pv 0) (pa_cons (pe_op op_add (pv 1) (pv 4)) pa_nil))) (pa_cons (pe_op op_add (pe_op op_add (pv 1) (pv 4)) pe_int) pa_nil))))
      (pss_cons (ps_set (i := 6) sc_law.nd rfl (Or.inl rfl) (pe_op op_sub (pe_op op_mod (pv 5) (pe_op op_add (pe_op op_mul pe_int (pe_pow (c := 1000000000) (by decide +kernel))) pe_int)) (pe_pow (c := 1000000000) (by decide +kernel))))
      (pss_one (ps_expr (pe_bm PySem.F.plainAttrs_list PySem.F.slot_list_append PySem.F.type_list_append mt_append (pv 3) (pa_cons (pe_ix (r := rIxL K) ix_list (pe_lst (pa_cons (pe_op op_mod (pv 5) pe_int) (pa_cons (pe_op op_sub (pe_op op_mod (pv 5) pe_int) pe_int) (pa_cons (pv 6) pa_nil)))) (pe_op op_mod (pe_op op_fdivL (pv 5) (pe_pow (c := 1125899906842624) (by decide +kernel))) pe_int) (fun _ _ => rfl)) pa_nil)))))))
      (pss_cons (ps_set (i := 7) sc_law.nd rfl (Or.inr rfl) (pe_op op_mod (pe_op op_fdivL (pv 2) pe_int) (pe_op op_add (pe_callB (r := rLenS K) call_lenN (by rfl) T.n_len boot_len (pa_cons (pv 3) pa_nil)) pe_int)))
      (pss_cons (ps_set (i := 8) sc_law.nd rfl (Or.inr rfl) (pe_callTy (r := rListOf K) call_listN (by rfl) T.n_list boot_list (pa_cons (pv 3) pa_nil)))
      (pss_cons (ps_setc (i := 9) ["_law_which"] ["_law_handed", "_law_others"] [8, 7] sc_law.nd rfl (Or.inl rfl) (.cons rfl rfl (.inl rfl) (.cons rfl rfl (.inl rfl) (.nil))) rfl (pi_range1 rfl T.n_range (pa_cons pe_int pa_nil)) (fun _ _ _ _ => pg_name (i := 0) (show (["_law_which", "_law_handed", "_law_others"] : List Str).Nodup by decide +kernel) rfl (Or.inl rfl) (.inr rfl)) (fun _ _ _ _ => pts_nil) (fun _ _ _ _ => (pe_call g__law_told (hr.mono (by decide)) rfl T.m__law_told T.F__law_told.kp T.b__law_told .nil pass0 (pa_cons (pv 1) (pa_cons (pv 2) (pa_cons (pv 0) pa_nil))))) (gown_name (by decide)))
      (pss_cons (ps_if (pt_cmpR (r := rNeD K) (op_neD hr.units) (pv 8) (pv 3) (nomark _))
      (pss_one (ps_ret pe_bl))
      pss_nil)
      (pss_cons (ps_if (PW.pt (pw_or (pt_cmpR op_ge (pv 7) (pe_callB (r := rLenS K) call_lenN (by rfl) T.n_len boot_len (pa_cons (pv 3) pa_nil)) (nomark _)) (pw_or1 (pt_cmpR op_eq (pe_op op_mod (pe_op op_add (pv 7) (pe_callB (r := rLenS K) call_lenN (by rfl) T.n_len boot_len (pa_cons (pv 3) pa_nil))) pe_int) pe_int (nomark _)))))
      (pss_cons (ps_if (pt_cmpR (r := rNeD K) (op_neD hr.units) (pv 9) (pe_op op_rep (pe_lst (pa_cons pe_str pa_nil)) pe_int) (nomark _))
      (pss_one (ps_ret pe_bl))
      pss_nil)
      (pss_one ps_continue))
      pss_nil)
      (pss_cons (ps_if (PW.pt (pw_or (pt_not (pt_val (pe_callB (r := rInst K) call_instN (by rfl) T.n_isinstance boot_isinstance (pa_cons (pe_ix (r := rIxL K) ix_list (pv 9) pe_int (fun _ _ => rfl)) (pa_cons (pe_bltn (v := .ty "tuple") rfl T.n_tuple boot_tuple rfl) pa_nil))))) (pw_or (pt_not (pt_val (pe_callB (r := rInst K) call_instN (by rfl) T.n_isinstance boot_isinstance (pa_cons (pe_ix (r := rIxL K) ix_list (pv 9) pe_int (fun _ _ => rfl)) (pa_cons (pe_bltn (v := .ty "list") rfl T.n_list boot_list rfl) pa_nil))))) (pw_or1 (pt_not (pt_val (pe_callB (r := rInst K) call_instN (by rfl) T.n_isinstance boot_isinstance (pa_cons (pe_ix (r := rIxL K) ix_list (pv 9) pe_int (fun _ _ => rfl)) (pa_cons (pe_bltn (v := .ty "list") rfl T.n_list boot_list rfl) pa_nil)))))))))
      (pss_one (ps_ret pe_bl))
      pss_nil)
      (pss_cons (ps_for PassesOwn.never rfl (pi_list (pe_lst (pa_cons pe_int (pa_cons pe_int pa_nil)))) (pg_name (i := 10) sc_law.nd rfl (Or.inl rfl))
      (pss_cons (ps_setc (i := 11) ["_law_one"] ["_law_rights"] [3] sc_law.nd rfl (Or.inl rfl) (.cons rfl rfl (.inl rfl) (.nil)) rfl (pi_list (pe_ix (r := rIxL K) ix_list (pv 9) (pv 10) (fun _ _ => rfl))) (fun _ _ _ _ => pg_name (i := 0) (show (["_law_one", "_law_rights"] : List Str).Nodup by decide +kernel) rfl (Or.inl rfl) (.inr rfl)) (fun _ _ _ _ => pts_one (pt_not (pt_chain op_le op_le (pe_callB (r := rMinL K) (call_minL rfl) (by rfl) T.n_min boot_min (pa_cons (pv 1) pa_nil)) (pv 0) (pe_callB (r := rMaxL K) (call_maxL rfl) (by rfl) T.n_max boot_max (pa_cons (pv 1) pa_nil))))) (fun _ _ _ _ => (pv 0)) (gown_name (by decide)))
      (pss_cons (ps_if (PW.pt (pw_or (pt_cmpR op_ne (pe_callB (r := rLenS K) call_lenN (by rfl) T.n_len boot_len (pa_cons (pe_ix (r := rIxL K) ix_list (pv 9) (pv 10) (fun _ _ => rfl)) pa_nil)) (pv 7) (nomark _)) (pw_or1 (pt_cmpR (r := rNeD K) (op_neD hr.units) (pv 11) (pe_lst pa_nil) (nomark _)))))
      (pss_one (ps_ret pe_bl))
      pss_nil)
      (pss_one (ps_if (pt_cmpR op_ne (pe_call g_middle (hr.mono (by decide)) rfl T.m_middle T.F_middle.kp T.b_middle .nil pass0 (pa_cons (pe_op op_cat (pv 3) (pe_ix (r := rIxL K) ix_list (pv 9) (pv 10) (fun _ _ => rfl))) (pa_cons pe_int pa_nil))) (pe_ix (r := rIxT K) ix_tup (pe_ix (r := rIxL K) ix_list (pv 9) pe_int (fun _ _ => rfl)) (pe_op op_sub (pv 10) pe_int) (fun _ _ => rfl)) (nomark _))
      (pss_one (ps_ret pe_bl))
      pss_nil)))))
      (pss_cons (ps_if (PW.pt (pw_and (pt_cmpR op_eq (pv 7) pe_int (nomark _)) (pw_and1 (pt_cmpR op_ne (pe_ix (r := rIxT K) ix_tup (pe_ix (r := rIxL K) ix_list (pv 9) pe_int (fun _ _ => rfl)) pe_int (fun _ _ => rfl)) (pe_ix (r := rIxT K) ix_tup (pe_ix (r := rIxL K) ix_list (pv 9) pe_int (fun _ _ => rfl)) pe_int (fun _ _ => rfl)) (nomark _)))))
      (pss_one (ps_ret pe_bl))
      pss_nil)
      (pss_one (ps_for PassesOwn.never rfl (pi_range1 rfl T.n_range (pa_cons pe_int pa_nil)) (pg_name (i := 4) sc_law.nd rfl (Or.inl rfl))
      (pss_cons (ps_set (i := 5) sc_law.nd rfl (Or.inl rfl) (pe_call g__law_drawn (hr.mono (by decide)) rfl T.m__law_drawn T.F__law_drawn.kp T.b__law_drawn .nil pass0 (pa_cons (pe_call g__law_cell (hr.mono (by decide)) rfl T.m__law_cell T.F__law_cell.kp T.b__law_cell .nil pass0 (pa_cons (pv 0) (pa_cons (pv 1) pa_nil))) (pa_cons (pe_op op_add (pe_op op_add (pe_op op_mul pe_int (pv 1)) (pv 4)) pe_int) pa_nil))))
      (pss_cons (ps_set (i := 12) sc_law.nd rfl (Or.inl rfl) (pe_lst pa_nil))
      (pss_cons (ps_for PassesOwn.never rfl (pi_range1 rfl T.n_range (pa_cons (pv 7) pa_nil)) (pg_name (i := 13) sc_law.nd rfl (Or.inl rfl))
      (pss_cons (ps_set (i := 14) sc_law.nd rfl (Or.inl rfl) (pe_ix (r := rIxL K) ix_list (pv 3) (pe_op op_mod (pe_op op_fdivL (pv 5) (pe_op op_add pe_int (pv 13))) (pe_callB (r := rLenS K) call_lenN (by rfl) T.n_len boot_len (pa_cons (pv 3) pa_nil))) (fun _ _ => rfl)))
      (pss_one (ps_expr (pe_bm PySem.F.plainAttrs_list PySem.F.slot_list_append PySem.F.type_list_append mt_append (pv 12) (pa_cons (pe_ix (r := rIxL K) ix_list (pe_lst (pa_cons (pv 14) (pa_cons (pe_op op_add (pv 14) pe_int) (pa_cons (pe_op op_sub (pv 14) pe_int) (pa_cons (pe_pow (c := 10000000000) (by decide +kernel)) (pa_cons (pe_negpow (c := -10000000000) (by decide +kernel)) pa_nil)))))) (pe_op op_mod (pe_op op_fdivL (pv 5) (pe_op op_add pe_int (pe_op op_mul pe_int (pv 13)))) pe_int) (fun _ _ => rfl)) pa_nil))))))
      (pss_one (ps_if (pt_not (pt_chain op_le op_le (pe_ix (r := rIxT K) ix_tup (pe_ix (r := rIxL K) ix_list (pv 9) pe_int (fun _ _ => rfl)) pe_int (fun _ _ => rfl)) (pe_call g_middle (hr.mono (by decide)) rfl T.m_middle T.F_middle.kp T.b_middle .nil pass0 (pa_cons (pe_op op_cat (pv 3) (pv 12)) (pa_cons pe_int pa_nil))) (pe_ix (r := rIxT K) ix_tup (pe_ix (r := rIxL K) ix_list (pv 9) pe_int (fun _ _ => rfl)) pe_int (fun _ _ => rfl))))
      (pss_one (ps_ret pe_bl))
      pss_nil)))))))))))))))))))
      (pss_one (ps_ret pe_bl))), ?_⟩
    walk_at "rd"
    refine rd_lenL hS ?_
    rw [List.length_map]
    walk_at "rd"
    have hM : ∃ M : Int, M = (if (if (ns.length : Int) < 4 then (ns.length : Int) else 4) > 1 then (if (ns.length : Int) < 4 then (ns.length : Int) else 4) else 1) ∧ 1 ≤ M ∧ M ≤ 4 := ⟨_, rfl, by split <;> omega, by split <;> (try split) <;> omega⟩
    obtain ⟨M, eM, hM1, hM4⟩ := hM
    rw [← eM]
    refine ⟨M, rfl, by omega, by omega, for_range (n := M.toNat) (fun i σ H5 => ∃ (y1 y2 y3 y4 y5 y6 y7 y8 y9 y10 y11 y12 y13 y14 : Option V), σ = [some (.ref a), y1, y2, y3, y4, y5, y6, y7, y8, y9, y10, y11, y12, y13, y14] ∧ Same H H5) ⟨_, _, _, _, _, _, _, _, _, _, _, _, _, _, rfl, Same.refl H⟩ ?_ ?_⟩
    · rintro i σ H5 hi ⟨y1, y2, y3, y4, y5, y6, y7, y8, y9, y10, y11, y12, y13, y14, rfl, s5⟩
      rw [show (0 : Int) + (i : Int) = (i : Int) by omega]
      walk_at "rd"
      refine ⟨a, ns, _, rfl, s5.seq hS, by omega, hlen, fun c H6 s6 => ?_⟩
      walk_at "rd"
      refine ⟨_, _, rfl, fun m h0 h1 => ?_⟩
      have s6 := Same.trans s5 s6
      walk_at "rd"
      refine ⟨Nat.zero_le _, fun R hR => ?_⟩
      have nR0 : H R = none := s6.free hR
      have s7 : Same H6 (upd H6 R (.lst [])) := (Same.refl H6).upd hR
      have R7 : upd H6 R (.lst []) R = some (.lst (([] : List Int).map V.int)) := upd_same
      generalize upd H6 R (.lst []) = H7 at s7 R7 ⊢
      have hcnt : 1 ≤ 1 + m % 9 ∧ 1 + m % 9 ≤ 9 := by omega
      generalize hcn : 1 + m % 9 = cn at hcnt
      walk_at "rd"
      rw [hcn]
      refine ⟨cn, rfl, by omega, by omega, for_range (n := cn.toNat) (fun j σ H8 => ∃ (rs : List Int) (y4 y5 y6 : Option V), σ = [some (.ref a), some (.int i), some (.int m), some (.ref R), y4, y5, y6, y7, y8, y9, y10, y11, y12, y13, y14] ∧ Same H6 H8 ∧ H8 R = some (.lst (rs.map V.int)) ∧ rs.length = j) ⟨[], _, _, _, rfl, s7, R7, rfl⟩ ?_ ?_⟩
      · rintro j σ H8 hj ⟨rs, y4, y5, y6, rfl, s8, R8, rl⟩
        rw [show (0 : Int) + (j : Int) = (j : Int) by omega]
        walk_at "rd"
        refine ⟨a, ns, _, rfl, (Same.trans s6 s8).seq hS, by omega, hlen, fun c H9 s9 => ?_⟩
        walk_at "rd"
        refine ⟨_, _, rfl, fun one h2 h3 => ?_⟩
        walk_at "rd"
        refine ⟨.inl ⟨rfl, _, SqL.of (s9 _ _ R8)⟩, ?_⟩
        walk_at "rd"
        refine ⟨by show 3 ≤ sizeLine; decide, fun p10 hp10 => ?_⟩
        walk_at "rd"
        refine rd_menuI (ns := [_, _, _]) hp10 (Int.emod_nonneg _ (by decide)) (Int.emod_lt_of_pos _ (by decide)) fun z H10 hz s10 => ?_
        have s11 := Same.trans s9 s10
        walk_at "rd"
        refine rd_append (s11 _ _ R8) (by rw [List.length_map]; exact small1000 (by omega)) ?_
        refine ⟨rs ++ [z], _, _, _, rfl, fun b u e => ?_, by rw [upd_same, List.map_append]; rfl, by rw [List.length_append, rl]; rfl⟩
        rw [upd_ne (ne_of_none e hR)]
        exact s11 _ _ (s8 _ _ e)
      · rintro σ H8 ⟨rs, y4, y5, y6, rfl, s8, R8, rl⟩
        have r1 : 1 ≤ rs.length := by omega
        have r9 : rs.length ≤ 9 := by omega
        have hne : rs ≠ [] := fun z => by rw [z] at r1; simp at r1
        have s8 := Same.trans s6 s8
        walk_at "rd"
        refine rd_lenL (SqL.of R8) ?_
        rw [List.length_map]
        walk_at "rd"
        obtain ⟨o, eo, ho⟩ : ∃ o : Nat, m / 16 % ((rs.length : Int) + 2) = (o : Int) ∧ o ≤ 10 := by
          have h3 := Int.emod_nonneg (m / 16) (show (rs.length : Int) + 2 ≠ 0 by omega)
          have h4 := Int.emod_lt_of_pos (m / 16) (show 0 < (rs.length : Int) + 2 by omega)
          exact ⟨(m / 16 % ((rs.length : Int) + 2)).toNat, by omega, by omega⟩
        rw [eo]
        refine rd_listN (SqL.of R8) fun Hd hHd => ?_
        have s9 : Same H8 (upd H8 Hd (.lst (rs.map V.int))) := (Same.refl H8).upd hHd
        have Hd9 : upd H8 Hd (.lst (rs.map V.int)) Hd = some (.lst (rs.map V.int)) := upd_same
        generalize upd H8 Hd (.lst (rs.map V.int)) = H9 at s9 Hd9 ⊢
        have R9 := s9 _ _ R8
        have s9 := Same.trans s8 s9
        walk_at "rd"
        by_cases hb : badF rs.length o
        · refine ⟨3, rfl, by decide, by decide, comp_range (n := (3 : Int).toNat) (τ := [none, some (.ref Hd), some (.int o)]) rfl (by decide)
            (fun j ys H10 => Same H9 H10 ∧ ys = List.replicate j (V.str "BadStep")) ⟨Same.refl H9, rfl⟩ ?_ ?_ ?_⟩
          · rintro j ys H10 hj ⟨hs, rfl⟩
            rw [List.length_replicate]
            exact Nat.le_refl _
          · rintro j ys H10 hj ⟨hs, rfl⟩
            walk_at "rd"
            refine ⟨Hd, rs, o, _, rfl, SqL.of (hs _ _ Hd9), by omega, hne, fun _ H' s' => ?_, fun z => absurd hb z, fun z => absurd hb z⟩
            refine ⟨Same.trans hs s', ?_⟩
            rw [List.replicate_succ']
          rintro ys H10 ⟨s10, rfl⟩ Th hTh
          have s11 : Same H9 (upd H10 Th (.lst (List.replicate (3 : Int).toNat (V.str "BadStep")))) := s10.upd hTh
          have Th11 : upd H10 Th (.lst (List.replicate (3 : Int).toNat (V.str "BadStep"))) Th = some (.lst [.str "BadStep", .str "BadStep", .str "BadStep"]) := upd_same
          generalize upd H10 Th (.lst (List.replicate (3 : Int).toNat (V.str "BadStep"))) = H11 at s11 Th11 ⊢
          have Hd11 := s11 _ _ Hd9
          have R11 := s11 _ _ R9
          have s11 := Same.trans s9 s11
          walk_at "rd"
          refine rd_neSame (Dt.intList (SqL.of Hd11)) (Dt.intList (SqL.of R11)) (lay_ints rs) (dep_ints rs) ?_
          walk_at "rd"
          refine rd_lenL (SqL.of R11) ?_
          rw [List.length_map]
          walk_at "rd"
          refine rd_dec (fun q1 => ?_) (fun q1 => ?_)
          · walk_at "rd"
            refine ⟨by show 1 ≤ sizeLine; decide, fun p12 hp12 => ?_⟩
            walk_at "rd"
            refine rd_rep upd_same (by decide) (by decide) (by decide) fun Q12 hQ12 => ?_
            have s12 : Same H11 (upd (upd H11 p12 (.lst [.str "BadStep"])) Q12 (.lst [.str "BadStep", .str "BadStep", .str "BadStep"])) := ((Same.refl H11).upd hp12).upd hQ12
            have Q12' : upd (upd H11 p12 (.lst [.str "BadStep"])) Q12 (.lst [.str "BadStep", .str "BadStep", .str "BadStep"]) Q12 = some (.lst [.str "BadStep", .str "BadStep", .str "BadStep"]) := upd_same
            refine rd_neSame (d := .list [.str "BadStep", .str "BadStep", .str "BadStep"]) (.lst (SqL.of (s12 _ _ Th11)) (.cons (.str _) (.cons (.str _) (.cons (.str _) .nil)))) (.lst (SqL.of Q12') (.cons (.str _) (.cons (.str _) (.cons (.str _) .nil)))) (by decide +kernel) (by decide +kernel) ?_
            walk_at "rd"
            exact ⟨_, _, _, _, _, _, _, _, _, _, _, _, _, _, rfl, Same.trans s11 s12⟩
          · walk_at "rd"
            refine rd_lenL (SqL.of R11) ?_
            rw [List.length_map]
            walk_at "rd"
            refine rd_dec (fun q2 => ?_) (fun q2 => ?_)
            · walk_at "rd"
              refine ⟨by show 1 ≤ sizeLine; decide, fun p12 hp12 => ?_⟩
              walk_at "rd"
              refine rd_rep upd_same (by decide) (by decide) (by decide) fun Q12 hQ12 => ?_
              have s12 : Same H11 (upd (upd H11 p12 (.lst [.str "BadStep"])) Q12 (.lst [.str "BadStep", .str "BadStep", .str "BadStep"])) := ((Same.refl H11).upd hp12).upd hQ12
              have Q12' : upd (upd H11 p12 (.lst [.str "BadStep"])) Q12 (.lst [.str "BadStep", .str "BadStep", .str "BadStep"]) Q12 = some (.lst [.str "BadStep", .str "BadStep", .str "BadStep"]) := upd_same
              refine rd_neSame (d := .list [.str "BadStep", .str "BadStep", .str "BadStep"]) (.lst (SqL.of (s12 _ _ Th11)) (.cons (.str _) (.cons (.str _) (.cons (.str _) .nil)))) (.lst (SqL.of Q12') (.cons (.str _) (.cons (.str _) (.cons (.str _) .nil)))) (by decide +kernel) (by decide +kernel) ?_
              walk_at "rd"
              exact ⟨_, _, _, _, _, _, _, _, _, _, _, _, _, _, rfl, Same.trans s11 s12⟩
            · exfalso
              unfold badF at hb
              omega
        · have hol : o < rs.length := by unfold badF at hb; omega
          have hodd : ((rs.length : Int) + o) % 2 ≠ 0 := fun z => hb (.inr z)
          obtain ⟨half, eh⟩ : ∃ half : Nat, rs.length + o = 2 * half + 1 := ⟨(rs.length + o) / 2, by omega⟩
          have eh2 : (rs.length + o) / 2 = half := by omega
          refine ⟨3, rfl, by decide, by decide, comp_range (n := (3 : Int).toNat) (τ := [none, some (.ref Hd), some (.int o)]) rfl (by decide)
            (fun j ys H10 => Same H9 H10 ∧ (j = 0 → ys = []) ∧ (j = 1 → ∃ t, ys = [.ref t] ∧ H10 t = some (.tup [.int ((sortI rs).getD (half - o) 0), .int ((sortI rs).getD half 0)])) ∧
              (j = 2 → ∃ t l1 m1, ys = [.ref t, .ref l1] ∧ H10 t = some (.tup [.int ((sortI rs).getD (half - o) 0), .int ((sortI rs).getD half 0)]) ∧ H10 l1 = some (.lst (List.replicate o (V.int m1))) ∧ m1 ∈ rs ∧ ∀ a ∈ rs, m1 ≤ a) ∧
              (3 ≤ j → ∃ t l1 m1 l2 m2, ys = [.ref t, .ref l1, .ref l2] ∧ H10 t = some (.tup [.int ((sortI rs).getD (half - o) 0), .int ((sortI rs).getD half 0)]) ∧ H10 l1 = some (.lst (List.replicate o (V.int m1))) ∧ m1 ∈ rs ∧ (∀ a ∈ rs, m1 ≤ a) ∧ H10 l2 = some (.lst (List.replicate o (V.int m2))) ∧ m2 ∈ rs ∧ ∀ a ∈ rs, a ≤ m2))
            ⟨Same.refl H9, fun _ => rfl, by omega, by omega, by omega⟩ ?_ ?_ ?_⟩
          · rintro j ys H10 hj ⟨hs, z0, z1, z2, z3⟩
            match j, hj with
            | 0, _ => rw [z0 rfl]; exact Nat.le_refl _
            | 1, _ => obtain ⟨t, rfl, _⟩ := z1 rfl; exact Nat.le_refl _
            | 2, _ => obtain ⟨t, l1, m1, rfl, _⟩ := z2 rfl; exact Nat.le_refl _
            | 3, _ => obtain ⟨t, l1, m1, l2, m2, rfl, _⟩ := z3 (Nat.le_refl _); exact Nat.le_refl _
          · rintro j ys H10 hj ⟨hs, z0, z1, z2, z3⟩
            match j, hj with
            | 0, _ =>
              obtain rfl := z0 rfl
              walk_at "rd"
              refine ⟨Hd, rs, o, _, rfl, SqL.of (hs _ _ Hd9), by omega, hne, fun z => absurd z hb, fun _ _ t H' s' nt ht => ?_, fun _ z => absurd rfl z⟩
              rw [eh2] at ht
              exact ⟨Same.trans hs s', by omega, fun _ => ⟨t, rfl, ht⟩, by omega, by omega⟩
            | 1, _ =>
              obtain ⟨t, rfl, ht⟩ := z1 rfl
              walk_at "rd"
              refine ⟨Hd, rs, o, _, rfl, SqL.of (hs _ _ Hd9), by omega, hne, fun z => absurd z hb, fun _ z => absurd z (by decide), fun _ _ l H' mm s' nl hl hm g1 g2 => ?_⟩
              exact ⟨Same.trans hs s', by omega, by omega, fun _ => ⟨t, l, mm, rfl, s' _ _ ht, hl, hm, g2 (by decide)⟩, by omega⟩
            | 2, _ =>
              obtain ⟨t, l1, m1, rfl, ht, hl1, hm1, g1⟩ := z2 rfl
              walk_at "rd"
              refine ⟨Hd, rs, o, _, rfl, SqL.of (hs _ _ Hd9), by omega, hne, fun z => absurd z hb, fun _ z => absurd z (by decide), fun _ _ l H' mm s' nl hl hm g2 g3 => ?_⟩
              exact ⟨Same.trans hs s', by omega, by omega, by omega, fun _ => ⟨t, l1, m1, l, mm, rfl, s' _ _ ht, s' _ _ hl1, hm1, g1, hl, hm, g2 (by decide)⟩⟩
          rintro ys H10 ⟨s10, _, _, _, z3⟩ Th hTh
          obtain ⟨t, l1, m1, l2, m2, rfl, t10, l10, hm1, g1, k10, hm2, g2⟩ := z3 (Nat.le_refl _)
          have fl : ∀ X : List Int, X.length = o → (sortI rs).getD (half - o) 0 ≤ midE (rs ++ X) 0 ∧ midE (rs ++ X) 0 ≤ (sortI rs).getD half 0 := fun X hX => by
            have := far_le (R := rs) (X := X) (n := 0) (half := half) (by omega) (by omega)
            rw [hX] at this
            exact this
          have f1 := far_small (R := rs) (o := o) (g := m1) (n := 0) (half := half) hol eh g1
          have f2 := far_great (R := rs) (o := o) (g := m2) (n := 0) (half := half) hol eh g2
          have fz : o = 0 → (sortI rs).getD (half - o) 0 = (sortI rs).getD half 0 := fun z => by rw [z, Nat.sub_zero]
          generalize (sortI rs).getD (half - o) 0 = elo at t10 fl f1 fz
          generalize (sortI rs).getD half 0 = ehi at t10 fl f2 fz
          have s11 : Same H10 (upd H10 Th (.lst [.ref t, .ref l1, .ref l2])) := (Same.refl H10).upd hTh
          have Th11 : upd H10 Th (.lst [.ref t, .ref l1, .ref l2]) Th = some (.lst [.ref t, .ref l1, .ref l2]) := upd_same
          generalize upd H10 Th (.lst [.ref t, .ref l1, .ref l2]) = H11 at s11 Th11 ⊢
          have t11 := s11 _ _ t10
          have l11 := s11 _ _ l10
          have k11 := s11 _ _ k10
          have Hd11 := s11 _ _ (s10 _ _ Hd9)
          have R11 := s11 _ _ (s10 _ _ R9)
          have s11 := Same.trans s9 (Same.trans s10 s11)
          walk_at "rd"
          refine rd_neSame (Dt.intList (SqL.of Hd11)) (Dt.intList (SqL.of R11)) (lay_ints rs) (dep_ints rs) ?_
          walk_at "rd"
          refine rd_lenL (SqL.of R11) ?_
          rw [List.length_map]
          walk_at "rd"
          refine rd_dec (fun q1 => absurd q1 (by omega)) (fun q1 => ?_)
          walk_at "rd"
          refine rd_lenL (SqL.of R11) ?_
          rw [List.length_map]
          walk_at "rd"
          refine rd_dec (fun q2 => absurd q2 (by omega)) (fun q2 => ?_)
          walk_at "rd"
          refine rd_ixL (SqL.of Th11) rfl ?_
          walk_at "rd"
          refine rd_instN (.tup t11) kit_tuple_tuple ?_
          walk_at "rd"
          refine rd_ixL (SqL.of Th11) rfl ?_
          walk_at "rd"
          refine rd_instN (.lst l11) kit_list_list ?_
          walk_at "rd"
          refine rd_ixL (SqL.of Th11) rfl ?_
          walk_at "rd"
          refine rd_instN (.lst k11) kit_list_list ?_
          walk_at "rd"
          refine ⟨by show 2 ≤ sizeLine; decide, fun W hW => ?_⟩
          have s12 : Same H11 (upd H11 W (.lst [.int 1, .int 2])) := (Same.refl H11).upd hW
          have W12 : upd H11 W (.lst [.int 1, .int 2]) W = some (.lst [.int 1, .int 2]) := upd_same
          generalize upd H11 W (.lst [.int 1, .int 2]) = H12 at s12 W12 ⊢
          refine ⟨W, rfl, ⟨_, SqL.of W12⟩, for_list (xs := [.int 1, .int 2]) (fun j σ H13 => ∃ (y10 y11 : Option V), σ = [some (.ref a), some (.int i), some (.int m), some (.ref R), y4, y5, y6, some (.int o), some (.ref Hd), some (.ref Th), y10, y11, y12, y13, y14] ∧ Same H12 H13) ⟨_, _, rfl, Same.refl H12⟩ ?_ ?_ ?_⟩
          · rintro j σ H13 hj ⟨y10, y11, rfl, s13⟩
            exact SqL.of (s13 _ _ W12)
          · rintro j y σ H13 hy ⟨y10, y11, rfl, s13⟩
            have s13' := Same.trans s12 s13
            obtain ⟨l, mm, ev, rfl, hl, eix, eit, hmm, emid⟩ : ∃ (l : Addr) (mm ev : Int), y = .int ((j : Int) + 1) ∧ H13 l = some (.lst (List.replicate o (V.int mm))) ∧ atI [V.ref t, .ref l1, .ref l2] ((j : Int) + 1) = some (.ref l) ∧ atI [V.int elo, .int ehi] ((j : Int) + 1 - 1) = some (.int ev) ∧ mm ∈ rs ∧ midE (rs ++ List.replicate o mm) 0 = ev := by
              have hj : j < 2 := (List.getElem?_eq_some_iff.mp hy).1
              match j, hj with
              | 0, _ =>
                cases hy
                exact ⟨l1, m1, elo, rfl, s13' _ _ l11, rfl, rfl, hm1, f1⟩
              | 1, _ =>
                cases hy
                exact ⟨l2, m2, ehi, rfl, s13' _ _ k11, rfl, rfl, hm2, f2⟩
            have Th13 := s13' _ _ Th11
            have R13 := s13' _ _ R11
            have t13 := s13' _ _ t11
            have el : List.replicate o (V.int mm) = (List.replicate o mm).map V.int := by rw [List.map_replicate]
            walk_at "rd"
            refine rd_ixL (SqL.of Th13) eix ?_
            walk_at "rd"
            refine ⟨l, rfl, ⟨_, SqL.of hl⟩, comp_list (xs := List.replicate o (V.int mm)) (τ := [none, some (.ref R)]) rfl (by rw [List.length_replicate]; exact Nat.le_trans (by omega : o ≤ 1000) line1000)
              (fun k ys H14 => Same H13 H14 ∧ ys = ([] : List Int).map V.int) ⟨Same.refl H13, rfl⟩ ?_ ?_ ?_⟩
            · rintro k ys H14 hk ⟨hs, rfl⟩
              exact ⟨SqL.of (hs _ _ hl), Nat.zero_le _⟩
            · rintro k yv ys H14 hyv ⟨hs, rfl⟩
              obtain rfl : yv = .int mm := List.eq_of_mem_replicate (List.mem_of_getElem? hyv)
              walk_at "rd"
              refine ⟨R, rs, rfl, SqL.of (hs _ _ R13), hne, fun M1 hM hM' => ?_⟩
              walk_at "rd"
              refine rd_dec (fun q3 => ?_) (fun q3 => absurd (hM' mm hmm) q3)
              walk_at "rd"
              refine ⟨R, rs, rfl, SqL.of (hs _ _ R13), hne, fun M2 hM2 hM2' => ?_⟩
              walk_at "rd"
              refine rd_ndec (fun q4 => absurd (hM2' mm hmm) q4) (fun q4 => ?_)
              exact ⟨hs, rfl⟩
            rintro ys H14 ⟨s14, rfl⟩ By hBy
            have s15 : Same H13 (upd H14 By (.lst (([] : List Int).map V.int))) := s14.upd hBy
            have By15 : upd H14 By (.lst (([] : List Int).map V.int)) By = some (.lst (([] : List Int).map V.int)) := upd_same
            generalize upd H14 By (.lst (([] : List Int).map V.int)) = H15 at s15 By15 ⊢
            have Th15 := s15 _ _ Th13
            have R15 := s15 _ _ R13
            have l15 := s15 _ _ hl
            have t15 := s15 _ _ t13
            walk_at "rd"
            refine rd_ixL (SqL.of Th15) eix ?_
            walk_at "rd"
            refine rd_lenL (SqL.of l15) ?_
            rw [List.length_replicate]
            walk_at "rd"
            refine rd_ndec (fun h => absurd rfl h) (fun _ => ?_)
            walk_at "rd"
            refine ⟨Nat.zero_le _, fun p16 hp16 => ?_⟩
            have s16 : Same H15 (upd H15 p16 (.lst [])) := (Same.refl H15).upd hp16
            refine rd_neNil (ns := []) (SqL.of (s16 _ _ By15)) (SqL.of upd_same) ?_
            generalize upd H15 p16 (.lst []) = H16 at s16 ⊢
            have Th16 := s16 _ _ Th15
            have R16 := s16 _ _ R15
            have l16 := s16 _ _ l15
            have t16 := s16 _ _ t15
            rw [decide_eq_true rfl]
            walk_at "rd"
            refine rd_ixL (SqL.of Th16) eix ?_
            walk_at "rd"
            refine ⟨R, l, _, _, rfl, rfl, R16, l16, by rw [List.length_map, List.length_replicate]; exact Nat.le_trans (by omega : rs.length + o ≤ 1000) line1000, fun p17 hp17 => ?_⟩
            have s17 : Same H16 (upd H16 p17 (.lst (rs.map V.int ++ List.replicate o (V.int mm)))) := (Same.refl H16).upd hp17
            walk_at "rd"
            refine ⟨p17, rs ++ List.replicate o mm, 0, rfl, ?_, by rw [List.length_append, List.length_replicate]; omega, fun H18 s18 => ?_⟩
            · rw [List.map_append, ← el]
              exact SqL.of upd_same
            rw [emid]
            have s18 := Same.trans s17 s18
            walk_at "rd"
            refine rd_ixL (SqL.of (s18 _ _ Th16)) rfl ?_
            walk_at "rd"
            refine rd_ixT (SqT.of (s18 _ _ t16)) eit ?_
            walk_at "rd"
            refine rd_ndec (fun h => absurd rfl h) (fun _ => ?_)
            walk_at "rd"
            exact ⟨_, _, rfl, Same.trans s13 (Same.trans s15 (Same.trans s16 s18))⟩
          · rintro σ H13 ⟨y10, y11, rfl, s13⟩
            have s13' := Same.trans s12 s13
            have Th13 := s13' _ _ Th11
            have R13 := s13' _ _ R11
            have t13 := s13' _ _ t11
            have s13 := Same.trans s11 s13'
            dsimp only
            with_reducible refine rd_seq_join [some (.ref a), some (.int i), some (.int m), some (.ref R), y4, y5, y6, some (.int o), some (.ref Hd), some (.ref Th), y10, y11, y12, y13, y14] (fun H' => H' = H13) (fun H14 e14 => ?_) (fun N rest => ?_)
            rotate_left
            · walk_at "rd"
              refine rd_dec (fun q5 => ?_) (fun q5 => ?_)
              · walk_at "rd"
                refine rd_ixL (SqL.of Th13) rfl ?_
                walk_at "rd"
                refine rd_ixT (SqT.of t13) rfl ?_
                walk_at "rd"
                refine rd_ixL (SqL.of Th13) rfl ?_
                walk_at "rd"
                refine rd_ixT (SqT.of t13) rfl ?_
                walk_at "rd"
                refine rd_ndec (fun h => absurd (fz (by omega)) h) (fun _ => ?_)
                walk_at "rd"
                exact rest _ rfl
              · walk_at "rd"
                exact rest _ rfl
            subst e14
            walk_at "rd"
            refine ⟨10, rfl, by decide, by decide, for_range (n := (10 : Int).toNat) (fun j σ H15 => ∃ (y4 y5 y12 y13 y14 : Option V), σ = [some (.ref a), some (.int i), some (.int m), some (.ref R), y4, y5, y6, some (.int o), some (.ref Hd), some (.ref Th), y10, y11, y12, y13, y14] ∧ Same H14 H15) ⟨_, _, _, _, _, rfl, Same.refl _⟩ ?_ ?_⟩
            · rintro j σ H15 hj ⟨y4, y5, y12, y13, y14, rfl, s15⟩
              rw [show (0 : Int) + (j : Int) = (j : Int) by omega]
              walk_at "rd"
              refine ⟨a, ns, _, rfl, (Same.trans s13 s15).seq hS, by omega, hlen, fun c H16 s16 => ?_⟩
              walk_at "rd"
              refine ⟨_, _, rfl, fun one h2 h3 => ?_⟩
              walk_at "rd"
              refine ⟨Nat.zero_le _, fun Dr hDr => ?_⟩
              have s17 : Same H15 (upd H16 Dr (.lst [])) := s16.upd hDr
              have nDr : H15 Dr = none := s16.free hDr
              have D17 : upd H16 Dr (.lst []) Dr = some (.lst (([] : List Int).map V.int)) := upd_same
              generalize upd H16 Dr (.lst []) = H17 at s17 D17 ⊢
              walk_at "rd"
              refine ⟨(o : Int), rfl, by omega, by omega, for_range (n := ((o : Nat) : Int).toNat) (fun k σ H18 => ∃ (X : List Int) (y13 y14 : Option V), σ = [some (.ref a), some (.int i), some (.int m), some (.ref R), some (.int j), some (.int one), y6, some (.int o), some (.ref Hd), some (.ref Th), y10, y11, some (.ref Dr), y13, y14] ∧ Same H15 H18 ∧ H18 Dr = some (.lst (X.map V.int)) ∧ X.length = k) ⟨[], _, _, rfl, s17, D17, rfl⟩ ?_ ?_⟩
              · rintro k σ H18 hk ⟨X, y13, y14, rfl, s18, D18, Xl⟩
                rw [Int.toNat_natCast] at hk
                rw [show (0 : Int) + (k : Int) = (k : Int) by omega]
                have R18 := (Same.trans s15 s18) _ _ R13
                walk_at "rd"
                refine rd_lenL (SqL.of R18) ?_
                rw [List.length_map]
                walk_at "rd"
                · refine rd_ixL (SqL.of R18) (atI_ints (Int.emod_nonneg _ (by omega)) (Int.emod_lt_of_pos _ (by omega))) ?_
                  walk_at "rd"
                  refine ⟨.inl ⟨rfl, _, SqL.of D18⟩, ?_⟩
                  walk_at "rd"
                  refine ⟨by show 5 ≤ sizeLine; decide, fun p19 hp19 => ?_⟩
                  walk_at "rd"
                  · refine rd_menuI (ns := [_, _, _, _, _]) hp19 (Int.emod_nonneg _ (by decide)) (Int.emod_lt_of_pos _ (by decide)) fun z H19 hz s19 => ?_
                    walk_at "rd"
                    refine rd_append (s19 _ _ D18) (by rw [List.length_map]; exact small1000 (by omega)) ?_
                    refine ⟨X ++ [z], _, _, rfl, fun b u e => ?_, by rw [upd_same, List.map_append]; rfl, by rw [List.length_append, Xl]; rfl⟩
                    rw [upd_ne (ne_of_none e nDr)]
                    exact s19 _ _ (s18 _ _ e)
                  · exact ⟨by omega, by omega⟩
                · exact ⟨by omega, by omega⟩
              · rintro σ H18 ⟨X, y13, y14, rfl, s18, D18, Xl⟩
                rw [Int.toNat_natCast] at Xl
                have s18' := Same.trans s15 s18
                have R18 := s18' _ _ R13
                have Th18 := s18' _ _ Th13
                have t18 := s18' _ _ t13
                have fX := fl X Xl
                walk_at "rd"
                refine rd_ixL (SqL.of Th18) rfl ?_
                walk_at "rd"
                refine rd_ixT (SqT.of t18) rfl ?_
                walk_at "rd"
                refine ⟨R, Dr, _, _, rfl, rfl, R18, D18, by rw [List.length_map, List.length_map]; exact Nat.le_trans (by omega : rs.length + X.length ≤ 1000) line1000, fun p19 hp19 => ?_⟩
                have s19 : Same H18 (upd H18 p19 (.lst (rs.map V.int ++ X.map V.int))) := (Same.refl H18).upd hp19
                walk_at "rd"
                refine ⟨p19, rs ++ X, 0, rfl, ?_, by rw [List.length_append]; omega, fun H20 s20 => ?_⟩
                · rw [List.map_append]
                  exact SqL.of upd_same
                have s20 := Same.trans s19 s20
                walk_at "rd"
                refine rd_dec (fun q6 => ?_) (fun q6 => absurd fX.1 q6)
                walk_at "rd"
                refine rd_ixL (SqL.of (s20 _ _ Th18)) rfl ?_
                walk_at "rd"
                refine rd_ixT (SqT.of (s20 _ _ t18)) rfl ?_
                walk_at "rd"
                refine rd_ndec (fun q7 => absurd fX.2 q7) (fun q7 => ?_)
                walk_at "rd"
                exact ⟨_, _, _, _, _, rfl, Same.trans s18' s20⟩
            · rintro σ H15 ⟨y4, y5, y12, y13, y14, rfl, s15⟩
              walk_at "rd"
              exact ⟨_, _, _, _, _, _, _, _, _, _, _, _, _, _, rfl, Same.trans s13 s15⟩
    · rintro σ H5 ⟨y1, y2, y3, y4, y5, y6, y7, y8, y9, y10, y11, y12, y13, y14, rfl, s5⟩
      walk_at "rd"
      exact kq _
end
end My

set_option Elab.async false
set_option linter.all false
set_option maxRecDepth 100000
set_option maxHeartbeats 4000000
namespace My
open PySem L2 PyProof.Rows
theorem all_mk {l : PySem.W.OpenLaw} {w : World} {K : PySem.W.Frag} {h : Heap} {mg : Str → Option Value} {fa  f0 f1 f2 f3 f4 f5 f6 f7 f8 : Addr} (X : K.In h) (G : h.Ns mainGlobals mg) (hfa : mg "law" = some (.ref fa))
    {od0 an0 od1 an1 od2 an2 od3 an3 od4 an4 od5 an5 od6 an6 od7 an7 od8 an8 : Option Addr} {sl0 sl1 sl2 sl3 sl4 sl5 sl6 sl7 sl8 : Array (Option Value)} {oc0 kV0 dc0 pm0 cd0 ct0 oc1 kV1 dc1 pm1 cd1 ct1 oc2 kV2 dc2 pm2 cd2 ct2 oc3 kV3 dc3 pm3 cd3 ct3 oc4 kV4 dc4 pm4 cd4 ct4 oc5 kV5 dc5 pm5 cd5 ct5 oc6 kV6 dc6 pm6 cd6 ct6 oc7 kV7 dc7 pm7 cd7 ct7 oc8 kV8 dc8 pm8 cd8 ct8 : Value}
    {cVoteError : Addr} {cBadSettings : Addr} {cBadStep : Addr} {cNoSensor : Addr} {cBadRow : Addr}         
    (a0 : PySem.W.nsIn K mainGlobals "middle" = some (some (.ref f0)))
    (l0 : K.lookup f0 = some ⟨oc0, od0, .func (PySem.W.fnOf "middle" "middle" (defArgs s_middle) (defBody s_middle) (defScope s_middle) .none kV0 dc0 pm0 an0 cd0 ct0), sl0⟩)
    (c0 : PySem.W.codeIn K cd0 "middle" = true)
    (k0 : PySem.W.keepIn K (.ref f0) = true)
    (a1 : PySem.W.nsIn K mainGlobals "refuse_too_many" = some (some (.ref f1)))
    (l1 : K.lookup f1 = some ⟨oc1, od1, .func (PySem.W.fnOf "refuse_too_many" "refuse_too_many" (defArgs s_refuse_too_many) (defBody s_refuse_too_many) (defScope s_refuse_too_many) .none kV1 dc1 pm1 an1 cd1 ct1), sl1⟩)
    (c1 : PySem.W.codeIn K cd1 "refuse_too_many" = true)
    (k1 : PySem.W.keepIn K (.ref f1) = true)
    (a2 : PySem.W.nsIn K mainGlobals "farthest" = some (some (.ref f2)))
    (l2 : K.lookup f2 = some ⟨oc2, od2, .func (PySem.W.fnOf "farthest" "farthest" (defArgs s_farthest) (defBody s_farthest) (defScope s_farthest) .none kV2 dc2 pm2 an2 cd2 ct2), sl2⟩)
    (c2 : PySem.W.codeIn K cd2 "farthest" = true)
    (k2 : PySem.W.keepIn K (.ref f2) = true)
    (a3 : PySem.W.nsIn K mainGlobals "worst" = some (some (.ref f3)))
    (l3 : K.lookup f3 = some ⟨oc3, od3, .func (PySem.W.fnOf "worst" "worst" (defArgs s_worst) (defBody s_worst) (defScope s_worst) .none kV3 dc3 pm3 an3 cd3 ct3), sl3⟩)
    (c3 : PySem.W.codeIn K cd3 "worst" = true)
    (k3 : PySem.W.keepIn K (.ref f3) = true)
    (a4 : PySem.W.nsIn K mainGlobals "_law_cell" = some (some (.ref f4)))
    (l4 : K.lookup f4 = some ⟨oc4, od4, .func (PySem.W.fnOf "_law_cell" "_law_cell" (defArgs s__law_cell) (defBody s__law_cell) (defScope s__law_cell) .none kV4 dc4 pm4 an4 cd4 ct4), sl4⟩)
    (c4 : PySem.W.codeIn K cd4 "_law_cell" = true)
    (k4 : PySem.W.keepIn K (.ref f4) = true)
    (a5 : PySem.W.nsIn K mainGlobals "_law_drawn" = some (some (.ref f5)))
    (l5 : K.lookup f5 = some ⟨oc5, od5, .func (PySem.W.fnOf "_law_drawn" "_law_drawn" (defArgs s__law_drawn) (defBody s__law_drawn) (defScope s__law_drawn) .none kV5 dc5 pm5 an5 cd5 ct5), sl5⟩)
    (c5 : PySem.W.codeIn K cd5 "_law_drawn" = true)
    (k5 : PySem.W.keepIn K (.ref f5) = true)
    (a6 : PySem.W.nsIn K mainGlobals "_law_word" = some (some (.ref f6)))
    (l6 : K.lookup f6 = some ⟨oc6, od6, .func (PySem.W.fnOf "_law_word" "_law_word" (defArgs s__law_word) (defBody s__law_word) (defScope s__law_word) .none kV6 dc6 pm6 an6 cd6 ct6), sl6⟩)
    (c6 : PySem.W.codeIn K cd6 "_law_word" = true)
    (k6 : PySem.W.keepIn K (.ref f6) = true)
    (a7 : PySem.W.nsIn K mainGlobals "_law_told" = some (some (.ref f7)))
    (l7 : K.lookup f7 = some ⟨oc7, od7, .func (PySem.W.fnOf "_law_told" "_law_told" (defArgs s__law_told) (defBody s__law_told) (defScope s__law_told) .none kV7 dc7 pm7 an7 cd7 ct7), sl7⟩)
    (c7 : PySem.W.codeIn K cd7 "_law_told" = true)
    (k7 : PySem.W.keepIn K (.ref f7) = true)
    (a8 : PySem.W.nsIn K mainGlobals "law" = some (some (.ref f8)))
    (l8 : K.lookup f8 = some ⟨oc8, od8, .func (PySem.W.fnOf "law" "law" (defArgs s_law) (defBody s_law) (defScope s_law) .none kV8 dc8 pm8 an8 cd8 ct8), sl8⟩)
    (c8 : PySem.W.codeIn K cd8 "law" = true)
    (k8 : PySem.W.keepIn K (.ref f8) = true)
    (z_ValueError : PySem.W.nsIn K mainGlobals "ValueError" = some none)
    (z_abs : PySem.W.nsIn K mainGlobals "abs" = some none)
    (z_int : PySem.W.nsIn K mainGlobals "int" = some none)
    (z_isinstance : PySem.W.nsIn K mainGlobals "isinstance" = some none)
    (z_len : PySem.W.nsIn K mainGlobals "len" = some none)
    (z_list : PySem.W.nsIn K mainGlobals "list" = some none)
    (z_max : PySem.W.nsIn K mainGlobals "max" = some none)
    (z_min : PySem.W.nsIn K mainGlobals "min" = some none)
    (z_range : PySem.W.nsIn K mainGlobals "range" = some none)
    (z_sorted : PySem.W.nsIn K mainGlobals "sorted" = some none)
    (z_sum : PySem.W.nsIn K mainGlobals "sum" = some none)
    (z_tuple : PySem.W.nsIn K mainGlobals "tuple" = some none)
    (anVoteError : PySem.W.nsIn K mainGlobals "VoteError" = some (some (.ref cVoteError)))
    (anBadSettings : PySem.W.nsIn K mainGlobals "BadSettings" = some (some (.ref cBadSettings)))
    (anBadStep : PySem.W.nsIn K mainGlobals "BadStep" = some (some (.ref cBadStep)))
    (anNoSensor : PySem.W.nsIn K mainGlobals "NoSensor" = some (some (.ref cNoSensor)))
    (anBadRow : PySem.W.nsIn K mainGlobals "BadRow" = some (some (.ref cBadRow)))
    (exVoteError : PySem.W.excIn K cVoteError veBm "ValueError.__new__" = true)
    (exBadStep : PySem.W.excIn K cBadStep veBm "ValueError.__new__" = true)
    (gaBadStep : PySem.W.findIn K (.ref cBadStep) "__getattribute__" = some (some (.builtin "BaseException.__getattribute__")))
    (gbBadStep : PySem.W.findIn K (.ref cBadStep) "__getattr__" = some none)
    (gcBadStep : (PySem.W.clsIn K cBadStep).isSome = true)
    (gdBadStep : PySem.W.findIn K (.ref cBadStep) "__class__" = some (some (.builtin "object.__class__")))
    (geBadStep : PySem.W.specialIn K (.builtin "object.__class__") "__get__" = some (some (.builtin "getset_descriptor.__get__")))
    (gfBadStep : PySem.W.takesIn K (.builtin "object.__class__") = some true)
    (ggBadStep : PySem.W.mroIn K cBadStep (.type "object") = some true)
    (ghBadStep : PySem.W.subIn K (.ref cBadStep) (.type "BaseException") = some true)
    (kBadStepVoteError : PySem.W.kitOne K (.ref cBadStep) (.ref cVoteError) = some true)
    (kBadStepBadSettings : PySem.W.kitOne K (.ref cBadStep) (.ref cBadSettings) = some false)
    (kBadStepBadStep : PySem.W.kitOne K (.ref cBadStep) (.ref cBadStep) = some true)
    (kBadStepNoSensor : PySem.W.kitOne K (.ref cBadStep) (.ref cNoSensor) = some false)
    (kBadStepBadRow : PySem.W.kitOne K (.ref cBadStep) (.ref cBadRow) = some false)
    (kVBadStep : PySem.W.kitOne K (.ref cBadStep) (.type "ValueError") = some true) :
    ∃ fd : FuncData, (∀ (s : Shared) (v : Value), BindsTo s fd ⟨[v], []⟩ [("_law_script", v)]) ∧ ∀ base : Heap, K.In base → base.Ns mainGlobals mg → FnOk l.prog w K mg base CX0 9 fa fd ["_law_script"] (sp_law K) := by
  have e := hfa.symm.trans (PySem.W.mg_of X G a8)
  cases e
  have F0 := fun_mk (st := s_middle) l0 c0 k0
  have bd0 := F0.binds (ps := ["numbers", "near"]) fun _ _ _ _ _ _ us hl => match us, hl with | [_, _], _ => rfl
  have F1 := fun_mk (st := s_refuse_too_many) l1 c1 k1
  have bd1 := F1.binds (ps := ["rights", "others"]) fun _ _ _ _ _ _ us hl => match us, hl with | [_, _], _ => rfl
  have F2 := fun_mk (st := s_farthest) l2 c2 k2
  have bd2 := F2.binds (ps := ["rights", "others"]) fun _ _ _ _ _ _ us hl => match us, hl with | [_, _], _ => rfl
  have F3 := fun_mk (st := s_worst) l3 c3 k3
  have bd3 := F3.binds (ps := ["rights", "others", "is_great"]) fun _ _ _ _ _ _ us hl => match us, hl with | [_, _, _], _ => rfl
  have F4 := fun_mk (st := s__law_cell) l4 c4 k4
  have bd4 := F4.binds (ps := ["_law_script", "_law_k"]) fun _ _ _ _ _ _ us hl => match us, hl with | [_, _], _ => rfl
  have F5 := fun_mk (st := s__law_drawn) l5 c5 k5
  have bd5 := F5.binds (ps := ["_law_cell_here", "_law_k"]) fun _ _ _ _ _ _ us hl => match us, hl with | [_, _], _ => rfl
  have F6 := fun_mk (st := s__law_word) l6 c6 k6
  have bd6 := F6.binds (ps := ["_law_e"]) fun _ _ _ _ _ _ us hl => match us, hl with | [_], _ => rfl
  have F7 := fun_mk (st := s__law_told) l7 c7 k7
  have bd7 := F7.binds (ps := ["_law_rights", "_law_others", "_law_which"]) fun _ _ _ _ _ _ us hl => match us, hl with | [_, _, _], _ => rfl
  have F8 := fun_mk (st := s_law) l8 c8 k8
  have bd8 := F8.binds (ps := ["_law_script"]) fun _ _ _ _ _ _ us hl => match us, hl with | [_], _ => rfl
  have T : Txt K mg ⟨f0, _, f1, _, f2, _, f3, _, f4, _, f5, _, f6, _, f7, _, _, _, cVoteError, cBadSettings, cBadStep, cNoSensor, cBadRow⟩ := ⟨F0, bd0, PySem.W.mg_of X G a0, F1, bd1, PySem.W.mg_of X G a1, F2, bd2, PySem.W.mg_of X G a2, F3, bd3, PySem.W.mg_of X G a3, F4, bd4, PySem.W.mg_of X G a4, F5, bd5, PySem.W.mg_of X G a5, F6, bd6, PySem.W.mg_of X G a6, F7, bd7, PySem.W.mg_of X G a7, F8, bd8, PySem.W.mg_of X G a8, PySem.W.mg_none_of X G z_ValueError, PySem.W.mg_none_of X G z_abs, PySem.W.mg_none_of X G z_int, PySem.W.mg_none_of X G z_isinstance, PySem.W.mg_none_of X G z_len, PySem.W.mg_none_of X G z_list, PySem.W.mg_none_of X G z_max, PySem.W.mg_none_of X G z_min, PySem.W.mg_none_of X G z_range, PySem.W.mg_none_of X G z_sorted, PySem.W.mg_none_of X G z_sum, PySem.W.mg_none_of X G z_tuple, PySem.W.mg_of X G anVoteError, PySem.W.mg_of X G anBadSettings, PySem.W.mg_of X G anBadStep, PySem.W.mg_of X G anNoSensor, PySem.W.mg_of X G anBadRow, exVoteError, exBadStep, ⟨gaBadStep, gbBadStep, gcBadStep, gdBadStep, geBadStep, gfBadStep, ggBadStep, ghBadStep⟩, kBadStepVoteError, kBadStepBadSettings, kBadStepBadStep, kBadStepNoSensor, kBadStepBadRow, kVBadStep⟩
  exact ⟨_, fun s v => .of_eq rfl, fun base _ _ => ok_law T⟩
theorem walk {l : PySem.W.OpenLaw} {q : Program} {loose : List Str} {XP : (Str → Option Value) → Heap → Prop} {YP : World → Heap → Prop} {d : DefRec} {K : Params → PySem.W.Frag} (hn : l.most = some 63) (hdf : d.params.defaults = [])
    (hY : ∀ (w : World) (h : Heap), YP w h → (K w.params).In h)
    (F : ∀ (w : World) (mg : Str → Option Value) (fa : Addr) (h : Heap), (K w.params).In h → h.Ns mainGlobals mg → mg d.name = some (.ref fa) →
      ∃ fd : FuncData, (∀ (s : Shared) (u : Value), BindsTo s fd ⟨[u], []⟩ [("_law_script", u)]) ∧ ∀ base : Heap, (K w.params).In base → base.Ns mainGlobals mg → FnOk l.prog w (K w.params) mg base CX0 9 fa fd ["_law_script"] (sp_law (K w.params))) :
    PySem.W.WalkO q loose XP YP l.row.toRowW d [] (fun f vs => PySem.call f vs) :=
  L2.walk_of (n := 63) (k := 9) (x := "_law_script") (CX := fun _ => CX0) (sp := fun w => sp_law (K w.params)) hn (by decide) hdf ⟨rfl, by decide, by decide⟩ hY F (fun _ _ a ns hl _ hS => ⟨a, ns, rfl, hS, hl, fun _ => rfl⟩) fun _ _ _ _ _ z => z
end My
open PySem PySem.W PyProof.Rows
set_option maxRecDepth 100000 in
set_option maxHeartbeats 0 in
theorem PySem.Challenge.cw_midvalue_k17_what_liars_can_do_holds : PySem.Challenge.rw_midvalue_k17_what_liars_can_do.Holds := by
  w_on; o_law; k_head; (case hw => w_witness2)
  k_fill
  refine My.walk (l := PySem.Challenge.rw_midvalue_k17_what_liars_can_do) rfl rfl (fun w h Y => PySem.W.kIn_of Y) ?F
  case F =>
    intro w mg fa h KX G hmg
    refine' My.all_mk KX G hmg ?a0 ?l0 ?c0 ?k0 ?a1 ?l1 ?c1 ?k1 ?a2 ?l2 ?c2 ?k2 ?a3 ?l3 ?c3 ?k3 ?a4 ?l4 ?c4 ?k4 ?a5 ?l5 ?c5 ?k5 ?a6 ?l6 ?c6 ?k6 ?a7 ?l7 ?c7 ?k7 ?a8 ?l8 ?c8 ?k8 ?z_ValueError ?z_abs ?z_int ?z_isinstance ?z_len ?z_list ?z_max ?z_min ?z_range ?z_sorted ?z_sum ?z_tuple ?anVoteError ?anBadSettings ?anBadStep ?anNoSensor ?anBadRow ?exVoteError ?exBadStep ?gaBadStep ?gbBadStep ?gcBadStep ?gdBadStep ?geBadStep ?gfBadStep ?ggBadStep ?ghBadStep ?kBadStepVoteError ?kBadStepBadSettings ?kBadStepBadStep ?kBadStepNoSensor ?kBadStepBadRow ?kVBadStep
    (case a0 => k_is)
    (case l0 => k_is)
    (case c0 => k_is)
    (case k0 => k_is)
    (case a1 => k_is)
    (case l1 => k_is)
    (case c1 => k_is)
    (case k1 => k_is)
    (case a2 => k_is)
    (case l2 => k_is)
    (case c2 => k_is)
    (case k2 => k_is)
    (case a3 => k_is)
    (case l3 => k_is)
    (case c3 => k_is)
    (case k3 => k_is)
    (case a4 => k_is)
    (case l4 => k_is)
    (case c4 => k_is)
    (case k4 => k_is)
    (case a5 => k_is)
    (case l5 => k_is)
    (case c5 => k_is)
    (case k5 => k_is)
    (case a6 => k_is)
    (case l6 => k_is)
    (case c6 => k_is)
    (case k6 => k_is)
    (case a7 => k_is)
    (case l7 => k_is)
    (case c7 => k_is)
    (case k7 => k_is)
    (case a8 => k_is)
    (case l8 => k_is)
    (case c8 => k_is)
    (case k8 => k_is)
    (case z_ValueError => k_is)
    (case z_abs => k_is)
    (case z_int => k_is)
    (case z_isinstance => k_is)
    (case z_len => k_is)
    (case z_list => k_is)
    (case z_max => k_is)
    (case z_min => k_is)
    (case z_range => k_is)
    (case z_sorted => k_is)
    (case z_sum => k_is)
    (case z_tuple => k_is)
    (case anVoteError => k_is)
    (case anBadSettings => k_is)
    (case anBadStep => k_is)
    (case anNoSensor => k_is)
    (case anBadRow => k_is)
    (case exVoteError => kernel_rfl)
    (case exBadStep => kernel_rfl)
    (case gaBadStep => kernel_rfl)
    (case gbBadStep => kernel_rfl)
    (case gcBadStep => kernel_rfl)
    (case gdBadStep => kernel_rfl)
    (case geBadStep => kernel_rfl)
    (case gfBadStep => kernel_rfl)
    (case ggBadStep => kernel_rfl)
    (case ghBadStep => kernel_rfl)
    (case kBadStepVoteError => kernel_rfl)
    (case kBadStepBadSettings => kernel_rfl)
    (case kBadStepBadStep => kernel_rfl)
    (case kBadStepNoSensor => kernel_rfl)
    (case kBadStepBadRow => kernel_rfl)
    (case kVBadStep => kernel_rfl)

