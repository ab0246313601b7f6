import PyProof.Rows.All
import Wide.All
import OpenK.AllK
import Wide.FinOn
import Lean
import PyProof.EqAt
import PyProof.EqKinds
import PyProof.TupleCall
import KE.KDictLaws
import KE.KDictList
import KE.KDictOf
import KE.KEqDict
import KE.KIntText
import KE.KTabLook
import KE.KTryMore
import PyProof.AttrMissHeap
import PyProof.CompUse
import PyProof.ConsumeWalk
import PyProof.Conv_int_bool
import PyProof.DictItems
import PyProof.DictValues
import PyProof.DictWalks
import PyProof.Draws
import PyProof.EnumFor
import PyProof.EnumMake
import PyProof.EnumStmt
import PyProof.ExcClass3
import PyProof.ExcInit
import PyProof.FString5
import PyProof.FactsAll.set
import PyProof.FactsAll.subtypes_5
import PyProof.FactsAll.zip
import PyProof.NeKinds
import PyProof.P3Eq
import PyProof.RangeIter
import PyProof.Rows.SetFrom
import PyProof.Rows.StrNews
import PyProof.SetRoads
import PyProof.StrWalks
import PyProof.SumAny
import PyProof.TupleKey
import PyProof.Walks
import PySem.Challenge.RW_arrayloom_k08_refusals_told
-- CHANGE: your row's module here, as the last of these rows
set_option Elab.async false
set_option linter.all false
set_option maxRecDepth 100000
/-! THE HAND LAYER, for ints, bools, texts, own classes, LISTS and tuples (index, slices, in, append, pop ..), calls, loops. Paste it whole ahead of your own text; what your proof does not reach may be deleted. -/
namespace L2
open PySem PySem.Spec PyProof.Rows

/-- a key: an int or a str -/
abbrev Key := Sum Int Str
def keyIs : Key → Value → Bool
  | .inl k, v => Value.isInt k v
  | .inr x, v => Value.isStrOf x v
def keyH (w : World) : Key → Int
  | .inl k => hashInt k
  | .inr x => hashStr w x
theorem keyIs_shape : ∀ {k : Key} {v : Value}, keyIs k v = true → (∃ i t, k = Sum.inl i ∧ v = Value.int i t) ∨ (∃ x t, k = Sum.inr x ∧ v = Value.str x t)
  | .inl i, v, h => by
    obtain ⟨t, e⟩ := Value.isInt_shape (k := i) (v := v) h
    exact .inl ⟨i, t, rfl, e⟩
  | .inr x, v, h => by
    obtain ⟨t, e⟩ := Value.isStrOf_shape (x := x) (v := v) h
    exact .inr ⟨x, t, rfl, e⟩
theorem key_ll (a b : Int) : decide ((Sum.inl a : Key) = Sum.inl b) = (a == b) := by
  by_cases e : a = b
  · subst e; simp
  · have h : ¬ (Sum.inl a : Key) = Sum.inl b := fun q => e (Sum.inl.inj q)
    rw [decide_eq_false h]
    exact (beq_eq_false_iff_ne.mpr e).symm
theorem key_rr (a b : Str) : decide ((Sum.inr a : Key) = Sum.inr b) = decide (a = b) := by
  by_cases e : a = b
  · subst e; simp
  · have h : ¬ (Sum.inr a : Key) = Sum.inr b := fun q => e (Sum.inr.inj q)
    rw [decide_eq_false h, decide_eq_false e]
theorem key_lr (a : Int) (b : Str) : decide ((Sum.inl a : Key) = Sum.inr b) = false := decide_eq_false (fun q => nomatch q)
theorem key_rl (a : Str) (b : Int) : decide ((Sum.inr a : Key) = Sum.inl b) = false := decide_eq_false (fun q => nomatch q)

def mixKind (prog : Program) (w : World) : PySem.KeyKind prog w Key where
  is := keyIs
  hash := keyH w
  inj := fun v a b ha hb => by
    rcases keyIs_shape ha with ⟨i, t, rfl, rfl⟩ | ⟨x, t, rfl, rfl⟩
    · rcases keyIs_shape hb with ⟨j, u, rfl, e⟩ | ⟨y, u, rfl, e⟩
      · injection e with e1 _; rw [e1]
      · exact nomatch e
    · rcases keyIs_shape hb with ⟨j, u, rfl, e⟩ | ⟨y, u, rfl, e⟩
      · exact nomatch e
      · injection e with e1 _; rw [e1]
  byValue := fun k v h => by
    rcases keyIs_shape h with ⟨i, t, rfl, rfl⟩ | ⟨x, t, rfl, rfl⟩ <;> rfl
  pyHash := fun hv h => by
    rcases keyIs_shape hv with ⟨i, t, rfl, rfl⟩ | ⟨x, t, rfl, rfl⟩
    · exact wpAny_pyHash_int h
    · exact wpAny_pyHash_str h
  eqBool := fun hu hv h => by
    rcases keyIs_shape hu with ⟨i, t, rfl, rfl⟩ | ⟨x, t, rfl, rfl⟩
    · rcases keyIs_shape hv with ⟨j, u, rfl, rfl⟩ | ⟨y, u, rfl, rfl⟩
      · rw [key_ll] at h; exact wpAny_eqBool_int h
      · rw [key_lr] at h; exact SeqAt.EqAt.int_str i t y u _ _ _ _ h
    · rcases keyIs_shape hv with ⟨j, u, rfl, rfl⟩ | ⟨y, u, rfl, rfl⟩
      · rw [key_rl] at h; exact SeqAt.EqAt.str_int x t j u _ _ _ _ h
      · rw [key_rr] at h; exact wpAny_eqBool_str h
  «strs» := fun k x t v h => by
    rcases keyIs_shape h with ⟨i, u, rfl, e⟩ | ⟨y, u, rfl, e⟩
    · exact nomatch e
    · injection e with e1 _
      subst e1
      cases v <;> rfl

end L2

namespace L2
open PySem PySem.Spec PyProof.Rows

/-- a value, without the heap -/
inductive V where
  | non | bl (b : Bool) | int (i : Int) | str (x : Str) | byt (b : Array UInt8) | flt (b : UInt64) | ref (a : Addr) | ty (n : String)
  deriving DecidableEq

def RelV : V → Value → Prop
  | .non, u => u = Value.none
  | .bl b, u => u = Value.bool b
  | .int i, u => ∃ t, u = Value.int i t
  | .str x, u => ∃ t, u = Value.str x t
  | .byt b, u => ∃ t, u = Value.bytes b t
  | .flt b, u => ∃ t, u = Value.float b t
  | .ref a, u => u = Value.ref a
  | .ty n, u => u = Value.type n

abbrev Vals : List V → List Value → Prop := Paired RelV
theorem Vals.length {xs : List V} {us : List Value} (r : Vals xs us) : xs.length = us.length := Paired.length r
theorem Vals.get : ∀ {xs : List V} {us : List Value} {i : Nat} {x : V}, Vals xs us → xs[i]? = some x → ∃ u, us[i]? = some u ∧ RelV x u
  | _, _, _, _, .nil, e => by simp at e
  | _, _, 0, _, .cons r _, e => by simp at e; subst e; exact ⟨_, rfl, r⟩
  | _, _, i + 1, x, .cons _ t, e => by
    obtain ⟨u, h1, h2⟩ := Vals.get (i := i) (x := x) t (by simpa using e)
    exact ⟨u, by simpa using h1, h2⟩
theorem Vals.append : ∀ {xs ys : List V} {us ws : List Value}, Vals xs us → Vals ys ws → Vals (xs ++ ys) (us ++ ws)
  | _, _, _, _, .nil, s => s
  | _, _, _, _, .cons r t, s => .cons r (Vals.append t s)
def RelO : Option V → Option Value → Prop
  | some v, some u => RelV v u
  | none, none => True
  | _, _ => False
def KV {κ : Type} : List (κ × V) → List (κ × Value) → Prop := Paired fun (p : κ × V) (q : κ × Value) => p.1 = q.1 ∧ RelV p.2 q.2

/-- a key of a dict (00_mix): an int or a text -/
def kV : Key → V
  | .inl i => .int i
  | .inr x => .str x

/-- what stands at a tracked address -/
inductive HO where
  /-- a list -/
  | lst (xs : List V)
  /-- a tuple (never changes) -/
  | tup (xs : List V)
  /-- a dict whose keys are ints and texts; one whose keys are tuples of ints and texts (the empty one is both) -/
  | dK (kvs : List (Key × V)) | dT (kvs : List (List Key × V))
  /-- a set of ints: its members, its size -/
  | set (S : Int → Bool) (n : Nat)
  /-- an instance of the class at C, its dict at dx, its attributes -/
  | ins (C dx : Addr) (fs : List (Str × V))
  /-- the dict of the instance at x -/
  | own (x : Addr)
  /-- the dict of an exception -/
  | xd (fs : List (Str × V))
  /-- a bound method, f of x -/
  | met (f x : Addr)
  /-- a range object lo, lo + 1, .. below hi -/
  | rng (lo hi : Int)
  /-- a thing that is known to the object (the script; a dict while a loop walks it): read, never written while it is so -/
  | frz (o : Obj) (u : HO)
  /-- a code object's table -/
  | tbl (ps : Array Value)
  /-- any other thing, by what is true of its one object (a def of one's own: SetO a S n := HO.ext fun h => ..) -/
  | ext (φ : Heap → Prop)

abbrev Hp := Addr → Option HO
def upd (H : Hp) (a : Addr) (o : HO) : Hp := fun b => if b = a then some o else H b
theorem upd_same {H : Hp} {a : Addr} {o : HO} : upd H a o a = some o := by unfold upd; rw [if_pos rfl]
theorem upd_ne {H : Hp} {a b : Addr} {o : HO} (h : b ≠ a) : upd H a o b = H b := by unfold upd; rw [if_neg h]
/-- two objects of different content stand apart -/
theorem ne_of {H : Hp} {a b : Addr} {o u : HO} (h : H a = some o) (h' : H b = some u) (d : o ≠ u) : a ≠ b := by
  intro e; subst e; rw [h] at h'; exact d (Option.some.inj h')
theorem ne_of_none {H : Hp} {a b : Addr} {o : HO} (h : H a = some o) (h' : H b = none) : a ≠ b := by
  intro e; subst e; rw [h] at h'; cases h'

section
variable (P : Program) (w : World)
def ObjOk (H : Hp) (h : Heap) (a : Addr) : HO → Prop
  | .lst xs => xs.length ≤ sizeLine ∧ ∃ (its : List Value) (n : Nat), Vals xs its ∧ h.get? a = some { cls := .type "list", data := .seq its.toArray n }
  | .tup xs => xs.length ≤ sizeLine ∧ ∃ its : List Value, Vals xs its ∧ IsTup h a its.toArray
  | .dK kvs => kvs.length ≤ sizeLine ∧ (a == sysModules) = false ∧ ∃ vs, KV kvs vs ∧ h.DictOf (mixKind P w) a vs
  | .dT kvs => kvs.length ≤ sizeLine ∧ (a == sysModules) = false ∧ ∃ xs : List (List Key × Addr × Value),
      Paired (fun (p : List Key × V) (q : List Key × Addr × Value) => p.1 = q.1 ∧ H q.2.1 = some (.tup (p.1.map kV)) ∧ RelV p.2 q.2.2) kvs xs ∧
      ∃ o es ep, h.get? a = some o ∧ o.ExactDict ∧ o.data = .dict es ep ∧ es.toList = xs.map (entryOfKey (tupleKind (mixKind P w))) ∧ (xs.map (·.1)).Nodup
  | .set S n => h.SetOf (intKind P w) a S n
  | .ins C dx fs => H dx = some (.own a) ∧ fs.length ≤ 1000 ∧ dx ≠ a ∧ h.get? a = some (PySem.W.instObj C dx) ∧
      ∃ mA, h.Ns1 dx mA ∧ (∀ f, RelO (fs.lookup f) (mA f)) ∧ PySem.Within mA (fs.map (·.1))
  | .own _ => ∃ o, h.get? a = some o
  | .xd fs => ∃ mA, h.Ns1 a mA ∧ ∀ f, RelO (fs.lookup f) (mA f)
  | .rng lo hi => ∃ t u v, h.get? a = some { cls := .type "range", data := .fields #[.int lo t, .int hi u, .int 1 v] }
  | .frz o u => h.get? a = some o ∧ ObjOk H h a u
  | .tbl ps => h.get? a = some { cls := .none, data := .fields ps }
  | .met f x => h.get? a = some (PySem.W.methodObj (.ref f) (.ref x))
  | .ext φ => φ h ∧ (∃ o, h.get? a = some o) ∧ ∀ h1 h2 : Heap, φ h1 → (∀ o, h1.get? a = some o → h2.get? a = some o) → φ h2
/-- the abstract heap is held -/
def HOk (H : Hp) (h : Heap) : Prop := ∀ a o, H a = some o → ObjOk P w H h a o
end

section
variable {P : Program} {w : World} {H H' : Hp} {h h' : Heap} {a : Addr} {o : HO}
theorem ObjOk.lt (x : ObjOk P w H h a o) : a < h.objs.size := by
  cases o with
  | lst xs => obtain ⟨_, _, _, _, e⟩ := x; exact Heap.lt_size e
  | tup xs => obtain ⟨_, _, _, p⟩ := x; exact p.lt
  | dK kvs => obtain ⟨_, _, _, _, o, _, _, e, _⟩ := x; exact Heap.lt_size e
  | dT kvs => obtain ⟨_, _, _, _, o, _, _, e, _⟩ := x; exact Heap.lt_size e
  | set S n => obtain ⟨o, _, _, _, e, _⟩ := x; exact Heap.lt_size e
  | ins C dx fs => obtain ⟨_, _, _, e, _⟩ := x; exact Heap.lt_size e
  | own y => obtain ⟨_, e⟩ := x; exact Heap.lt_size e
  | xd fs => obtain ⟨_, ⟨_, _, _, e, _⟩, _⟩ := x; exact Heap.lt_size e
  | rng lo hi => obtain ⟨_, _, _, e⟩ := x; exact Heap.lt_size e
  | frz ob u => obtain ⟨e, _⟩ := x; exact Heap.lt_size e
  | tbl ps => exact Heap.lt_size (show h.get? a = some _ from x)
  | met f y => exact Heap.lt_size (show h.get? a = some _ from x)
  | ext φ => obtain ⟨_, ⟨_, e⟩, _⟩ := x; exact Heap.lt_size e
theorem Paired.mapP {α β : Type} {F G : α → β → Prop} : ∀ {l₁ : List α} {l₂ : List β}, Paired F l₁ l₂ → (∀ a b, F a b → G a b) → Paired G l₁ l₂
  | _, _, .nil, _ => .nil
  | _, _, .cons r t, f => .cons (f _ _ r) (Paired.mapP t f)
/-- what an object's description leans on: its own object, its own dict, the tuples -/
theorem ObjOk.stay (x : ObjOk P w H h a o) (k : ∀ b u, (b = a ∨ H b = some (.own a)) → h.get? b = some u → h'.get? b = some u)
    (ho : ∀ b, H b = some (.own a) → H' b = some (.own a)) (ht : ∀ b xs, H b = some (.tup xs) → H' b = some (.tup xs)) : ObjOk P w H' h' a o := by
  induction o with
  | lst xs => obtain ⟨z, its, n, r, e⟩ := x; exact ⟨z, its, n, r, k _ _ (.inl rfl) e⟩
  | tup xs => obtain ⟨z, its, r, ob, e, c⟩ := x; exact ⟨z, its, r, ob, k _ _ (.inl rfl) e, c⟩
  | dK kvs => obtain ⟨z, y, vs, r, ob, es, ep, e, c⟩ := x; exact ⟨z, y, vs, r, ob, es, ep, k _ _ (.inl rfl) e, c⟩
  | dT kvs =>
    obtain ⟨z, y, xs, r, ob, es, ep, e, c⟩ := x
    exact ⟨z, y, xs, Paired.mapP r fun p q z => ⟨z.1, ht _ _ z.2.1, z.2.2⟩, ob, es, ep, k _ _ (.inl rfl) e, c⟩
  | set S n => obtain ⟨ob, es, ep, t, e, c⟩ := x; exact ⟨ob, es, ep, t, k _ _ (.inl rfl) e, c⟩
  | ins C dx fs =>
    obtain ⟨d, z, ne, e, mA, ⟨od, es, ep, e2, c⟩, r⟩ := x
    exact ⟨ho _ d, z, ne, k _ _ (.inl rfl) e, mA, ⟨od, es, ep, k _ _ (.inr d) e2, c⟩, r⟩
  | own y => obtain ⟨ob, e⟩ := x; exact ⟨ob, k _ _ (.inl rfl) e⟩
  | xd fs => obtain ⟨mA, ⟨od, es, ep, e, c⟩, r⟩ := x; exact ⟨mA, ⟨od, es, ep, k _ _ (.inl rfl) e, c⟩, r⟩
  | rng lo hi => obtain ⟨t, u, v, e⟩ := x; exact ⟨t, u, v, k _ _ (.inl rfl) e⟩
  | frz ob u ih => obtain ⟨e, q⟩ := x; exact ⟨k _ _ (.inl rfl) e, ih q⟩
  | tbl ps =>
    have e : h.get? a = some { cls := .none, data := .fields ps } := x
    show h'.get? a = some { cls := .none, data := .fields ps }
    exact k a _ (.inl rfl) e
  | met f y =>
    have e : h.get? a = some (PySem.W.methodObj (.ref f) (.ref y)) := x
    show h'.get? a = some (PySem.W.methodObj (.ref f) (.ref y))
    exact k a _ (.inl rfl) e
  | ext φ => obtain ⟨p, ⟨o, e⟩, st⟩ := x; exact ⟨st _ _ p fun o q => k _ _ (.inl rfl) q, ⟨o, k _ _ (.inl rfl) e⟩, st⟩
theorem HOk.lt (x : HOk P w H h) (e : H a = some o) : a < h.objs.size := (x a o e).lt
theorem HOk.fresh (x : HOk P w H h) (e : h.objs.size ≤ a) : H a = none := by
  cases q : H a with
  | none => rfl
  | some u => exact absurd (Nat.lt_of_lt_of_le (x.lt q) e) (Nat.lt_irrefl _)
/-- every object of the heap is kept -/
theorem HOk.kept (x : HOk P w H h) (k : ∀ b u, h.get? b = some u → h'.get? b = some u) : HOk P w H h' := fun a o e =>
  (x a o e).stay (fun b u _ q => k b u q) (fun _ q => q) fun _ _ q => q
/-- a new object is laid and tracked -/
theorem HOk.laid (x : HOk P w H h) (k : ∀ b u, h.get? b = some u → h'.get? b = some u) (hp : h.objs.size ≤ a) (new : ObjOk P w (upd H a o) h' a o) : HOk P w (upd H a o) h' := fun b u e => by
  have hn := x.fresh hp
  by_cases hb : b = a
  · subst hb; rw [upd_same] at e; cases e; exact new
  · rw [upd_ne hb] at e
    exact (x b u e).stay (fun c v _ q => k c v q) (fun c q => by rw [upd_ne (ne_of_none q hn)]; exact q) fun c xs q => by rw [upd_ne (ne_of_none q hn)]; exact q
end

/-- what may be read as u: it is u, or a known u -/
def Rd (H : Hp) (a : Addr) (u : HO) : Prop := H a = some u ∨ ∃ o, H a = some (.frz o u)
theorem Rd.ok {P : Program} {w : World} {H : Hp} {h : Heap} {a : Addr} {u : HO} (r : Rd H a u) (x : HOk P w H h) : ObjOk P w H h a u := by
  rcases r with r | ⟨o, r⟩
  · exact x a u r
  · obtain ⟨_, q⟩ := x a _ r
    exact q
/-- what may be written -/
def Mut : Option HO → Prop
  | some (.lst _) => True
  | some (.dK _) => True
  | some (.dT _) => True
  | some (.set _ _) => True
  | some (.ins _ _ _) => True
  | some (.ext _) => True
  | _ => False
section
variable {P : Program} {w : World} {H : Hp} {h h' : Heap} {x e : Addr} {o' : HO}
/-- the object at e is changed: x itself, or the dict of the instance x -/
theorem HOk.write (ok : HOk P w H h) (mu : Mut (H x)) (he : e = x ∨ H e = some (.own x)) (k : ∀ b u, b ≠ e → h.get? b = some u → h'.get? b = some u) (heo : ∃ u, h'.get? e = some u)
    (new : ObjOk P w (upd H x o') h' x o') : HOk P w (upd H x o') h' := fun b u q => by
  have nown : ∀ c y, H c = some (.own y) → c ≠ x := fun c y r z => by subst z; rw [r] at mu; exact mu
  have ntup : ∀ c xs, H c = some (.tup xs) → c ≠ x := fun c xs r z => by subst z; rw [r] at mu; exact mu
  by_cases hb : b = x
  · subst hb; rw [upd_same] at q; cases q; exact new
  · rw [upd_ne hb] at q
    by_cases hbe : b = e
    · have q' : H b = some (.own x) := by
        rcases he with z | z
        · exact absurd (hbe.trans z) hb
        · rw [hbe]; exact z
      rw [q] at q'; cases q'
      obtain ⟨v, hv⟩ := heo
      exact ⟨v, by rw [hbe]; exact hv⟩
    · refine (ok b u q).stay (fun c v hc r => k c v ?_ r) (fun c r => by rw [upd_ne (nown c b r)]; exact r) fun c xs r => by rw [upd_ne (ntup c xs r)]; exact r
      rcases hc with rfl | hc
      · exact hbe
      · rintro rfl
        rcases he with z | z
        · exact nown c b hc z
        · rw [hc] at z; cases z; exact hb rfl
end

/-! ### kept unless tracked; of the frames at fs (the callers') the slots may change (an exception that passes writes there); of the records at ex (iterators) nothing is said -/
structure Un (fs ex : List Addr) (H H' : Hp) (h h' : Heap) : Prop where
  keep : ∀ b o, h.get? b = some o → H b = none → b ∉ fs → b ∉ ex → h'.get? b = some o
  slot : ∀ b o, h.get? b = some o → H b = none → b ∈ fs → b ∉ ex → ∃ sl, h'.get? b = some { o with slots := sl }
  free : ∀ b o, h.get? b = some o → H b = none → b ∉ ex → H' b = none
  there : ∀ b o, h.get? b = some o → b ∉ ex → ∃ o', h'.get? b = some o'
  tups : ∀ b xs, H b = some (.tup xs) → H' b = some (.tup xs)
  frzs : ∀ b o u, H b = some (.frz o u) → H' b = some (.frz o u)
  tbls : ∀ b ps, H b = some (.tbl ps) → ∃ more, H' b = some (.tbl (ps ++ more))
section
variable {fs fs' ex ex' : List Addr} {H H1 H2 : Hp} {h h1 h2 h' : Heap} {a x e : Addr} {o : HO}
theorem Un.any (u : Un fs ex H H1 h h1) {b : Addr} {ob : Obj} (q : h.get? b = some ob) (n : H b = none) (hx : b ∉ ex) : ∃ sl, h1.get? b = some { ob with slots := sl } := by
  by_cases hb : b ∈ fs
  · exact u.slot b ob q n hb hx
  · exact ⟨ob.slots, u.keep b ob q n hb hx⟩
theorem Un.kept (k : ∀ b u, h.get? b = some u → h'.get? b = some u) : Un fs ex H H h h' :=
  ⟨fun b ob q _ _ _ => k b ob q, fun b ob q _ _ _ => ⟨ob.slots, k b ob q⟩, fun _ _ _ n _ => n, fun b ob q _ => ⟨ob, k b ob q⟩, fun _ _ q => q, fun _ _ _ q => q, fun _ ps q => ⟨#[], by rw [q]; simp⟩⟩
theorem Un.refl : Un fs ex H H h h := Un.kept fun _ _ q => q
theorem Un.laid (k : ∀ b u, h.get? b = some u → h'.get? b = some u) (hp : h.objs.size ≤ a) (hn : H a = none) : Un fs ex H (upd H a o) h h' where
  keep := fun b u q _ _ _ => k b u q
  slot := fun b u q _ _ _ => ⟨u.slots, k b u q⟩
  free := fun b u q n _ => by rw [upd_ne (Nat.ne_of_lt (Nat.lt_of_lt_of_le (Heap.lt_size q) hp))]; exact n
  there := fun b u q _ => ⟨u, k b u q⟩
  tups := fun b xs q => by rw [upd_ne (ne_of_none q hn)]; exact q
  frzs := fun b u xs q => by rw [upd_ne (ne_of_none q hn)]; exact q
  tbls := fun b ps q => ⟨#[], by rw [upd_ne (ne_of_none q hn), q]; simp⟩
theorem Un.write (mu : Mut (H x)) (he : e = x ∨ H e = some (.own x)) (k : ∀ b u, b ≠ e → h.get? b = some u → h'.get? b = some u) (heo : ∃ u, h'.get? e = some u) : Un fs ex H (upd H x o) h h' := by
  have hx : ∀ b, H b = none → b ≠ x := fun b n z => by subst z; rw [n] at mu; exact mu
  have hb : ∀ b, H b = none → b ≠ e := fun b n z => by
    subst z
    rcases he with r | r
    · exact hx b n r
    · rw [n] at r; cases r
  have hm : ∀ b u, H b = some u → ¬ Mut (some u) → b ≠ x := fun b u q nm z => by subst z; rw [q] at mu; exact nm mu
  refine ⟨fun b u q n _ _ => k b u (hb b n) q, fun b u q n _ _ => ⟨u.slots, k b u (hb b n) q⟩, fun b u q n _ => by rw [upd_ne (hx b n)]; exact n, fun b u q _ => ?_,
    fun b xs q => by rw [upd_ne (hm b _ q fun z => z)]; exact q, fun b u xs q => by rw [upd_ne (hm b _ q fun z => z)]; exact q, fun b ps q => ⟨#[], by rw [upd_ne (hm b _ q fun z => z), q]; simp⟩⟩
  by_cases hbe : b = e
  · subst hbe; exact heo
  · exact ⟨u, k b u hbe q⟩
end

/-! ### the heap without what is tracked -/
def trk (h : Heap) (H : Hp) : List Addr := (List.range h.objs.size).filter fun a => (H a).isSome
def hidT (h : Heap) (H : Hp) : Heap := PySem.W.hideAll h (trk h H)
theorem hidT_size (h : Heap) (H : Hp) : (hidT h H).objs.size = h.objs.size := PySem.W.hideAll_size _ _
theorem hidT_get {h : Heap} {H : Hp} {b : Addr} {o : Obj} (e : h.get? b = some o) (n : H b = none) : (hidT h H).get? b = some o :=
  PySem.W.hideAll_get _ e fun hm => by
    have q : (H b).isSome = true := (List.mem_filter.mp hm).2
    rw [n] at q; simp at q
theorem of_hidT {h : Heap} {H : Hp} {b : Addr} {o : Obj} (e : (hidT h H).get? b = some o) : h.get? b = some o ∧ H b = none := by
  have e' : h.get? b = some o := PySem.W.of_hideAll (trk h H) e
  refine ⟨e', ?_⟩
  cases q : H b with
  | none => rfl
  | some x =>
    have hm : b ∈ trk h H := List.mem_filter.mpr ⟨List.mem_range.mpr (Heap.lt_size e'), by simp [q]⟩
    have z : (hidT h H).get? b = none := PySem.W.hideAll_none (trk h H) hm
    rw [z] at e; cases e

/-! ### OpenK's ledger, filled with every new object but one -/
end L2

namespace L2
open PySem PySem.Spec PyProof.Rows

/-- the module's facts, over the base: the heap at the law's entry without what is tracked there -/
structure Mod (K : PySem.W.Frag) (mg : Str → Option Value) (base : Heap) : Prop where
  kin : K.In base
  glob : base.Ns mainGlobals mg
  blt : ∃ mb, base.Ns builtinsNs mb ∧ ∀ x : Str, x ≠ "__name__" → mb x = bootBuiltins x
  nolimit : base.NoLimit

/-- the context: a def's body (or a comprehension's block) running. base: fixed through the whole law; s₀, H₀: the entry; outer: the frames whose slots others may change (a def's callers); stack: all frames that run;
   ex: iterators that were made ahead of the entry and are walked here (a comprehension's); fn: the names whose cells were made at the entry (a def: all; a comprehension's block: its own); calm: not within an except suite; pn: pins that every state bears; xe: what is wanted of an exception that leaves the code -/
structure Cx where
  prog : Program
  w : World
  K : PySem.W.Frag
  mg : Str → Option Value
  base : Heap
  A : Around
  N : List Str
  s₀ : Shared
  H₀ : Hp
  env : Env
  outer : List Env
  stack : List Env
  ex : List Addr
  fn : Str → Bool
  calm : Bool
  pn : List (Addr × Obj)
  xe : Value → Shared → Prop
/-- the callers' frames -/
def frs (l : List Env) : List Addr := l.filterMap (·.frame)
abbrev Cx.fs (X : Cx) : List Addr := frs X.outer

def Vis (sc : Scope) (x : Str) : Prop := sc.names.lookup x = some .local ∨ sc.names.lookup x = some .cell ∨ sc.names.lookup x = some .free
def Loc (sc : Scope) (x : Str) : Prop := sc.names.lookup x = some .local ∨ sc.names.lookup x = some .cell
def Look (env : Env) (h : Heap) (m : Str → Option Value) (x : Str) (u : Value) : Prop :=
  (env.kindOf x = some .local ∧ m x = some u) ∨ ((env.kindOf x = some .cell ∨ env.kindOf x = some .free) ∧ ∃ c, env.cells.lookup x = some c ∧ h.IsCell c (some u))

structure Cx.Ok (X : Cx) : Prop where
  mod : Mod X.K X.mg X.base
  kind : X.env.scope.kind = .function
  glob : X.env.globals = mainGlobals
  blt : X.env.builtins = builtinsNs
  above : X.s₀.heap.objs.size ≤ X.env.locals
  inj : ∀ x y c, X.env.cells.lookup x = some c → X.env.cells.lookup y = some c → x = y
  has : ∀ x, (X.env.kindOf x = some .cell ∨ X.env.kindOf x = some .free) → ∃ c, X.env.cells.lookup x = some c
  cab : ∀ x c, X.fn x = true → X.env.cells.lookup x = some c → X.s₀.heap.objs.size ≤ c
  hd : X.calm = true → X.A.handled = none
  frames : X.A.frames = some X.stack
  stk : X.stack = X.outer ∨ (X.stack = X.env :: X.outer ∧ X.env.frame = some X.env.locals)
  exf : ∀ b ∈ X.ex, b ≠ X.env.locals ∧ ∀ x c, X.env.cells.lookup x = some c → c ≠ b
  bs : ∀ b o, X.base.get? b = some o → X.s₀.heap.get? b = some o ∧ X.H₀ b = none
  bsz : X.base.objs.size ≤ X.s₀.heap.objs.size
  noex : ∀ b o, X.base.get? b = some o → b ∉ X.ex
  exfs : ∀ b ∈ X.ex, b ∉ X.fs
  funs : X.s₀.heap.FunFrames X.base X.outer
  frf : ∀ b ∈ X.fs, X.H₀ b = none

structure Inv (X : Cx) (pins : List (Addr × Obj)) (σ : List (Option V)) (H : Hp) (s : Shared) : Prop where
  ok : X.Ok
  os : s.os = X.s₀.os
  bare : AllBare s.gens
  base : Un X.fs X.ex X.H₀ H X.s₀.heap s.heap
  loc : ∃ m, s.heap.Ns X.env.locals m ∧ ∀ (i : Nat) (x : Str) (v : V), X.N[i]? = some x → σ[i]? = some (some v) → Vis X.env.scope x → ∃ u, RelV v u ∧ Look X.env s.heap m x u
  cell : ∀ x c, X.env.cells.lookup x = some c → ∃ v, s.heap.IsCell c v
  free : H X.env.locals = none
  freeC : ∀ x c, X.env.cells.lookup x = some c → H c = none
  pin : ∀ p ∈ X.pn ++ pins, s.heap.get? p.1 = some p.2 ∧ H p.1 = none ∧ p.1 ≠ X.env.locals ∧ p.1 ∉ X.fs ∧ ∀ v, p.2.data ≠ .cell v
  hok : HOk X.prog X.w H s.heap
  len : σ.length = X.N.length

section
variable {X : Cx} {pins : List (Addr × Obj)} {σ : List (Option V)} {H H' : Hp} {s : Shared} {h' : Heap}

theorem Cx.Ok.nofr (ok : X.Ok) {b : Addr} {o : Obj} (e : X.base.get? b = some o) : b ∉ X.fs := fun hb => by
  have := (ok.funs.mem hb).1
  rw [e] at this; cases this
theorem Inv.bs (I : Inv X pins σ H s) : ∀ b o, X.base.get? b = some o → s.heap.get? b = some o ∧ H b = none := fun b o e =>
  ⟨I.base.keep b o (I.ok.bs b o e).1 (I.ok.bs b o e).2 (I.ok.nofr e) (I.ok.noex b o e), I.base.free b o (I.ok.bs b o e).1 (I.ok.bs b o e).2 (I.ok.noex b o e)⟩
theorem Inv.bk (I : Inv X pins σ H s) : ∀ b o, X.base.get? b = some o → s.heap.get? b = some o := fun b o e => (I.bs b o e).1
theorem Inv.mod (I : Inv X pins σ H s) : Mod X.K X.mg X.base := I.ok.mod
theorem Inv.kIn (I : Inv X pins σ H s) : X.K.In s.heap := I.ok.mod.kin.keeps I.bk
theorem Inv.lt (I : Inv X pins σ H s) : X.env.locals < s.heap.objs.size := let ⟨_, hn, _⟩ := I.loc; hn.lt
theorem Inv.sz (I : Inv X pins σ H s) : X.s₀.heap.objs.size ≤ s.heap.objs.size := Nat.le_trans I.ok.above (Nat.le_of_lt I.lt)
theorem Inv.nofs (I : Inv X pins σ H s) {a : Addr} (h : s.heap.objs.size ≤ a) : a ∉ X.fs := fun hb => by
  obtain ⟨_, o, ho, _⟩ := I.ok.funs.mem hb
  exact absurd (Nat.lt_of_lt_of_le (Heap.lt_size ho) (Nat.le_trans I.sz h)) (Nat.lt_irrefl _)
theorem Inv.cne (I : Inv X pins σ H s) : ∀ x c, X.env.cells.lookup x = some c → c ≠ X.env.locals := fun x c e z => by
  obtain ⟨v, o, ho, hd⟩ := I.cell x c e
  obtain ⟨m, ⟨o', es, ep, ho', hd', _⟩, _⟩ := I.loc
  rw [z, ho'] at ho; cases ho; rw [hd'] at hd; cases hd
theorem Inv.funs (I : Inv X pins σ H s) : s.heap.FunFrames X.base X.outer := by
  have all : ∀ (l : List Env), (∀ b ∈ frs l, b ∈ X.fs) → X.s₀.heap.FunFrames X.base l → s.heap.FunFrames X.base l := by
    intro l
    induction l with
    | nil => intro _ _; trivial
    | cons env r ih =>
      intro hs hl
      obtain ⟨hk, ⟨L, o, hf, hn, ho, hd⟩, hr⟩ := hl
      have hL : L ∈ X.fs := hs L (by unfold frs; rw [List.filterMap_cons, hf]; exact List.mem_cons_self)
      obtain ⟨sl, e⟩ := I.base.slot L o ho (I.ok.frf L hL) hL fun z => I.ok.exfs L z hL
      exact ⟨hk, ⟨L, _, hf, hn, e, hd⟩, ih (fun b hb => hs b (by unfold frs; rw [List.filterMap_cons, hf]; exact List.mem_cons_of_mem _ hb)) hr⟩
  exact all X.outer (fun _ hb => hb) I.ok.funs

/-- the frames that run, for a call -/
theorem Inv.stack (I : Inv X pins σ H s) : s.heap.FunFrames X.base X.stack := by
  rcases I.ok.stk with e | ⟨e, hf⟩
  · rw [e]; exact I.funs
  · rw [e]
    obtain ⟨m, hn, _⟩ := I.loc
    refine .cons (by rw [I.ok.kind]; decide) hf hn ?_ I.funs
    exact Heap.get?_none_of_le (Nat.le_trans I.ok.bsz I.ok.above)
theorem Inv.stkSub (I : Inv X pins σ H s) : ∀ b ∈ frs X.stack, b ∈ X.env.locals :: X.fs := fun b hb => by
  rcases I.ok.stk with e | ⟨e, hf⟩
  · rw [e] at hb; exact List.mem_cons_of_mem _ hb
  · rw [e] at hb
    unfold frs at hb
    rw [List.filterMap_cons, hf] at hb
    exact hb
theorem Inv.stkFree (I : Inv X pins σ H s) : ∀ b ∈ frs X.stack, H b = none := fun b hb => by
  rcases List.mem_cons.mp (I.stkSub b hb) with e | hb
  · rw [e]; exact I.free
  · obtain ⟨_, o, ho, _⟩ := I.ok.funs.mem hb
    exact I.base.free b o ho (I.ok.frf b hb) fun z => I.ok.exfs b z hb

/-- THE STEP: the untracked objects but the frame and the records at ch are kept (the callers' frames up to slots), the frame's map is kept, the new abstract heap is held -/
theorem Inv.step {g' : Array GenState} {t' : Nat} {d' : Drawn} {ch : List Addr} (I : Inv X pins σ H s)
    (hch : ∀ b ∈ ch, (b ∈ X.ex ∨ X.s₀.heap.objs.size ≤ b) ∧ b ≠ X.env.locals ∧ (∀ x c, X.env.cells.lookup x = some c → c ≠ b) ∧ ∀ p ∈ X.pn ++ pins, p.1 ≠ b)
    (keep : ∀ b o, b ≠ X.env.locals → b ∉ X.fs → b ∉ ch → s.heap.get? b = some o → H b = none → h'.get? b = some o)
    (slot : ∀ b o, b ≠ X.env.locals → b ∈ X.fs → b ∉ ch → s.heap.get? b = some o → H b = none → ∃ sl, h'.get? b = some { o with slots := sl }) (free : ∀ b o, b ∉ ch → s.heap.get? b = some o → H b = none → H' b = none)
    (there : ∀ b o, b ∉ ch → s.heap.get? b = some o → ∃ o', h'.get? b = some o')
    (tups : ∀ b xs, H b = some (.tup xs) → H' b = some (.tup xs)) (frzs : ∀ b o u, H b = some (.frz o u) → H' b = some (.frz o u)) (tbls : ∀ b ps, H b = some (.tbl ps) → ∃ more, H' b = some (.tbl (ps ++ more)))
    (ns : ∀ m, s.heap.Ns X.env.locals m → h'.Ns X.env.locals m) (hok : HOk X.prog X.w H' h') (hg : AllBare g') :
    Inv X pins σ H' { s with heap := h', gens := g', drawn := d', toks := t' } := by
  have neL : ∀ b o, X.s₀.heap.get? b = some o → b ≠ X.env.locals := fun b o e => Nat.ne_of_lt (Nat.lt_of_lt_of_le (Heap.lt_size e) I.ok.above)
  have neC : ∀ b o, X.s₀.heap.get? b = some o → b ∉ X.ex → b ∉ ch := fun b o e hx hb => by
    rcases (hch b hb).1 with z | z
    · exact hx z
    · exact absurd (Nat.lt_of_lt_of_le (Heap.lt_size e) z) (Nat.lt_irrefl _)
  have cellK : ∀ x c, X.env.cells.lookup x = some c → ∀ v, s.heap.IsCell c v → h'.IsCell c v := fun x c e v ⟨o, ho, hd⟩ => by
    have nch : c ∉ ch := fun z => (hch c z).2.2.1 x c e rfl
    by_cases hc : c ∈ X.fs
    · obtain ⟨sl, q⟩ := slot c o (I.cne x c e) hc nch ho (I.freeC x c e)
      exact ⟨_, q, hd⟩
    · exact ⟨o, keep c o (I.cne x c e) hc nch ho (I.freeC x c e), hd⟩
  refine ⟨I.ok, I.os, hg, ⟨fun b o e n hb hx => ?_, fun b o e n hb hx => ?_, fun b o e n hx => ?_, fun b o e hx => ?_, fun b xs e => tups b xs (I.base.tups b xs e), fun b o xs e => frzs b o xs (I.base.frzs b o xs e), fun b ps e => ?_⟩, ?_, fun x c e => ?_, ?_, fun x c e => ?_, fun p hp => ?_, hok, I.len⟩
  · exact keep b o (neL b o e) hb (neC b o e hx) (I.base.keep b o e n hb hx) (I.base.free b o e n hx)
  · obtain ⟨sl, e1⟩ := I.base.slot b o e n hb hx
    obtain ⟨sl', e2⟩ := slot b _ (neL b o e) hb (neC b o e hx) e1 (I.base.free b o e n hx)
    exact ⟨sl', e2⟩
  · obtain ⟨o', e1⟩ := I.base.there b o e hx
    exact free b o' (neC b o e hx) e1 (I.base.free b o e n hx)
  · obtain ⟨o', e1⟩ := I.base.there b o e hx
    exact there b o' (neC b o e hx) e1
  · obtain ⟨m1, e1⟩ := I.base.tbls b ps e
    obtain ⟨m2, e2⟩ := tbls b _ e1
    exact ⟨m1 ++ m2, by rw [e2, Array.append_assoc]⟩
  · obtain ⟨m, hn, hl⟩ := I.loc
    refine ⟨m, ns m hn, fun i x v e1 e2 e3 => ?_⟩
    obtain ⟨u, r, l⟩ := hl i x v e1 e2 e3
    refine ⟨u, r, ?_⟩
    rcases l with l | ⟨k, c, e, z⟩
    · exact .inl l
    · exact .inr ⟨k, c, e, cellK x c e _ z⟩
  · obtain ⟨v, z⟩ := I.cell x c e
    exact ⟨v, cellK x c e v z⟩
  · obtain ⟨m, ⟨o, _, _, ho, _⟩, _⟩ := I.loc
    exact free _ o (fun z => (hch _ z).2.1 rfl) ho I.free
  · obtain ⟨v, o, ho, hd⟩ := I.cell x c e
    exact free c o (fun z => (hch c z).2.2.1 x c e rfl) ho (I.freeC x c e)
  · obtain ⟨e, n, ne, nf, d⟩ := I.pin p hp
    have nch : p.1 ∉ ch := fun z => (hch p.1 z).2.2.2 p hp rfl
    exact ⟨keep p.1 p.2 ne nf nch e n, free p.1 p.2 nch e n, ne, nf, d⟩
/-- .. where the frame's own object is kept too -/
theorem Inv.un {t' : Nat} (I : Inv X pins σ H s) (u : Un X.fs [] H H' s.heap h') (hok : HOk X.prog X.w H' h') : Inv X pins σ H' { s with heap := h', toks := t' } := by
  obtain ⟨m, ⟨o, es, ep, ho, r⟩, _⟩ := id I.loc
  obtain ⟨sl, hL⟩ := u.any ho I.free (by simp)
  exact I.step (g' := s.gens) (d' := s.drawn) (ch := []) (fun _ z => nomatch z) (fun b o _ hb _ e n => u.keep b o e n hb (by simp)) (fun b o _ hb _ e n => u.slot b o e n hb (by simp)) (fun b o _ e n => u.free b o e n (by simp)) (fun b o _ e => u.there b o e (by simp)) u.tups u.frzs u.tbls (fun m' hm => by
    obtain ⟨o', es', ep', ho', r'⟩ := hm
    rw [ho] at ho'; cases ho'
    exact ⟨_, es', ep', hL, r'⟩) hok I.bare
/-- behind a call (or a comprehension's block): the slots of this frame may have changed too, the records at ch may have turned -/
theorem Inv.call {g' : Array GenState} {t' : Nat} {d' : Drawn} {ch : List Addr} (I : Inv X pins σ H s) (u : Un (frs X.stack) ch H H' s.heap h') (hok : HOk X.prog X.w H' h') (hg : AllBare g')
    (hch : ∀ b ∈ ch, (b ∈ X.ex ∨ X.s₀.heap.objs.size ≤ b) ∧ b ≠ X.env.locals ∧ (∀ x c, X.env.cells.lookup x = some c → c ≠ b) ∧ ∀ p ∈ X.pn ++ pins, p.1 ≠ b) :
    Inv X pins σ H' { s with heap := h', gens := g', drawn := d', toks := t' } := by
  obtain ⟨m, ⟨o, es, ep, ho, r⟩, _⟩ := id I.loc
  obtain ⟨sl, hL⟩ := u.any ho I.free fun z => (hch _ z).2.1 rfl
  exact I.step (ch := ch) hch (fun b o hL hb hc e n => u.keep b o e n (fun z => (List.mem_cons.mp (I.stkSub b z)).elim hL hb) hc) (fun b o _ _ hc e n => u.any e n hc) (fun b o hc e n => u.free b o e n hc) (fun b o hc e => u.there b o e hc) u.tups u.frzs u.tbls (fun m' hm => by
    obtain ⟨o', es', ep', ho', r'⟩ := hm
    rw [ho] at ho'; cases ho'
    exact ⟨_, es', ep', hL, r'⟩) hok hg
/-- an untracked record of ours (an iterator) has turned -/
theorem Inv.turned {t' : Nat} {it : Addr} (I : Inv X pins σ H s) (k : ∀ b o, b ≠ it → s.heap.get? b = some o → h'.get? b = some o) (hn : H it = none) (hL : it ≠ X.env.locals)
    (h1 : it ∈ X.ex ∨ X.s₀.heap.objs.size ≤ it) (h2 : ∀ x c, X.env.cells.lookup x = some c → c ≠ it) (h3 : ∀ p ∈ X.pn ++ pins, p.1 ≠ it) : Inv X pins σ H { s with heap := h', toks := t' } := by
  have nit : ∀ b u, H b = some u → b ≠ it := fun b u e z => by rw [z, hn] at e; cases e
  refine I.step (g' := s.gens) (d' := s.drawn) (ch := [it]) (fun b hb => ?_) (fun b o _ _ hc e _ => k b o (fun z => hc (by simp [z])) e) (fun b o _ _ hc e _ => ⟨o.slots, k b o (fun z => hc (by simp [z])) e⟩) (fun _ _ _ _ n => n)
    (fun b o hc e => ⟨o, k b o (fun z => hc (by simp [z])) e⟩) (fun _ _ e => e) (fun _ _ _ e => e) (fun b ps e => ⟨#[], by rw [e]; simp⟩) (fun m hm => ?_) (fun b u e => ?_) I.bare
  · have e : b = it := by simpa using hb
    subst e
    exact ⟨h1, hL, h2, h3⟩
  · obtain ⟨o, es, ep, ho, r⟩ := hm
    exact ⟨o, es, ep, k _ o (Ne.symm hL) ho, r⟩
  · refine (I.hok b u e).stay (fun c v hc q => k c v ?_ q) (fun _ q => q) fun _ _ q => q
    rcases hc with z | z
    · rw [z]; exact nit b u e
    · exact nit c _ z
theorem Inv.tok (I : Inv X pins σ H s) (t : Nat) : Inv X pins σ H { s with toks := t } := I.un (h' := s.heap) (t' := t) Un.refl I.hok
/-- all objects kept -/
theorem Inv.kept {t' : Nat} (I : Inv X pins σ H s) (k : ∀ b u, s.heap.get? b = some u → h'.get? b = some u) : Inv X pins σ H { s with heap := h', toks := t' } := I.un (Un.kept k) (I.hok.kept k)
/-- a new object laid and tracked -/
theorem Inv.laid {a : Addr} {o : HO} {t' : Nat} (I : Inv X pins σ H s) (k : ∀ b u, s.heap.get? b = some u → h'.get? b = some u) (hp : s.heap.objs.size ≤ a) (new : ObjOk X.prog X.w (upd H a o) h' a o) :
    Inv X pins σ (upd H a o) { s with heap := h', toks := t' } := I.un (Un.laid k hp (I.hok.fresh hp)) (I.hok.laid k hp new)
/-- an object written -/
theorem Inv.write {x e : Addr} {o : HO} {t' : Nat} (I : Inv X pins σ H s) (mu : Mut (H x)) (he : e = x ∨ H e = some (.own x)) (k : ∀ b u, b ≠ e → s.heap.get? b = some u → h'.get? b = some u) (heo : ∃ u, h'.get? e = some u)
    (new : ObjOk X.prog X.w (upd H x o) h' x o) : Inv X pins σ (upd H x o) { s with heap := h', toks := t' } := I.un (Un.write mu he k heo) (I.hok.write mu he k heo new)
/-- forgetting slots, pins -/
theorem Inv.weak {σ' : List (Option V)} (I : Inv X pins σ H s) (hl : σ'.length = σ.length) (w : ∀ (i : Nat) v, σ'[i]? = some (some v) → σ[i]? = some (some v)) : Inv X pins σ' H s :=
  ⟨I.ok, I.os, I.bare, I.base, let ⟨m, hn, hl'⟩ := I.loc; ⟨m, hn, fun i x v e1 e2 e3 => hl' i x v e1 (w i v e2) e3⟩, I.cell, I.free, I.freeC, I.pin, I.hok, hl.trans I.len⟩
theorem Inv.pins_of {pins' : List (Addr × Obj)} (I : Inv X pins σ H s) (h : ∀ p ∈ pins', s.heap.get? p.1 = some p.2 ∧ H p.1 = none ∧ p.1 ≠ X.env.locals ∧ p.1 ∉ X.fs ∧ ∀ v, p.2.data ≠ .cell v) : Inv X pins' σ H s :=
  ⟨I.ok, I.os, I.bare, I.base, I.loc, I.cell, I.free, I.freeC, fun p hp => (List.mem_append.mp hp).elim (fun z => I.pin p (List.mem_append_left _ z)) (h p), I.hok, I.len⟩

theorem nodup_ix {N : List Str} (hN : N.Nodup) {i j : Nat} {x : Str} (a : N[i]? = some x) (b : N[j]? = some x) : i = j := by
  obtain ⟨h1, e1⟩ := List.getElem?_eq_some_iff.mp a
  obtain ⟨h2, e2⟩ := List.getElem?_eq_some_iff.mp b
  exact (List.getElem_inj hN).mp (e1.trans e2.symm)

/-- a name is stored; what changed -/
theorem store_ok2 {M : Model} {A : Around} {E : Value → Shared → Prop} {i : Nat} {x : Str} {v : V} {u : Value} {Q : Unit → Shared → Prop} (I : Inv X pins σ H s) (hN : X.N.Nodup) (hi : X.N[i]? = some x) (hx : Loc X.env.scope x) (r : RelV v u)
    (h : ∀ s', Inv X pins (σ.set i (some v)) H s' → (∃ a, Heap.SameBut a s.heap s'.heap ∧ (a = X.env.locals ∨ X.env.cells.lookup x = some a)) → Q () s') (hf : X.fn x = true ∨ X.env.scope.names.lookup x = some .local := by first | exact .inl rfl | exact .inr rfl | assumption) : wpAny M A (storeName X.env x u) Q E s := by
  obtain ⟨m, hn, hl⟩ := id I.loc
  have hcls : (X.env.scope.kind == .class || (X.env.scope.kind == .module && X.env.locals != X.env.globals)) = false := by rw [I.ok.kind]; rfl
  have hiσ : i < σ.length := by rw [I.len]; exact (List.getElem?_eq_some_iff.mp hi).1
  have cne := I.cne
  have tracked : ∀ {a : Addr} {h' : Heap}, (∃ o, s.heap.get? a = some o ∧ H a = none) → Heap.SameBut a s.heap h' → HOk X.prog X.w H h' := fun {a h'} ha hs b ob e => by
    obtain ⟨_, _, hfree⟩ := ha
    refine (I.hok b ob e).stay (fun c w' hc q => (hs.2 c ?_).trans q) (fun _ q => q) fun _ _ q => q
    rintro rfl
    rcases hc with rfl | hc
    · rw [hfree] at e; cases e
    · rw [hfree] at hc; cases hc
  rcases hx with hk | hk
  · refine wpAny_storeName_local hk hn (fun h' hn' hs => ?_) hcls
    obtain ⟨oL, _, _, hoL, _⟩ := id hn
    refine h _ ⟨I.ok, I.os, I.bare, ⟨fun b o e n hb hx => ?_, fun b o e n hb hx => ?_, I.base.free, fun b o e hx => ?_, I.base.tups, I.base.frzs, I.base.tbls⟩, ⟨_, hn', fun j y v' e1 e2 e3 => ?_⟩, fun y c e => ?_, I.free, I.freeC, fun p hp => ?_, tracked ⟨oL, hoL, I.free⟩ hs, by simpa using I.len⟩ ⟨_, hs, .inl rfl⟩
    · exact (hs.2 b (Nat.ne_of_lt (Nat.lt_of_lt_of_le (Heap.lt_size e) I.ok.above))).trans (I.base.keep b o e n hb hx)
    · obtain ⟨sl, e1⟩ := I.base.slot b o e n hb hx
      exact ⟨sl, (hs.2 b (Nat.ne_of_lt (Nat.lt_of_lt_of_le (Heap.lt_size e) I.ok.above))).trans e1⟩
    · obtain ⟨o', e1⟩ := I.base.there b o e hx
      exact ⟨o', (hs.2 b (Nat.ne_of_lt (Nat.lt_of_lt_of_le (Heap.lt_size e) I.ok.above))).trans e1⟩
    · by_cases hj : j = i
      · subst hj
        rw [hi] at e1; cases e1
        rw [List.getElem?_set_self hiσ] at e2
        cases e2
        exact ⟨u, r, .inl ⟨hk, by simp⟩⟩
      · rw [List.getElem?_set_ne (Ne.symm hj)] at e2
        obtain ⟨u', r', q⟩ := hl j y v' e1 e2 e3
        refine ⟨u', r', ?_⟩
        rcases q with ⟨k, e⟩ | ⟨k, c, e, z⟩
        · refine .inl ⟨k, ?_⟩
          have : y ≠ x := fun e => hj (nodup_ix hN e1 (e ▸ hi))
          simp [this, e]
        · exact .inr ⟨k, c, e, z.sameBut hs (cne y c e)⟩
    · obtain ⟨w', z⟩ := I.cell y c e
      exact ⟨w', z.sameBut hs (cne y c e)⟩
    · obtain ⟨e, n, ne, nf, d⟩ := I.pin p hp
      exact ⟨(hs.2 p.1 ne).trans e, n, ne, nf, d⟩
  · have hfn : X.fn x = true := by
      rcases hf with z | z
      · exact z
      · rw [z] at hk; cases hk
    obtain ⟨c, hc⟩ := I.ok.has x (.inl hk)
    obtain ⟨w', z⟩ := I.cell x c hc
    refine wpAny_storeName_cell I.ok.kind hk hc z (fun h' hc' hs => ?_)
    obtain ⟨oc, hoc, hocd⟩ := id z
    refine h { s with heap := h' } ⟨I.ok, I.os, I.bare, ⟨fun b o e n hb hx => ?_, fun b o e n hb hx => ?_, I.base.free, fun b o e hx => ?_, I.base.tups, I.base.frzs, I.base.tbls⟩, ⟨m, hn.sameBut hs (Ne.symm (cne x c hc)), fun j y v' e1 e2 e3 => ?_⟩, fun y c' e => ?_, I.free, I.freeC, fun p hp => ?_, tracked ⟨oc, hoc, I.freeC x c hc⟩ hs, by simpa using I.len⟩ ⟨c, hs, .inr hc⟩
    · exact (hs.2 b (Nat.ne_of_lt (Nat.lt_of_lt_of_le (Heap.lt_size e) (I.ok.cab x c hfn hc)))).trans (I.base.keep b o e n hb hx)
    · obtain ⟨sl, e1⟩ := I.base.slot b o e n hb hx
      exact ⟨sl, (hs.2 b (Nat.ne_of_lt (Nat.lt_of_lt_of_le (Heap.lt_size e) (I.ok.cab x c hfn hc)))).trans e1⟩
    · obtain ⟨o', e1⟩ := I.base.there b o e hx
      exact ⟨o', (hs.2 b (Nat.ne_of_lt (Nat.lt_of_lt_of_le (Heap.lt_size e) (I.ok.cab x c hfn hc)))).trans e1⟩
    · by_cases hj : j = i
      · subst hj
        rw [hi] at e1; cases e1
        rw [List.getElem?_set_self hiσ] at e2
        cases e2
        exact ⟨u, r, .inr ⟨.inl hk, c, hc, hc'⟩⟩
      · rw [List.getElem?_set_ne (Ne.symm hj)] at e2
        obtain ⟨u', r', q⟩ := hl j y v' e1 e2 e3
        refine ⟨u', r', ?_⟩
        rcases q with q | ⟨k, c', e, z'⟩
        · exact .inl q
        · refine .inr ⟨k, c', e, z'.sameBut hs ?_⟩
          rintro rfl
          exact hj (nodup_ix hN e1 (I.ok.inj _ _ _ e hc ▸ hi))
    · by_cases hcc : c' = c
      · subst hcc; exact ⟨_, hc'⟩
      · obtain ⟨w2, z2⟩ := I.cell y c' e
        exact ⟨w2, z2.sameBut hs hcc⟩
    · obtain ⟨e, n, ne, nf, d⟩ := I.pin p hp
      refine ⟨(hs.2 p.1 ?_).trans e, n, ne, nf, d⟩
      intro q
      rw [q, hoc] at e
      have q' : oc = p.2 := Option.some.inj e
      exact d w' (by rw [← q']; exact hocd)
theorem store_ok {M : Model} {A : Around} {E : Value → Shared → Prop} {i : Nat} {x : Str} {v : V} {u : Value} {Q : Unit → Shared → Prop} (I : Inv X pins σ H s) (hN : X.N.Nodup) (hi : X.N[i]? = some x) (hx : Loc X.env.scope x) (r : RelV v u)
    (h : ∀ s', Inv X pins (σ.set i (some v)) H s' → Q () s') (hf : X.fn x = true ∨ X.env.scope.names.lookup x = some .local := by first | exact .inl rfl | exact .inr rfl | assumption) : wpAny M A (storeName X.env x u) Q E s :=
  store_ok2 I hN hi hx r (fun s' I' _ => h s' I') hf
/-- behind a call or a block, the state as it is -/
theorem Inv.call' {s' : Shared} {ch : List Addr} (I : Inv X pins σ H s) (ho : s'.os = s.os) (u : Un (frs X.stack) ch H H' s.heap s'.heap) (hok : HOk X.prog X.w H' s'.heap) (hg : AllBare s'.gens)
    (hch : ∀ b ∈ ch, (b ∈ X.ex ∨ X.s₀.heap.objs.size ≤ b) ∧ b ≠ X.env.locals ∧ (∀ x c, X.env.cells.lookup x = some c → c ≠ b) ∧ ∀ p ∈ X.pn ++ pins, p.1 ≠ b) : Inv X pins σ H' s' := by
  obtain ⟨h', g', d', t', o'⟩ := s'
  have e : o' = s.os := ho
  subst e
  exact I.call (g' := g') (t' := t') (d' := d') u hok hg hch
end

/-! ### the judgements -/
/-- an exception: its class, its own dict's address (where it has one), the abstract heap behind it -/
abbrev XK := Value → Option Addr → Hp → Prop
abbrev St := List (Option V)
abbrev VK := V → Hp → Prop
/-- an expression's reading; a test's; an argument list's -/
abbrev TE := St → Hp → VK → Prop
abbrev TT := St → Hp → (Bool → Hp → Prop) → Prop
abbrev TA := St → Hp → (List V → Hp → Prop) → Prop
/-- what is wanted behind a statement -/
structure Ends where
  nx : St → Hp → Prop
  rt : VK
  bk : St → Hp → Prop := fun _ _ => False
  ct : St → Hp → Prop := fun _ _ => False
abbrev TS := Ends → St → Hp → Prop

def EP (X : Cx) (pins : List (Addr × Obj)) (σ : St) (Q : VK) (u : Value) (s' : Shared) : Prop := ∃ v H', Inv X pins σ H' s' ∧ RelV v u ∧ Q v H'
def TP (X : Cx) (pins : List (Addr × Obj)) (σ : St) (Q : Bool → Hp → Prop) (b : Bool) (s' : Shared) : Prop := ∃ H', Inv X pins σ H' s' ∧ Q b H'
def AP (X : Cx) (pins : List (Addr × Obj)) (σ : St) (Q : List V → Hp → Prop) (us : List Value) (s' : Shared) : Prop := ∃ vs H', Inv X pins σ H' s' ∧ Vals vs us ∧ Q vs H'
def SP (X : Cx) (pins : List (Addr × Obj)) (D : Ends) (f : Flow) (s' : Shared) : Prop :=
  match f with
  | .next => ∃ σ' H', Inv X pins σ' H' s' ∧ D.nx σ' H'
  | .brk => ∃ σ' H', Inv X pins σ' H' s' ∧ D.bk σ' H'
  | .cont => ∃ σ' H', Inv X pins σ' H' s' ∧ D.ct σ' H'
  | .ret u => ∃ v σ' H', Inv X pins σ' H' s' ∧ RelV v u ∧ D.rt v H'

def PE (X : Cx) (e : Expr) (t : TE) : Prop :=
  ∀ (pins : List (Addr × Obj)) (s : Shared) (σ : St) (H : Hp) (Q : VK), Inv X pins σ H s → t σ H Q → wpAny (model X.prog X.w) X.A (eval e X.env) (EP X pins σ Q) X.xe s
def PT (X : Cx) (e : Expr) (t : TT) : Prop :=
  ∀ (pins : List (Addr × Obj)) (s : Shared) (σ : St) (H : Hp) (Q : Bool → Hp → Prop), Inv X pins σ H s → t σ H Q → wpAny (model X.prog X.w) X.A (isTrue e X.env (eval e X.env)) (TP X pins σ Q) X.xe s
/-- a test whatever its 'whole' is (and, or) -/
def PW (X : Cx) (e : Expr) (t : TT) : Prop :=
  ∀ (whole : Sem Value) (pins : List (Addr × Obj)) (s : Shared) (σ : St) (H : Hp) (Q : Bool → Hp → Prop), Inv X pins σ H s → t σ H Q → wpAny (model X.prog X.w) X.A (isTrue e X.env whole) (TP X pins σ Q) X.xe s
theorem PW.pt {X : Cx} {e : Expr} {t : TT} (h : PW X e t) : PT X e t := h _
/-- an argument list (no star), from the left -/
def PA (X : Cx) (es : List Expr) (t : TA) : Prop :=
  ∀ (pos : Pos) (pins : List (Addr × Obj)) (s : Shared) (σ : St) (H : Hp) (Q : List V → Hp → Prop), Inv X pins σ H s → t σ H Q → wpAny (model X.prog X.w) X.A (spliced (backTo pos (starEach es X.env))) (AP X pins σ Q) X.xe s
def PS (X : Cx) (st : Stmt) (t : TS) : Prop :=
  ∀ (pins : List (Addr × Obj)) (s : Shared) (σ : St) (H : Hp) (D : Ends), Inv X pins σ H s → t D σ H → wpAny (model X.prog X.w) X.A (exec st X.env) (SP X pins D) X.xe s
def PSs (X : Cx) (st : List Stmt) (t : TS) : Prop :=
  ∀ (pins : List (Addr × Obj)) (s : Shared) (σ : St) (H : Hp) (D : Ends), Inv X pins σ H s → t D σ H → wpAny (model X.prog X.w) X.A (execs st X.env) (SP X pins D) X.xe s
/-- weaken the end -/
theorem thn {α : Type} {t : Sem α} {Q Q' : α → Shared → Prop} {M : Model} {A : Around} {E : Value → Shared → Prop} {s : Shared} (h : wpAny M A t Q E s) (hQ : ∀ a s, Q a s → Q' a s) : wpAny M A t Q' E s := wpAny_mono h hQ fun _ _ x => x
end L2

namespace L2
open PySem PySem.Spec PyProof.Rows
section
variable {X : Cx}

/-! ### names and constants -/
def tVar (i : Nat) : TE := fun σ H Q => ∃ v, σ[i]? = some (some v) ∧ Q v H
def tC (v : V) : TE := fun _ H Q => Q v H
theorem pe_var {i : Nat} {x : Str} {pos : Pos} (hN : X.N[i]? = some x) (hv : Vis X.env.scope x) (hd : (x == ("__debug__" : Str)) = false := by decide) (hcd : (x == ("__classdict__" : Str)) = false := by decide) : PE X (.Name x pos) (tVar i) := by
  intro pins s σ H Q I h
  obtain ⟨v, e, h⟩ := h
  obtain ⟨m, hn, hl⟩ := I.loc
  obtain ⟨u, r, l⟩ := hl i x v hN e hv
  have fin : EP X pins σ Q u s := ⟨v, H, I, r, h⟩
  rcases l with ⟨hk, hm⟩ | ⟨hk, c, hc, hcell⟩
  · exact wpAny_Name (wpAny_loadName_local I.ok.kind hk hn hm fin) hd
  · rcases hk with hk | hk
    · exact wpAny_Name (wpAny_loadName_cell I.ok.kind hk hc hcell fin) hd
    · exact wpAny_Name (wpAny_loadName_free I.ok.kind hk hc hcell fin hcd) hd
theorem pe_int {i j pos} : PE X (.Constant (.int i) j pos) (tC (.int i)) := fun _ _ _ H _ I h => wpAny_Constant_int ⟨.int i, H, I.tok _, ⟨_, rfl⟩, h⟩
theorem pe_bl {b j pos} : PE X (.Constant (.bool b) j pos) (tC (.bl b)) := fun _ _ _ H _ I h => Constant_bool ⟨.bl b, H, I, rfl, h⟩
theorem pe_str {x j pos} : PE X (.Constant (.str x) j pos) (tC (.str x)) := fun _ _ _ H _ I h => Calls.Constant_str ⟨.str x, H, I.tok _, ⟨_, rfl⟩, h⟩

/-- a global name of the def -/
def Gl (X : Cx) (x : Str) : Prop := X.env.kindOf x = some .globalImplicit
theorem ld_glob {E : Value → Shared → Prop} {pins : List (Addr × Obj)} {s : Shared} {σ : St} {H : Hp} {x : Str} {u : Value} {pos : Pos} {Q : Value → Shared → Prop} (I : Inv X pins σ H s) (hg : Gl X x) (hm : X.mg x = some u) (h : Q u s)
    (hd : (x == ("__debug__" : Str)) = false := by decide) : wpAny (model X.prog X.w) X.A (eval (.Name x pos) X.env) Q E s :=
  Calls.Name_function_global I.ok.kind hg (Calls.loadGlobal_global (by rw [I.ok.glob]; exact I.mod.glob.keeps I.bk) hm h) hd
theorem ld_blt {E : Value → Shared → Prop} {pins : List (Addr × Obj)} {s : Shared} {σ : St} {H : Hp} {x : Str} {u : Value} {pos : Pos} {Q : Value → Shared → Prop} (I : Inv X pins σ H s) (hg : Gl X x) (hm : X.mg x = none) (hv : bootBuiltins x = some u) (h : Q u s)
    (hn : x ≠ "__name__" := by decide) (hd : (x == ("__debug__" : Str)) = false := by decide) : wpAny (model X.prog X.w) X.A (eval (.Name x pos) X.env) Q E s := by
  obtain ⟨mb, h1, h2⟩ := I.mod.blt
  exact Calls.Name_function_global I.ok.kind hg (Calls.loadGlobal_builtin (by rw [I.ok.glob]; exact I.mod.glob.keeps I.bk) hm (by rw [I.ok.blt]; exact h1.keeps I.bk) ((h2 x hn).trans hv) h) hd
/-- a module's constant, a class, a function, as a value -/
theorem pe_glob {x : Str} {v : V} {u : Value} {pos : Pos} (hg : Gl X x) (hm : X.mg x = some u) (r : RelV v u) (hd : (x == ("__debug__" : Str)) = false := by decide) : PE X (.Name x pos) (tC v) :=
  fun _ _ _ H _ I h => ld_glob I hg hm ⟨v, H, I, r, h⟩ hd
theorem pe_bltn {x : Str} {v : V} {u : Value} {pos : Pos} (hg : Gl X x) (hm : X.mg x = none) (hv : bootBuiltins x = some u) (r : RelV v u) (hn : x ≠ "__name__" := by decide) (hd : (x == ("__debug__" : Str)) = false := by decide) : PE X (.Name x pos) (tC v) :=
  fun _ _ _ H _ I h => ld_blt I hg hm hv ⟨v, H, I, r, h⟩ hn hd

/-! ### arithmetic -/
variable {a b : Expr} {ta tb : TE} {pos : Pos}
/-! ### comparisons -/
/-- a comparison as a value, as a test -/
def tB (t : TE) : TT := fun σ H Q => t σ H fun x H1 => ∃ c, x = .bl c ∧ Q c H1
/-- an expression whose value is a bool, as a test -/
theorem pt_val {e : Expr} {t : TE} (h : PE X e t) (he : ∀ whole, isTrue e X.env whole = (do let v ← whole; standAt e.pos; holding [v] (truthy v)) := by intro _; rfl) : PT X e (tB t) := by
  intro pins s σ H Q I hw
  refine isTrue_plain (thn (h pins s σ H _ I hw) fun v s1 ⟨x, H1, I1, r1, q1⟩ => ?_) (he _)
  obtain ⟨d, rfl, q⟩ := q1
  cases r1
  exact wpAny_truthy_bool ⟨H1, I1, q⟩

/-! ### and, or, not -/
variable {tA tB' : TT} {rest : List Expr}
def tOr (t u : TT) : TT := fun σ H Q => t σ H fun c H1 => if c = true then Q true H1 else u σ H1 Q
def tNot (t : TT) : TT := fun σ H Q => t σ H fun c H1 => Q (!c) H1
theorem pw_or1 (ha : PT X a tA) : PW X (.BoolOp .Or [a] pos) tA := by
  intro wh pins s σ H Q I h
  refine isTrue_or (thn (ha pins s σ H Q I h) fun c s1 e => ?_)
  cases c with
  | false => exact isTrue_or_nil e
  | true => exact e
theorem pw_or (ha : PT X a tA) (hb : PW X (.BoolOp .Or (b :: rest) pos) tB') : PW X (.BoolOp .Or (a :: b :: rest) pos) (tOr tA tB') := by
  intro wh pins s σ H Q I h
  refine isTrue_or (thn (ha pins s σ H _ I h) fun c s1 ⟨H1, I1, q1⟩ => ?_)
  cases c with
  | true => exact ⟨H1, I1, q1⟩
  | false => exact hb wh pins s1 σ H1 Q I1 q1
theorem pt_not (ha : PT X a tA) : PT X (.UnaryOp .Not a pos) (tNot tA) := by
  intro pins s σ H Q I h
  exact isTrue_not (ha pins s σ H (fun c H1 => Q (!c) H1) I h)
end
end L2

namespace L2
open PySem PySem.Spec PyProof.Rows

/-! ### a list, a tuple that is read: tracked, frozen, or an object of the module -/
def SqL (K : PySem.W.Frag) (H : Hp) (a : Addr) (xs : List V) : Prop :=
  Rd H a (.lst xs) ∨
    ∃ (o : Obj) (its : Array Value) (n : Nat), K.lookup a = some o ∧ o.cls = .type "list" ∧ o.dict = none ∧ o.data = .seq its n ∧ its.size ≤ sizeLine ∧ Vals xs its.toList
def SqT (K : PySem.W.Frag) (H : Hp) (a : Addr) (xs : List V) : Prop :=
  Rd H a (.tup xs) ∨
    ∃ (o : Obj) (its : Array Value) (n : Nat), K.lookup a = some o ∧ o.cls = .type "tuple" ∧ o.data = .seq its n ∧ its.size ≤ sizeLine ∧ Vals xs its.toList
section
variable {X : Cx} {pins : List (Addr × Obj)} {σ : St} {H : Hp} {s : Shared} {a : Addr} {xs ys : List V}
theorem SqL.of {K : PySem.W.Frag} (h : H a = some (.lst xs)) : SqL K H a xs := .inl (.inl h)
theorem SqT.of {K : PySem.W.Frag} (h : H a = some (.tup xs)) : SqT K H a xs := .inl (.inl h)
theorem Inv.list (I : Inv X pins σ H s) (h : SqL X.K H a xs) : ∃ its : List Value, Vals xs its ∧ PlainL s.heap a its.toArray ∧ xs.length ≤ sizeLine := by
  rcases h with h | ⟨o, its, n, hk, hc, hd, hs, hz, r⟩
  · obtain ⟨z, its, n, r, e⟩ := h.ok I.hok
    exact ⟨its, r, ⟨_, n, e, rfl, rfl, rfl⟩, z⟩
  · refine ⟨its.toList, r, ⟨o, n, I.kIn a o hk, hc, hd, by simpa using hs⟩, ?_⟩
    have e := r.length
    simp only [Array.length_toList] at e
    omega
theorem Inv.tuple (I : Inv X pins σ H s) (h : SqT X.K H a xs) : ∃ its : List Value, Vals xs its ∧ IsTup s.heap a its.toArray ∧ xs.length ≤ sizeLine := by
  rcases h with h | ⟨o, its, n, hk, hc, hs, hz, r⟩
  · obtain ⟨z, its, r, p⟩ := h.ok I.hok
    exact ⟨its, r, p, z⟩
  · refine ⟨its.toList, r, ⟨o, I.kIn a o hk, hc, n, by simpa using hs⟩, ?_⟩
    have e := r.length
    simp only [Array.length_toList] at e
    omega
end

/-! ### another wish about exceptions -/
abbrev Cx.wish (X : Cx) (E : Value → Shared → Prop) : Cx := { X with xe := E }
/-- no exception leaves -/
abbrev Cx.nox (X : Cx) : Cx := X.wish fun _ _ => False
theorem Cx.Ok.wish {X : Cx} (ok : X.Ok) (E : Value → Shared → Prop) : (X.wish E).Ok :=
  ⟨ok.mod, ok.kind, ok.glob, ok.blt, ok.above, ok.inj, ok.has, ok.cab, ok.hd, ok.frames, ok.stk, ok.exf, ok.bs, ok.bsz, ok.noex, ok.exfs, ok.funs, ok.frf⟩
theorem Cx.Ok.unwish {X : Cx} {E : Value → Shared → Prop} (ok : (X.wish E).Ok) : X.Ok :=
  ⟨ok.mod, ok.kind, ok.glob, ok.blt, ok.above, ok.inj, ok.has, ok.cab, ok.hd, ok.frames, ok.stk, ok.exf, ok.bs, ok.bsz, ok.noex, ok.exfs, ok.funs, ok.frf⟩
section
variable {X : Cx} {pins : List (Addr × Obj)} {σ : St} {H : Hp} {s : Shared} {E : Value → Shared → Prop}
theorem Inv.wish (I : Inv X pins σ H s) (E : Value → Shared → Prop) : Inv (X.wish E) pins σ H s := ⟨I.ok.wish E, I.os, I.bare, I.base, I.loc, I.cell, I.free, I.freeC, I.pin, I.hok, I.len⟩
theorem Inv.unwish (I : Inv (X.wish E) pins σ H s) : Inv X pins σ H s := ⟨I.ok.unwish, I.os, I.bare, I.base, I.loc, I.cell, I.free, I.freeC, I.pin, I.hok, I.len⟩
theorem SP.unwish {D : Ends} {f : Flow} {s' : Shared} (h : SP (X.wish E) pins D f s') : SP X pins D f s' := by
  cases f with
  | next => obtain ⟨σ', H', I, q⟩ := h; exact ⟨σ', H', I.unwish, q⟩
  | brk => obtain ⟨σ', H', I, q⟩ := h; exact ⟨σ', H', I.unwish, q⟩
  | cont => obtain ⟨σ', H', I, q⟩ := h; exact ⟨σ', H', I.unwish, q⟩
  | ret u => obtain ⟨v, σ', H', I, r, q⟩ := h; exact ⟨v, σ', H', I.unwish, r, q⟩
theorem PSs.nox {st : List Stmt} {t : TS} (h : PSs X.nox st t) : PSs X st t := fun pins s σ H D I hw =>
  wpAny_mono (h pins s σ H D (I.wish _) hw) (fun _ _ q => q.unwish) fun _ _ z => False.elim z
end

/-! ### blocks and small statements -/
section
variable {X : Cx} {st : Stmt} {rest : List Stmt} {t u : TS} {e : Expr} {te : TE} {pos : Pos}
def tNext : TS := fun D σ H => D.nx σ H
def tSeq (t u : TS) : TS := fun D σ H => t { D with nx := u D } σ H
theorem pss_nil : PSs X [] tNext := fun _ _ σ H _ I h => wpAny_execs_nil ⟨σ, H, I, h⟩
theorem pss_cons (h1 : PS X st t) (h2 : PSs X rest u) : PSs X (st :: rest) (tSeq t u) := by
  intro pins s σ H D I h
  refine wpAny_execs_cons (thn (h1 pins s σ H { D with nx := u D } I h) fun f s1 q => ?_)
  cases f with
  | next =>
    obtain ⟨σ', H', I', q⟩ := q
    exact h2 pins s1 σ' H' D I' q
  | ret v => exact q
  | brk => exact q
  | cont => exact q
theorem pss_one (h1 : PS X st t) : PSs X [st] t := by
  intro pins s σ H D I h
  refine wpAny_execs_cons (thn (h1 pins s σ H D I h) fun f s1 q => ?_)
  cases f with
  | next => exact wpAny_execs_nil q
  | ret v => exact q
  | brk => exact q
  | cont => exact q
def tRet (te : TE) : TS := fun D σ H => te σ H D.rt
theorem ps_ret (he : PE X e te) : PS X (.Return (some e) pos) (tRet te) := by
  intro pins s σ H D I h
  exact wpAny_Return_some (thn (he pins s σ H _ I h) fun v s1 ⟨x, H1, I1, r1, q1⟩ => ⟨x, σ, H1, I1, r1, q1⟩)
def tIfS (c : TT) (t u : TS) : TS := fun D σ H => c σ H fun b H1 => if b = true then t D σ H1 else u D σ H1
theorem ps_if {c : Expr} {a b : List Stmt} {tc : TT} (hc : PT X c tc) (ha : PSs X a t) (hb : PSs X b u) : PS X (.If c a b pos) (tIfS tc t u) := by
  intro pins s σ H D I h
  refine wpAny_If (thn (hc pins s σ H _ I h) fun d s1 ⟨H1, I1, q1⟩ => ?_)
  cases d with
  | true => exact ha pins s1 σ H1 D I1 q1
  | false => exact hb pins s1 σ H1 D I1 q1
end

/-! ### targets -/
abbrev TG := V → St → Hp → (St → Hp → Prop) → Prop
def PG (X : Cx) (target : Expr) (t : TG) : Prop :=
  ∀ (pins : List (Addr × Obj)) (s : Shared) (σ : St) (H : Hp) (v : V) (u : Value) (Q : St → Hp → Prop), Inv X pins σ H s → RelV v u → t v σ H Q →
    wpAny (model X.prog X.w) X.A (assign target X.env u) (fun _ s' => ∃ σ' H', Inv X pins σ' H' s' ∧ Q σ' H') X.xe s
section
variable {X : Cx} {pos : Pos}
def gName (i : Nat) : TG := fun v σ H Q => Q (σ.set i (some v)) H
theorem pg_name {i : Nat} {x : Str} (hN : X.N.Nodup) (hi : X.N[i]? = some x) (hx : Loc X.env.scope x) (hf : X.fn x = true ∨ X.env.scope.names.lookup x = some .local := by first | exact .inl rfl | exact .inr rfl | assumption) : PG X (.Name x pos) (gName i) := by
  intro pins s σ H v u Q I r h
  exact wpAny_assign_Name (store_ok I hN hi hx r (fun s' I' => ⟨_, H, I', h⟩) hf)
/-- target = value -/
def tAsg (te : TE) (g : TG) : TS := fun D σ H => te σ H fun x H1 => g x σ H1 D.nx
/-- name = value -/
theorem ps_set {i : Nat} {x : Str} {e : Expr} {te : TE} {pos' : Pos} (hN : X.N.Nodup) (hi : X.N[i]? = some x) (hx : Loc X.env.scope x) (he : PE X e te) (hs : swapsWith e (some (.Name x pos')) pos.line X.env = pure false := by rfl) (hf : X.fn x = true ∨ X.env.scope.names.lookup x = some .local := by first | exact .inl rfl | exact .inr rfl | assumption) :
    PS X (.Assign [.Name x pos'] e pos) (tAsg te (gName i)) := by
  intro pins s σ H D I h
  refine wpAny_Assign_Name (thn (he pins s σ H _ I h) fun v s1 ⟨y, H1, I1, r1, q1⟩ => ?_) hs
  exact store_ok I1 hN hi hx r1 (fun s2 I2 => ⟨_, H1, I2, q1⟩) hf
end

/-! ### while -/
section
variable {X : Cx} {pos : Pos}
end

/-! ### what a loop or a comprehension walks -/
/-- at turn i: it yields x (the heap may grow), or it stops -/
structure It where
  go : Nat → Hp → Prop
  yld : Nat → Hp → V → Hp → Prop
  stop : Nat → Hp → Prop
/-- the iterator's own objects may turn: they are not the frame's, not pinned, younger than the entry (or a comprehension's own) -/
def FpOk (X : Cx) (pins : List (Addr × Obj)) (H : Hp) (b : Addr) : Prop :=
  H b = none ∧ b ≠ X.env.locals ∧ b ∉ X.fs ∧ (b ∈ X.ex ∨ X.s₀.heap.objs.size ≤ b) ∧ (∀ x c, X.env.cells.lookup x = some c → c ≠ b) ∧ ∀ p ∈ X.pn ++ pins, p.1 ≠ b
theorem Inv.fpOk {X : Cx} {pins : List (Addr × Obj)} {σ : St} {H H' : Hp} {s : Shared} {b : Addr} (I : Inv X pins σ H s) (hb : s.heap.objs.size ≤ b) (hn : H' b = none) : FpOk X pins H' b := by
  refine ⟨hn, Nat.ne_of_gt (Nat.lt_of_lt_of_le I.lt hb), I.nofs hb, .inr (Nat.le_trans I.sz hb), fun x c e z => ?_, fun p hp z => ?_⟩
  · obtain ⟨v, q⟩ := I.cell x c e
    exact absurd (Nat.lt_of_lt_of_le q.lt (by rw [z]; exact hb)) (Nat.lt_irrefl _)
  · exact absurd (Nat.lt_of_lt_of_le (Heap.lt_size (I.pin p hp).1) (by rw [z]; exact hb)) (Nat.lt_irrefl _)
structure Turn (P : Program) (w : World) (K : PySem.W.Frag) (tg : Expr) (J : It) (fp : List Addr) (it : Addr) (tn : Nat → Heap → Prop) : Prop where
  mem : it ∈ fp
  obj : ∀ i h, tn i h → ∀ b ∈ fp, ∃ o, h.get? b = some o ∧ ∀ v, o.data ≠ .cell v
  keep : ∀ i h h', tn i h → (∀ b ∈ fp, ∀ o, h.get? b = some o → h'.get? b = some o) → tn i h'
  item : ∀ (X : Cx), X.prog = P → X.w = w → X.K = K → X.calm = true → ∀ (i : Nat) (pins : List (Addr × Obj)) (s : Shared) (σ : St) (H : Hp) (E : Value → Shared → Prop), Inv X pins σ H s → (∀ b ∈ fp, FpOk X pins H b) → tn i s.heap → J.go i H →
    wpAny (model P w) X.A (pyNext (.ref it)) (fun r s1 => ∃ u, r = some u ∧
      wpAny (model P w) X.A (letOwnedTupleGo tg (.ref it) u) (fun _ s2 => ∃ x H', Inv X pins σ H' s2 ∧ RelV x u ∧ J.yld i H x H' ∧ tn (i + 1) s2.heap ∧ ∀ b ∈ fp, H' b = none) E s1) E s
  done : ∀ (X : Cx), X.prog = P → X.w = w → X.K = K → X.calm = true → ∀ (i : Nat) (pins : List (Addr × Obj)) (s : Shared) (σ : St) (H : Hp) (E : Value → Shared → Prop), Inv X pins σ H s → (∀ b ∈ fp, FpOk X pins H b) → tn i s.heap → J.stop i H →
    wpAny (model P w) X.A (pyNext (.ref it)) (fun r s1 => r = none ∧ Inv X pins σ H s1) E s
  self : ∀ (A : Around) (i : Nat) (s : Shared) (Q : Value → Shared → Prop) (E : Value → Shared → Prop), tn i s.heap → Q (.ref it) s → wpAny (model P w) A (pyIter (.ref it)) Q E s
abbrev TI := St → Hp → (It → Hp → Prop) → Prop
/-- an iterator has come -/
def PIE (X : Cx) (pins : List (Addr × Obj)) (σ : St) (tg : Expr) (R : It → Hp → Prop) (itv : Value) (s2 : Shared) : Prop :=
  ∃ (it : Addr) (fp : List Addr) (tn : Nat → Heap → Prop) (J : It) (H' : Hp), itv = .ref it ∧ Inv X pins σ H' s2 ∧ Turn X.prog X.w X.K tg J fp it tn ∧ tn 0 s2.heap ∧ (∀ b ∈ fp, FpOk X pins H' b) ∧ R J H'
def PI (X : Cx) (tg iter : Expr) (wi : TI) : Prop :=
  ∀ (pins : List (Addr × Obj)) (s : Shared) (σ : St) (H : Hp) (R : It → Hp → Prop), Inv X pins σ H s → wi σ H R →
    wpAny (model X.prog X.w) X.A (eval iter X.env) (fun v s1 => wpAny (model X.prog X.w) X.A (pyIter v) (PIE X pins σ tg R) X.xe s1) X.xe s

/-- the step ahead of the store is nothing for an iterator that keeps no tuple -/
theorem go_of {M : Model} {A : Around} {E : Value → Shared → Prop} {s : Shared} {tg : Expr} {it : Addr} {u : Value} {o : Obj} {n : String} {vs : Array Value} {Q : Unit → Shared → Prop} (ho : s.heap.get? it = some o) (hc : o.cls = .type n) (hd : o.data = .fields vs)
    (hn : ["enumerate", "zip", "dict_itemiterator", "dict_reverseitemiterator", "odict_iterator", "itertools.zip_longest", "itertools.pairwise"].contains n = false) (hQ : Q () s) : wpAny M A (letOwnedTupleGo tg (.ref it) u) Q E s := by
  unfold letOwnedTupleGo
  cases tg <;> first
    | exact wpAny_pure hQ
    | (cases u <;> first
        | exact wpAny_pure hQ
        | (refine wpAny_bind (wpAny_load ho ?_)
           rw [hc, hd]
           show wpAny M A (if (["enumerate", "zip", "dict_itemiterator", "dict_reverseitemiterator", "odict_iterator", "itertools.zip_longest", "itertools.pairwise"].contains n && vs[0]? == some (rawInt _)) = true then _ else _) Q E s
           rw [if_neg (by intro h; rw [hn, Bool.false_and] at h; cases h)]
           exact wpAny_pure hQ))

/-- lo, lo + 1, .. (n of them) -/
def Itr (lo : Int) (n : Nat) : It := ⟨fun i _ => i < n, fun i H x H' => H' = H ∧ x = .int (lo + i), fun i _ => n ≤ i⟩
theorem turn_range {P : Program} {w : World} {K : PySem.W.Frag} {tg : Expr} (it : Addr) (lo : Int) (n : Nat) : Turn P w K tg (Itr lo n) [it] it (fun i h => IsRangeIter h it (lo + (i : Nat) * 1) ((n : Int) - (i : Nat)) 1) where
  mem := by simp
  obj := fun i h st b hb => by
    have e : b = it := by simpa using hb
    subst e
    exact ⟨_, st, fun v z => by
      have z' : Data.fields _ = Data.cell v := z
      cases z'⟩
  keep := fun i h h' st k => k it (by simp) _ st
  item := by
    intro X hP hw hK hc i pins s σ H E I hf st hg
    subst hP hw hK
    obtain ⟨f0, f1, f2, f3, f4, f5⟩ := hf it (by simp)
    have W := Walks.range (prog := X.prog) (w := X.w) (I.ok.hd hc) it lo 1 n
    refine W.item i s _ _ hg st fun v h' tk hv st' kk => ?_
    obtain ⟨t, rfl⟩ := hv
    have I1 : Inv X pins σ H { s with heap := h', toks := tk } := I.turned (fun b o hb e => kk b o (by simpa using hb) e) f0 f1 f3 f4 f5
    refine ⟨_, rfl, go_of (s := { s with heap := h', toks := tk }) (n := "range_iterator") st' rfl rfl (by decide) ⟨.int (lo + i), H, I1, ⟨t, ?_⟩, ⟨rfl, rfl⟩, st', fun b hb => (hf b hb).1⟩⟩
    rw [Int.mul_one]
  done := by
    intro X hP hw hK hc i pins s σ H E I hf st hg
    subst hP hw hK
    obtain ⟨f0, f1, f2, f3, f4, f5⟩ := hf it (by simp)
    exact wpAny_pyNext_range_end (I.ok.hd hc) st (by have : n ≤ i := hg; omega) fun h' eb => ⟨rfl, I.turned (t' := s.toks) (fun b o hb e => eb b o hb e) f0 f1 f3 f4 f5⟩
  self := fun _ _ _ _ _ st h => wpAny_pyIter_rangeiter st h
end L2

namespace L2
open PySem PySem.Spec PyProof.Rows
section
variable {X : Cx} {tg : Expr}
/-- a range object just made, walked -/
theorem range_it {pins : List (Addr × Obj)} {σ : St} {H : Hp} {s : Shared} {R : It → Hp → Prop} {E : Value → Shared → Prop} {lo hi : Int} {t u v : Tok} {tk : Nat} (I : Inv X pins σ H s) (h1 : -(2 ^ 62) ≤ lo) (h2 : lo < 2 ^ 62) (h3 : -(2 ^ 62) ≤ hi) (h4 : hi < 2 ^ 62)
    (q : R (Itr lo (hi - lo).toNat) H) : wpAny (model X.prog X.w) X.A (pyIter (.ref s.heap.objs.size)) (PIE X pins σ tg R) E { s with heap := s.heap.push { cls := .type "range", data := .fields #[.int lo t, .int hi u, .int 1 v] }, toks := tk } := by
  refine wpAny_pyIter_range (IsRange.new ..) (small_one h1 h2 h3 h4) ?_
  have I1 : Inv X pins σ H { s with heap := s.heap.push { cls := .type "range", data := .fields #[.int lo t, .int hi u, .int 1 v] }, toks := tk } := I.kept fun b o e => Heap.get?_push_of_some _ e
  refine ⟨(s.heap.push { cls := .type "range", data := .fields #[.int lo t, .int hi u, .int 1 v] }).objs.size, [(s.heap.push { cls := .type "range", data := .fields #[.int lo t, .int hi u, .int 1 v] }).objs.size], _, _, H, rfl,
    I1.kept (t' := tk) fun b o e => Heap.get?_push_of_some _ e, turn_range _ lo (hi - lo).toNat, ?_, fun b hb => ?_, q⟩
  · have e1 : lo + ((0 : Nat) : Int) * 1 = lo := by simp
    have e2 : (((hi - lo).toNat : Nat) : Int) - ((0 : Nat) : Int) = Builtin.Range.rangeSize lo hi 1 := by rw [rangeSize_one]; split <;> omega
    show IsRangeIter _ _ (lo + ((0 : Nat) : Int) * 1) ((((hi - lo).toNat : Nat) : Int) - ((0 : Nat) : Int)) 1
    rw [e1, e2]
    exact Heap.get?_push_size _ rfl
  · have e : b = (s.heap.push { cls := .type "range", data := .fields #[.int lo t, .int hi u, .int 1 v] }).objs.size := by simpa using hb
    subst e
    exact I1.fpOk (Nat.le_refl _) (I1.hok.fresh (Nat.le_refl _))
def iRng1 (ta : TA) : TI := fun σ H R => ta σ H fun vs H1 => ∃ j : Int, vs = [.int j] ∧ -(2 ^ 62) ≤ j ∧ j < 2 ^ 62 ∧ R (Itr 0 j.toNat) H1
theorem pi_range1 {a : Expr} {ta : TA} {p pos : Pos} (hg : Gl X "range") (hm : X.mg "range" = none) (ha : PA X [a] ta) (hs : starEach [a] X.env = [(false, eval a X.env)] := by rfl) : PI X tg (.Call (.Name "range" p) [a] [] pos) (iRng1 ta) := by
  intro pins s σ H R I h
  refine Call_ (ld_blt I hg hm boot_range (PyProof.Rows.callWith_type1 (thn (ha pos pins s σ H _ I h) fun us s1 ⟨vs, H1, I1, r1, q1⟩ => ?_) hs rfl))
  obtain ⟨j, e, q1, q2, q⟩ := q1
  subst e
  cases r1 with
  | cons r rr =>
    cases rr
    obtain ⟨t, rfl⟩ := r
    exact call_range_1 (range_it I1 (by omega) (by omega) q1 q2 (by simpa using q))
/-! ### for -/
/-- W: the invariant by the turn and a measure; N: what the body is to reach -/
def tFor (wi : TI) (g : TG) (tb : TS) : TS := fun D σ H => wi σ H fun J H1 => ∃ W : Nat → Nat → St → Hp → Prop, (∃ m, W 0 m σ H1) ∧ ∀ i m σ H, W i m σ H →
  (J.stop i H ∧ D.nx σ H) ∨ (J.go i H ∧ ∃ N : St → Hp → Prop, (∀ σ' H', N σ' H' → ∃ m', m' < m ∧ W (i + 1) m' σ' H') ∧ ∀ x H', J.yld i H x H' → g x σ H' fun σ2 H2 => tb { D with nx := N, ct := N, bk := D.nx } σ2 H2)
/-- the records at fp as they stand -/
def pinsAt (fp : List Addr) (h : Heap) : List (Addr × Obj) := fp.filterMap fun b => (h.get? b).map fun o => (b, o)
theorem mem_pinsAt {fp : List Addr} {h : Heap} {b : Addr} {o : Obj} (hb : b ∈ fp) (e : h.get? b = some o) : (b, o) ∈ pinsAt fp h := List.mem_filterMap.mpr ⟨b, hb, by rw [e]; rfl⟩
theorem of_pinsAt {fp : List Addr} {h : Heap} {p : Addr × Obj} (hp : p ∈ pinsAt fp h) : p.1 ∈ fp ∧ h.get? p.1 = some p.2 := by
  obtain ⟨b, hb, e⟩ := List.mem_filterMap.mp hp
  cases q : h.get? b with
  | none => rw [q] at e; cases e
  | some o =>
    rw [q] at e
    have e' : (b, o) = p := Option.some.inj e
    subst e'
    exact ⟨hb, q⟩
theorem Inv.pinned {pins : List (Addr × Obj)} {σ : St} {H : Hp} {s : Shared} {fp : List Addr} (I : Inv X pins σ H s) (hf : ∀ b ∈ fp, FpOk X pins H b) (ho : ∀ b ∈ fp, ∃ o, s.heap.get? b = some o ∧ ∀ v, o.data ≠ .cell v) : Inv X (pins ++ pinsAt fp s.heap) σ H s :=
  I.pins_of fun p hp => (List.mem_append.mp hp).elim (fun z => I.pin p (List.mem_append_right _ z)) fun z => by
    obtain ⟨hb, e⟩ := of_pinsAt z
    obtain ⟨f0, f1, f2, _⟩ := hf p.1 hb
    obtain ⟨o, e', d⟩ := ho p.1 hb
    rw [e] at e'; cases e'
    exact ⟨e, f0, f1, f2, d⟩
theorem Inv.unpinned {pins pl : List (Addr × Obj)} {σ : St} {H : Hp} {s : Shared} (I : Inv X (pins ++ pl) σ H s) : Inv X pins σ H s := I.pins_of fun p hp => I.pin p (List.mem_append_right _ (List.mem_append_left _ hp))
theorem ps_for {iter : Expr} {body : List Stmt} {wi : TI} {g : TG} {tb : TS} {pos : Pos} (hp : PassesOwn (model X.prog X.w) X.A X.env X.xe) (hc : X.calm = true) (hi : PI X tg iter wi) (hg : PG X tg g) (hb : PSs X body tb)
    (hs : ∀ x, foldedSetIterable iter X.env x = pure x := by intro _; rfl) : PS X (.For tg iter body [] pos) (tFor wi g tb) := by
  intro pins s σ H D I h
  refine wpAny_For (thn (hi pins s σ H _ I h) fun v s1 h1 => thn h1 fun itv s2 h2 => ?_) hs
  obtain ⟨it, fp, tn, J, H2, e, I2, T, st2, f2, W, ⟨m0, w0⟩, turn⟩ := h2
  subst e
  -- what stays true of the iterator's objects through the loop
  have stat : ∀ {H' : Hp}, (∀ b ∈ fp, H' b = none) → ∀ b ∈ fp, FpOk X pins H' b := fun hn b hb => ⟨hn b hb, (f2 b hb).2⟩
  refine codeAny_forLoop_any (fun n s' => ∃ i σ' H', Inv X pins σ' H' s' ∧ tn i s'.heap ∧ (∀ b ∈ fp, H' b = none) ∧ W i n σ' H') ?_ m0 ⟨0, σ, H2, I2, st2, fun b hb => (f2 b hb).1, w0⟩
  rintro n s3 ⟨i, σ3, H3, I3, st3, fr3, w3⟩
  rcases turn i n σ3 H3 w3 with ⟨stop, qn⟩ | ⟨go, N, hN, step⟩
  · refine wpAny_passesOwn hp (thn (T.done X rfl rfl rfl hc i pins s3 σ3 H3 X.xe I3 (stat fr3) st3 stop) fun r s4 ⟨hr, I4⟩ => ?_)
    subst hr
    exact wpAny_execs_nil ⟨σ3, H3, I4, qn⟩
  · refine wpAny_passesOwn hp (thn (T.item X rfl rfl rfl hc i pins s3 σ3 H3 X.xe I3 (stat fr3) st3 go) fun r s4 ⟨u, hr, h4⟩ => ?_)
    subst hr
    refine wpAny_passesOwn hp (thn h4 fun _ s5 ⟨x, H5, I5, r5, y5, st5, fr5⟩ => ?_)
    have I5' := I5.pinned (stat fr5) (T.obj _ _ st5)
    refine wpAny_passesOwn hp (thn (hg _ s5 σ3 H5 x u _ I5' r5 (step x H5 y5)) fun _ s6 ⟨σ6, H6, I6, q6⟩ => ?_)
    refine wpAny_passesOwn hp (thn (hb _ s6 σ6 H6 _ I6 q6) fun f s7 q7 => ?_)
    have again : ∀ {σ7 : St} {H7 : Hp}, Inv X (pins ++ pinsAt fp s5.heap) σ7 H7 s7 → N σ7 H7 → ∃ m, m < n ∧ ∃ i σ' H', Inv X pins σ' H' s7 ∧ tn i s7.heap ∧ (∀ b ∈ fp, H' b = none) ∧ W i m σ' H' := fun {σ7 H7} I7 n7 => by
      obtain ⟨m', hm, w7⟩ := hN σ7 H7 n7
      refine ⟨m', hm, i + 1, σ7, H7, I7.unpinned, T.keep _ _ _ st5 fun b hb o e => (I7.pin (b, o) (List.mem_append_right _ (List.mem_append_right _ (mem_pinsAt hb e)))).1, fun b hb => ?_, w7⟩
      obtain ⟨o, e, d⟩ := T.obj _ _ st5 b hb
      exact (I7.pin (b, o) (List.mem_append_right _ (List.mem_append_right _ (mem_pinsAt hb e)))).2.1
    cases f with
    | next => obtain ⟨σ7, H7, I7, n7⟩ := q7; exact again I7 n7
    | cont => obtain ⟨σ7, H7, I7, n7⟩ := q7; exact again I7 n7
    | brk => obtain ⟨σ7, H7, I7, q7⟩ := q7; exact ⟨σ7, H7, I7.unpinned, q7⟩
    | ret v => obtain ⟨x7, σ7, H7, I7, r7, q7⟩ := q7; exact ⟨x7, σ7, H7, I7.unpinned, r7, q7⟩
end

/-! ### the forms one uses -/
theorem for_range {lo : Int} {n : Nat} {g : TG} {tb : TS} {D : Ends} {σ : St} {H : Hp} (Pv : Nat → St → Hp → Prop) (h0 : Pv 0 σ H)
    (hs : ∀ i σ H, i < n → Pv i σ H → g (.int (lo + i)) σ H fun σ2 H2 => tb { D with nx := Pv (i + 1), ct := Pv (i + 1), bk := D.nx } σ2 H2) (hd : ∀ σ H, Pv n σ H → D.nx σ H) :
    ∃ W : Nat → Nat → St → Hp → Prop, (∃ m, W 0 m σ H) ∧ ∀ i m σ H, W i m σ H →
      ((Itr lo n).stop i H ∧ D.nx σ H) ∨ ((Itr lo n).go i H ∧ ∃ N : St → Hp → Prop, (∀ σ' H', N σ' H' → ∃ m', m' < m ∧ W (i + 1) m' σ' H') ∧ ∀ x H', (Itr lo n).yld i H x H' → g x σ H' fun σ2 H2 => tb { D with nx := N, ct := N, bk := D.nx } σ2 H2) := by
  refine ⟨fun i m σ H => m = n - i ∧ i ≤ n ∧ Pv i σ H, ⟨n, by simp, Nat.zero_le _, h0⟩, ?_⟩
  rintro i m σ H ⟨rfl, hi, p⟩
  by_cases hlt : i < n
  · refine .inr ⟨hlt, Pv (i + 1), fun σ' H' p' => ⟨n - (i + 1), by omega, rfl, hlt, p'⟩, fun x H' y => ?_⟩
    obtain ⟨e, y⟩ := y
    subst e y
    exact hs i σ _ hlt p
  · have e : i = n := by omega
    subst e
    exact .inl ⟨Nat.le_refl _, hd σ H p⟩
end L2

namespace L2
open PySem PySem.Spec PyProof.Rows

abbrev R2 := V → V → Hp → VK → Prop
/-- a two-place operation on values: f is binaryOp op, inplaceOp op or compareOp op -/
def OpR (X : Cx) (f : Value → Value → Sem Value) (r : R2) : Prop :=
  ∀ (pins : List (Addr × Obj)) (s : Shared) (σ : St) (H : Hp) (x y : V) (v u : Value) (Q : VK), Inv X pins σ H s → RelV x v → RelV y u → r x y H Q →
    wpAny (model X.prog X.w) X.A (f v u) (EP X pins σ Q) X.xe s
/-- a call of a value that is known (a builtin, a type) with values -/
def CallR (X : Cx) (f : Value) (r : List V → Hp → VK → Prop) : Prop :=
  ∀ (pins : List (Addr × Obj)) (s : Shared) (σ : St) (H : Hp) (xs : List V) (us : List Value) (Q : VK), Inv X pins σ H s → Vals xs us → r xs H Q →
    wpAny (model X.prog X.w) X.A (call f us) (EP X pins σ Q) X.xe s
def tOp (r : R2) (ta tb : TE) : TE := fun σ H Q => ta σ H fun x H1 => tb σ H1 fun y H2 => r x y H2 Q
/-- ints in, under C, and a value out -/
def rI (C : Int → Int → Prop) (g : Int → Int → V) : R2 := fun x y H Q => ∃ i j, x = .int i ∧ y = .int j ∧ C i j ∧ Q (g i j) H
def rI0 (g : Int → Int → V) : R2 := fun x y H Q => ∃ i j, x = .int i ∧ y = .int j ∧ Q (g i j) H
section
variable {X : Cx} {a b c : Expr} {ta tb tc : TE} {pos : Pos}

theorem binT (ha : PE X a ta) (hb : PE X b tb) {pins : List (Addr × Obj)} {s : Shared} {σ : St} {H : Hp} {R : V → V → Hp → Prop} (I : Inv X pins σ H s)
    (h : ta σ H fun x H1 => tb σ H1 fun y H2 => R x y H2) {Q : Value → Shared → Prop} {f : Value → Value → Sem Value}
    (hf : ∀ v u s2 x y H2, Inv X pins σ H2 s2 → RelV x v → RelV y u → R x y H2 → wpAny (model X.prog X.w) X.A (f v u) Q X.xe s2) :
    wpAny (model X.prog X.w) X.A (eval a X.env) (fun v s₁ => wpAny (model X.prog X.w) X.A (eval b X.env) (fun u s₂ => wpAny (model X.prog X.w) X.A (f v u) Q X.xe s₂) X.xe s₁) X.xe s := by
  refine thn (ha pins s σ H _ I h) fun v s1 ⟨x, H1, I1, r1, q1⟩ => ?_
  refine thn (hb pins s1 σ H1 _ I1 q1) fun u s2 ⟨y, H2, I2, r2, q2⟩ => ?_
  exact hf v u s2 x y H2 I2 r1 r2 q2

theorem pe_op {op : Operator} {r : R2} (ho : OpR X (binaryOp op) r) (ha : PE X a ta) (hb : PE X b tb) : PE X (.BinOp a op b pos) (tOp r ta tb) := by
  intro pins s σ H Q I h
  exact wpAny_BinOp (binT ha hb I h fun v u s2 x y H2 I2 rx ry q => ho pins s2 σ H2 x y v u Q I2 rx ry q)
/-! ### ints -/
theorem opI {f : Value → Value → Sem Value} {C : Int → Int → Prop} {g : Int → Int → Int}
    (rule : ∀ (i j : Int) (t u : Tok) (s : Shared) (Q : Value → Shared → Prop) (E : Value → Shared → Prop), C i j → Q (.int (g i j) s.toks) { s with toks := s.toks + 1 } → wpAny (model X.prog X.w) X.A (f (.int i t) (.int j u)) Q E s) :
    OpR X f (rI C fun i j => .int (g i j)) := by
  intro pins s σ H x y v u Q I rx ry h
  obtain ⟨i, j, rfl, rfl, hc, q⟩ := h
  obtain ⟨t, rfl⟩ := rx
  obtain ⟨t', rfl⟩ := ry
  exact rule i j t t' s _ _ hc ⟨.int (g i j), H, I.tok _, ⟨_, rfl⟩, q⟩
theorem opI0 {f : Value → Value → Sem Value} {g : Int → Int → Int}
    (rule : ∀ (i j : Int) (t u : Tok) (s : Shared) (Q : Value → Shared → Prop) (E : Value → Shared → Prop), Q (.int (g i j) s.toks) { s with toks := s.toks + 1 } → wpAny (model X.prog X.w) X.A (f (.int i t) (.int j u)) Q E s) :
    OpR X f (rI0 fun i j => .int (g i j)) := by
  intro pins s σ H x y v u Q I rx ry h
  obtain ⟨i, j, rfl, rfl, q⟩ := h
  obtain ⟨t, rfl⟩ := rx
  obtain ⟨t', rfl⟩ := ry
  exact rule i j t t' s _ _ ⟨.int (g i j), H, I.tok _, ⟨_, rfl⟩, q⟩
theorem opB0 {f : Value → Value → Sem Value} {g : Int → Int → Bool}
    (rule : ∀ (i j : Int) (t u : Tok) (s : Shared) (Q : Value → Shared → Prop) (E : Value → Shared → Prop), Q (.bool (g i j)) s → wpAny (model X.prog X.w) X.A (f (.int i t) (.int j u)) Q E s) :
    OpR X f (rI0 fun i j => .bl (g i j)) := by
  intro pins s σ H x y v u Q I rx ry h
  obtain ⟨i, j, rfl, rfl, q⟩ := h
  obtain ⟨t, rfl⟩ := rx
  obtain ⟨t', rfl⟩ := ry
  exact rule i j t t' s _ _ ⟨.bl (g i j), H, I, rfl, q⟩

def CDiv (i j : Int) : Prop := 0 < j ∧ j < 1073741824
def CPow (i j : Int) : Prop := 0 ≤ j ∧ j ≤ 1000000 ∧ i.natAbs < 2 ^ 64
def CMul (i j : Int) : Prop := (-(2 ^ 64) < i ∧ i < 2 ^ 64) ∨ (-(2 ^ 64) < j ∧ j < 2 ^ 64)
theorem CMul.ok {i j : Int} (h : CMul i j) : IntMulOk i j := by
  rcases h with ⟨h1, h2⟩ | ⟨h1, h2⟩
  · exact .of_left (intBits_le_64 h1 h2)
  · exact .of_right (intBits_le_64 h1 h2)
theorem op_add : OpR X (binaryOp .Add) (rI0 fun i j => .int (i + j)) := opI0 fun _ _ _ _ _ _ _ q => add_int q
theorem op_sub : OpR X (binaryOp .Sub) (rI0 fun i j => .int (i - j)) := opI0 fun _ _ _ _ _ _ _ q => sub_int q
theorem op_mul : OpR X (binaryOp .Mult) (rI CMul fun i j => .int (i * j)) := opI fun _ _ _ _ _ _ _ hc q => mul_int q hc.ok
/-- // by a positive divisor -/
theorem op_fdiv : OpR X (binaryOp .FloorDiv) (rI CDiv fun i j => .int (i / j)) := opI fun i j _ _ _ _ _ hc q => by
  have h1 : (0 : Int) < j := hc.1
  have h2 : j < 1073741824 := hc.2
  exact floordiv_int (by omega) (by rw [Int.fdiv_eq_ediv_of_nonneg i (by omega)]; exact q) (.inl (PyProof.noPylong_small (by omega)))
/-- % by a positive divisor of any size -/
theorem op_mod : OpR X (binaryOp .Mod) (rI (fun _ j => 0 < j) fun i j => .int (i % j)) := opI fun i j _ _ _ _ _ hc q => by
  have h1 : (0 : Int) < j := hc
  exact mod_int' (by omega) (by rw [Int.fmod_eq_emod_of_nonneg i (by omega)]; exact q)
theorem op_pow : OpR X (binaryOp .Pow) (rI CPow fun i j => .int (i ^ j.toNat)) := opI fun _ _ _ _ _ _ _ hc q => pow_int_small hc.1 hc.2.1 hc.2.2 q
/-! ### bools among ints: n += (a < b) -/
end

/-! ### comparisons -/
/-- the scalars that == tells apart as data does -/
def scal : V → V → Bool
  | .non, .non => true | .non, .int _ => true | .int _, .non => true | .non, .bl _ => true | .bl _, .non => true | .non, .str _ => true | .str _, .non => true
  | .int _, .int _ => true | .bl _, .bl _ => true | .str _, .str _ => true | .byt _, .byt _ => true
  | .int _, .str _ => true | .str _, .int _ => true | .bl _, .str _ => true | .str _, .bl _ => true
  | _, _ => false
def rEq : R2 := fun x y H Q => scal x y = true ∧ Q (.bl (decide (x = y))) H
theorem dec_int {i j : Int} : decide (V.int i = V.int j) = (i == j) := by
  rw [Bool.eq_iff_iff]
  simp
theorem dec_bl {i j : Bool} : decide (V.bl i = V.bl j) = (i == j) := by
  rw [Bool.eq_iff_iff]
  simp
theorem dec_str {i j : Str} : decide (V.str i = V.str j) = (i == j) := by
  rw [Bool.eq_iff_iff]
  simp
theorem dec_byt {i j : Array UInt8} : decide (V.byt i = V.byt j) = (i.toList == j.toList) := by
  rw [Bool.eq_iff_iff]
  cases i
  cases j
  simp

section
variable {X : Cx} {a b c : Expr} {ta tb tc : TE} {pos : Pos}
theorem fin_bl {pins : List (Addr × Obj)} {σ : St} {H : Hp} {s : Shared} {Q : VK} {k k' : Bool} (I : Inv X pins σ H s) (q : Q (.bl k) H) (e : k = k') : EP X pins σ Q (.bool k') s := by
  subst e
  exact ⟨.bl k, H, I, rfl, q⟩
theorem op_eq : OpR X (compareOp .Eq) rEq := by
  intro pins s σ H x y v u Q I rx ry h
  obtain ⟨hs, q⟩ := h
  cases x with
  | non =>
    cases rx
    cases y with
    | non => cases ry; exact PySem.EqNone.eq_none_none (fin_bl I q (by simp))
    | bl j => cases ry; exact PySem.EqNone.eq_none_bool (fin_bl I q (by simp))
    | int j => obtain ⟨t', rfl⟩ := ry; exact PySem.EqNone.eq_none_int (fin_bl I q (by simp))
    | str j => obtain ⟨t', rfl⟩ := ry; exact PySem.EqNone.eq_none_str (fin_bl I q (by simp))
    | _ => exact absurd (show false = true from hs) Bool.false_ne_true
  | bl i =>
    cases rx
    cases y with
    | non => cases ry; exact PySem.EqNone.eq_bool_none (fin_bl I q (by simp))
    | bl j => cases ry; exact eq_bool (fin_bl I q dec_bl)
    | str j => obtain ⟨t', rfl⟩ := ry; exact PySem.EqMixed.eq_bool_str (fin_bl I q (by simp))
    | _ => exact absurd (show false = true from hs) Bool.false_ne_true
  | int i =>
    obtain ⟨t, rfl⟩ := rx
    cases y with
    | non => cases ry; exact PySem.EqNone.eq_int_none (fin_bl I q (by simp))
    | int j => obtain ⟨t', rfl⟩ := ry; exact eq_int (fin_bl I q dec_int)
    | str j => obtain ⟨t', rfl⟩ := ry; exact PySem.EqMixed.eq_int_str (fin_bl I q (by simp))
    | _ => exact absurd (show false = true from hs) Bool.false_ne_true
  | str i =>
    obtain ⟨t, rfl⟩ := rx
    cases y with
    | non => cases ry; exact PySem.EqNone.eq_str_none (fin_bl I q (by simp))
    | bl j => cases ry; exact PySem.EqMixed.eq_str_bool (fin_bl I q (by simp))
    | int j => obtain ⟨t', rfl⟩ := ry; exact PySem.EqMixed.eq_str_int (fin_bl I q (by simp))
    | str j => obtain ⟨t', rfl⟩ := ry; exact eq_str (fin_bl I q dec_str)
    | _ => exact absurd (show false = true from hs) Bool.false_ne_true
  | byt i =>
    obtain ⟨t, rfl⟩ := rx
    cases y with
    | byt j => obtain ⟨t', rfl⟩ := ry; exact PySem.W.eq_bytes (fin_bl I q dec_byt)
    | _ => exact absurd (show false = true from hs) Bool.false_ne_true
  | _ => cases y <;> exact absurd (show false = true from hs) Bool.false_ne_true
theorem op_lt : OpR X (compareOp .Lt) (rI0 fun i j => .bl (decide (i < j))) := opB0 fun _ _ _ _ _ _ _ q => lt_int q
theorem nomark (b : Expr) {op : CmpOp} (h : op ≠ .In := by decide) (h2 : op ≠ .NotIn := by decide) : behindInMarks op b = false := by
  have e1 : (op == CmpOp.In) = false := by cases op <;> first | rfl | exact absurd rfl h
  have e2 : (op == CmpOp.NotIn) = false := by cases op <;> first | rfl | exact absurd rfl h2
  cases b <;> simp [behindInMarks, e1, e2]
/-- a comparison as a value; hm: nomark b, or (for in, not in) by with_unfolding_all rfl -/
theorem pe_cmpR {op : CmpOp} {r : R2} (ho : OpR X (compareOp op) r) (ha : PE X a ta) (hb : PE X b tb) (hm : behindInMarks op b = false) : PE X (.Compare a [op] [b] pos) (tOp r ta tb) := by
  intro pins s σ H Q I h
  exact wpAny_Compare1 (binT ha hb I h fun v u s2 x y H2 I2 rx ry q => ho pins s2 σ H2 x y v u Q I2 rx ry q) hm
/-- a reading of a value as a test -/
def tTest (t : TE) : TT := fun σ H Q => t σ H fun x H' => ∃ k, x = .bl k ∧ Q k H'
theorem pt_cmpR {op : CmpOp} {r : R2} (ho : OpR X (compareOp op) r) (ha : PE X a ta) (hb : PE X b tb) (hm : behindInMarks op b = false) : PT X (.Compare a [op] [b] pos) (tTest (tOp r ta tb)) := by
  intro pins s σ H Q I h
  refine wpAny_isTrue_Compare1 (thn (ha pins s σ H _ I h) fun v s1 ⟨x, H1, I1, r1, q1⟩ => thn (hb pins s1 σ H1 _ I1 q1) fun u s2 ⟨y, H2, I2, r2, q2⟩ =>
    thn (ho pins s2 σ H2 x y v u _ I2 r1 r2 q2) fun c s3 ⟨z, H3, I3, r3, k, e, q3⟩ => ?_) hm
  subst e
  cases r3
  exact wpAny_truthy_bool ⟨H3, I3, q3⟩
/-! ### truth -/
theorem line63 : (sizeLine : Nat) < 2 ^ 63 := by rw [sizeLine_eq]; decide
/-! ### strs and bytes -/
theorem op_add_str : OpR X (binaryOp .Add) (fun x y H Q => ∃ i j, x = .str i ∧ y = .str j ∧ i.length + j.length ≤ sizeLine ∧ Q (.str (i ++ j)) H) := by
  intro pins s σ H x y v u Q I rx ry h
  obtain ⟨i, j, rfl, rfl, hz, q⟩ := h
  obtain ⟨t, rfl⟩ := rx
  obtain ⟨t', rfl⟩ := ry
  exact add_str (fun t' tk => ⟨.str (i ++ j), H, I.tok _, ⟨_, rfl⟩, q⟩) hz
/-! ### scalar builtins, by CallR -/
theorem vals1 {x : V} {us : List Value} (r : Vals [x] us) : ∃ u, us = [u] ∧ RelV x u := by
  cases r with
  | cons r1 r2 => cases r2; exact ⟨_, rfl, r1⟩
theorem vals2 {x y : V} {us : List Value} (r : Vals [x, y] us) : ∃ u w', us = [u, w'] ∧ RelV x u ∧ RelV y w' := by
  cases r with
  | cons r1 r2 =>
    cases r2 with
    | cons r3 r4 => cases r4; exact ⟨_, _, rfl, r1, r3⟩
end
end L2

namespace L2
open PySem PySem.Spec PyProof.Rows

/-! ### an instance, its attributes a map -/
section
variable {prog : Program} {w : World} {A : Around} {E : Value → Shared → Prop} {s : Shared} {K : PySem.W.Frag} {x dx C f : Addr} {mA : Str → Option Value} {name : Str} {v : Value}

end

/-! ### the attributes as a list of pairs -/
theorem RelO.some_of {v : V} {o : Option Value} (r : RelO (some v) o) : ∃ u, o = some u ∧ RelV v u := by
  cases o with
  | none => exact (show False from r).elim
  | some u => exact ⟨u, rfl, r⟩
theorem handed_of {v : V} {u : Value} (r : RelV v u) : PySem.W.handedIn u = true := by
  cases v with
  | non => cases (show u = Value.none from r); rfl
  | bl b => cases (show u = Value.bool b from r); rfl
  | int i => obtain ⟨t, e⟩ := (show ∃ t, u = Value.int i t from r); cases e; rfl
  | str x => obtain ⟨t, e⟩ := (show ∃ t, u = Value.str x t from r); cases e; rfl
  | byt b => obtain ⟨t, e⟩ := (show ∃ t, u = Value.bytes b t from r); cases e; rfl
  | flt b => obtain ⟨t, e⟩ := (show ∃ t, u = Value.float b t from r); cases e; rfl
  | ref a => cases (show u = Value.ref a from r); rfl
  | ty n => cases (show u = Value.type n from r); rfl

section
variable {P : Program} {w : World} {H H' : Hp} {h h' : Heap} {a C dx : Addr} {fs fs' : List (Str × V)}
end

/-! ### what of the text a class must have -/
/-- no class of it has the name -/
def NoAttr (K : PySem.W.Frag) (C : Addr) (f : Str) : Prop := PySem.W.findIn K (.ref C) f = some none
theorem NoAttr.taker {K : PySem.W.Frag} {C : Addr} {f : Str} (n : NoAttr K C f) : PySem.W.takerIn K C f = some none := by
  unfold PySem.W.takerIn
  rw [show PySem.W.findIn K (.ref C) f = some none from n]
  rfl
section
variable {X : Cx} {pins : List (Addr × Obj)} {σ : St} {H : Hp} {s : Shared} {a C dx : Addr} {fs : List (Str × V)} {f : Str} {v : V} {A : Around} {E : Value → Shared → Prop}

/-- e.f where nothing but the object is asked: through attributeBase (super) and the last hold -/
theorem attr_of {prog : Program} {w : World} {env : Env} {e : Expr} {f : Str} {pos : Pos} {s : Shared} {Q : Value → Shared → Prop} (hb : attributeBase e f env (eval e env) = eval e env)
    (h : wpAny (model prog w) A (eval e env) (fun o s₁ => wpAny (model prog w) A (getAttr o f true) Q E s₁) E s) : wpAny (model prog w) A (eval (.Attribute e f pos) env) Q E s :=
  Attribute_any_ h (by rw [arm_eval_Attribute, hb])
end

/-! ### readings and rules -/
section
variable {X : Cx} {o e value : Expr} {f : Str} {pos pos' tpos : Pos} {ta tv : TE}
end

/-! ### isinstance -/
section
variable {X : Cx} {pins : List (Addr × Obj)} {σ : St} {H : Hp} {s : Shared} {A : Around} {E : Value → Shared → Prop} {Q : Value → Shared → Prop} {c : Value} {b : Bool}
end
end L2

namespace L2
open PySem PySem.Spec PyProof.Rows

/-! ### room -/
structure Room (k : Nat) (A : Around) : Prop where
  hd : A.handled = none
  dp : A.depth + 3 * k + 5 < recursionLimit
  un : A.units + 16 * k + 200 < cLine
theorem Room.mono {j k : Nat} {A : Around} (r : Room k A) (h : j ≤ k) : Room j A := ⟨r.hd, by have := r.dp; omega, by have := r.un; omega⟩
theorem Room.deeper {k : Nat} {A : Around} (r : Room (k + 1) A) (env : Env) : Room k (A.deeper env) :=
  ⟨r.hd, by have := r.dp; show A.depth + 1 + 3 * k + 5 < _; omega, by have := r.un; show A.units + 3 + 16 * k + 200 < _; omega⟩
theorem make_depth {A : Around} {C : Addr} {us : List Value} {kw : List (Str × Value)} : (A.under (.builtin "type.__call__" ⟨.ref C :: us, kw⟩)).depth = A.depth + 1 := by
  first | rfl | simp [Around.under, Code.weight, Code.isCreation, Code.isGuard, Code.isCaller, Code.frames, Code.isFrame, guardIds]
theorem make_units {A : Around} {C : Addr} {us : List Value} {kw : List (Str × Value)} : (A.under (.builtin "type.__call__" ⟨.ref C :: us, kw⟩)).units = A.units + 1 := by
  first | rfl | simp [Around.under, Code.cUnits, Code.frames, Code.isFrame]
theorem Room.make {k : Nat} {A : Around} (r : Room (k + 1) A) (C : Addr) (us : List Value) (kw : List (Str × Value)) : Room k (A.under (.builtin "type.__call__" ⟨.ref C :: us, kw⟩)) :=
  ⟨r.hd, by have := r.dp; rw [make_depth]; omega, by have := r.un; rw [make_units]; omega⟩
theorem Room.depth {k : Nat} {A : Around} (r : Room k A) : A.depth < recursionLimit := by have := r.dp; omega
theorem Room.units {k : Nat} {A : Around} (r : Room k A) : A.units + 64 < cLine := by have := r.un; omega
/-! ### argument lists and displays -/
def tNil : TA := fun _ H Q => Q [] H
def tCons (ta : TE) (tr : TA) : TA := fun σ H Q => ta σ H fun x H1 => tr σ H1 fun xs H2 => Q (x :: xs) H2
section
variable {X : Cx} {e : Expr} {es : List Expr} {te : TE} {t : TA} {pos : Pos}
theorem pa_nil : PA X [] tNil := fun _ _ _ _ H Q I h => Calls.spliced_nil ⟨[], H, I, .nil, h⟩
theorem pa_cons (ha : PE X e te) (hr : PA X es t) (hs : starEach (e :: es) X.env = (false, eval e X.env) :: starEach es X.env := by rfl) : PA X (e :: es) (tCons te t) := by
  intro pos pins s σ H Q I h
  rw [hs]
  show wpAny _ _ (spliced ((false, eval e X.env) :: backTo pos (starEach es X.env))) _ _ s
  refine Calls.spliced_cons (thn (ha pins s σ H _ I h) fun u s1 ⟨x, H1, I1, r1, q1⟩ => ?_)
  exact thn (hr pos pins s1 σ H1 _ I1 q1) fun us s2 ⟨xs, H2, I2, r2, q2⟩ => ⟨x :: xs, H2, I2, .cons r1 r2, q2⟩

/-- a tuple, a list of written items -/
def tTup (t : TA) : TE := fun σ H Q => t σ H fun xs H1 => xs.length ≤ sizeLine ∧ ∀ p, H1 p = none → Q (.ref p) (upd H1 p (.tup xs))
def tLst (t : TA) : TE := fun σ H Q => t σ H fun xs H1 => xs.length ≤ sizeLine ∧ ∀ p, H1 p = none → Q (.ref p) (upd H1 p (.lst xs))
theorem pe_tup {x1} (h : PA X es t) : PE X (.Tuple es x1 pos) (tTup t) := by
  intro pins s σ H Q I hq
  refine wpAny_Tuple_spliced (thn (h pos pins s σ H _ I hq) fun us s1 ⟨xs, H1, I1, r, z, q⟩ => ⟨by rw [← r.length]; exact z, ?_⟩)
  have hf : H1 s1.heap.objs.size = none := I1.hok.fresh (Nat.le_refl _)
  refine ⟨.ref s1.heap.objs.size, upd H1 s1.heap.objs.size (.tup xs), I1.laid (t' := s1.toks) (fun b u e => Heap.get?_push_of_some _ e) (Nat.le_refl _) ?_, rfl, q _ hf⟩
  exact ⟨z, us, r, ⟨_, Heap.get?_push_size _ rfl, rfl, _, rfl⟩⟩
theorem pe_lst (h : PA X es t) : PE X (.List es pos) (tLst t) := by
  intro pins s σ H Q I hq
  refine wpAny_List_spliced (thn (h pos pins s σ H _ I hq) fun us s1 ⟨xs, H1, I1, r, z, q⟩ => ⟨by rw [← r.length]; exact z, ?_⟩)
  have hf : H1 s1.heap.objs.size = none := I1.hok.fresh (Nat.le_refl _)
  refine ⟨.ref s1.heap.objs.size, upd H1 s1.heap.objs.size (.lst xs), I1.laid (t' := s1.toks) (fun b u e => Heap.get?_push_of_some _ e) (Nat.le_refl _) ?_, rfl, q _ hf⟩
  exact ⟨z, us, 0, r, Heap.get?_push_size _ rfl⟩
end

/-! ### what a def promises -/
/-- a def's promise: the bound arguments in the parameters' order, the heap, the wanted end, the wanted exception -/
abbrev Sp := List V → Hp → VK → XK → Prop
/-- how an exception lies behind a call (file 08 gives it): the callers' frames, abstract heap and state ahead of the call, the wish, the exception, the state -/
abbrev CXT := List Env → Hp → Shared → XK → Value → Shared → Prop

/-- the state at a call -/
structure Env0 (P : Program) (w : World) (K : PySem.W.Frag) (mg : Str → Option Value) (base : Heap) (A : Around) (outer : List Env) (s : Shared) (H : Hp) : Prop where
  frames : A.frames = some outer
  mod : Mod K mg base
  bs : ∀ b o, base.get? b = some o → s.heap.get? b = some o ∧ H b = none
  bsz : base.objs.size ≤ s.heap.objs.size
  funs : s.heap.FunFrames base outer
  frf : ∀ b ∈ frs outer, H b = none
  hok : HOk P w H s.heap
  bare : AllBare s.gens
/-- a call's end -/
def CE (outer : List Env) (P : Program) (w : World) (H : Hp) (s : Shared) (Q : VK) (u : Value) (s' : Shared) : Prop :=
  ∃ v H', s'.os = s.os ∧ AllBare s'.gens ∧ Un (frs outer) [] H H' s.heap s'.heap ∧ HOk P w H' s'.heap ∧ RelV v u ∧ Q v H'
def CR (CX : CXT) (outer : List Env) (P : Program) (w : World) (H : Hp) (s : Shared) (Q : VK) (E : XK) (r : Result) (s' : Shared) : Prop :=
  match r with
  | .ok (.ret u) => CE outer P w H s Q u s'
  | .ok _ => False
  | .error e => CX outer H s E e s'
structure FnOk (P : Program) (w : World) (K : PySem.W.Frag) (mg : Str → Option Value) (base : Heap) (CX : CXT) (k : Nat) (f : Addr) (fd : FuncData) (ps : List Str) (sp : Sp) : Prop where
  len : ∀ vs H Q E, sp vs H Q E → vs.length = ps.length
  run : ∀ (A : Around) (outer : List Env) (s : Shared) (H : Hp) (args : Args) (us : List Value) (vs : List V) (Q : VK) (E : XK), Room k A → Env0 P w K mg base A outer s H → BindsTo s fd args (ps.zip us) → Vals vs us → sp vs H Q E →
    codeAny (model P w) A (.call (.ref f) args) (CR CX outer P w H s Q E) s
theorem Env0.make {P : Program} {w : World} {K : PySem.W.Frag} {mg : Str → Option Value} {base : Heap} {A : Around} {outer : List Env} {s : Shared} {H : Hp} (e : Env0 P w K mg base A outer s H) (C : Addr) (us : List Value) (kw : List (Str × Value)) :
    Env0 P w K mg base (A.under (.builtin "type.__call__" ⟨.ref C :: us, kw⟩)) outer s H := ⟨by first | exact e.frames | (simpa [Around.under, Code.envs, Code.isFrame, pushEnvs] using e.frames), e.mod, e.bs, e.bsz, e.funs, e.frf, e.hok, e.bare⟩
section
variable {X : Cx} {pins : List (Addr × Obj)} {σ : St} {H : Hp} {s s' : Shared}
/-- from a body: what a callee wants -/
theorem Inv.env0 (I : Inv X pins σ H s) : Env0 X.prog X.w X.K X.mg X.base X.A X.stack s H :=
  ⟨I.ok.frames, I.ok.mod, I.bs, Nat.le_trans I.ok.bsz I.sz, I.stack, I.stkFree, I.hok, I.bare⟩
/-- behind a call -/
theorem Inv.after {Q : VK} {u : Value} (I : Inv X pins σ H s) (h : CE X.stack X.prog X.w H s Q u s') : EP X pins σ Q u s' := by
  obtain ⟨v, H', os, bare, un, hok, r, q⟩ := h
  obtain ⟨hh, g, d, t, os'⟩ := s'
  obtain rfl : os' = s.os := os
  exact ⟨v, H', I.call (h' := hh) (g' := g) (d' := d) (t' := t) (ch := []) un hok bare (fun b z => absurd z (by simp)), r, q⟩
end

/-! ### calls -/
/-- f(..): the written arguments, then the defaults dvs; E: what is wanted of an exception -/
def tCall (sp : Sp) (dvs : List V) (E : XK) (t : TA) : TE := fun σ H Q => t σ H fun vs H1 => sp (vs ++ dvs) H1 Q E
/-- how the parameters are bound: us the positional arguments, kw the keywords' values by name, ds the defaults that fill up -/
def Binds (K : PySem.W.Frag) (fd : FuncData) (ps : List Str) (ds : List Value) : Prop :=
  ∀ (s : Shared) (us : List Value), K.In s.heap → (us ++ ds).length = ps.length → BindsTo s fd ⟨us, []⟩ (ps.zip (us ++ ds))
/-- every parameter is given -/
theorem Binds.all {K : PySem.W.Frag} {fd : FuncData} {ps : List Str} (h : ∀ us : List Value, us.length = ps.length → bindArgs fd ⟨us, []⟩ = pure (ps.zip us)) : Binds K fd ps [] := fun s us _ hl => by
  rw [List.append_nil] at hl ⊢
  exact .of_eq (h us hl)

/-- an exception of a callee reaches what this body wants of exceptions -/
def Passes (CX : CXT) (X : Cx) (E : XK) : Prop := ∀ (pins : List (Addr × Obj)) (σ : St) (H : Hp) (s : Shared) (e : Value) (s' : Shared), Inv X pins σ H s → CX X.stack H s E e s' → X.xe e s'

section
variable {X : Cx} {CX : CXT} {k : Nat} {f C : Addr} {fd : FuncData} {ps : List Str} {sp : Sp} {dvs : List V} {ds : List Value} {E : XK} {x m : Str} {p pos apos : Pos} {e o : Expr} {es : List Expr} {ta : TE} {t : TA}

/-- the callee runs -/
theorem run_fn {pins : List (Addr × Obj)} {σ : St} {H : Hp} {s : Shared} {Q : VK} {us : List Value} {vs : List V} (F : FnOk X.prog X.w X.K X.mg X.base CX k f fd ps sp) (hr : Room k X.A) (hb : Binds X.K fd ps ds) (hd : Vals dvs ds) (hx : Passes CX X E)
    (I : Inv X pins σ H s) (r : Vals vs us) (h : sp (vs ++ dvs) H Q E) : wpAny (model X.prog X.w) X.A (call (.ref f) us) (EP X pins σ Q) X.xe s := by
  have r2 : Vals (vs ++ dvs) (us ++ ds) := r.append hd
  have hl : (us ++ ds).length = ps.length := by rw [← r2.length]; exact F.len _ _ _ _ h
  refine wpAny_call (codeAny_mono (F.run X.A X.stack s H ⟨us, []⟩ (us ++ ds) (vs ++ dvs) Q E hr I.env0 (hb s us I.kIn hl) r2 h) fun r s' hq => ?_)
  cases r with
  | error e => exact hx pins σ H s e s' I hq
  | ok fl =>
    cases fl with
    | ret u => exact I.after hq
    | next => exact False.elim hq
    | brk => exact False.elim hq
    | cont => exact False.elim hq

theorem pe_call (F : FnOk X.prog X.w X.K X.mg X.base CX k f fd ps sp) (hr : Room k X.A) (hg : Gl X x) (hm : X.mg x = some (.ref f)) (hk : PySem.W.keepIn X.K (.ref f) = true) (hb : Binds X.K fd ps ds) (hd : Vals dvs ds) (hx : Passes CX X E)
    (ha : PA X (e :: es) t) (hdb : (x == ("__debug__" : Str)) = false := by decide) (he : starEach (e :: es) X.env = (false, eval e X.env) :: starEach es X.env := by rfl) (hpl : (backTo pos (starEach es X.env)).any (·.1) = false := by rfl) :
    PE X (.Call (.Name x p) (e :: es) [] pos) (tCall sp dvs E t) := by
  intro pins s σ H Q I h
  refine wpAny_Call_Name_kw (ld_glob I hg hm ?_ hdb)
  refine PySem.W.callWith_K (h₀ := X.base) I.ok.mod.kin hk (thn (ha pos pins s σ H _ I h) fun us s1 ⟨vs, H1, I1, r, q⟩ => ⟨I1.kIn, ?_⟩) he hpl
  exact run_fn F hr hb hd hx I1 r q
end

/-! ### keywords -/
section
variable {X : Cx} {CX : CXT} {k : Nat} {f C : Addr} {fd : FuncData} {ps ks : List Str} {sp : Sp} {E : XK} {x m : Str} {p pos apos kpos : Pos} {e o : Expr} {es : List Expr} {kws : List Keyword} {te ta : TE} {t tk : TA} {nm : Option Str}
variable {g : List Value → List Value → List Value} {gV : List V → List V → List V}
end

/-! ### a def's body keeps its promise -/
/-- names: the parameters first -/
structure FnScope (N P : List Str) (sc : Scope) : Prop where
  kind : sc.kind = .function
  co : sc.isCoroutine = false
  gen : sc.isGenerator = false
  nd : N.Nodup
  pre : N.take P.length = P
  par : ∀ x ∈ P, sc.names.lookup x = some .local ∨ sc.names.lookup x = some .cell
  nofree : ∀ y ∈ sc.names, y.2 ≠ .free

theorem bindL_out {kindOf : Str → Option NameKind} {x : Str} : ∀ {binds : List (Str × Value)} {m : Str → Option Value}, (∀ v, (x, v) ∉ binds) → bindL kindOf binds m x = m x
  | [], _, _ => rfl
  | (n, v) :: r, m, h => by
    unfold bindL
    rw [bindL_out fun w hw => h w (List.mem_cons_of_mem _ hw)]
    split
    · have : x ≠ n := by rintro rfl; exact h v List.mem_cons_self
      simp [this]
    · rfl
theorem bindC_out {kindOf : Str → Option NameKind} {x : Str} : ∀ {binds : List (Str × Value)} {m : Str → Option Value}, (∀ v, (x, v) ∉ binds) → bindC kindOf binds m x = m x
  | [], _, _ => rfl
  | (n, v) :: r, m, h => by
    unfold bindC
    rw [bindC_out fun w hw => h w (List.mem_cons_of_mem _ hw)]
    split
    · rfl
    · have : x ≠ n := by rintro rfl; exact h v List.mem_cons_self
      simp [this]
theorem bindL_get {kindOf : Str → Option NameKind} {x : Str} {v : Value} : ∀ {P : List Str} {vs : List Value} {i : Nat} {m : Str → Option Value}, P.Nodup → P[i]? = some x → vs[i]? = some v → kindOf x = some .local →
    bindL kindOf (P.zip vs) m x = some v
  | [], _, _, _, _, h, _, _ => by simp at h
  | _ :: _, [], _, _, _, _, h, _ => by simp at h
  | p :: P, w :: vs, 0, m, nd, h1, h2, hk => by
    simp at h1 h2; subst h1; subst h2
    show bindL kindOf ((p, w) :: P.zip vs) m p = _
    unfold bindL
    rw [bindL_out fun v hv => (List.nodup_cons.mp nd).1 (List.of_mem_zip hv).1, if_pos hk]
    simp
  | p :: P, w :: vs, i + 1, m, nd, h1, h2, hk => by
    show bindL kindOf ((p, w) :: P.zip vs) m x = _
    unfold bindL
    exact bindL_get (i := i) (List.nodup_cons.mp nd).2 (by simpa using h1) (by simpa using h2) hk
theorem bindC_get {kindOf : Str → Option NameKind} {x : Str} {v : Value} : ∀ {P : List Str} {vs : List Value} {i : Nat} {m : Str → Option Value}, P.Nodup → P[i]? = some x → vs[i]? = some v → kindOf x ≠ some .local →
    bindC kindOf (P.zip vs) m x = some v
  | [], _, _, _, _, h, _, _ => by simp at h
  | _ :: _, [], _, _, _, _, h, _ => by simp at h
  | p :: P, w :: vs, 0, m, nd, h1, h2, hk => by
    simp at h1 h2; subst h1; subst h2
    show bindC kindOf ((p, w) :: P.zip vs) m p = _
    unfold bindC
    rw [bindC_out fun v hv => (List.nodup_cons.mp nd).1 (List.of_mem_zip hv).1, if_neg hk]
    simp
  | p :: P, w :: vs, i + 1, m, nd, h1, h2, hk => by
    show bindC kindOf ((p, w) :: P.zip vs) m x = _
    unfold bindC
    exact bindC_get (i := i) (List.nodup_cons.mp nd).2 (by simpa using h1) (by simpa using h2) hk

/-- the names' values at the entry -/
def start (N : List Str) (vs : List V) : St := vs.map some ++ List.replicate (N.length - vs.length) none

/-- the context of a def's body, at its entry; an exception leaves the frame, then lies as CX says -/
def cxOf (CX : CXT) (P : Program) (w : World) (K : PySem.W.Frag) (mg : Str → Option Value) (base : Heap) (N : List Str) (qual : Str) (scope : Scope) (f : Addr) (cd : Value) (A : Around) (outer : List Env) (s : Shared) (H : Hp) (E : XK) : Cx where
  prog := P
  w := w
  K := K
  mg := mg
  base := base
  A := A.deeper (envOfC qual scope s.heap.objs.size f cd)
  N := N
  s₀ := s
  H₀ := H
  env := envOfC qual scope s.heap.objs.size f cd
  outer := outer
  stack := envOfC qual scope s.heap.objs.size f cd :: outer
  ex := []
  calm := true
  fn := fun _ => true
  pn := []
  xe := fun e s' => wpAny (model P w) (A.deeper (envOfC qual scope s.heap.objs.size f cd)) (leaving (envOfC qual scope s.heap.objs.size f cd) e) (fun _ s'' => CX outer H s E e s'') (fun e' s'' => CX outer H s E e' s'') s'

theorem cell_has {sc : Scope} {n : Nat} {x : Str} (h : sc.names.lookup x = some .cell) : ∃ c, (cellsFrom n sc.names []).lookup x = some c := by
  have q := PySem.W.cellsFrom_some sc.names n [] (.inl h)
  exact Option.isSome_iff_exists.mp q

theorem inv_start {CX : CXT} {P : Program} {w : World} {K : PySem.W.Frag} {mg : Str → Option Value} {base : Heap} {N ps : List Str} {qual : Str} {scope : Scope} {f : Addr} {cd : Value} {A : Around} {outer : List Env} {s s1 : Shared} {H : Hp} {E : XK} {us : List Value} {vs : List V}
    (S : FnScope N ps scope) (hd : A.handled = none) (e0 : Env0 P w K mg base A outer s H) (hl : vs.length = ps.length) (r : Vals vs us)
    (x : InCallC s s.heap.objs.size (bindL (envOfC qual scope s.heap.objs.size f cd).kindOf (ps.zip us) fun _ => none) (cellsFrom (s.heap.objs.size + 1) scope.names []) (bindC (envOfC qual scope s.heap.objs.size f cd).kindOf (ps.zip us) fun _ => none) s1) :
    Inv (cxOf CX P w K mg base N qual scope f cd A outer s H E) [] (start N vs) H s1 := by
  have hpl : ps.length ≤ N.length := by have := congrArg List.length S.pre; rw [List.length_take] at this; omega
  obtain ⟨h1, tk, rfl, hk⟩ := x.done
  have noA : ∀ b : Addr, b ∉ (cxOf CX P w K mg base N qual scope f cd A outer s H E).ex := fun b z => absurd (show b ∈ ([] : List Addr) from z) (by simp)
  refine ⟨⟨e0.mod, S.kind, rfl, rfl, Nat.le_refl _, fun y z c h1 h2 => ?_, fun y hy => ?_, fun y c _ h => ?_, fun _ => hd, Around.frames_deeper e0.frames, .inr ⟨rfl, rfl⟩, fun b z => absurd z (noA b), e0.bs, e0.bsz, fun b _ _ => noA b, fun b z => absurd z (noA b), e0.funs, e0.frf⟩,
    rfl, e0.bare, Un.kept hk, ⟨_, x.toInCall.ns, fun i y v h1 h2 h3 => ?_⟩, fun y c h => ⟨_, x.cell y c h⟩, e0.hok.fresh (Nat.le_refl _), fun y c h => ?_, fun p hp => absurd (show p ∈ ([] : List (Addr × Obj)) from hp) (by simp), e0.hok.kept hk, ?_⟩
  · exact name_of_addr x.apart (PySem.mem_of_lookup h1) (PySem.mem_of_lookup h2)
  · have hy : scope.names.lookup y = some .cell ∨ scope.names.lookup y = some .free := hy
    rcases hy with hy | hy
    · exact cell_has hy
    · exact absurd rfl (S.nofree _ (PySem.mem_of_lookup hy))
  · exact Nat.le_of_lt (x.above y c (PySem.mem_of_lookup h))
  · have hi : i < vs.length := by
      unfold start at h2
      by_cases hi : i < vs.length
      · exact hi
      · rw [List.getElem?_append_right (by simpa using hi)] at h2
        rw [List.getElem?_replicate] at h2
        split at h2 <;> cases h2
    have ha : vs[i]? = some v := by
      unfold start at h2
      rw [List.getElem?_append_left (by simpa using hi), List.getElem?_map] at h2
      cases e : vs[i]? with
      | none => rw [e] at h2; cases h2
      | some a => rw [e] at h2; cases h2; rfl
    obtain ⟨u, hu, rv⟩ := r.get ha
    have hp : ps[i]? = some y := by
      rw [← S.pre, List.getElem?_take_of_lt (by omega)]; exact h1
    have ndP : ps.Nodup := by rw [← S.pre]; exact S.nd.sublist (List.take_sublist _ _)
    refine ⟨u, rv, ?_⟩
    rcases S.par y (List.mem_of_getElem? hp) with k | k
    · exact .inl ⟨k, bindL_get ndP hp hu k⟩
    · obtain ⟨c, e⟩ := cell_has (n := s.heap.objs.size + 1) k
      refine .inr ⟨.inl k, c, e, ?_⟩
      have q := x.cell y c e
      rw [bindC_get ndP hp hu (by show scope.names.lookup y ≠ _; rw [k]; decide)] at q
      exact q
  · exact e0.hok.fresh (Nat.le_of_lt (x.above y c (PySem.mem_of_lookup h)))
  · unfold start
    show _ = N.length
    rw [List.length_append, List.length_map, List.length_replicate]
    omega

/-- THE RULE: a def (or a method) of the text, by its body. The body's reading t is chosen for each entry; it is run at the parameters' values -/
theorem fn_of {CX : CXT} {P : Program} {w : World} {K : PySem.W.Frag} {mg : Str → Option Value} {base : Heap} {k : Nat} {f : Addr} {name qual : Str} {params : Arguments} {body : List Stmt} {scope : Scope} {dV kV doc pm cdv ct oc : Value} {an od : Option Addr}
    {osl : Array (Option Value)} {N ps : List Str} {sp : Sp} (lk : K.lookup f = some ⟨oc, od, .func (PySem.W.fnOf name qual params body scope dV kV doc pm an cdv ct), osl⟩) (hcd : PySem.W.codeIn K cdv qual = true) (S : FnScope N ps scope)
    (len : ∀ vs H Q E, sp vs H Q E → vs.length = ps.length)
    (hbody : ∀ (A : Around) (outer : List Env) (s : Shared) (H : Hp) (vs : List V) (Q : VK) (E : XK), Room k (A.deeper (envOfC qual scope s.heap.objs.size f cdv)) → sp vs H Q E →
      ∃ t, PSs (cxOf CX P w K mg base N qual scope f cdv A outer s H E) body t ∧ t { nx := fun _ H' => Q .non H', rt := Q } (start N vs) H) :
    FnOk P w K mg base CX (k + 1) f (PySem.W.fnOf name qual params body scope dV kV doc pm an cdv ct) ps sp := by
  refine ⟨len, fun A outer s H args us vs Q E hr e0 hb r hsp => ?_⟩
  have hl := len _ _ _ _ hsp
  have KX : K.In s.heap := e0.mod.kin.keeps fun b o e => (e0.bs b o e).1
  have lim : s.heap.NoLimit := e0.mod.nolimit.keeps fun b o e => (e0.bs b o e).1
  have hkind : ∀ y ∈ ps.zip us, scope.names.lookup y.1 = some .local ∨ (scope.names.lookup y.1 = some .cell ∧ ((cellsFrom (s.heap.objs.size + 1) scope.names []).lookup y.1).isSome = true) := fun ⟨n, v⟩ hy => by
    rcases S.par n (List.of_mem_zip hy).1 with q | q
    · exact .inl q
    · exact .inr ⟨q, PySem.W.cellsFrom_some _ _ _ (.inl q)⟩
  refine codeAny_call_function hr.depth (KX _ _ lk) rfl S.co S.gen rfl (PySem.W.codeRec_of KX hcd) (hb _ _ _ _ ?_)
  refine wpAny_newFunctionEnv_cells S.kind hkind fun env he s1 x => ?_
  subst he
  refine ⟨lim.keeps x.toInCall.keep, codeAny_func ?_⟩
  obtain ⟨t, ht, hq⟩ := hbody A outer s H vs Q E (hr.deeper _) hsp
  have I : Inv (cxOf CX P w K mg base N qual scope f cdv A outer s H E) [] (start N vs) H s1 := inv_start S hr.hd e0 hl r x
  refine wpAny_mono (ht [] s1 (start N vs) H _ I hq) (fun fl s' hs => ?_) fun e s' hs => hs
  have fin : ∀ {σ' : St} {H' : Hp} {v : V} {u : Value}, Inv (cxOf CX P w K mg base N qual scope f cdv A outer s H E) [] σ' H' s' → RelV v u → Q v H' → CE outer P w H s Q u s' :=
    fun {σ' H' v u} J rv q => ⟨v, H', J.os, J.bare, J.base, J.hok, rv, q⟩
  cases fl with
  | ret u =>
    obtain ⟨v, σ', H', J, rv, q⟩ := hs
    exact fin J rv q
  | next =>
    obtain ⟨σ', H', J, q⟩ := hs
    exact fin (v := V.non) (u := Value.none) J rfl q
  | brk =>
    obtain ⟨_, _, _, q⟩ := hs
    exact False.elim q
  | cont =>
    obtain ⟨_, _, _, q⟩ := hs
    exact False.elim q
end L2

namespace L2
open PySem PySem.Spec PyProof.Rows
section
variable {X : Cx} {x : Str} {p pos : Pos} {e : Expr} {es : List Expr} {t : TA} {id T : String} {r : List V → Hp → VK → Prop}

def tCB (r : List V → Hp → VK → Prop) (t : TA) : TE := fun σ H Q => t σ H fun vs H1 => r vs H1 Q
/-- f(e, ..), f a built-in function -/
theorem pe_callB (hc : CallR X (.builtin id) r) (hg : Gl X x) (hm : X.mg x = none) (hv : bootBuiltins x = some (.builtin id)) (ha : PA X (e :: es) t) (hn : x ≠ "__name__" := by decide) (hdb : (x == ("__debug__" : Str)) = false := by decide)
    (he : starEach (e :: es) X.env = (false, eval e X.env) :: starEach es X.env := by rfl) (hpl : (backTo pos (starEach es X.env)).any (·.1) = false := by rfl) : PE X (.Call (.Name x p) (e :: es) [] pos) (tCB r t) := by
  intro pins s σ H Q I h
  refine wpAny_Call_Name_kw (ld_blt I hg hm hv ?_ hn hdb)
  exact PyProof.Rows.callWith_builtin1 (thn (ha pos pins s σ H _ I h) fun us s1 ⟨vs, H1, I1, r1, q1⟩ => hc pins s1 σ H1 vs us Q I1 r1 q1) he hpl
end
end L2

namespace HT
open PySem PyProof.Rows

section
open PySem.SeqAt
open PySem.AutoSeq1 (wpAny_loadPart')
open PySem.MeetsSeq PySem.MeetsSeq2 PySem.MeetsSeq3

end

section
variable {prog : Program} {w : World} {A : Around} {E : Value → Shared → Prop} {s : Shared}

/-- t + u, t not empty -/
theorem cat_tup {t b : Addr} {vs ws : List Value} {Q : Value → Shared → Prop} (ht : IsTup s.heap t vs.toArray) (hb : IsTup s.heap b ws.toArray) (hv : vs ≠ [])
    (h1 : ws = [] → Q (.ref t) s) (h2 : ws ≠ [] → Q (.ref s.heap.objs.size) { s with heap := s.heap.push { cls := .type "tuple", data := .seq (vs ++ ws).toArray } })
    (hsz : vs.length + ws.length ≤ sizeLine) : wpAny (model prog w) A (binaryOp .Add (.ref t) (.ref b)) Q E s := by
  obtain ⟨⟨cls, dd, data, sl⟩, ho, hc, n, hd⟩ := id ht
  obtain ⟨⟨cls2, dd2, data2, sl2⟩, ho2, hc2, n2, hd2⟩ := id hb
  simp only at hc hd hc2 hd2
  subst hc hd hc2 hd2
  have e : vs.toArray ++ ws.toArray = (vs ++ ws).toArray := by simp
  by_cases hw : ws = []
  · exact concat_meets ⟨_, ho, rfl⟩ ⟨_, ho2, rfl⟩ noFill_tuple_add seq_tuple_add PySem.F.slot_tuple_add PySem.F.entry_tuple_add (PySem.F.args_tuple_add_2 _ _)
      (tuple_addW1 t b vs.toArray ws.toArray n n2 dd dd2 sl sl2 (by simpa using hv) (by simp [hw])) ⟨ho, ho2, h1 hw⟩
  · refine concat_meets ⟨_, ho, rfl⟩ ⟨_, ho2, rfl⟩ noFill_tuple_add seq_tuple_add PySem.F.slot_tuple_add PySem.F.entry_tuple_add (PySem.F.args_tuple_add_2 _ _)
      (tuple_addW2 t b vs.toArray ws.toArray n n2 dd dd2 sl sl2 (by simpa using hv) (by simpa using hw) (by rw [List.size_toArray, List.size_toArray]; exact hsz)) ⟨ho, ho2, ?_⟩
    rw [e]
    exact h2 hw

/-! ### t[a:b], not the whole -/
end
end HT

namespace L2
open PySem PySem.Spec PyProof.Rows

/-! ### the parts of a slice -/
section
variable {X : Cx} {e : Expr} {te : TE} {lo hi : Option Expr} {tl th : TO} {pos p2 : Pos}

/-! ### t < u, t + u -/
/-- t + u, t not empty: u empty gives t itself -/
def rCatT (K : PySem.W.Frag) : R2 := fun x y H Q => ∃ a b xs ys, x = .ref a ∧ y = .ref b ∧ SqT K H a xs ∧ SqT K H b ys ∧ xs ≠ [] ∧ xs.length + ys.length ≤ sizeLine ∧
  (ys = [] → Q (.ref a) H) ∧ (ys ≠ [] → ∀ p, H p = none → Q (.ref p) (upd H p (.tup (xs ++ ys))))
theorem Vals.nil_iff {xs : List V} {us : List Value} (r : Vals xs us) : us = [] ↔ xs = [] := by
  cases r with
  | nil => simp
  | cons _ _ => simp
theorem op_catT : OpR X (binaryOp .Add) (rCatT X.K) := by
  intro pins s σ H x y v u Q I rx ry h
  obtain ⟨a, b, xs, ys, rfl, rfl, ha, hb, hx, hz, q1, q2⟩ := h
  cases rx
  cases ry
  obtain ⟨its, r1, p1, _⟩ := I.tuple ha
  obtain ⟨its2, r2, p2, _⟩ := I.tuple hb
  refine HT.cat_tup p1 p2 (fun z => hx (r1.nil_iff.mp z)) (fun z => ⟨.ref a, H, I, rfl, q1 (r2.nil_iff.mp z)⟩) (fun z => ?_) (by rw [← r1.length, ← r2.length]; exact hz)
  refine ⟨.ref s.heap.objs.size, _, I.laid (t' := s.toks) (o := .tup (xs ++ ys)) (fun b ob q => Heap.get?_push_of_some _ q) (Nat.le_refl _) ?_, rfl, q2 (fun w => z (r2.nil_iff.mpr w)) _ (I.hok.fresh (Nat.le_refl _))⟩
  exact ⟨by rw [List.length_append]; exact hz, _, r1.append r2, IsTup.new _ _⟩
end
end L2

namespace L2
open PySem PySem.Spec PyProof.Rows

/-! ### places -/
/-- the place that an index of any sign means -/
def ixN (n : Nat) (i : Int) : Option Nat := if 0 ≤ i then (if i < n then some i.toNat else none) else if -(n : Int) ≤ i then some (i + n).toNat else none
def atI {α : Type} (xs : List α) (i : Int) : Option α := (ixN xs.length i).bind fun j => xs[j]?
theorem ixN_seq {n : Nat} {i : Int} {j : Nat} (h : ixN n i = some j) : seqIndex? i n = some j ∧ j < n ∧ -(n : Int) ≤ i ∧ i < n := by
  unfold ixN at h
  by_cases h0 : 0 ≤ i
  · rw [if_pos h0] at h
    by_cases h1 : i < n
    · rw [if_pos h1] at h
      have e : i.toNat = j := Option.some.inj h
      exact ⟨by rw [seqIndex_of h0 h1, e], by omega, by omega, h1⟩
    · rw [if_neg h1] at h; cases h
  · rw [if_neg h0] at h
    by_cases h1 : -(n : Int) ≤ i
    · rw [if_pos h1] at h
      have e : (i + n).toNat = j := Option.some.inj h
      exact ⟨by rw [seqIndex_neg (by omega) h1, e], by omega, h1, by omega⟩
    · rw [if_neg h1] at h; cases h
theorem atI_get {α : Type} {xs : List α} {i : Int} {v : α} (h : atI xs i = some v) : ∃ j, seqIndex? i xs.length = some j ∧ xs[j]? = some v ∧ j < xs.length ∧ -(xs.length : Int) ≤ i ∧ i < xs.length := by
  unfold atI at h
  cases e : ixN xs.length i with
  | none => rw [e] at h; cases h
  | some j =>
    rw [e] at h
    obtain ⟨h1, h2, h3, h4⟩ := ixN_seq e
    exact ⟨j, h1, h, h2, h3, h4⟩
theorem atI_nat {α : Type} {xs : List α} {j : Nat} {v : α} (h : xs[j]? = some v) : atI xs (j : Int) = some v := by
  have hj : j < xs.length := (List.getElem?_eq_some_iff.mp h).1
  have e : ixN xs.length (j : Int) = some j := by
    unfold ixN
    rw [if_pos (by omega), if_pos (by omega)]; simp
  unfold atI; rw [e]; exact h
/-! ### what may be subscripted -/
/-- what stands as an index of a plain subscript -/
def PlainIx (b : Expr) : Prop := ∀ o i, subscripted b false o i = operate [o, i] (getItem o i)
/-- a subscript by values -/
def IxR (X : Cx) (r : R2) : Prop :=
  ∀ (value slice : Expr) (pins : List (Addr × Obj)) (s : Shared) (σ : St) (H : Hp) (x y : V) (v u : Value) (Q : VK), Inv X pins σ H s → RelV x v → RelV y u → r x y H Q →
    subscripted slice false v u = operate [v, u] (getItem v u) → wpAny (model X.prog X.w) X.A (subscriptTail value slice v u) (EP X pins σ Q) X.xe s
section
variable {X : Cx} {a b : Expr} {ta tb : TE} {pos : Pos}
/-- a[b] -/
theorem pe_ix {r : R2} (hr : IxR X r) (ha : PE X a ta) (hb : PE X b tb) (hs : PlainIx b) : PE X (.Subscript a b pos) (tOp r ta tb) := by
  intro pins s σ H Q I h
  exact Subscript_ (binT ha hb I h fun v u s2 x y H2 I2 rx ry q => hr a b pins s2 σ H2 x y v u Q I2 rx ry q (hs _ _))

def rIxL (K : PySem.W.Frag) : R2 := fun x y H Q => ∃ p xs i v, x = .ref p ∧ y = .int i ∧ SqL K H p xs ∧ atI xs i = some v ∧ Q v H
def rIxS : R2 := fun x y H Q => ∃ z i c, x = .str z ∧ y = .int i ∧ z.length ≤ sizeLine ∧ atI z.cps.toList i = some c ∧ Q (.str ⟨#[c]⟩) H
theorem ix_list : IxR X (rIxL X.K) := by
  intro value slice pins s σ H x y v u Q I rx ry h hs
  obtain ⟨p, xs, i, z, rfl, rfl, hq, he, q⟩ := h
  cases rx
  obtain ⟨t, rfl⟩ := ry
  obtain ⟨its, r, pl, hz⟩ := I.list hq
  obtain ⟨j, h1, h2, h3, h4, h5⟩ := atI_get he
  obtain ⟨w, ew, rw'⟩ := r.get h2
  have hl := r.length
  have hn := line63
  have fin : EP X pins σ Q w s := ⟨z, H, I, rw', q⟩
  by_cases h0 : 0 ≤ i
  · have hj : i.toNat = j := by
      rw [seqIndex_of h0 h5] at h1
      exact Option.some.inj h1
    exact item_listR pl.isList h0 (by omega) (by rw [hj]; simpa using ew) fin hs
  · have hj : (i + (its.toArray.size : Int)).toNat = j := by
      rw [seqIndex_neg (by omega) h4] at h1
      rw [List.size_toArray, ← hl]
      exact Option.some.inj h1
    exact subscriptTail_builtinR (x := w) pl.isList.typeIs slot_list_getitem.lookup
      (wpAny_getItem_list_neg (Q := fun r s' => r = w ∧ EP X pins σ Q r s') pl.isList (by omega) (by rw [List.size_toArray] <;> omega) (by omega) (by rw [hj]; simpa using ew) ⟨rfl, fin⟩) hs
theorem ix_str : IxR X rIxS := by
  intro value slice pins s σ H x y v u Q I rx ry h hs
  obtain ⟨z, i, c, rfl, rfl, hz, he, q⟩ := h
  obtain ⟨t, rfl⟩ := rx
  obtain ⟨t', rfl⟩ := ry
  obtain ⟨j, h1, h2, h3, h4, h5⟩ := atI_get he
  have hl : z.cps.toList.length = z.length := by simp [Str.length]
  rw [hl] at h1 h4 h5
  have hn := line63
  exact tail_any (typeIs_str s z t) slot_str_getitem.lookup (getItem_str (c := c) (by
    have e1 : decide (i < -(2 ^ 63 : Int)) = false := decide_eq_false (by omega)
    have e2 : decide (i ≥ 2 ^ 63) = false := decide_eq_false (by omega)
    rw [e1, e2, Bool.or_false]) (by rw [h1]; simpa using h2) ⟨.str ⟨#[c]⟩, H, I.tok _, ⟨_, rfl⟩, q⟩) hs
/-! ### xs[i] = v, any sign -/
/-! ### slices -/
/-! ### in, not in: flat items -/
/-! ### len, list(x), tuple(x) of any list or tuple that is read -/
theorem call_len_seq : CallR X (.builtin "len") (fun xs H Q => ∃ p ys, xs = [.ref p] ∧ (SqL X.K H p ys ∨ SqT X.K H p ys) ∧ Q (.int ys.length) H) := by
  intro pins s σ H xs us Q I r h
  obtain ⟨p, ys, rfl, hq, q⟩ := h
  obtain ⟨u, rfl, rx⟩ := vals1 r
  cases rx
  have hn := line63
  rcases hq with hq | hq
  · obtain ⟨its, r', pl, hz⟩ := I.list hq
    have hlen := r'.length
    exact Calls.call_len_list pl.isList (by simp only [List.size_toArray] <;> omega) ⟨.int ys.length, H, I.tok _, ⟨s.toks + 1, by rw [List.size_toArray, hlen]⟩, q⟩
  · obtain ⟨its, r', pl, hz⟩ := I.tuple hq
    have hlen := r'.length
    exact len_tuple pl (by simp only [List.size_toArray] <;> omega) ⟨.int ys.length, H, I.tok _, ⟨s.toks + 1, by rw [List.size_toArray, hlen]⟩, q⟩
/-! ### the call of a builtin's method: o.m(..) -/
variable {o e : Expr} {es : List Expr} {to : TE} {t : TA} {name : Str} {apos cpos : Pos} {T id : String} {r : V → List V → Hp → VK → Prop}
/- xs.append(e), list.index on a module's tuple .. are MtR facts of 06m -/
end
end L2

namespace L2
open PySem PySem.Spec PyProof.Rows

def MtM (X : Cx) (id : String) (r : V → List V → Hp → VK → Prop) : Prop :=
  ∀ (pins : List (Addr × Obj)) (s : Shared) (σ : St) (H : Hp) (x : V) (xs : List V) (v : Value) (us : List Value) (Q : VK), Inv X pins σ H s → RelV x v → Vals xs us → r x xs H Q →
    wpAny (model X.prog X.w) X.A (call (.builtin id) (v :: us)) (EP X pins σ Q) X.xe s

/-! ### lists of values -/
theorem Vals.one : ∀ {x : V} {us : List Value}, Vals [x] us → ∃ u, us = [u] ∧ RelV x u
  | _, _, .cons r .nil => ⟨_, rfl, r⟩
section
variable {X : Cx} {pins : List (Addr × Obj)} {σ : St} {H : Hp} {s : Shared} {l b : Addr} {xs ys zs : List V}

/-! ### the two steps: a tracked list is rewritten, a new list is laid -/
theorem Inv.lset {its its' : List Value} {n : Nat} {f : Array Value → Array Value} {t' : Nat} (I : Inv X pins σ H s) (hH : H l = some (.lst xs))
    (e : s.heap.get? l = some { cls := .type "list", data := .seq its.toArray n }) (hf : f its.toArray = its'.toArray) (hv : Vals ys its') (hz : ys.length ≤ sizeLine) :
    Inv X pins σ (upd H l (.lst ys)) { s with heap := s.heap.update l (Obj.mapSeq f), toks := t' } := by
  have q := PySem.IsL.update e f
  rw [hf] at q
  refine I.write (x := l) (e := l) (by rw [hH]; exact trivial) (.inl rfl) (fun b' u hb hu => (Heap.get?_update_other s.heap (Obj.mapSeq f) (Ne.symm hb)).trans hu) ⟨_, q⟩ ?_
  exact ⟨hz, its', _, hv, q⟩
theorem Inv.lnew {its : List Value} {t' : Nat} (I : Inv X pins σ H s) (hv : Vals ys its) (hz : ys.length ≤ sizeLine) :
    Inv X pins σ (upd H s.heap.objs.size (.lst ys)) { s with heap := s.heap.push { cls := .type "list", data := .seq its.toArray }, toks := t' } :=
  I.laid (fun _ _ q => Heap.get?_push_of_some _ q) (Nat.le_refl _) ⟨hz, its, 0, hv, Heap.get?_push_size _ rfl⟩
theorem Inv.fresh (I : Inv X pins σ H s) : H s.heap.objs.size = none := I.hok.fresh (Nat.le_refl _)
theorem Inv.lstM (I : Inv X pins σ H s) (hH : H l = some (.lst xs)) : xs.length ≤ sizeLine ∧ ∃ (its : List Value) (n : Nat), Vals xs its ∧ xs.length = its.length ∧ s.heap.get? l = some { cls := .type "list", data := .seq its.toArray n } := by
  obtain ⟨z, its, n, r, e⟩ := I.hok l _ hH
  exact ⟨z, its, n, r, r.length, e⟩

end

section
variable {X : Cx}

/-! ### methods -/
def rAppend : V → List V → Hp → VK → Prop := fun x vs H Q => ∃ l xs y, x = .ref l ∧ vs = [y] ∧ H l = some (.lst xs) ∧ xs.length < sizeLine ∧ Q .non (upd H l (.lst (xs ++ [y])))
theorem mt_append : MtM X "list.append" rAppend := by
  intro pins s σ H x vs v us Q I rx rv h
  obtain ⟨l, xs, y, rfl, rfl, hH, hz, q⟩ := h
  cases rx
  obtain ⟨u, rfl, ru⟩ := rv.one
  obtain ⟨z, its, n, r, hl, e⟩ := I.lstM hH
  refine call_meets F.slot_list_append ⟨_, e, rfl⟩ F.entry_list_append (F.args_list_append_2 _ _) (PySem.list_append l its.toArray n u (by rw [List.size_toArray]; omega)) ⟨e, ?_⟩
  refine ⟨.non, _, I.lset (its' := its ++ [u]) hH e (by simp) (r.append (.cons ru .nil)) ?_, rfl, q⟩
  rw [List.length_append, List.length_singleton]
  omega

/-! ### list + list, list += list, list * int -/
def rCat : R2 := fun x y H Q => ∃ l b xs zs, x = .ref l ∧ y = .ref b ∧ H l = some (.lst xs) ∧ H b = some (.lst zs) ∧ xs.length + zs.length ≤ sizeLine ∧ ∀ p, H p = none → Q (.ref p) (upd H p (.lst (xs ++ zs)))
theorem op_cat : OpR X (binaryOp .Add) rCat := by
  intro pins s σ H x y v u Q I rx ry h
  obtain ⟨l, b, xs, zs, rfl, rfl, hH, hB, hz, q⟩ := h
  cases rx
  cases ry
  obtain ⟨z, its, n, r, hl, e⟩ := I.lstM hH
  obtain ⟨z2, its2, n2, r2, hl2, e2⟩ := I.lstM hB
  refine PySem.P.add_list e e2 ?_ (by rw [List.size_toArray, List.size_toArray]; omega)
  have ea : its.toArray ++ its2.toArray = (its ++ its2).toArray := by simp
  rw [ea]
  exact ⟨.ref _, _, I.lnew (t' := s.toks) (r.append r2) (by rw [List.length_append]; omega), rfl, q _ I.fresh⟩
/-! ### del xs[i] -/
end

/-! ### xs[a:b] = ys -/
section
variable {prog : Program} {w : World} {A : Around} {E : Value → Shared → Prop} {s : Shared}
set_option maxRecDepth 100000 in
end

section
variable {X : Cx}
end
end L2

namespace L2
open PySem PySem.Spec PyProof.Rows

/-! ### lists of pairs as tables -/
section
variable {κ : Type} [DecidableEq κ]
end


/-! ### a tracked dict, its keys ints and texts or tuples of these -/
section
variable {P : Program} {w : World} {H : Hp} {h : Heap} {a : Addr}
end

section
variable {X : Cx} {pins : List (Addr × Obj)} {σ : St} {H : Hp} {s : Shared} {a : Addr} {y v : V} {u r : Value} {o : Option V} {A : Around} {E : Value → Shared → Prop}

end

section
variable {X : Cx} {pins : List (Addr × Obj)} {σ : St} {H : Hp} {s : Shared} {a : Addr} {kvs : List (Key × V)} {k : Key} {u : Value} {A : Around} {E : Value → Shared → Prop}
end


/-! ### readings and rules -/
section
variable {X : Cx} {o i e value : Expr} {pos pos' tpos : Pos} {td ty tv : TE}
end


/-! ### displays -/
section
variable {X : Cx} {pos : Pos}
end

/-! ### methods -/
section
variable {X : Cx} {pins : List (Addr × Obj)} {σ : St} {H : Hp} {s : Shared} {a : Addr} {y d : V} {u r : Value} {o : Option V} {A : Around} {E : Value → Shared → Prop}
end

section
variable {X : Cx} {o e f : Expr} {apos cpos : Pos} {td ty tx : TE}
end

/-! ### dict(d): a copy -/
section
variable {X : Cx} {pins : List (Addr × Obj)} {σ : St} {H : Hp} {s : Shared} {a : Addr} {kvs : List (Key × V)} {A : Around} {E : Value → Shared → Prop}
end


section
variable {X : Cx} {pins : List (Addr × Obj)} {σ : St} {H : Hp} {s : Shared} {a : Addr} {y : V} {u : Value} {A : Around} {E : Value → Shared → Prop}
end
end L2

namespace Att
open PySem PySem.W PySem.Calls PyProof.Rows

/-! ### the script -/
theorem ints_of_wellAll {P : Params} {h : Heap} : ∀ (ns : List Int) (vs : List Value), WellAll P h vs (ns.map WData.int) → IntsAre vs ns := by
  intro ns
  induction ns with
  | nil =>
    intro vs w
    rw [List.map_nil] at w
    cases w
    exact .nil
  | cons n ns ih =>
    intro vs w
    rw [List.map_cons] at w
    cases w with
    | cons a b =>
      cases a
      exact .cons _ _ (ih _ b)

theorem script_of {l : OpenLaw} {n : Nat} (hn : l.most = some n) {P : Params} {h : Heap} {args : List WData} {vals : List Value}
    (hpre : l.row.toRowW.claim.pre args = true) (hwl : WellAll P h vals args) :
    ∃ a vs ns, vals = [Value.ref a] ∧ args = [WData.list (ns.map WData.int)] ∧ h.get? a = some { cls := .type "list", data := .seq vs.toArray } ∧ IntsAre vs ns ∧ ns.length ≤ n := by
  have hsh : WShape.hasAll [] args [.list .int] = true := (pre_splitW hpre).1
  have hc : l.pre.holds [] { args := args } = true := (pre_splitW hpre).2
  obtain ⟨d, r, rfl, h1, h2⟩ := hasAllW_cons hsh
  obtain rfl := hasAllW_nil h2
  obtain ⟨xs, rfl, h3⟩ := hasW_list h1
  obtain ⟨ns, rfl⟩ := items_int h3
  have hlen : ns.length ≤ n := by
    unfold OpenLaw.pre at hc
    have h4 : (WTm.not (.lt (.lit (.int (n : Int))) (.len (.arg 0)))).holds [] { args := [.list (ns.map .int)] } = true := by
      have h4 := (holds_andW hc).1
      rw [hn] at h4
      exact h4
    have h5 := condW_of h4 (w_not (w_lt w_lit (w_len_list (w_arg rfl))))
    rw [List.length_map] at h5
    refine Nat.le_of_not_lt fun q => ?_
    have q' : (n : Int) < ((ns.length : Nat) : Int) := by omega
    first
      | (rw [decide_eq_true q'] at h5; exact absurd h5 (by decide))
      | (simp at h5; omega)
  cases hwl with
  | cons w1 w2 =>
    cases w2
    cases w1 with
    | list ho hall => exact ⟨_, _, ns, rfl, rfl, ho, ints_of_wellAll ns _ hall, hlen⟩

theorem post_true (l : OpenLaw) (args : List WData) : l.row.toRowW.claim.post args (.bool true) args = true :=
  postW_of (r := l.row.toRowW) (X := (true == true))
    (show WShape.has [] (.bool true) .bool = true by first | rfl | decide | simp [WShape.has, WShape.arms, WShape.armsAll])
    (show (WTm.eq .res (.lit (.bool true))).value [] { args := args, res := some (.bool true), after := args } = some (.bool (true == true)) from w_eq_bool (w_res rfl) w_lit) rfl

/-! ### the attachment: holds_open's last premise (the goal 'hc' behind k_head) from a wpAny of the law's body -/
/-- the same from a codeAny of the CALL (for a layer whose function contracts speak of calls) -/
theorem attach_call {l : OpenLaw} {n : Nat} {q : Program} {loose : List Str} {XP : (Str → Option Value) → Heap → Prop} {YP : World → Heap → Prop} {d : DefRec}
    (hn : l.most = some n) (hdf : d.params.defaults = [])
    (call : ∀ (w : World) (s₀ s₁ : Shared) (mg mb : Str → Option Value) (fa : Addr) (o : Obj) (pm cd doc : Value) (a : Addr) (vs : List Value) (ns : List Int),
      Ground q loose [] XP w s₀ mg mb s₁.heap → YP w s₁.heap →
      s₁.heap.get? fa = some o → o.data = .func (docDef d.name d.params d.body d.scope pm cd doc) → s₁.heap.CodeRec cd d.name → mg d.name = some (.ref fa) →
      s₁.heap.get? a = some { cls := .type "list", data := .seq vs.toArray } → IntsAre vs ns → ns.length ≤ n → s₁.gens = #[] →
      codeAny (model l.prog w) callerA (.call (.ref fa) ⟨[.ref a], []⟩) (fun r s' => r = .ok (.ret (.bool true)) ∧ OldK s₁.heap s'.heap ∧ s'.os = s₁.os ∧ AllBare s'.gens) s₁) :
    WalkO q loose XP YP l.row.toRowW d [] (fun f vs => PySem.call f vs) := by
  intro w s₀ s₁ mg mb G Y fa o pm cd doc dV kV ho hd hcd hD hmg hg args vals as hpre hlay hrd hwl hlo
  obtain rfl : dV = .none := Dflts.none hD hdf
  obtain rfl : kV = .none := Dflts.noKw hD
  obtain ⟨a, vs, ns, rfl, rfl, hobj, hints, hlen⟩ := script_of hn hpre hwl
  refine enter_call (codeAny_mono (call w s₀ s₁ mg mb fa o pm cd doc a vs ns G Y ho (fd_plain hd) hcd hmg hobj hints hlen hg) fun r s' hq => ?_)
  obtain ⟨rfl, h2, h3, h4⟩ := hq
  exact ⟨.inl ⟨.bool true, .bool true, [], rfl, fun _ => rfl, .bool true, post_true l _, fun _ => ⟨List.Pairwise.nil, fun _ hm => (nomatch hm)⟩⟩, h2, h3, h4⟩

/-! ### rules over ANY heap (no ledger) from facts about the written part K: the library's own take a ledger (News) for what they write -/
section
variable {prog : Program} {w : World} {A : Around} {E : Value → Shared → Prop} {s : Shared} {K : Frag}

/-! the whole heap as the ledger: makes every rule that writes through a ledger a rule over any heap -/
end
end Att

namespace L2
open PySem PySem.Spec PyProof.Rows

theorem vals_ints : ∀ {vs : List Value} {ns : List Int}, IntsAre vs ns → Vals (ns.map V.int) vs
  | _, _, .nil => .nil
  | _, _, .cons n t h => .cons ⟨t, rfl⟩ (vals_ints h)

/-- nothing is tracked but the script, known to the object (or it is an object of the module) -/
def Only (H : Hp) : Prop := ∀ b, H b = none ∨ ∃ o xs, H b = some (.frz o (.lst xs))

/-- THE HEAD: the law's promise, at the heap behind the top. F, the promise of the law's def, may use that base is part of the heap (so K.In base, base.Ns mainGlobals mg stand in Mod) -/
theorem law_call {P : Program} {w : World} {K : PySem.W.Frag} {mg mb : Str → Option Value} {CX : CXT} {k : Nat} {fa a : Addr} {fd : FuncData} {x : Str} {sp : Sp} {s₁ : Shared} {vs : List Value} {ns : List Int}
    (KX : K.In s₁.heap) (hns : s₁.heap.Ns mainGlobals mg) (hb : s₁.heap.Ns builtinsNs mb) (hbb : ∀ x : Str, x ≠ "__name__" → mb x = bootBuiltins x) (hlim : s₁.heap.NoLimit) (hg : s₁.gens = #[])
    (ha : s₁.heap.get? a = some { cls := .type "list", data := .seq vs.toArray }) (hi : IntsAre vs ns) (hl : ns.length ≤ sizeLine) (hr : Room k callerA)
    (F : ∀ base : Heap, K.In base → base.Ns mainGlobals mg → FnOk P w K mg base CX k fa fd [x] sp) (hbind : ∀ (s : Shared) (u : Value), BindsTo s fd ⟨[u], []⟩ [(x, u)])
    (hsp : ∀ H : Hp, Only H → SqL K H a (ns.map V.int) → sp [.ref a] H (fun v _ => v = .bl true) fun _ _ _ => False)
    (hCX : ∀ H e s', CX [] H s₁ (fun _ _ _ => False) e s' → False) :
    codeAny (model P w) callerA (.call (.ref fa) ⟨[.ref a], []⟩) (fun r s' => r = .ok (.ret (.bool true)) ∧ OldK s₁.heap s'.heap ∧ s'.os = s₁.os ∧ AllBare s'.gens) s₁ := by
  have rv := vals_ints hi
  have lenV := hi.length
  -- from an abstract heap in which nothing but the script may be tracked
  have core : ∀ H : Hp, Only H → SqL K H a (ns.map V.int) → HOk P w H s₁.heap → (∀ b, H b ≠ none → b = a) → (H a ≠ none → K.lookup a = none) →
      codeAny (model P w) callerA (.call (.ref fa) ⟨[.ref a], []⟩) (fun r s' => r = .ok (.ret (.bool true)) ∧ OldK s₁.heap s'.heap ∧ s'.os = s₁.os ∧ AllBare s'.gens) s₁ := by
    intro H hO hS hok hA hK
    have base_of : ∀ {b : Addr} {o : Obj}, s₁.heap.get? b = some o → H b = none → (hidT s₁.heap H).get? b = some o := fun e n => hidT_get e n
    have noA : ∀ {b : Addr} {o : Obj} {es : Array DictEntry} {ep : Nat}, s₁.heap.get? b = some o → o.data = .dict es ep → H b = none := fun {b o es ep} e d => by
      cases q : H b with
      | none => rfl
      | some u =>
        have e' : b = a := hA b (by rw [q]; simp)
        subst e'
        rw [ha] at e; cases e
        have d' : Data.seq vs.toArray _ = Data.dict es ep := d
        cases d'
    have nsK : ∀ {b : Addr} {m : Str → Option Value}, s₁.heap.Ns b m → (hidT s₁.heap H).Ns b m := fun {b m} ⟨o, es, ep, e, d, r⟩ => ⟨o, es, ep, base_of e (noA e d), d, r⟩
    have hKb : K.In (hidT s₁.heap H) := fun b o e => base_of (KX b o e) (by
      cases q : H b with
      | none => rfl
      | some u =>
        have e' : b = a := hA b (by rw [q]; simp)
        subst e'
        rw [hK (by rw [q]; simp)] at e; cases e)
    have hM : Mod K mg (hidT s₁.heap H) := ⟨hKb, nsK hns, ⟨mb, nsK hb, hbb⟩, let ⟨mc, h1, h2⟩ := hlim; ⟨mc, nsK h1, h2⟩⟩
    have e0 : Env0 P w K mg (hidT s₁.heap H) callerA [] s₁ H := ⟨rfl, hM, fun b o e => of_hidT e, Nat.le_of_eq (hidT_size _ _), trivial, fun b hb => absurd (show b ∈ ([] : List Addr) from hb) (by simp), hok, .of_eq hg⟩
    refine codeAny_mono ((F _ hKb (nsK hns)).run callerA [] s₁ H ⟨[.ref a], []⟩ [.ref a] [.ref a] _ _ hr e0 (hbind s₁ (.ref a)) (.cons rfl .nil) (hsp H hO hS)) fun r s' h => ?_
    cases r with
    | error e => exact (hCX H e s' h).elim
    | ok fl =>
      cases fl with
      | next => exact False.elim h
      | brk => exact False.elim h
      | cont => exact False.elim h
      | ret u =>
        obtain ⟨v, H', os, bare, un, hok', r', q⟩ := h
        have q' : v = .bl true := q
        subst q'
        obtain rfl : u = Value.bool true := r'
        refine ⟨rfl, OldK.of_keep fun b o e => ?_, os, bare⟩
        cases q : H b with
        | none => exact un.keep b o e q (by intro z; exact absurd (show b ∈ ([] : List Addr) from z) (by simp)) (by simp)
        | some u =>
          rcases hO b with z | ⟨ob, xs, z⟩
          · rw [q] at z; cases z
          · have z2 := un.frzs b ob _ z
            obtain ⟨e1, _⟩ := hok b _ z
            obtain ⟨e2, _⟩ := hok' b _ z2
            rw [e] at e1; cases e1
            exact e2
  cases hk : K.lookup a with
  | some o =>
    -- the script is one of the module's own objects
    have e := KX a o hk
    rw [ha] at e
    cases e
    refine core (fun _ => none) (fun _ => .inl rfl) (.inr ⟨_, vs.toArray, _, hk, rfl, rfl, rfl, by rw [List.size_toArray, lenV]; exact hl, by simpa using rv⟩) (fun b u z => by have z' : (none : Option HO) = some u := z; cases z') (fun b z => absurd rfl z) fun z => absurd rfl z
  | none =>
    refine core (fun b => if b = a then some (.frz { cls := .type "list", data := .seq vs.toArray } (.lst (ns.map V.int))) else none) (fun b => ?_) (.inl (.inr ⟨{ cls := .type "list", data := .seq vs.toArray }, if_pos rfl⟩)) (fun b u z => ?_) (fun b z => ?_) fun _ => hk
    · by_cases hb : b = a
      · exact .inr ⟨_, _, if_pos hb⟩
      · exact .inl (if_neg hb)
    · by_cases hb : b = a
      · have z' := (if_pos hb).symm.trans z
        cases z'
        subst hb
        exact ⟨ha, by rw [List.length_map]; exact hl, vs, _, rv, ha⟩
      · have z' := (if_neg hb).symm.trans z
        cases z'
    · by_cases hb : b = a
      · exact hb
      · exact absurd (if_neg hb) z
end L2

namespace L2
open PySem PySem.Spec PyProof.Rows

/-- the goal that k_head leaves (case hc), from the law's promise. F gives the function object fd (K's own) once, then the promise over every base -/
theorem walk_of {l : PySem.W.OpenLaw} {n k : Nat} {q : Program} {loose : List Str} {XP : (Str → Option Value) → Heap → Prop} {YP : World → Heap → Prop} {d : DefRec} {K : Params → PySem.W.Frag} {CX : World → CXT} {sp : World → Sp} {x : Str}
    (hn : l.most = some n) (hn2 : n ≤ sizeLine) (hdf : d.params.defaults = []) (hr : Room k callerA)
    (hY : ∀ (w : World) (h : Heap), YP w h → (K w.params).In h)
    (F : ∀ (w : World) (mg : Str → Option Value) (fa : Addr) (h : Heap), (K w.params).In h → h.Ns mainGlobals mg → mg d.name = some (.ref fa) →
      ∃ fd : FuncData, (∀ (s : Shared) (u : Value), BindsTo s fd ⟨[u], []⟩ [(x, u)]) ∧
        ∀ base : Heap, (K w.params).In base → base.Ns mainGlobals mg → FnOk l.prog w (K w.params) mg base (CX w) k fa fd [x] (sp w))
    (hsp : ∀ (w : World) (H : Hp) (a : Addr) (ns : List Int), ns.length ≤ n → Only H → SqL (K w.params) H a (ns.map V.int) → sp w [.ref a] H (fun v _ => v = .bl true) fun _ _ _ => False)
    (hCX : ∀ (w : World) (H : Hp) (s : Shared) (e : Value) (s' : Shared), CX w [] H s (fun _ _ _ => False) e s' → False) :
    PySem.W.WalkO q loose XP YP l.row.toRowW d [] (fun f vs => PySem.call f vs) := by
  refine Att.attach_call hn hdf fun w s₀ s₁ mg mb fa o pm cd doc a vs ns G Y ho hd hcd hmg hobj hints hlen hg => ?_
  have KX := hY w _ Y
  obtain ⟨fd, hb, hF⟩ := F w mg fa _ KX G.T.g hmg
  exact law_call KX G.T.g G.T.b G.T.builtins G.T.nolimit hg hobj hints (Nat.le_trans hlen hn2) hr hF hb (fun H hO hS => hsp w H a ns hlen hO hS) fun H e s' => hCX w H s₁ e s'
end L2

/- THE LAST THEOREM (shape; LID, My.* are yours):
   My.Adr: a structure of the addresses that your layer names (classes, functions); My.Txt K t: a structure (Prop) of the equations over K;
   My.txt_mk : {K} {implicit addresses ..} (e1 : nsIn K mainGlobals "law" = some (some (.ref f))) (e2 : K.lookup f = some ⟨oc, od, .func (fnOf "law" "law" params body scope dV kV doc pm an cdv ct), sl⟩) (e3 : codeIn K cdv "law" = true) .. : ∃ t, My.Txt K t

set_option maxRecDepth 100000 in
set_option maxHeartbeats 0 in
theorem PySem.Challenge.cw_LID_holds : PySem.Challenge.rw_LID.Holds := by
  w_on; o_law; k_head; (case hw => w_witness2)
  k_fill
  refine L2.walk_of (l := PySem.Challenge.rw_LID) (n := 63) (k := 40) (x := "script") (CX := fun w => ..) (sp := fun _ => My.sp_law) rfl (by decide) rfl ⟨rfl, by decide, by decide⟩ (fun w h Y => PySem.W.kIn_of Y) ?F ?S ?C
  case F =>
    intro w mg fa h KX G hmg
    have T : ∃ t, My.Txt (L2.KOf KX) t := by
      dsimp only [L2.KOf]                          -- K must stand as «<heap const> w.params» for k_is
      refine' My.txt_mk ?e1 ?e2 ?e3 ..
      (case e1 => PySem.W.k_is)                    -- in the order: a name -> its address -> its object -> its parts
      (case e2 => PySem.W.k_is)
      ..
    obtain ⟨t, T⟩ := T
    have e0 := hmg.symm.trans (PySem.W.mg_of KX G T.law)
    cases e0                                       -- fa is the law's own address
    exact ⟨_, fun s u => .of_eq rfl, fun base kb nb => My.law_fn T kb nb⟩     -- if «.of_eq rfl» comes too early: refine' ⟨_, ?b, fun base kb nb => My.law_fn T kb nb⟩; exact fun s u => .of_eq rfl
  case S => exact fun w H a ns hl hO hS => ..
  case C => exact ..
(the tactic k_is has no namespace: write k_is) -/

/-! SHORT WORDS over the layer: a def of the text, its body, what a loop and a test want. -/
namespace L2
open PySem PySem.Spec PyProof.Rows

/-! ### the text by places -/
/-- the j-th statement of a class's body -/
def inClass (s : Stmt) (j : Nat) : Stmt := match s with
  | .ClassDef _ _ _ body _ _ _ _ _ _ _ => body.getD j (.Pass ⟨0, 0, 0, 0⟩)
  | _ => .Pass ⟨0, 0, 0, 0⟩
def defArgs (s : Stmt) : Arguments := match s with
  | .FunctionDef _ a _ _ _ _ _ _ _ _ => a
  | _ => { posonlyargs := [], args := [], vararg := none, kwonlyargs := [], kw_defaults := [], kwarg := none, defaults := [] }
def defBody (s : Stmt) : List Stmt := match s with
  | .FunctionDef _ _ b _ _ _ _ _ _ _ => b
  | _ => []
def defScope (s : Stmt) : Scope := match s with
  | .FunctionDef _ _ _ _ _ _ sc _ _ _ => sc
  | _ => { kind := .function, names := [], isGenerator := false, isCoroutine := false }

/-! ### no exception leaves a def -/
abbrev CX0 : CXT := fun _ _ _ _ _ _ => False
abbrev E0 : XK := fun _ _ _ => False
theorem pass0 {X : Cx} : Passes CX0 X E0 := fun _ _ _ _ _ _ _ h => h.elim

/-! ### a def (or method) of the text as it stands behind the top -/
structure Fun (K : PySem.W.Frag) (x qual : Str) (st : Stmt) (f : Addr) (fd : FuncData) : Prop where
  ex : ∃ (oc : Value) (od : Option Addr) (kV doc pm : Value) (an : Option Addr) (cdv ct : Value) (osl : Array (Option Value)),
    fd = PySem.W.fnOf x qual (defArgs st) (defBody st) (defScope st) .none kV doc pm an cdv ct ∧ K.lookup f = some ⟨oc, od, .func fd, osl⟩ ∧ PySem.W.codeIn K cdv qual = true
  kp : PySem.W.keepIn K (.ref f) = true
section
variable {P : Program} {w : World} {K : PySem.W.Frag} {mg : Str → Option Value} {base : Heap}
/-- THE RULE for a def: its body as a term of rules, and the reading of that term -/
theorem Fun.ok {x qual : Str} {st : Stmt} {f : Addr} {fd : FuncData} {N ps : List Str} {k : Nat} {sp : Sp} (F : Fun K x qual st f fd) (S : FnScope N ps (defScope st)) (len : ∀ vs H Q E, sp vs H Q E → vs.length = ps.length)
    (hbody : ∀ (cdv : Value) (A : Around) (outer : List Env) (s : Shared) (H : Hp) (vs : List V) (Q : VK) (E : XK), Room k (A.deeper (envOfC qual (defScope st) s.heap.objs.size f cdv)) → sp vs H Q E →
      ∃ t, PSs (cxOf CX0 P w K mg base N qual (defScope st) f cdv A outer s H E).nox (defBody st) t ∧ t { nx := fun _ H' => Q .non H', rt := Q } (start N vs) H) : FnOk P w K mg base CX0 (k + 1) f fd ps sp := by
  obtain ⟨oc, od, kV, doc, pm, an, cdv, ct, osl, rfl, lk, hcd⟩ := F.ex
  refine fn_of lk hcd S len fun A outer s H vs Q E hr hsp => ?_
  obtain ⟨t, h, q⟩ := hbody cdv A outer s H vs Q E hr hsp
  exact ⟨t, h.nox, q⟩
/-- how its arguments bind (no defaults): h is «fun _ _ _ _ _ _ us hl => match us, hl with | [_, _], _ => rfl», one _ a parameter -/
theorem Fun.binds {x qual : Str} {st : Stmt} {f : Addr} {fd : FuncData} {ps : List Str} (F : Fun K x qual st f fd)
    (h : ∀ (kV doc pm : Value) (an : Option Addr) (cdv ct : Value) (us : List Value), us.length = ps.length → bindArgs (PySem.W.fnOf x qual (defArgs st) (defBody st) (defScope st) .none kV doc pm an cdv ct) ⟨us, []⟩ = pure (ps.zip us)) : Binds K fd ps [] := by
  obtain ⟨oc, od, kV, doc, pm, an, cdv, ct, osl, rfl, lk, hcd⟩ := F.ex
  exact .all (h kV doc pm an cdv ct)
theorem fun_mk {x qual : Str} {st : Stmt} {f : Addr} {oc : Value} {od an : Option Addr} {osl : Array (Option Value)} {kV doc pm cdv ct : Value} (l : K.lookup f = some ⟨oc, od, .func (PySem.W.fnOf x qual (defArgs st) (defBody st) (defScope st) .none kV doc pm an cdv ct), osl⟩)
    (c : PySem.W.codeIn K cdv qual = true) (k : PySem.W.keepIn K (.ref f) = true) : Fun K x qual st f (PySem.W.fnOf x qual (defArgs st) (defBody st) (defScope st) .none kV doc pm an cdv ct) := ⟨⟨oc, od, kV, doc, pm, an, cdv, ct, osl, rfl, l, c⟩, k⟩
end
/-! ### expressions in short: the name that stands in the i-th slot -/
section
variable {X : Cx}
theorem pv (i : Nat) {x : Str} {pos : Pos} (hN : X.N[i]? = some x := by rfl) (hv : Vis X.env.scope x := by first | exact Or.inl rfl | exact Or.inr (Or.inl rfl) | exact Or.inr (Or.inr rfl)) (hd : (x == ("__debug__" : Str)) = false := by decide)
    (hcd : (x == ("__classdict__" : Str)) = false := by decide) : PE X (.Name x pos) (tVar i) := pe_var hN hv hd hcd
end

/-! ### tests -/
theorem iteF {A B : Prop} (h : B) : if false = true then A else B := by
  rw [if_neg Bool.false_ne_true]
  exact h
theorem ite2 {c A B : Prop} [Decidable c] (h1 : c → A) (h2 : ¬ c → B) : if c then A else B := by
  by_cases h : c
  · rw [if_pos h]
    exact h1 h
  · rw [if_neg h]
    exact h2 h
/-! ### heaps -/
/-- all that was tracked is as it was -/
def Same (H H' : Hp) : Prop := ∀ b o, H b = some o → H' b = some o
theorem Same.refl (H : Hp) : Same H H := fun _ _ h => h
theorem Same.trans {H H1 H2 : Hp} (a : Same H H1) (b : Same H1 H2) : Same H H2 := fun c o h => b c o (a c o h)
theorem Same.seq {K : PySem.W.Frag} {H H' : Hp} {a : Addr} {xs : List V} (e : Same H H') (h : SqL K H a xs) : SqL K H' a xs := by
  rcases h with (h | ⟨o, h⟩) | h
  · exact .inl (.inl (e _ _ h))
  · exact .inl (.inr ⟨o, e _ _ h⟩)
  · exact .inr h

/-! ### a dict's pairs: keys that differ -/
section
variable {κ : Type} [DecidableEq κ]
end
end L2


/-! MY RULES: a list comprehension of one clause, with no test or one. -/
namespace L2
open PySem PySem.Spec PyProof.Rows
/-- what the comprehension's own scope and the cells that it takes over must be -/
structure ClOk (X : Cx) (scope : Scope) (cl : List (Str × Addr)) : Prop where
  eq : closureFor scope X.env = pure cl
  sub : ∀ x c, cl.lookup x = some c → X.env.cells.lookup x = some c
  has : ∀ x, ((relabel scope X.env).names.lookup x = some .cell ∨ (relabel scope X.env).names.lookup x = some .free) → ∃ c, cl.lookup x = some c
  kind : scope.kind = .function
  ncell : ∀ y ∈ scope.names, y.2 ≠ .cell
  names : ∀ y ∈ scope.names, y.2 = .local → scope.names.lookup y.1 = some .local
/-- the block's context: its names, its own dict at C, the state at its entry, the iterator that it walks -/
def blk (X : Cx) (N' : List Str) (scope : Scope) (cl : List (Str × Addr)) (C : Addr) (s₀ : Shared) (H₀ : Hp) (fp : List Addr) : Cx :=
  { X with N := N', s₀ := s₀, H₀ := H₀, env := compEnvC scope cl C X.env, outer := X.stack, ex := fp, fn := fun _ => false, pn := [], xe := fun _ _ => False }
/-- the names' values at the block's entry: those that are taken over -/
def blkSt (ix : List (Option Nat)) (σ : St) : St := ix.map fun o => o.bind fun j => (σ[j]?).bind id
section
variable {X : Cx} {pins : List (Addr × Obj)} {σ : St} {H : Hp} {s : Shared} {N' : List Str} {scope : Scope} {cl : List (Str × Addr)} {fp : List Addr} {ix : List (Option Nat)}
/-- which outer slots stand for the names that are taken over -/
def IxOk (X : Cx) (N' : List Str) (scope : Scope) (ix : List (Option Nat)) : Prop :=
  ix.length = N'.length ∧ ∀ i j : Nat, ix[i]? = some (some j) → ∃ x, N'[i]? = some x ∧ X.N[j]? = some x ∧ (X.env.scope.names.lookup x = some .cell ∨ X.env.scope.names.lookup x = some .free) ∧
    ((relabel scope X.env).names.lookup x = some .cell ∨ (relabel scope X.env).names.lookup x = some .free)
theorem blk_ok (I : Inv X pins σ H s) (ck : ClOk X scope cl) (f : ∀ b ∈ fp, FpOk X pins H b) (hlt : ∀ b ∈ fp, b < s.heap.objs.size) : (blk X N' scope cl s.heap.objs.size s H fp).Ok where
  mod := I.ok.mod
  kind := ck.kind
  glob := I.ok.glob
  blt := I.ok.blt
  above := Nat.le_refl _
  inj := fun x y c h1 h2 => I.ok.inj x y c (ck.sub x c h1) (ck.sub y c h2)
  has := fun x h => ck.has x h
  cab := fun x c h => by cases h
  hd := I.ok.hd
  frames := I.ok.frames
  stk := .inl rfl
  exf := fun b hb => ⟨Nat.ne_of_lt (hlt b hb), fun x c h => (f b hb).2.2.2.2.1 x c (ck.sub x c h)⟩
  bs := I.bs
  bsz := Nat.le_trans I.ok.bsz I.sz
  noex := fun b o e hb => by
    rcases (f b hb).2.2.2.1 with z | z
    · exact I.ok.noex b o e z
    · exact absurd (Nat.lt_of_lt_of_le (Heap.lt_size (I.ok.bs b o e).1) z) (Nat.lt_irrefl _)
  exfs := fun b hb hs => by
    rcases List.mem_cons.mp (I.stkSub b hs) with z | z
    · exact (f b hb).2.1 z
    · exact (f b hb).2.2.1 z
  funs := I.stack
  frf := I.stkFree
theorem blk_start (I : Inv X pins σ H s) (ck : ClOk X scope cl) (io : IxOk X N' scope ix) (f : ∀ b ∈ fp, FpOk X pins H b) (hlt : ∀ b ∈ fp, b < s.heap.objs.size) {h' : Heap} {m : Str → Option Value} {t' : Nat}
    (hn : h'.Ns s.heap.objs.size m) (k : ∀ b o, s.heap.get? b = some o → h'.get? b = some o) : Inv (blk X N' scope cl s.heap.objs.size s H fp) [] (blkSt ix σ) H { s with heap := h', toks := t' } := by
  have cl' : ∀ x c, cl.lookup x = some c → ∃ v, s.heap.IsCell c v := fun x c h => I.cell x c (ck.sub x c h)
  refine ⟨blk_ok I ck f hlt, rfl, I.bare, Un.kept k, ⟨m, hn, fun i x v e1 e2 e3 => ?_⟩, fun x c e => ?_, I.hok.fresh (Nat.le_refl _), fun x c e => I.freeC x c (ck.sub x c e), (fun p hp => by cases hp), I.hok.kept k, ?_⟩
  · unfold blkSt at e2
    rw [List.getElem?_map] at e2
    cases hi : ix[i]? with
    | none => rw [hi] at e2; cases e2
    | some o =>
      rw [hi] at e2
      cases o with
      | none => cases Option.some.inj e2
      | some j =>
        have e2' : (σ[j]?).bind id = some v := Option.some.inj e2
        obtain ⟨x', n1, n2, k1, k2⟩ := io.2 i j hi
        have ex : x' = x := Option.some.inj (n1.symm.trans e1)
        subst ex
        have es : σ[j]? = some (some v) := by
          cases q : σ[j]? with
          | none => rw [q] at e2'; cases e2'
          | some w =>
            rw [q] at e2'
            exact congrArg some e2'
        obtain ⟨m0, _, hl⟩ := I.loc
        obtain ⟨u, ru, lo⟩ := hl j x' v n2 es (k1.elim (fun z => .inr (.inl z)) fun z => .inr (.inr z))
        refine ⟨u, ru, .inr ⟨k2, ?_⟩⟩
        obtain ⟨c, hc⟩ := ck.has x' k2
        refine ⟨c, hc, ?_⟩
        rcases lo with ⟨z, _⟩ | ⟨_, c', hc', ic⟩
        · exfalso
          have z' : X.env.scope.names.lookup x' = some .local := z
          rcases k1 with k1 | k1 <;> (rw [z'] at k1; cases k1)
        · have ec : c' = c := Option.some.inj (hc'.symm.trans (ck.sub x' c hc))
          subst ec
          obtain ⟨o, ho, hd⟩ := ic
          exact ⟨o, k _ _ ho, hd⟩
  · obtain ⟨v, o, ho, hd⟩ := cl' x c e
    exact ⟨v, o, k _ _ ho, hd⟩
  · unfold blkSt
    rw [List.length_map]
    exact io.1
/-- behind the block: the frame's own words stand again -/
theorem blk_end (I : Inv X pins σ H s) (f : ∀ b ∈ fp, FpOk X pins H b) {σ' : St} {H' : Hp} {s' : Shared} {pl : List (Addr × Obj)} (J : Inv (blk X N' scope cl s.heap.objs.size s H fp) pl σ' H' s') {h' : Heap} (sb : Heap.SameBut s.heap.objs.size s'.heap h') :
    Inv X pins σ H' { s' with heap := h' } := by
  have nC : ∀ b o, s.heap.get? b = some o → b ≠ s.heap.objs.size := fun b o e => Nat.ne_of_lt (Heap.lt_size e)
  have hC : H' s.heap.objs.size = none := J.free
  have u : Un (frs X.stack) fp H H' s.heap s'.heap := J.base
  refine I.call' (ch := fp) (s' := { s' with heap := h' }) J.os ⟨fun b o e n hb hx => (sb.2 b (nC b o e)).trans (u.keep b o e n hb hx), fun b o e n hb hx => ?_, u.free, fun b o e hx => ?_, u.tups, u.frzs, u.tbls⟩ (fun b o e => ?_) J.bare
    (fun b hb => ⟨(f b hb).2.2.2.1, (f b hb).2.1, (f b hb).2.2.2.2.1, (f b hb).2.2.2.2.2⟩)
  · obtain ⟨sl, q⟩ := u.slot b o e n hb hx
    exact ⟨sl, (sb.2 b (nC b o e)).trans q⟩
  · obtain ⟨o', q⟩ := u.there b o e hx
    exact ⟨o', (sb.2 b (nC b o e)).trans q⟩
  · refine (J.hok b o e).stay (fun c v hc q => (sb.2 c ?_).trans q) (fun c q => q) fun c xs q => q
    rcases hc with rfl | hc
    · exact ne_of_none e hC
    · exact ne_of_none hc hC
end
/-- what the one knows the other one knows too -/
def StKeep : St → St → Prop
  | [], _ => True
  | none :: r, _ :: r' => StKeep r r'
  | none :: r, [] => StKeep r []
  | some v :: r, w :: r' => w = some v ∧ StKeep r r'
  | some _ :: _, [] => False
theorem StKeep.get : ∀ {a b : St}, StKeep a b → ∀ (j : Nat) v, a[j]? = some (some v) → b[j]? = some (some v)
  | [], _, _, _, _, e => by simp at e
  | none :: r, _ :: r', h, 0, v, e => by simp at e
  | none :: r, _ :: r', h, j + 1, v, e => by simpa using StKeep.get (a := r) (b := r') h j v (by simpa using e)
  | none :: r, [], h, 0, v, e => by simp at e
  | none :: r, [], h, j + 1, v, e => by have := StKeep.get (a := r) (b := []) h j v (by simpa using e); simp at this
  | some w :: r, _ :: r', h, 0, v, e => by
    have e' : w = v := by simpa using e
    subst e'
    simpa using h.1
  | some _ :: r, _ :: r', h, j + 1, v, e => by simpa using StKeep.get (a := r) (b := r') h.2 j v (by simpa using e)
section
variable {X : Cx}
end
end L2

/-! MY RULES: a method by the object's own class; data (ints, texts, tuples, lists within one another) and their ==; texts; comprehensions over lists and tuples. -/
namespace L2
open PySem PySem.Spec PyProof.Rows
/-! ### o.m(..), the class and the method found where the object stands -/
section
variable {X : Cx} {m : Str} {pos apos : Pos} {e o : Expr} {es : List Expr} {ta : TE} {t : TA}
end
/-! ### data -/
mutual
inductive Rep (H : Hp) : V → PyData → Prop
  | non : Rep H .non .none
  | bl (b : Bool) : Rep H (.bl b) (.bool b)
  | int (i : Int) : Rep H (.int i) (.int i)
  | str (x : Str) : Rep H (.str x) (.str x)
  | lst {p : Addr} {xs : List V} {ds : List PyData} : H p = some (.lst xs) → Reps H xs ds → Rep H (.ref p) (.list ds)
  | tup {p : Addr} {xs : List V} {ds : List PyData} : H p = some (.tup xs) → Reps H xs ds → Rep H (.ref p) (.tuple ds)
inductive Reps (H : Hp) : List V → List PyData → Prop
  | nil : Reps H [] []
  | cons {v : V} {vs : List V} {d : PyData} {ds : List PyData} : Rep H v d → Reps H vs ds → Reps H (v :: vs) (d :: ds)
end
mutual
theorem Rep.imp {H H' : Hp} (f : ∀ p o, H p = some o → H' p = some o) : ∀ {v : V} {d : PyData}, Rep H v d → Rep H' v d
  | _, _, .non => .non
  | _, _, .bl b => .bl b
  | _, _, .int i => .int i
  | _, _, .str x => .str x
  | _, _, .lst e r => .lst (f _ _ e) (Reps.imp f r)
  | _, _, .tup e r => .tup (f _ _ e) (Reps.imp f r)
theorem Reps.imp {H H' : Hp} (f : ∀ p o, H p = some o → H' p = some o) : ∀ {vs : List V} {ds : List PyData}, Reps H vs ds → Reps H' vs ds
  | _, _, .nil => .nil
  | _, _, .cons a r => .cons (Rep.imp f a) (Reps.imp f r)
end
theorem Rep.same {H H' : Hp} {v : V} {d : PyData} (h : Rep H v d) (s : Same H H') : Rep H' v d := h.imp s
section
variable {X : Cx} {pins : List (Addr × Obj)} {σ : St} {H : Hp} {s : Shared}
mutual
theorem rep_reads (I : Inv X pins σ H s) : ∀ {v : V} {d : PyData} {u : Value}, Rep H v d → RelV v u → ∃ as, Reads s.heap u d as
  | _, _, u, .non, r => by cases (show u = Value.none from r); exact ⟨_, .none⟩
  | _, _, u, .bl b, r => by cases (show u = Value.bool b from r); exact ⟨_, .bool b⟩
  | _, _, u, .int i, r => by obtain ⟨t, q⟩ := (show ∃ t, u = Value.int i t from r); cases q; exact ⟨_, .int i t⟩
  | _, _, u, .str x, r => by obtain ⟨t, q⟩ := (show ∃ t, u = Value.str x t from r); cases q; exact ⟨_, .str x t⟩
  | _, _, u, @Rep.lst _ p xs ds e q, r => by
    cases (show u = Value.ref p from r)
    obtain ⟨_, its, n, rv, ho⟩ := (show ObjOk X.prog X.w H s.heap p (.lst xs) from I.hok p _ e)
    obtain ⟨as, z⟩ := reps_reads I q rv
    exact ⟨_, Reads.list ho rfl rfl (by simpa using z)⟩
  | _, _, u, @Rep.tup _ p xs ds e q, r => by
    cases (show u = Value.ref p from r)
    obtain ⟨_, its, rv, o, ho, hc, n, hd⟩ := (show ObjOk X.prog X.w H s.heap p (.tup xs) from I.hok p _ e)
    obtain ⟨as, z⟩ := reps_reads I q rv
    exact ⟨_, Reads.tuple ho hc hd (by simpa using z)⟩
theorem reps_reads (I : Inv X pins σ H s) : ∀ {vs : List V} {ds : List PyData} {us : List Value}, Reps H vs ds → Vals vs us → ∃ as, ReadsAll s.heap us ds as
  | _, _, _, .nil, .nil => ⟨_, .nil⟩
  | _, _, _, .cons a r, .cons q rv => by
    obtain ⟨as, z⟩ := rep_reads I a q
    obtain ⟨bs, y⟩ := reps_reads I r rv
    exact ⟨_, .cons z y⟩
end
end
/-- == and != of data -/
def rEqD (neg : Bool) : R2 := fun x y H Q => ∃ d e, Rep H x d ∧ Rep H y e ∧ SeqAt.shaped d = true ∧ SeqAt.shaped e = true ∧ Q (.bl (if neg then !PyData.eqv d e else PyData.eqv d e)) H
section
variable {X : Cx}
theorem op_eqD (hu : X.A.units + 64 < cLine) : OpR X (compareOp .Eq) (rEqD false) := by
  intro pins s σ H x y v u Q I rx ry h
  obtain ⟨d, e, h1, h2, s1, s2, q⟩ := h
  obtain ⟨as, r1⟩ := rep_reads I h1 rx
  obtain ⟨bs, r2⟩ := rep_reads I h2 ry
  exact eq_dataH r1 r2 s1 s2 hu ⟨.bl (PyData.eqv d e), H, I, rfl, q⟩
/-! ### texts -/
end
/-! ### comprehensions -/
section
variable {K : PySem.W.Frag} {a D : Addr} {xs : List V} {g : TG} {te : TE} {Q : VK} {σ₀ : St} {H : Hp}
end
end L2

/-! MY RULES: a comprehension that takes one name over; range(a, b, c). -/
namespace L2
open PySem PySem.Spec PyProof.Rows
theorem lookup_mem {x : Str} {k : NameKind} : ∀ {l : List (Str × NameKind)}, l.lookup x = some k → (x, k) ∈ l
  | [], q => by cases q
  | (n, k') :: r, q => by
    rw [List.lookup_cons] at q
    split at q
    · rename_i hb
      have hb' : x = n := by simpa using hb
      cases q
      subst hb'
      exact .head _
    · exact .tail _ (lookup_mem q)
theorem clok_one {X : Cx} {scope : Scope} {x : Str} {c : Addr} (he : closureFor scope X.env = pure [(x, c)]) (hc : X.env.cells.lookup x = some c) (hk : scope.kind = .function) (hn : ∀ y ∈ scope.names, y.2 ≠ .cell ∧ (y.2 = .free → y.1 = x))
    (hl : ∀ y ∈ scope.names, y.2 = .local → scope.names.lookup y.1 = some .local) : ClOk X scope [(x, c)] where
  eq := he
  sub := fun y d h => by
    rw [List.lookup_cons] at h
    split at h
    · rename_i hb
      have hb' : y = x := by simpa using hb
      cases h
      subst hb'
      exact hc
    · cases h
  has := fun y h => by
    have key : y = x := by
      have m : ∃ k, (y, k) ∈ (relabel scope X.env).names ∧ (k = .cell ∨ k = .free) := h.elim (fun z => ⟨_, lookup_mem z, .inl rfl⟩) fun z => ⟨_, lookup_mem z, .inr rfl⟩
      obtain ⟨k, hm, hk⟩ := m
      obtain ⟨⟨n, k0⟩, h0, e⟩ := List.mem_map.mp hm
      dsimp only at e
      by_cases hf : k0 = .free
      · have en : n = y := by
          split at e
          · exact congrArg Prod.fst e
          · exact congrArg Prod.fst e
        rw [← en]
        exact (hn _ h0).2 hf
      · have hb : (k0 == NameKind.free) = false := by simpa using hf
        simp only [hb, Bool.false_and, Bool.false_eq_true, if_false] at e
        have e2 : k0 = k := congrArg Prod.snd e
        subst e2
        rcases hk with hk | hk
        · exact absurd hk (hn _ h0).1
        · exact absurd hk hf
    subst key
    exact ⟨c, by simp [List.lookup_cons]⟩
  kind := hk
  ncell := fun y hy => (hn y hy).1
  names := hl
theorem ixok_last {X : Cx} {N0 : List Str} {x : Str} {scope : Scope} {j : Nat} (hN : X.N[j]? = some x) (h1 : X.env.scope.names.lookup x = some .cell ∨ X.env.scope.names.lookup x = some .free)
    (h2 : (relabel scope X.env).names.lookup x = some .cell ∨ (relabel scope X.env).names.lookup x = some .free) : IxOk X (N0 ++ [x]) scope (List.replicate N0.length none ++ [some j]) := by
  refine ⟨by simp, fun i k e => ?_⟩
  by_cases hi : i < N0.length
  · rw [List.getElem?_append_left (by simpa using hi), List.getElem?_replicate] at e
    split at e <;> cases e
  · have hi' : i = N0.length := by
      have := (List.getElem?_eq_some_iff.mp e).1
      simp at this
      omega
    subst hi'
    rw [List.getElem?_append_right (by simp)] at e
    have ek : j = k := by simpa using e
    subst ek
    exact ⟨x, by simp, hN, h1, h2⟩
/-! ### range(a, b, c) -/
end L2

/-! MY RULES: a part of the heap; data in a part; lookups of attributes; what is walked may be a list or a tuple. -/
set_option linter.all false
namespace L2
open PySem PySem.Spec PyProof.Rows
/-! ### heaps -/
theorem same_fresh {H H' : Hp} {l : Addr} {o : HO} (s : Same H H') (hl : H l = none) : Same H (upd H' l o) := fun b u e => by
  rw [upd_ne (ne_of_none e hl)]
  exact s b u e
theorem same_new {H : Hp} {l : Addr} {o : HO} (hl : H l = none) : Same H (upd H l o) := same_fresh (Same.refl H) hl
theorem line_le {n : Nat} (h : n ≤ 1000000) : n ≤ sizeLine := by rw [sizeLine_eq]; omega
theorem line_lt {n : Nat} (h : n ≤ 1000000) : n < sizeLine := by rw [sizeLine_eq]; omega
/-! ### data -/
section
variable {G : Hp} {v : V} {vs : List V} {d : PyData} {ds : List PyData}
end
/-! ### attributes -/
/-! ### a test that is known -/
theorem iteD {c A B : Prop} [Decidable c] (h1 : c → A) (h2 : ¬ c → B) : if decide c = true then A else B :=
  ite2 (fun h => h1 (of_decide_eq_true h)) (fun h => h2 fun hc => h (decide_eq_true hc))
/-! ### a list or a tuple is walked -/
section
variable {X : Cx}
end
/-! ### atI -/
theorem at_mapV {α : Type} {f : α → V} {xs : List α} {i : Int} (h0 : 0 ≤ i) (h1 : i < xs.length) : ∃ x, xs[i.toNat]? = some x ∧ atI (xs.map f) i = some (f x) := by
  obtain ⟨n, rfl⟩ := Int.eq_ofNat_of_zero_le h0
  have hn : n < xs.length := by omega
  exact ⟨xs[n], by simp [hn], atI_nat (by simp [hn])⟩
/-! ### comprehensions: the end is said of the heap alone -/
section
variable {K : PySem.W.Frag} {a D : Addr} {xs : List V} {g : TG} {te : TE} {QD : Hp → Prop} {σ₀ : St} {H : Hp}
end
/-! ### isinstance of an own class -/
theorem kit_true {K : PySem.W.Frag} {C D : Addr} (h1 : PySem.W.isClsIn K D = true) (h2 : PySem.W.typeIn K (.ref D) = some (.type "type")) (h3 : PySem.W.mroIn K C (.ref D) = some true) : PySem.W.kitOne K (.ref C) (.ref D) = some true := by
  unfold PySem.W.kitOne
  split
  · rfl
  · show (if ((PySem.W.clsIn K D).isSome && PySem.W.typeIn K (.ref D) == some (.type "type")) = true then PySem.W.subIn K (.ref C) (.ref D) else none) = some true
    have h1' : (PySem.W.clsIn K D).isSome = true := h1
    rw [if_pos (by rw [h1', h2]; rfl)]
    exact h3
theorem kit_false {K : PySem.W.Frag} {C D : Addr} (h0 : (Value.ref C == Value.ref D) = false) (h1 : PySem.W.isClsIn K D = true) (h2 : PySem.W.typeIn K (.ref D) = some (.type "type")) (h3 : PySem.W.mroIn K C (.ref D) = some false) : PySem.W.kitOne K (.ref C) (.ref D) = some false := by
  unfold PySem.W.kitOne
  rw [if_neg (by rw [h0]; exact Bool.false_ne_true)]
  show (if ((PySem.W.clsIn K D).isSome && PySem.W.typeIn K (.ref D) == some (.type "type")) = true then PySem.W.subIn K (.ref C) (.ref D) else none) = some false
  have h1' : (PySem.W.clsIn K D).isSome = true := h1
  rw [if_pos (by rw [h1', h2]; rfl)]
  exact h3
end L2

/-! MY RULES: a list comprehension with one test. -/
set_option linter.all false
namespace L2
open PySem PySem.Spec PyProof.Rows
section
variable {X : Cx}
/-- [elt for tg in iter if c] -/
def tCompIf (ix : List (Option Nat)) (wi : TI) (g : TG) (tc : TT) (te : TE) : TE := fun σ H Q => wi σ H fun J H1 => ∀ D, H1 D = none → ∃ W : Nat → Nat → Hp → Prop, (∃ m, W 0 m (upd H1 D (.lst []))) ∧ ∀ i m H2, W i m H2 →
  (J.stop i H2 ∧ Q (.ref D) H2) ∨ (J.go i H2 ∧ ∃ (N : VK) (M : Hp → Prop), (∀ y H5, N y H5 → ∃ xs, H5 D = some (.lst xs) ∧ xs.length < sizeLine ∧ ∃ m', m' < m ∧ W (i + 1) m' (upd H5 D (.lst (xs ++ [y])))) ∧ (∀ H5, M H5 → ∃ m', m' < m ∧ W (i + 1) m' H5) ∧ ∀ x H3, J.yld i H2 x H3 → g x (blkSt ix σ) H3 fun σ4 H4 => StKeep (blkSt ix σ) σ4 ∧ tc σ4 H4 fun b H5 => if b = true then te σ4 H5 N else M H5)
end
section
variable {K : PySem.W.Frag} {a D : Addr} {xs : List V} {g : TG} {tc : TT} {te : TE} {QD : Hp → Prop} {σ₀ : St} {H : Hp}
end
end L2

/-! MY RULES: zip(list, list), a comprehension over anything, promises joined, dicts laid pair by pair. -/
set_option linter.all false
set_option maxRecDepth 100000
namespace L2
open PySem PySem.Spec PyProof.Rows
/-! ### zip(list, tuple) is made -/
/-! ### a comprehension over anything -/
section
variable {D : Addr} {g : TG} {te : TE} {QD : Hp → Prop} {σ₀ : St} {H : Hp}
end
/-! ### within a comprehension: the rules by the text's own K -/
theorem ix_listK {X : Cx} {K : PySem.W.Frag} (h : X.K = K) : IxR X (rIxL K) := h ▸ ix_list
/-! ### own classes and built-in ones; promises joined -/
theorem isi_bt {K : PySem.W.Frag} {C : Addr} {U : String} {b : Bool} (h : PySem.W.mroIn K C (.type U) = some b) (hm : PySem.W.kitMeta U = true) : ∀ u, RelV (.ty U) u → PySem.W.kitOne K (.ref C) u = some b := by
  intro u z
  cases (show u = Value.type U from z)
  unfold PySem.W.kitOne
  rw [if_neg (show ¬ (Value.ref C == Value.type U) = true from Bool.false_ne_true)]
  show (if PySem.W.kitMeta U = true then PySem.W.subIn K (.ref C) (.type U) else none) = some b
  rw [if_pos hm]
  exact h
/-! ### dicts laid pair by pair -/
end L2

/-! MY RULES: an exception of one's own class without fields: raised, through the defs that it leaves. -/
set_option linter.all false
set_option maxRecDepth 100000
namespace L2
open PySem PySem.Spec PyProof.Rows

/-! ### an exception behind a call: where it flies, what it leaves as it was -/
theorem ObjOk.at18 {P : Program} {w : World} {H : Hp} {h : Heap} {a : Addr} {o : HO} (x : ObjOk P w H h a o) : ∃ u, h.get? a = some u := by
  cases o with
  | lst xs => obtain ⟨_, _, _, _, e⟩ := x; exact ⟨_, e⟩
  | tup xs => obtain ⟨_, _, _, o, e, _⟩ := x; exact ⟨_, e⟩
  | dK kvs => obtain ⟨_, _, _, _, o, _, _, e, _⟩ := x; exact ⟨_, e⟩
  | dT kvs => obtain ⟨_, _, _, _, o, _, _, e, _⟩ := x; exact ⟨_, e⟩
  | set S n => obtain ⟨o, _, _, _, e, _⟩ := x; exact ⟨_, e⟩
  | ins C dx fs => obtain ⟨_, _, _, e, _⟩ := x; exact ⟨_, e⟩
  | own y => obtain ⟨_, e⟩ := x; exact ⟨_, e⟩
  | xd fs => obtain ⟨_, ⟨_, _, _, e, _⟩, _⟩ := x; exact ⟨_, e⟩
  | rng lo hi => obtain ⟨_, _, _, e⟩ := x; exact ⟨_, e⟩
  | frz ob u => obtain ⟨e, _⟩ := x; exact ⟨_, e⟩
  | tbl ps => exact ⟨_, (show h.get? a = some _ from x)⟩
  | met f y => exact ⟨_, (show h.get? a = some _ from x)⟩
  | ext φ => obtain ⟨_, ⟨_, e⟩, _⟩ := x; exact ⟨_, e⟩

section
variable {X : Cx} {pins : List (Addr × Obj)} {σ : St} {H1 H' : Hp} {s1 : Shared} {B h1 h' : Heap}
end

/-! ### out of a def -/
section
variable {P : Program} {w : World} {K : PySem.W.Frag} {mg : Str → Option Value} {base : Heap} {N : List Str} {qual : Str} {scope : Scope} {f : Addr} {cd : Value} {A : Around} {outer : List Env} {s : Shared} {H : Hp} {E : XK}
end

/-! ### the class -/
/-! ### raise C(..) -/
abbrev bmVE : List Value := [.type "ValueError", .type "Exception", .type "BaseException", .type "object"]
end L2

/-! MY RULES: try: .. except C as e: .. around one call. -/
set_option linter.all false
set_option maxRecDepth 100000
namespace L2
open PySem PySem.Spec PyProof.Rows

/-! ### within an except suite -/
abbrev Cx.held (X : Cx) (ea : Addr) : Cx := { X with A := X.A.mark (some (.ref ea)), calm := false, xe := fun _ _ => False }
theorem Cx.Ok.held {X : Cx} (ok : X.Ok) (ea : Addr) : (X.held ea).Ok :=
  ⟨ok.mod, ok.kind, ok.glob, ok.blt, ok.above, ok.inj, ok.has, ok.cab, fun z => (by cases z), ok.frames, ok.stk, ok.exf, ok.bs, ok.bsz, ok.noex, ok.exfs, ok.funs, ok.frf⟩
section
variable {X : Cx} {pins : List (Addr × Obj)} {σ : St} {H H1 : Hp} {s s1 : Shared} {ea C : Addr} {a0 : Value} {B : Heap}
theorem Inv.held (I : Inv X pins σ H s) (ea : Addr) : Inv (X.held ea) pins σ H s := ⟨I.ok.held ea, I.os, I.bare, I.base, I.loc, I.cell, I.free, I.freeC, I.pin, I.hok, I.len⟩
theorem Inv.unheld (I : Inv (X.held ea) pins σ H s) (ok : X.Ok) : Inv X pins σ H s := ⟨ok, I.os, I.bare, I.base, I.loc, I.cell, I.free, I.freeC, I.pin, I.hok, I.len⟩

/-! ### the name that the clause bound goes -/
theorem unbind_ok {M : Model} {A : Around} {E : Value → Shared → Prop} {i : Nat} {x : Str} {pos : Pos} {Q : Unit → Shared → Prop} (I : Inv X pins σ H s) (hN : X.N.Nodup) (hi : X.N[i]? = some x) (hx : X.env.scope.names.lookup x = some .local)
    (h : ∀ s', Inv X pins (σ.set i none) H s' → Q () s') : wpAny M A (do bindName X.env x .none; unbindBehindTheSuite X.env x pos) Q E s := by
  refine wpAny_bind (wpAny_bindName (store_ok (v := .non) (u := .none) I hN hi (.inl hx) rfl (fun s1 I1 => ?_) (.inr hx)))
  unfold unbindBehindTheSuite
  refine wpAny_onRaise ?_
  obtain ⟨m, hn, hl⟩ := id I1.loc
  have hcls : (X.env.scope.kind == .class || (X.env.scope.kind == .module && X.env.locals != X.env.globals)) = false := by rw [I1.ok.kind]; rfl
  have hiσ : i < σ.length := by rw [I.len]; exact (List.getElem?_eq_some_iff.mp hi).1
  have cne := I1.cne
  have hk : X.env.kindOf x = some .local := hx
  obtain ⟨u, ru, hu⟩ := hl i x .non hi (List.getElem?_set_self hiσ) (.inl hx)
  have hm : m x = some u := by
    rcases hu with ⟨_, e⟩ | ⟨k, _⟩
    · exact e
    · rw [hk] at k
      rcases k with k | k <;> cases k
  refine wpAny_unbindName_local hk hn hm hcls fun h' v hn' hs => ?_
  obtain ⟨oL, _, _, hoL, _⟩ := id hn
  refine h _ ⟨I1.ok, I1.os, I1.bare, ⟨fun b o e n hb hx => ?_, fun b o e n hb hx => ?_, I1.base.free, fun b o e hx => ?_, I1.base.tups, I1.base.frzs, I1.base.tbls⟩, ⟨_, hn', fun j y v' e1 e2 e3 => ?_⟩, fun y c e => ?_, I1.free, I1.freeC, fun p hp => ?_, fun b ob e => ?_, by simpa using I.len⟩
  · exact (hs.2 b (Nat.ne_of_lt (Nat.lt_of_lt_of_le (Heap.lt_size e) I1.ok.above))).trans (I1.base.keep b o e n hb hx)
  · obtain ⟨sl, e1⟩ := I1.base.slot b o e n hb hx
    exact ⟨sl, (hs.2 b (Nat.ne_of_lt (Nat.lt_of_lt_of_le (Heap.lt_size e) I1.ok.above))).trans e1⟩
  · obtain ⟨o', e1⟩ := I1.base.there b o e hx
    exact ⟨o', (hs.2 b (Nat.ne_of_lt (Nat.lt_of_lt_of_le (Heap.lt_size e) I1.ok.above))).trans e1⟩
  · by_cases hj : j = i
    · subst hj
      rw [List.getElem?_set_self hiσ] at e2
      cases e2
    · rw [List.getElem?_set_ne (Ne.symm hj)] at e2
      obtain ⟨u', r', q⟩ := hl j y v' e1 (by rw [List.getElem?_set_ne (Ne.symm hj)]; exact e2) e3
      refine ⟨u', r', ?_⟩
      rcases q with ⟨k, e⟩ | ⟨k, c, e, z⟩
      · refine .inl ⟨k, ?_⟩
        have : y ≠ x := fun e => hj (nodup_ix hN e1 (e ▸ hi))
        simp [this, e]
      · exact .inr ⟨k, c, e, z.sameBut hs (cne y c e)⟩
  · obtain ⟨w', z⟩ := I1.cell y c e
    exact ⟨w', z.sameBut hs (cne y c e)⟩
  · obtain ⟨e, n, ne, nf, d⟩ := I1.pin p hp
    exact ⟨(hs.2 p.1 ne).trans e, n, ne, nf, d⟩
  · refine (I1.hok b ob e).stay (fun c w' hc q => (hs.2 c ?_).trans q) (fun _ q => q) fun _ _ q => q
    rintro rfl
    rcases hc with rfl | hc
    · rw [I1.free] at e; cases e
    · rw [I1.free] at hc; cases hc

/-! ### the exception that was caught, tracked -/
def xcF (ea C : Addr) : Heap → Prop := fun h => ∃ o vs, h.get? ea = some o ∧ o.cls = .ref C ∧ o.data = .fields vs
/-! ### the flight, seen from the frame that catches -/
end

/-! ### the clauses -/
section
variable {X : Cx} {C C' : Addr} {y n : Str} {yp hpos : Pos} {b₀ : Stmt} {suite : List Stmt} {rest : List ExceptHandler} {th : Addr → TS} {i : Nat}
theorem exm_at {M : Model} {K : PySem.W.Frag} {h : Heap} {ea : Addr} {c : Value} {b : Bool} (X : K.In h) (hx : xcF ea C h) (e : PySem.W.exmOne K (.ref C) c = some b) : PySem.W.Looks M h (excMatches (.ref ea) c) b := by
  obtain ⟨o, vs, ho, hc, _⟩ := hx
  have LT : PySem.W.Looks M h (typeOf (.ref ea)) (.ref C) := by
    have z : PySem.W.Looks M h (typeOf (.ref ea)) o.cls := (PySem.W.Looks.ld ho).andThen .now
    rw [hc] at z
    exact z
  exact PySem.W.exm_one X LT e
end

/-! ### a call that may throw -/
section
variable {X : Cx} {k : Nat} {f : Addr} {fd : FuncData} {ps : List Str} {sp : Sp} {x : Str} {p pos : Pos} {e : Expr} {es : List Expr} {t : TA}
end

/-! ### try -/
section
variable {X : Cx} {hs : List ExceptHandler} {h₀ : ExceptHandler} {e : Expr} {tx : TX} {pos epos npos : Pos} {i : Nat} {n : Str}
end

/-! ### a def whose exceptions may leave -/
section
variable {P : Program} {w : World} {K : PySem.W.Frag} {mg : Str → Option Value} {base : Heap}
end

/-! ### names of the top that are no defs and no classes -/
/-- a clause of the class D, an exception of the class C -/
theorem exm_of {K : PySem.W.Frag} {C D : Addr} {b : Bool} (hb : PySem.W.mroIn K D (.type "BaseException") = some true) (h1 : PySem.W.isClsIn K D = true) (h2 : PySem.W.typeIn K (.ref D) = some (.type "type")) (h3 : PySem.W.mroIn K C (.ref D) = some b) :
    PySem.W.exmOne K (.ref C) (.ref D) = some b := by
  unfold PySem.W.exmOne
  have e : PySem.W.subIn K (.ref D) (.type "BaseException") = some true := hb
  have h1' : (PySem.W.clsIn K D).isSome = true := h1
  rw [if_pos (by rw [e]; rfl)]
  show (if ((PySem.W.clsIn K D).isSome && PySem.W.typeIn K (.ref D) == some (.type "type")) = true then PySem.W.subIn K (.ref C) (.ref D) else none) = some b
  rw [if_pos (by rw [h1', h2]; rfl)]
  exact h3
end L2

/-! MY RULES: attributes of an exception of one's own class, and isinstance of it. -/
set_option linter.all false
set_option maxRecDepth 100000
namespace PySem.W
open PySem PySem.Spec PySem.Calls PyProof.Rows PySem.Builtin.ObjectAttr

/-- what is asked of a class of exceptions: BaseException's reading of attributes, object's __class__ -/
structure XcIn (K : Frag) (C : Addr) : Prop where
  ga : findIn K (.ref C) "__getattribute__" = some (some (.builtin "BaseException.__getattribute__"))
  gt : findIn K (.ref C) "__getattr__" = some none
  mB : mroIn K C (.type "BaseException") = some true
  mO : mroIn K C (.type "object") = some true
  cl : findIn K (.ref C) "__class__" = some (some (.builtin "object.__class__"))
  sp : specialIn K (.builtin "object.__class__") "__get__" = some (some (.builtin "getset_descriptor.__get__"))
  tk : takesIn K (.builtin "object.__class__") = some true
/-- an object of that class lies there -/
def KitE (a C : Addr) (h : Heap) : Prop := ∃ o, h.get? a = some o ∧ o.cls = .ref C

section
variable {prog : Program} {w : World} {A : Around} {E : Value → Shared → Prop} {h : Heap} {g : Array GenState} {d : Drawn} {t : Nat} {os : OsState} {a C : Addr} {o : Obj} {K : Frag} {name : Str}
theorem XcIn.cls (c : XcIn K C) : ∃ cd, clsIn K C = some cd := by
  obtain ⟨cd, h, _⟩ := Option.bind_eq_some_iff.mp c.mB
  exact ⟨cd, h⟩
theorem KitE.type {M : Model} (p : KitE a C h) : Looks M h (typeOf (.ref a)) (.ref C) := by
  obtain ⟨o, ho, hc⟩ := p
  have z : Looks M h (typeOf (.ref a)) o.cls := (Looks.ld ho).andThen .now
  rwa [hc] at z

/-- the call of BaseException's __getattribute__ is let by -/
theorem xc_check {M : Model} {nv : Value} {Q : Unit → Shared → Prop} (X : K.In h) (c : XcIn K C) (ho : h.get? a = some o) (ok : o.cls = .ref C) (hq : Q () ⟨h, g, d, t, os⟩) :
    wpAny M A (checkBuiltinCall "BaseException.__getattribute__" ⟨[.ref a, nv], []⟩) Q E ⟨h, g, d, t, os⟩ := by
  have sub := looks_mroIn (M := M) X c.mB
  have ar := F.args_bexc_ga (.ref a) nv
  simp only [checkBuiltinCall, (by decide +kernel : builtinKind "BaseException.__getattribute__" = some .slot), (by decide +kernel : splitId "BaseException.__getattribute__" = some ("BaseException", "__getattribute__"))]
  refine wpAny_bind ?_
  unfold isInstance
  repeat (first | (with_reducible refine wpAny_loadPart_at ho ?_; rw [ok]) | (with_reducible refine sub.at ?_) | wp_step)
  exact hq

/-! ### e.__class__ -/
theorem xc_find {M : Model} (X : K.In h) (c : XcIn K C) : Looks M h (find (.ref a) (.ref C) "__class__") (.bind (.builtin "getset_descriptor.__get__") (.builtin "object.__class__")) :=
  (looks_findIn X c.cl).andThen ((show Looks M h (getOf (some (.builtin "object.__class__"))) (some (.builtin "getset_descriptor.__get__")) from looks_specialIn X c.sp).andThen
    ((show Looks M h (dataDescriptor? (some (.builtin "object.__class__")) (some (.builtin "getset_descriptor.__get__"))) (some (.builtin "getset_descriptor.__get__", .builtin "object.__class__")) from (looks_takesIn X c.tk).andThen .now).andThen (Looks.tag .now)))
theorem xc_get {R : Result → Shared → Prop} (X : K.In h) (c : XcIn K C) (ho : h.get? a = some o) (ok : o.cls = .ref C) (hq : R (.ok (.ret (.ref C))) ⟨h, g, d, t, os⟩) :
    codeAny (model prog w) A (.call (.builtin "getset_descriptor.__get__") ⟨[.builtin "object.__class__", .ref a, .ref C], []⟩) R ⟨h, g, d, t, os⟩ := by
  have ty : (⟨h, g, d, t, os⟩ : Shared).TypeIs (.builtin "object.__class__") "getset_descriptor" := F.typeOf_object_class
  have sub : Looks (model prog w) h (isSubtype (.ref C) (.type (".".intercalate ("object.__class__".cutAt '.').dropLast))) true := by
    rw [F.owner_object_class]
    exact looks_mroIn X c.mO
  refine codeAny_call_builtin F.slot_gs_get.plain F.entry_gs_get (F.slot_gs_get.check _ _ _ _ _ _ _ _ ty (F.args_gs_get _ _ _) ?_)
  repeat (any_goals (first | assumption | (with_reducible refine wpAny_loadPart_at ho ?_; rw [ok]) | (with_reducible refine sub.at ?_) | wp_step))
  refine ⟨Code.quiet_builtin _ (by decide +kernel), codeAny_builtin F.entry_object_class ?_⟩
  repeat (any_goals (first | assumption | (with_reducible refine wpAny_loadPart_at ho ?_; rw [ok]) | wp_step))
theorem xc_entry {tk : Tok} {Q : Fin → Shared → Prop} (X : K.In h) (c : XcIn K C) (ho : h.get? a = some o) (ok : o.cls = .ref C) (hq : Q (.done (.ret (.ref C))) ⟨h, g, d, t, os⟩) :
    wpAny (model prog w) A (Builtin.«object.__getattribute__» ⟨[.ref a, .str "__class__" tk], []⟩) Q E ⟨h, g, d, t, os⟩ := by
  have L := xc_find (M := model prog w) (a := a) X c
  unfold Builtin.«object.__getattribute__»
  repeat (any_goals (first | assumption | (with_reducible refine L.at ?_) | (with_reducible refine wpAny_loadPart_at ho ?_; rw [ok]) | wp_step))
  refine xc_get X c ho ok ?_
  repeat (any_goals (first | assumption | wp_step))

/-! ### any attribute, by what the call of __getattribute__ gives -/
theorem xc_by {tk : Tok} {fill expr : Bool} {v : Value} {Q : Value → Shared → Prop} (X : K.In h) (c : XcIn K C) (ho : h.get? a = some o) (ok : o.cls = .ref C)
    (hq : ∀ (A : Around) (R : Result → Shared → Prop), R (.ok (.ret v)) ⟨h, g, d, t, os⟩ → codeAny (model prog w) A (.call (.builtin "BaseException.__getattribute__") ⟨[.ref a, .str name tk], []⟩) R ⟨h, g, d, t, os⟩) (hh : handedIn v = true) (hQ : Q v ⟨h, g, d, t, os⟩) :
    wpAny (model prog w) A (getAttrBy (.ref a) (.str name tk) fill expr) Q E ⟨h, g, d, t, os⟩ := by
  have b := F.attr_ValueError.ga.bind (.ref a)
  have L1 := looks_findIn (M := model prog w) X c.ga
  have L2 := looks_findIn (M := model prog w) X c.gt
  have n1 : (Value.builtin "BaseException.__getattribute__" == Value.builtin "object.__getattribute__") = false := by decide +kernel
  have n2 : (onTheHeap (Value.ref C) && Value.builtin "BaseException.__getattribute__" == Value.builtin "object.__getattribute__") = false := by simp [n1]
  have n3 : (expr && onTheHeap (Value.builtin "BaseException.__getattribute__")) = false := Bool.and_eq_false_iff.mpr (.inr rfl)
  repeat (any_goals (first | assumption | (with_reducible refine wpAny_loadPart_at ho ?_; rw [ok]) | (with_reducible refine L1.at ?_) | (with_reducible refine L2.at ?_) | wp_step))
  refine hq _ _ ?_
  repeat (any_goals (first | assumption | wp_step))
  show wpAny _ _ (handedOut v) _ _ _
  rw [handedOut_of hh]
  exact wpAny_pure hQ
theorem xc_class {Q : Option Value → Shared → Prop} {s : Shared} (X : K.In s.heap) (c : XcIn K C) (p : KitE a C s.heap) (hq : Q (some (.ref C)) { s with toks := s.toks + 1 }) : wpAny (model prog w) A (getAttr? (.ref a) "__class__") Q E s := by
  obtain ⟨o, ho, ok⟩ := p
  obtain ⟨h, g, d, t, os⟩ := s
  unfold getAttr? getAttrBy?
  have B : ∀ {A : Around} {E : Value → Shared → Prop} {Q : Value → Shared → Prop}, Q (.ref C) ⟨h, g, d, t + 1, os⟩ → wpAny (model prog w) A (getAttrBy (.ref a) (.str "__class__" t) false) Q E ⟨h, g, d, t + 1, os⟩ := fun {A E Q} hQ =>
    xc_by X c ho ok (fun A R hR => codeAny_call_builtin F.attr_ValueError.ga.plain F.entry_bexc_ga (xc_check X c ho ok (xc_entry X c ho ok hR))) rfl hQ
  repeat (any_goals (first | assumption | with_reducible apply B | wp_step))

/-! ### isinstance -/
theorem kitx_exc (c : XcIn K C) : KitX K (.ref a) (.ref C) (KitE a C) where
  ty := fun _ _ _ p => p.type
  it := fun _ _ X _ => by
    obtain ⟨cd, e⟩ := c.cls
    intro A Q E s k q
    unfold clsIn at e
    split at e
    case h_1 there => exact wpAny_bind (wpAny_loadPart (k _ _ (X _ _ there)) (wpAny_pure q))
    case h_2 => cases e
  ne := fun h tp dd its n sl X htp => by
    obtain ⟨cd, e⟩ := c.cls
    rw [Bool.eq_false_iff]
    intro q
    cases beq_iff_eq.mp q
    unfold clsIn at e
    split at e
    case h_1 there => cases (X _ _ there).symm.trans htp
    case h_2 => cases e
  ca := fun X p k => xc_class X c p k
end
end PySem.W

namespace L2
open PySem PySem.Spec PyProof.Rows
section
variable {X : Cx}
end
end L2

/-! MY RULES: t + u of tuples, either may be empty. -/
set_option linter.all false
set_option maxRecDepth 100000
set_option maxHeartbeats 2000000
namespace L2
open PySem PySem.Spec PyProof.Rows
section
variable {X : Cx}
def rCatT3 (K : PySem.W.Frag) : R2 := fun x y H Q => ∃ a b xs ys, x = .ref a ∧ y = .ref b ∧ SqT K H a xs ∧ SqT K H b ys ∧ xs.length + ys.length ≤ sizeLine ∧
  (xs = [] → Q (.ref b) H) ∧ (xs ≠ [] → ys = [] → Q (.ref a) H) ∧ (xs ≠ [] → ys ≠ [] → ∀ p, H p = none → Q (.ref p) (upd H p (.tup (xs ++ ys))))
theorem op_catT3 : OpR X (binaryOp .Add) (rCatT3 X.K) := by
  intro pins s σ H x y v u Q I rx ry h
  obtain ⟨a, b, xs, ys, rfl, rfl, ha, hb, hz, q1, q2, q3⟩ := h
  by_cases hx : xs = []
  · subst hx
    cases rx
    cases ry
    obtain ⟨its, r1, p1, _⟩ := I.tuple ha
    obtain ⟨its2, r2, p2, _⟩ := I.tuple hb
    have e1 : its = [] := r1.nil_iff.mpr rfl
    obtain ⟨⟨cls, dd, data, sl⟩, ho, hc, n, hd⟩ := id p1
    obtain ⟨⟨cls2, dd2, data2, sl2⟩, ho2, hc2, n2, hd2⟩ := id p2
    simp only at hc hd hc2 hd2
    subst hc hd hc2 hd2
    exact concat_meets ⟨_, ho, rfl⟩ ⟨_, ho2, rfl⟩ noFill_tuple_add seq_tuple_add PySem.F.slot_tuple_add PySem.F.entry_tuple_add (PySem.F.args_tuple_add_2 _ _)
      (tuple_addW0 a b its.toArray its2.toArray n n2 dd dd2 sl sl2 (by simp [e1])) ⟨ho, ho2, ⟨.ref b, H, I, rfl, q1 rfl⟩⟩
  · exact op_catT pins s σ H _ _ v u Q I rx ry ⟨a, b, xs, ys, rfl, rfl, ha, hb, hx, hz, fun z => q2 hx z, fun z => q3 hx z⟩
/-- the same, told in one word -/
def rCatT4 : R2 := fun x y H Q => ∃ a b xs ys, x = .ref a ∧ y = .ref b ∧ H a = some (.tup xs) ∧ H b = some (.tup ys) ∧ xs.length + ys.length ≤ sizeLine ∧ ∀ q H', Same H H' → H' q = some (.tup (xs ++ ys)) → Q (.ref q) H'
theorem op_catT4 : OpR X (binaryOp .Add) rCatT4 := fun pins s σ H x y v u Q I rx ry h => by
  obtain ⟨a, b, xs, ys, e1, e2, ha, hb, hz, q⟩ := h
  refine op_catT3 pins s σ H x y v u Q I rx ry ⟨a, b, xs, ys, e1, e2, SqT.of ha, SqT.of hb, hz, fun z => ?_, fun _ z => ?_, fun _ _ p hp => ?_⟩
  · subst z; exact q b H (Same.refl _) hb
  · subst z; exact q a H (Same.refl _) (by rw [List.append_nil]; exact ha)
  · exact q p _ (same_new hp) upd_same
end
end L2

/-! MY RULES: a call of an own class of exceptions that has its own __init__, own classes above it. -/
set_option linter.all false
set_option maxRecDepth 100000
set_option maxHeartbeats 2000000
namespace L2
open PySem PySem.Spec PyProof.Rows
section
variable {prog : Program} {w : World} {A : Around} {E : Value → Shared → Prop} {h : Heap} {g : Array GenState} {d : Drawn} {t : Nat} {os : OsState}
variable {nm q : Str} {C N : Addr} {bs bm bmB : List Value} {hdct : Bool} {sn : List Str} {sub : List Value} {ab : Bool} {col : Option Bool} {dd : Option Addr} {k0 k1 k2 k3 k5 : Option Value} {B Bn newId nid initId inN : String} {bmN : List Value}
theorem type_call_exc_initU (Fn : ExcBaseFacts Bn newId inN bmN) (hBn : bmB.contains (.type Bn) = true) (F : ExcBaseFacts B nid initId bmB) (T : OwnTail h bmB bm) {mN : Str → Option Value} {rest : List Value} {fI : Addr} {oI : Obj} {Q : Fin → Shared → Prop}
    (hC : h.get? C = some (excClassObj nm q C N bs bm hdct sn sub ab col dd k0 k1 k2 k3 k5 newId)) (hn : h.Ns N mN) (hi : mN "__init__" = some (.ref fI))
    (hfI : h.get? fI = some oI) (hfc : oI.cls = .type "function")
    (hq : ∀ h' e, Heap.MadeExcOf h h' e (.ref C) rest →
      wpAny (model prog w) A (call (.ref fI) (.ref e :: rest)) (fun r s' => r = .none ∧ Q (.done (.ret (.ref e))) s') E ⟨h', g, d, t, os⟩) (hrest : rest.length ≤ sizeLine) :
    wpAny (model prog w) A (Builtin.«type.__call__» ⟨.ref C :: rest, []⟩) Q E ⟨h, g, d, t, os⟩ := by
  repeat (first | with_reducible refine wpAny_loadPart_at hC ?_ | with_reducible refine wpAny_madeBy_exc hC ?_ | wp_step)
  refine codeAny_call_builtin_code (Code.quiet_builtin _ Fn.quiet) (wpAny_check_new_subU Fn hBn T hC ?_)
  refine codeAny_exc_new_subU Fn hBn F T hC ?_ hrest
  show wpAny _ _ _ _ _ _
  have hC₁ := Heap.get?_push_of_some { cls := .ref C, data := .fields #[.ref h.objs.size, .none, .none, .none, .bool false, .none] }
    (Heap.get?_push_of_some { cls := .type "tuple", data := .seq rest.toArray } hC)
  have hfI₁ := Heap.get?_push_of_some { cls := .ref C, data := .fields #[.ref h.objs.size, .none, .none, .none, .bool false, .none] }
    (Heap.get?_push_of_some { cls := .type "tuple", data := .seq rest.toArray } hfI)
  have hn₁ : ((h.push { cls := .type "tuple", data := .seq rest.toArray }).push { cls := .ref C, data := .fields #[.ref h.objs.size, .none, .none, .none, .bool false, .none] }).Ns N mN :=
    let ⟨o, es, ep, e, r⟩ := hn; ⟨o, es, ep, Heap.get?_push_of_some _ (Heap.get?_push_of_some _ e), r⟩
  have hget : ((h.push { cls := .type "tuple", data := .seq rest.toArray }).push
      { cls := .ref C, data := .fields #[.ref h.objs.size, .none, .none, .none, .bool false, .none] }).get? (h.objs.size + 1) = some
      { cls := .ref C, data := .fields #[.ref h.objs.size, .none, .none, .none, .bool false, .none] } := by heap_get
  have hcC : (Value.ref C :: bm).contains (.ref C) = true := by simp
  have T₁ := T.keeps (h' := (h.push { cls := .type "tuple", data := .seq rest.toArray }).push { cls := .ref C, data := .fields #[.ref h.objs.size, .none, .none, .none, .bool false, .none] })
    fun b o e => Heap.get?_push_of_some _ (Heap.get?_push_of_some _ e)
  unfold isInstance
  repeat (first | with_reducible refine wpAny_loadPart_at hget ?_ | (with_reducible refine wpAny_isSubtype_exc hC₁ ?_; rw [hcC]) | wp_step)
  show wpAny _ _ (typeLookup (.ref C) _) _ _ _
  refine wpAny_typeLookup_tail hC₁ hn₁ T₁ F.mroIs F.init.lookup ?_
  rw [hi]
  refine wpAny_holding (wpAny_bind ?_)
  unfold bindSpecial
  refine wpAny_bind (wpAny_typeOf (T := "function") ⟨_, hfI₁, hfc⟩ ?_)
  rw [if_pos (by decide)]
  refine wpAny_pure (wpAny_bind (wpAny_mono (hq _ (h.objs.size + 1) ⟨fun b o hb => Heap.get?_push_of_some _ (Heap.get?_push_of_some _ hb), Heap.get?_none_of_le (Nat.le_succ _), h.objs.size, hget, Heap.get?_none_of_le (Nat.le_refl _), ?_⟩) (fun r s' hr => ?_) fun _ _ x => x))
  · exact Heap.get?_push_of_some _ (Heap.get?_push_at rfl rfl)
  · obtain ⟨rfl, hQ⟩ := hr
    wp_walk
    exact hQ
theorem call_exc_initU (Fn : ExcBaseFacts Bn newId inN bmN) (hBn : bmB.contains (.type Bn) = true) (F : ExcBaseFacts B nid initId bmB) (T : OwnTail h bmB bm) {mN : Str → Option Value} {rest : List Value} {fI : Addr} {oI : Obj} {Q : Value → Shared → Prop}
    (hC : h.get? C = some (excClassObj nm q C N bs bm hdct sn sub ab col dd k0 k1 k2 k3 k5 newId)) (hn : h.Ns N mN) (hi : mN "__init__" = some (.ref fI))
    (hfI : h.get? fI = some oI) (hfc : oI.cls = .type "function")
    (hq : ∀ h' e, Heap.MadeExcOf h h' e (.ref C) rest →
      wpAny (model prog w) (A.under (.builtin "type.__call__" ⟨.ref C :: rest, []⟩)) (call (.ref fI) (.ref e :: rest)) (fun r s' => r = .none ∧ Q (.ref e) s') E ⟨h', g, d, t, os⟩) (hrest : rest.length ≤ sizeLine) :
    wpAny (model prog w) A (call (.ref C) rest) Q E ⟨h, g, d, t, os⟩ := by
  have f1 := tc_lookup
  have f2 := tc_bind (.ref C)
  have hT : (⟨h, g, d, t, os⟩ : Shared).TypeIs (.ref C) "type" := ⟨_, hC, rfl⟩
  refine wpAny_call (codeAny_of_tree ?_)
  show wpAny _ _ (callAny (.ref C) _) _ _ _
  repeat (any_goals (first | assumption | with_reducible refine wpAny_loadPart_at hC ?_ | wp_step))
  refine ⟨rfl, ?_⟩
  refine codeAny_call_builtin_at (Code.quiet_builtin _ (by decide +kernel)) entry_typeCall (wpAny_check_type_call_sub hC (type_call_exc_initU (hrest := hrest) Fn hBn F T hC hn hi hfI hfc fun h' e hm => ?_))
  exact hq h' e hm
end
end L2

/-! MY RULES: self.f = v where self is a new exception of an own class. -/
set_option linter.all false
set_option maxRecDepth 100000
set_option maxHeartbeats 2000000
namespace PySem.W
open PySem PySem.Spec PySem.Calls PyProof.Rows PySem.Builtin.ObjectAttr PySem.Builtin
/-- own classes, then ValueError and what is above it -/
def excTail : List Value → Bool
  | [.type a, .type b, .type c, .type d] => a == "ValueError" && b == "Exception" && c == "BaseException" && d == "object"
  | .ref _ :: r => excTail r
  | _ => false
theorem refuse_exc (self : Value) : ∀ {l : List Value}, excTail l = true → refuseLoop self "__setattr__" l = pure ()
  | [.type a, .type b, .type c, .type d], e => by
    simp only [excTail, Bool.and_eq_true, beq_iff_eq] at e
    obtain ⟨⟨⟨rfl, rfl⟩, rfl⟩, rfl⟩ := e
    exact PySem.F.store_ValueError.passes self
  | .ref c :: r, e => by rw [refuseLoop_ref]; exact refuse_exc self (show excTail r = true from e)
theorem exc_has : ∀ {l : List Value}, excTail l = true → l.contains (.type "object") = true
  | [.type a, .type b, .type c, .type d], e => by
    simp only [excTail, Bool.and_eq_true, beq_iff_eq] at e
    obtain ⟨⟨⟨rfl, rfl⟩, rfl⟩, rfl⟩ := e
    decide
  | .ref c :: r, e => by rw [List.contains_cons, exc_has (l := r) (show excTail r = true from e), Bool.or_true]
def excOver (K : Frag) (C : Addr) : Bool := (clsIn K C).any fun cd => excTail cd.mro
section
variable {prog : Program} {w : World} {A : Around} {R : Result → Shared → Prop} {s : Shared} {K : Frag} {x C : Addr}
theorem osa_openX {ox : Obj} {od : Option Obj} {name : Str} {tk : Tok} {v : Value} (X : K.In s.heap) (I : InstAt s.heap x ox C od) (hp : excOver K C = true) (ht : takerIn K C name = some none)
    (h : ∀ b, wpAny (model prog w) A.in1 (storeInOwnDict (.ref x) (.ref C) (.str name tk) name v b)
      (fun fin s' => match fin with | .done f => R (.ok f) s' | .again c' => c'.quiet = true ∧ codeAny (model prog w) A c' R s') (fun e s' => R (.error e) s') s) :
    codeAny (model prog w) A (.call (.builtin "object.__setattr__") ⟨[.ref x, .str name tk, v], []⟩) R s := by
  have SF := PySem.F.store_object
  obtain ⟨cd, hc, ho⟩ := any_some hp
  have ne : cd.mro.isEmpty = false := by cases q : cd.mro with | nil => rw [q] at ho; cases ho | cons _ _ => rfl
  have sub : Looks (model prog w) s.heap (isInstance (.ref x) (.type "object")) true := I.type.andThen (looks_mroIn X (by unfold mroIn; rw [hc, Option.bind_some, if_neg (by rw [ne]; decide), exc_has ho]))
  refine codeAny_call_builtin SF.slot.plain SF.entry (@check_slot (model prog w) _ _ s "object.__setattr__" "object" "__setattr__" (.ref x) [.str name tk, v] [] _ SF.kind SF.split sub (SF.args (.ref x) (.str name tk) v) ?_)
  obtain ⟨attr, ha, hr⟩ := Option.bind_eq_some_iff.mp ht
  have hm : Looks (model prog w) s.heap (mroOf (.ref C)) cd.mro := (looks_clsIn X hc).andThen .now
  have L3 : Looks (model prog w) s.heap (storeTaker? attr) none := by
    cases attr with
    | none => cases hr; exact .now
    | some a =>
      obtain ⟨b, hb, e⟩ := Option.map_eq_some_iff.mp hr
      cases b with
      | true => cases e
      | false => exact (looks_takesIn X hb).andThen .now
  rw [osa_eq, refuse_eq]
  refine wpAny_bind (wpAny_bind (I.type.here (wpAny_bind (hm.here ?_))))
  rw [refuse_exc _ ho]
  refine wpAny_pure (wpAny_bind (I.type.here (wpAny_bind ((looks_findIn X ha).here (wpAny_bind (L3.here ?_))))))
  exact h _
theorem exc_setattr {E : Value → Shared → Prop} {ox : Obj} {vs : Array Value} {name : Str} {v : Value} {Q : Unit → Shared → Prop} (X : K.In s.heap) (hx : s.heap.get? x = some ox) (hcl : ox.cls = .ref C) (hdn : ox.dict = none) (hdt : ox.data = .fields vs)
    (hs : findIn K (.ref C) "__setattr__" = some (some (.builtin "object.__setattr__"))) (hp : excOver K C = true) (ht : takerIn K C name = some none) (hh : (clsIn K C).any (·.hasDict) = true)
    (h : ∀ h' tk, h'.get? x = some { ox with dict := some s.heap.objs.size } → h'.Ns1 s.heap.objs.size (fun y => if y = name then some v else none) → (∀ b o, b ≠ x → s.heap.get? b = some o → h'.get? b = some o) → Q () { s with heap := h', toks := tk }) :
    wpAny (model prog w) A (setAttr (.ref x) name v) Q E s := by
  obtain ⟨hp0, g, d, t, os⟩ := s
  dsimp only at X hx h
  have I : InstAt hp0 x ox C none := ⟨hx, hcl, by obtain ⟨_, _, d, _⟩ := ox; cases hdt; rfl, by rw [hdn]; exact True.intro⟩
  refine set_plain X I hs (osa_openX (s := ⟨hp0, g, d, t + 1, os⟩) X I hp ht fun b => ?_)
  obtain ⟨cd, hc, hd'⟩ := any_some hh
  obtain ⟨oc, odi, oda, osl⟩ := ox
  dsimp only at hcl hdn hdt
  subst hcl hdn hdt
  have L := looks_clsIn (M := model prog w) X hc
  refine wpAny_bind (wpAny_pure (wpAny_bind (wpAny_bind (wpAny_loadPart hx (wpAny_bind (Looks.here (s := ⟨hp0, g, d, t + 1, os⟩) L ?_))))))
  rw [hd']
  have hx₁ : (hp0.push { cls := .type "dict", data := .dict #[] }).get? x = some { cls := .ref C, data := .fields vs, slots := osl } := Heap.get?_push_of_some _ hx
  have hxs : x ≠ hp0.objs.size := Nat.ne_of_lt (Heap.lt_size hx)
  show wpAny _ _ (if (!true || !typeHasDict (.ref C)) = true then pure none else (alloc { cls := Value.type "dict", data := Data.dict #[] } >>= fun d => update x (fun o => { cls := o.cls, dict := some d, data := o.data, slots := o.slots }) >>= fun _ => dictMade (.ref C) x d)) _ _ _
  rw [if_neg (by simp [typeHasDict])]
  refine wpAny_bind (wpAny_alloc' ?_)
  refine wpAny_bind (wpAny_update' hx₁ ?_)
  refine wpAny_pure ?_
  have hgd : ((hp0.push { cls := .type "dict", data := .dict #[] }).update x fun o => { cls := o.cls, dict := some hp0.objs.size, data := o.data, slots := o.slots }).get? hp0.objs.size
      = some { cls := .type "dict", data := .dict #[] } :=
    (Heap.get?_update_ne _ _ _ _ hxs.symm).trans (Heap.get?_push_at rfl rfl)
  have hnd : ((hp0.push { cls := .type "dict", data := .dict #[] }).update x fun o => { cls := o.cls, dict := some hp0.objs.size, data := o.data, slots := o.slots }).Ns hp0.objs.size (fun _ => none) :=
    ⟨_, #[], _, hgd, rfl, fun e he => absurd he (by simp), fun _ => rfl⟩
  show wpAny _ _ (storeInDict hp0.objs.size (.str name t) name v) _ _ _
  unfold storeInDict newKeyGuard
  refine wpAny_bind (wpAny_pure (wpAny_bind (wpAny_nsSet1 (Heap.Ns1.of_empty hnd) fun h' hn' hs => ?_)))
  obtain ⟨oD, esD, epD, hoD, hdD, hcD⟩ := hn'.count (Within.cons name v Within.nil)
  refine wpAny_bind (wpAny_lookBehind hoD (by rw [hdD]; exact pastItsLine_dict (Nat.le_trans hcD (by rw [List.length_cons, List.length_nil, sizeLine_eq]; omega))) ?_)
  refine wpAny_pure ?_
  refine h h' _ ((hs.2 x hxs).trans (Heap.get?_update_self _ hx₁ rfl)) hn' fun b o hb e => ?_
  exact (hs.2 b (Nat.ne_of_lt (Heap.lt_size e))).trans ((Heap.get?_update_ne _ _ _ _ hb).trans (Heap.get?_push_of_some _ e))
end
end PySem.W

/-! MY RULES: a new exception, tracked (xcN: no field yet; xcD: its dict stands at dx, an .xd), self.f = v of it (ps_fldX). -/
set_option linter.all false
set_option maxRecDepth 100000
set_option maxHeartbeats 2000000
namespace L2
open PySem PySem.Spec PyProof.Rows
section
variable {X : Cx} {pins : List (Addr × Obj)} {σ : St} {H H1 : Hp} {s s1 : Shared} {a : Addr} {o : HO}
/-- what came to be since s1 is tracked -/
theorem Inv.trackO (I1 : Inv X pins σ H1 s1) (I : Inv X pins σ H s) (hn : s1.heap.get? a = none) (hH : H a = none) (new : ObjOk X.prog X.w (upd H a o) s.heap a o) : Inv X pins σ (upd H a o) s := by
  have ne1 : ∀ b o, s1.heap.get? b = some o → b ≠ a := fun b o e z => by
    rw [z, hn] at e
    cases e
  have up : ∀ b u, H b = some u → upd H a o b = some u := fun b u e => by
    rw [upd_ne (ne_of_none e hH)]
    exact e
  refine ⟨I.ok, I.os, I.bare, ⟨I.base.keep, I.base.slot, fun b o e n hb => ?_, I.base.there, fun b xs e => up _ _ (I.base.tups b xs e), fun b o u e => up _ _ (I.base.frzs b o u e), fun b ps e => ?_⟩, I.loc, I.cell, ?_, fun x c e => ?_, fun p hp => ?_, fun b u e => ?_, I.len⟩
  · obtain ⟨o1, e1⟩ := I1.base.there b o e hb
    rw [upd_ne (ne1 b o1 e1)]
    exact I.base.free b o e n hb
  · obtain ⟨m, q⟩ := I.base.tbls b ps e
    exact ⟨m, up _ _ q⟩
  · obtain ⟨m, ⟨o, _, _, ho, _⟩, _⟩ := I1.loc
    rw [upd_ne (ne1 _ o ho)]
    exact I.free
  · obtain ⟨v, o, ho, _⟩ := I1.cell x c e
    rw [upd_ne (ne1 _ o ho)]
    exact I.freeC x c e
  · obtain ⟨e, n, r⟩ := I.pin p hp
    have e1 := (I1.pin p hp).1
    exact ⟨e, by rw [upd_ne (ne1 _ _ e1)]; exact n, r⟩
  · by_cases hb : b = a
    · subst hb
      rw [upd_same] at e
      cases e
      exact new
    · rw [upd_ne hb] at e
      exact (I.hok b u e).stay (fun _ _ _ q => q) (fun c q => up _ _ q) fun c xs q => up _ _ q
end
/-- a new exception of the class at C, its arguments at t: without a dict, with its dict at dx -/
def xcObj (C t : Addr) (d : Option Addr) : Obj := { cls := .ref C, dict := d, data := .fields #[.ref t, .none, .none, .none, .bool false, .none] }
def xcN (e C t : Addr) : HO := .ext fun h => h.get? e = some (xcObj C t none)
def xcD (e C t dx : Addr) : HO := .ext fun h => h.get? e = some (xcObj C t (some dx))
theorem xcN_ok {P : Program} {w : World} {H : Hp} {h : Heap} {e C t : Addr} (q : h.get? e = some (xcObj C t none)) : ObjOk P w H h e (xcN e C t) := ⟨q, ⟨_, q⟩, fun h1 h2 p k => k _ p⟩
theorem xcD_ok {P : Program} {w : World} {H : Hp} {h : Heap} {e C t dx : Addr} (q : h.get? e = some (xcObj C t (some dx))) : ObjOk P w H h e (xcD e C t dx) := ⟨q, ⟨_, q⟩, fun h1 h2 p k => k _ p⟩
/-- what is asked of the class -/
structure XStore (K : PySem.W.Frag) (C : Addr) (f : Str) : Prop where
  sa : PySem.W.findIn K (.ref C) "__setattr__" = some (some (.builtin "object.__setattr__"))
  ov : PySem.W.excOver K C = true
  hd : (PySem.W.clsIn K C).any (·.hasDict) = true
  no : NoAttr K C f
def sFldX (K : PySem.W.Frag) (ta tv : TE) (f : Str) : TS := fun D σ H => tv σ H fun y H1 => ta σ H1 fun x H2 => ∃ e C t, x = .ref e ∧ H2 e = some (xcN e C t) ∧ XStore K C f ∧
  ∀ dx, H2 dx = none → D.nx σ (upd (upd H2 e (xcD e C t dx)) dx (.xd [(f, y)]))
theorem ps_fldX {X : Cx} {o value : Expr} {f : Str} {pos pos' : Pos} {ta tv : TE} (ha : PE X o ta) (hv : PE X value tv) (hs : swapsWith value (some (.Attribute o f pos')) pos.line X.env = pure false) : PS X (.Assign [.Attribute o f pos'] value pos) (sFldX X.K ta tv f) := by
  intro pins s σ H D I h
  refine plainObj_wpAny_Assign_Attribute (thn (hv pins s σ H _ I h) fun u s1 ⟨y, H1, I1, ry, q⟩ => thn (ha pins s1 σ H1 _ I1 q) fun ov s2 ⟨x, H2, I2, rx, e, C, t, ex, ee, xs, q2⟩ => ?_) hs
  subst ex
  obtain rfl : ov = Value.ref e := rx
  obtain ⟨he, _, _⟩ := (show ObjOk X.prog X.w H2 s2.heap e (xcN e C t) from I2.hok e _ ee)
  refine PySem.W.exc_setattr I2.kIn he rfl rfl rfl xs.sa xs.ov xs.no.taker xs.hd fun h' tk q1 q3 q4 => ?_
  have hn : H2 s2.heap.objs.size = none := I2.hok.fresh (Nat.le_refl _)
  have ne : s2.heap.objs.size ≠ e := (ne_of_none ee hn).symm
  have Ia := I2.write (x := e) (e := e) (o := xcD e C t s2.heap.objs.size) (h' := h') (t' := tk) (by rw [ee]; exact True.intro) (.inl rfl) (fun b u hb z => q4 b u hb z) ⟨_, q1⟩ (xcD_ok q1)
  have Ib := I2.trackO (a := s2.heap.objs.size) (o := .xd [(f, y)]) Ia (Heap.get?_none_of_le (Nat.le_refl _)) (by rw [upd_ne ne]; exact hn) ⟨_, q3, fun g => by
    by_cases z : g = f
    · subst z
      rw [if_pos rfl]
      show RelO (([(g, y)] : List (Str × V)).lookup g) (some u)
      simp [List.lookup]
      exact ry
    · rw [if_neg z]
      show RelO (([(f, y)] : List (Str × V)).lookup g) none
      have : (([(f, y)] : List (Str × V)).lookup g) = none := by simp [List.lookup, beq_eq_false_iff_ne.mpr z]
      rw [this]
      exact True.intro⟩
  exact ⟨σ, _, Ib, q2 _ hn⟩
end L2

/-! MY RULES: an own class of exceptions with __init__: what the fragment tells of it (excInI), a call of it (run_makeX). -/
set_option linter.all false
set_option maxRecDepth 100000
set_option maxHeartbeats 2000000
namespace PySem.W
open PySem PySem.Spec PySem.Calls PyProof.Rows
/-- as excIn, but with an __init__ of its own at f -/
def excInI (K : Frag) (C f : Addr) (bmB : List Value) (newId : String) : Bool := match K.lookup C with
  | some ⟨.type "type", _, .cls cd, sl⟩ => (match cd.mro, sl.toList with
    | .ref C' :: bm, [_, _, _, _, some (.builtin n), _] => C' == C && n == newId && !cd.hasDel && tailIn K bmB bm && nsOkIn K cd.ns && nsIn K cd.ns "__init__" == some (some (.ref f)) && isFn K (.ref f)
    | _, _ => false)
  | _ => false
end PySem.W
namespace L2
open PySem PySem.Spec PyProof.Rows
/-- a name of a namespace that the fragment holds -/
theorem ns_at {K : PySem.W.Frag} {h : Heap} {N : Addr} {m : Str → Option Value} {x : Str} {v : Value} (X : K.In h) (G : h.Ns N m) (e : PySem.W.nsIn K N x = some (some v)) : m x = some v := by
  obtain ⟨ob, row, _, at1, dict1, _, same⟩ := G
  unfold PySem.W.nsIn at e
  split at e
  case h_2 => cases e
  case h_1 _ _ row' _ _ lk =>
    have two := X _ _ lk
    rw [at1] at two
    cases two
    cases dict1
    split at e
    case h_2 => split at e <;> cases e
    case h_1 en found =>
      cases e
      rw [← same]
      unfold nsFind findBy
      rw [← Array.find?_toList, found]
      rfl
theorem fn_at {K : PySem.W.Frag} {h : Heap} {f : Addr} (X : K.In h) (q : PySem.W.isFn K (.ref f) = true) : ∃ o, h.get? f = some o ∧ o.cls = .type "function" := by
  have z : PySem.W.typeIn K (.ref f) = some (.type "function") := beq_iff_eq.mp q
  cases lk : K.lookup f with
  | none => simp [PySem.W.typeIn, lk] at z
  | some o => exact ⟨o, X _ _ lk, by simpa [PySem.W.typeIn, lk] using z⟩
theorem exc_objI {K : PySem.W.Frag} {h : Heap} {C f : Addr} {bmB : List Value} {newId : String} (X : K.In h) (q : PySem.W.excInI K C f bmB newId = true) :
    ∃ (nm qn : Str) (N : Addr) (bs bm : List Value) (hdct : Bool) (sn : List Str) (sub : List Value) (ab : Bool) (col : Option Bool) (dd : Option Addr) (k0 k1 k2 k3 k5 : Option Value) (mN : Str → Option Value),
      h.get? C = some (excClassObj nm qn C N bs bm hdct sn sub ab col dd k0 k1 k2 k3 k5 newId) ∧ h.Ns N mN ∧ mN "__init__" = some (.ref f) ∧ OwnTail h bmB bm ∧ PySem.W.isFn K (.ref f) = true := by
  cases lk : K.lookup C with
  | none => simp [PySem.W.excInI, lk] at q
  | some ob =>
    have there := X _ _ lk
    unfold PySem.W.excInI at q
    rw [lk] at q
    split at q
    case h_2 => cases q
    case h_1 dct cls parts same =>
      injection same with same
      subst same
      split at q
      case h_2 => cases q
      case h_1 own tl p0 p1 p2 p3 made p5 along row =>
        repeat rw [Bool.and_eq_true] at q
        have w1 : own = C := beq_iff_eq.mp q.1.1.1.1.1.1
        have w2 : made = newId := beq_iff_eq.mp q.1.1.1.1.1.2
        have w3 : cls.hasDel = false := by simpa using q.1.1.1.1.2
        have w4 := beq_iff_eq.mp q.1.2
        subst w1 w2
        have sl : parts = #[p0, p1, p2, p3, some (.builtin made), p5] := Array.toList_inj.mp row
        rw [sl] at there
        cases cls
        dsimp only at along w3 w4 q
        rw [along, w3] at there
        have hN := Heap.Ns.of_isNs (PySem.W.isNs_of_in X q.1.1.2)
        refine ⟨_, _, _, _, tl, _, _, _, _, _, dct, p0, p1, p2, p3, p5, _, there, hN, ?_, PySem.W.tail_of_in X q.1.1.1.2, q.2⟩
        exact ns_at X hN w4
section
variable {X : Cx} {CX : CXT} {k : Nat} {f C : Addr} {fd : FuncData} {ps : List Str} {ds : List Value} {dvs : List V} {sp : Sp} {E : XK}
/-- C(us): a new exception, its __init__ done -/
theorem run_makeX {pins : List (Addr × Obj)} {σ : St} {H : Hp} {s : Shared} {Q : Addr → Addr → Hp → Prop} {us : List Value} {vs : List V} (q : PySem.W.excInI X.K C f bmVE "ValueError.__new__" = true)
    (F : FnOk X.prog X.w X.K X.mg X.base CX k f fd ps sp) (hr : Room (k + 1) X.A) (hb : Binds X.K fd ps ds) (hd : Vals dvs ds) (hx : Passes CX X E) (I : Inv X pins σ H s) (r : Vals vs us) (hz : us.length ≤ sizeLine)
    (h : ∀ ea ta, H ea = none → sp (.ref ea :: (vs ++ dvs)) (upd H ea (xcN ea C ta)) (fun v H2 => v = .non ∧ Q ea ta H2) E) :
    wpAny (model X.prog X.w) X.A (call (.ref C) us) (fun v s' => ∃ ea ta H2, v = .ref ea ∧ Inv X pins σ H2 s' ∧ s.heap.get? ea = none ∧ Q ea ta H2) X.xe s := by
  obtain ⟨nm, qn, N, bs, bm, hdct, sn, sub, ab, col, dd, k0, k1, k2, k3, k5, mN, hC, hN, hi, T, fn⟩ := exc_objI I.mod.kin q
  obtain ⟨oI, hoI, hcI⟩ := fn_at I.kIn fn
  obtain ⟨hp, g, d, t, os⟩ := s
  refine call_exc_initU PySem.F.excBase_ValueError (by decide +kernel) PySem.F.excBase_ValueError (T.keeps I.bk) (I.bk _ _ hC) (hN.keeps I.bk) hi hoI hcI (fun h' e hm => ?_) hz
  obtain ⟨ta, he, _, _⟩ := hm.there
  have hH : H e = none := by
    cases z : H e with
    | none => rfl
    | some u =>
      obtain ⟨o, ho⟩ := (I.hok e u z).at18
      have := hm.new
      rw [show hp.get? e = some o from ho] at this
      cases this
  have I1 : Inv X pins σ H ⟨h', g, d, t, os⟩ := I.kept (t' := t) (fun b o z => hm.keeps b o z)
  have I2 := I.trackO (a := e) (o := xcN e C ta) I1 hm.new hH (xcN_ok he)
  have hq := h e ta hH
  have r2 : Vals (V.ref e :: (vs ++ dvs)) (Value.ref e :: (us ++ ds)) := .cons rfl (r.append hd)
  have hl : (Value.ref e :: us ++ ds).length = ps.length := by
    have z := r2.length
    rw [F.len _ _ _ _ hq] at z
    exact z.symm
  refine wpAny_call (codeAny_mono (F.run _ X.stack _ _ ⟨Value.ref e :: us, []⟩ (Value.ref e :: (us ++ ds)) _ _ E (hr.make C us []) (I2.env0.make C us []) (hb _ (Value.ref e :: us) I2.kIn hl) r2 hq) fun r s' hq' => ?_)
  cases r with
  | error e' => exact hx pins σ _ _ e' s' I2 hq'
  | ok fl =>
    cases fl with
    | ret u =>
      obtain ⟨v, H', I3, rv, ev, q3⟩ := I2.after hq'
      subst ev
      exact ⟨rv, e, ta, H', rfl, I3, hm.new, q3⟩
    | next => exact False.elim hq'
    | brk => exact False.elim hq'
    | cont => exact False.elim hq'
end
end L2

/-! MY RULES: raise C(..) where C is an own class of exceptions with __init__ (ps_raiseI, throwI). -/
set_option linter.all false
set_option maxRecDepth 100000
set_option maxHeartbeats 2000000
namespace L2
open PySem PySem.Spec PyProof.Rows
def dropH (H : Hp) (a : Addr) : Hp := fun b => if b = a then none else H b
theorem dropH_ne {H : Hp} {a b : Addr} (h : b ≠ a) : dropH H a b = H b := by unfold dropH; rw [if_neg h]
theorem dropH_some {H : Hp} {a b : Addr} {o : HO} (h : dropH H a b = some o) : b ≠ a ∧ H b = some o := by
  unfold dropH at h
  by_cases z : b = a
  · rw [if_pos z] at h; cases h
  · rw [if_neg z] at h; exact ⟨z, h⟩
theorem dropH_none {H : Hp} {a b : Addr} (h : H b = none) : dropH H a b = none := by
  unfold dropH
  split
  · rfl
  · exact h
section
variable {X : Cx} {pins : List (Addr × Obj)} {σ : St} {H : Hp} {s : Shared} {a : Addr} {φ : Heap → Prop}
/-- a thing told by ext is forgotten -/
theorem Inv.drop (I : Inv X pins σ H s) (e : H a = some (.ext φ)) : Inv X pins σ (dropH H a) s := by
  have up : ∀ b o, H b = some o → o ≠ .ext φ → dropH H a b = some o := fun b o q n => by
    rw [dropH_ne (ne_of q e n)]
    exact q
  refine ⟨I.ok, I.os, I.bare, ⟨I.base.keep, I.base.slot, fun b o q n hb => dropH_none (I.base.free b o q n hb), I.base.there, fun b xs q => up _ _ (I.base.tups b xs q) (fun z => nomatch z), fun b o u q => up _ _ (I.base.frzs b o u q) (fun z => nomatch z), fun b ps q => ?_⟩, I.loc, I.cell, dropH_none I.free, fun x c q => dropH_none (I.freeC x c q), fun p hp => ?_, fun b o q => ?_, I.len⟩
  · obtain ⟨m, z⟩ := I.base.tbls b ps q
    exact ⟨m, up _ _ z (fun z => nomatch z)⟩
  · obtain ⟨q, n, r⟩ := I.pin p hp
    exact ⟨q, dropH_none n, r⟩
  · obtain ⟨_, z⟩ := dropH_some q
    exact (I.hok b o z).stay (fun _ _ _ q => q) (fun c q => up _ _ q (fun z => nomatch z)) fun c xs q => up _ _ q (fun z => nomatch z)
end
section
variable {P : Program} {w : World} {K : PySem.W.Frag} {mg : Str → Option Value} {base : Heap} {N : List Str} {qual : Str} {scope : Scope} {f : Addr} {cd : Value} {A : Around} {outer : List Env} {s : Shared} {H : Hp} {E : XK}
end
end L2

/-! MY RULES: raise C(..), C with __init__: ps_raiseI. -/
set_option linter.all false
set_option maxRecDepth 100000
set_option maxHeartbeats 2000000
namespace L2
open PySem PySem.Spec PyProof.Rows
section
variable {M : Model} {A : Around} {E : Value → Shared → Prop} {env : Env} {nm q : Str} {C N : Addr} {bs bm : List Value} {hdct : Bool} {sn : List Str} {sub : List Value} {ab : Bool} {col : Option Bool} {dd : Option Addr} {k0 k1 k2 k3 k5 : Option Value} {newId : String}
theorem raiseStmt_madeI {s : Shared} {x : Sem Value} {Q : Flow → Shared → Prop} (hbase : bm.contains (.type "BaseException") = true) (hh : A.handled = none)
    (h : wpAny M A x (fun v s₁ => ∃ e t dx, v = .ref e ∧ s₁.heap.get? C = some (excClassObj nm q C N bs bm hdct sn sub ab col dd k0 k1 k2 k3 k5 newId) ∧ s₁.heap.get? e = some (xcObj C t dx) ∧ E (.ref e) s₁) E s) :
    wpAny M A (raiseStmt env (some x) none) Q E s := by
  have hcB : (Value.ref C :: bm).contains (.type "BaseException") = true := by rw [List.contains_cons, hbase, Bool.or_true]
  unfold raiseStmt
  refine wpAny_bind (wpAny_mono h (fun v s₁ h₁ => ?_) fun _ _ x => x)
  obtain ⟨e, t, dx, rfl, hC, he, hE⟩ := h₁
  obtain ⟨hp, g, d, tk, os⟩ := s₁
  unfold xcObj at he
  repeat (first | with_reducible refine wpAny_loadPart_at he ?_ | with_reducible refine wpAny_loadPart_at hC ?_ | (with_reducible refine wpAny_isSubtype_exc hC ?_; rw [hcB]) | wp_step)
  exact wpAny_raiseNew_none hh hE
end
/-- what a class of exceptions with __init__ at f has -/
structure MkX (K : PySem.W.Frag) (C f : Addr) : Prop where
  xe : PySem.W.excInI K C f bmVE "ValueError.__new__" = true
  kp : PySem.W.keepIn K (.ref C) = true
section
variable {X : Cx} {CX : CXT} {k : Nat} {f C : Addr} {fd : FuncData} {ps : List Str} {ds : List Value} {dvs : List V} {sp : Sp} {E E' : XK}
end
end L2

/-! MY RULES: exceptions whose own dict is told behind the flight: KD (classes, dicts and contexts stay), ExcAt (an exception, noted already or not), noteD, landD, leaveD; CXD (as CXF, and XK's second argument is the exception's dict), passD, throwD, throwDI, Fun.okD. -/
set_option linter.all false
set_option maxRecDepth 100000
set_option maxHeartbeats 1000000
namespace L2
open PySem PySem.Spec PyProof.Rows
/-- all that was there has its class and its dict still -/
def C2 (o o' : Obj) : Prop := ∀ vs, o.data = .fields vs → ∃ vs', o'.data = .fields vs' ∧ vs'[2]? = vs[2]?
theorem C2.refl (o : Obj) : C2 o o := fun vs e => ⟨vs, e, rfl⟩
theorem C2.trans {a b c : Obj} (x : C2 a b) (y : C2 b c) : C2 a c := fun vs e => by
  obtain ⟨v1, e1, q1⟩ := x vs e
  obtain ⟨v2, e2, q2⟩ := y v1 e1
  exact ⟨v2, e2, q2.trans q1⟩
def KD (h h' : Heap) : Prop := ∀ b o, h.get? b = some o → ∃ o', h'.get? b = some o' ∧ o'.cls = o.cls ∧ o'.dict = o.dict ∧ C2 o o'
theorem KD.refl (h : Heap) : KD h h := fun b o e => ⟨o, e, rfl, rfl, C2.refl o⟩
theorem KD.trans {h1 h2 h3 : Heap} (a : KD h1 h2) (b : KD h2 h3) : KD h1 h3 := fun x o e => by
  obtain ⟨o1, e1, c1, d1, f1⟩ := a x o e
  obtain ⟨o2, e2, c2, d2, f2⟩ := b x o1 e1
  exact ⟨o2, e2, c2.trans c1, d2.trans d1, f1.trans f2⟩
theorem KD.field {h : Heap} {T : Addr} {o : Obj} {ts : Array Value} (hT : h.get? T = some o) (hd : o.data = .fields ts) (f : Array Value → Array Value) (hf : ∀ a : Array Value, (f a)[2]? = a[2]?) : KD h (h.update T (Obj.mapFields f)) := fun b u e => by
  by_cases z : b = T
  · subst z
    rw [hT] at e
    cases e
    exact ⟨_, Heap.get?_update_self _ hT (Obj.isFreed_of_fields (Obj.data_mapFields hd _)), Obj.cls_mapFields _ _, by obtain ⟨_, _, dd, _⟩ := o; cases hd; rfl, fun vs ev => ⟨_, Obj.data_mapFields ev _, hf vs⟩⟩
  · exact ⟨u, (Heap.get?_update_other _ _ (Ne.symm z)).trans e, rfl, rfl, C2.refl u⟩
/-- an exception lies at e: made just now, or noted by some frames -/
def ExcAt (h B : Heap) (e : Addr) (cls a0 : Value) : Prop := (∃ oe vs, h.get? e = some oe ∧ (oe.cls = cls ∧ vs[0]? = some a0) ∧ oe.data = .fields vs ∧ vs[1]? = some .none) ∨ ∃ fl, h.TracedAtW B e cls a0 fl
section
variable {M : Model} {A : Around} {E : Value → Shared → Prop} {s : Shared} {B : Heap} {env : Env} {outer : List Env} {L e : Addr} {cls a0 : Value} {Q : Unit → Shared → Prop}
theorem entryD {oe : Obj} {vs : Array Value} {hd : Value} {nx : Bool} (hfr : A.frames = some (env :: outer)) (ff : s.heap.FunFrames B (env :: outer)) (hf : env.frame = some L) (he : s.heap.get? e = some oe) (st : B.StaysIn s.heap) (hn : B.get? e = none) (hv : oe.data = .fields vs) (hz : 1 < vs.size) (h0 : vs[0]? = some a0)
    (h : ∀ h', Heap.NotedW B (env :: outer) e oe.cls a0 (rawInt L) s.heap h' → KD s.heap h' → Q () { s with heap := h' }) :
    wpAny M A (do let a ← frameOf env; let pl ← entryPlaceOf L nx; let b ← EntryCells.newEntry hd a .none (rawInt L) .none pl; setField (.ref e) 1 b) Q E s := by
  have nf : e ∉ (env :: outer).filterMap (·.frame) := fun m => by
    obtain ⟨_, o, ho, hnf⟩ := ff.mem m; rw [he] at ho; cases ho; exact hnf vs hv
  refine wpAny_bind (wpAny_frameOf_fun hfr ff hf fun g sg => wpAny_bind (wpAny_entryPlaceOf fun pl hpl => ?_))
  unfold EntryCells.newEntry newFields; refine wpAny_bind (wpAny_newObj_type ?_ (hpl.sizeOk5 _ _ _ _ _))
  have he1 : g.get? e = some oe := (sg.2.1 e nf).trans he
  have st1 : B.StaysIn g := fun b o hb => (sg.2.1 b fun m => by rw [(ff.mem m).1] at hb; cases hb).trans (st b o hb)
  generalize hob : ({ cls := .type "traceback", dict := none, data := .fields ([hd, .ref L, .none, rawInt L, .none] ++ (if pl.isEmpty then List.replicate 6 Value.none else pl)).toArray } : Obj) = ob
  have he2 := Heap.get?_push_of_some (h := g) ob he1
  have eb : ({ cls := Value.type "traceback", data := .fields ([hd, .ref L, .none, rawInt L, .none] ++ (if pl.isEmpty then List.replicate 6 Value.none else pl)).toArray } : Obj) = ob := hob
  refine wpAny_setField (by first | exact he2 | (rw [eb]; exact he2)) hv hz ?_
  try rw [eb]
  have nTe : g.objs.size ≠ e := Nat.ne_of_gt (Heap.lt_size he1)
  have dm := Obj.data_mapFields hv (·.setIfInBounds 1 (Value.ref g.objs.size))
  have he3 := Heap.get?_update_self (Obj.mapFields (·.setIfInBounds 1 (Value.ref g.objs.size))) he2 (Obj.isFreed_of_fields dm)
  have hT3 : ((g.push ob).update e (Obj.mapFields (·.setIfInBounds 1 (Value.ref g.objs.size)))).get? g.objs.size = some ob := (Heap.get?_update_other _ _ (Ne.symm nTe)).trans (Heap.get?_push_size g (by rw [← hob]; rfl))
  have kp : ∀ b o, b ≠ e → g.get? b = some o → ((g.push ob).update e (Obj.mapFields (·.setIfInBounds 1 (Value.ref g.objs.size)))).get? b = some o := fun b o ne hb => (Heap.get?_update_other _ _ (Ne.symm ne)).trans (Heap.get?_push_of_some _ hb)
  have nr : ∀ b o, s.heap.get? b = some o → (∀ vs, o.data ≠ .fields vs) → b ≠ e := fun b o hb hnf z => by
    rw [z, he] at hb; cases hb; exact hnf vs hv
  refine h _ ⟨fun b o hb => kp b o (fun z => by rw [z, hn] at hb; cases hb) (st1 b o hb), ff.of_keeps fun b o hb hnf => ?_, ?_, fun b o hb hnf => ?_⟩ fun b o hb => ?_
  · obtain ⟨sl, hs⟩ := sg.2.2 b o hb; exact ⟨_, kp b _ (nr b o hb hnf) hs, rfl⟩
  · refine ⟨_, _, g.objs.size, ob, _, he3, ⟨Obj.cls_mapFields _ _, ?_⟩, dm, by simp [hz], st1.fresh, nTe, hT3, by rw [← hob], ?_⟩
    · rw [Array.getElem?_setIfInBounds_ne (by decide)]; exact h0
    · rcases hpl with rfl | ⟨_, _, _, _, _, _, _, rfl⟩ <;> simp
  · obtain ⟨sl, hs⟩ := sg.2.2 b o hb; exact ⟨sl, kp b _ (nr b o hb hnf) hs⟩
  · by_cases z : b = e
    · subst z
      rw [he] at hb; cases hb
      exact ⟨_, he3, Obj.cls_mapFields _ _, by obtain ⟨_, _, dd, _⟩ := oe; cases hv; rfl, fun ws ew => ⟨_, Obj.data_mapFields ew _, Array.getElem?_setIfInBounds_ne (by decide)⟩⟩
    · obtain ⟨sl, hs⟩ := sg.2.2 b o hb; exact ⟨_, kp b _ z hs, rfl, rfl, fun ws ew => ⟨ws, ew, rfl⟩⟩
theorem noteD (hfr : A.frames = some (env :: outer)) (hf : env.frame = some L) (st : B.StaysIn s.heap) (hn : B.get? e = none) (ff : s.heap.FunFrames B (env :: outer)) (ht : ExcAt s.heap B e cls a0)
    (hQ : ∀ h', Heap.HeldW B (env :: outer) e cls a0 L h' → s.heap.UpToSlots h' → KD s.heap h' → Q () { s with heap := h' }) : wpAny M A (noteFrame (.ref e) env) Q E s := by
  rcases ht with ⟨oe, vs, he, ⟨hc, h0⟩, hv, h1⟩ | ⟨fl, ht⟩
  · subst hc
    unfold noteFrame
    simp only [hf]
    refine wpAny_bind (wpAny_field he hv h1 ?_)
    rw [if_neg (show ¬ ((Value.none != Value.none) = true) by simp)]
    exact entryD hfr ff hf he st hn hv (Array.getElem?_eq_some_iff.mp h1).1 h0 fun h' N kd => hQ h' ⟨N.1, hn, N.2.1, N.2.2.1⟩ N.2.2.2 kd
  · by_cases hfl : (fl == rawInt L) = true
    · have e1 : fl = rawInt L := beq_iff_eq.mp hfl
      subst e1
      exact wpAny_noteFrame_againW hf ht (hQ s.heap ⟨st, hn, ff, ht⟩ (Heap.UpToSlots.refl _) (KD.refl _))
    · obtain ⟨oe, vs, T, oT, ts, he, ⟨hcls, h0⟩, hd, h1, hnT, hTe, hT, hdT, h3⟩ := id ht
      subst hcls
      unfold noteFrame
      simp only [hf]
      refine wpAny_bind (wpAny_field he hd h1 ?_)
      rw [if_pos (show (Value.ref T != Value.none) = true by simp)]
      refine wpAny_bind (wpAny_field hT hdT h3 ?_)
      rw [if_neg hfl]
      refine wpAny_bind (wpAny_setField hT hdT (Array.getElem?_eq_some_iff.mp h3).1 ?_)
      have oth : ∀ b, b ≠ T → (s.heap.update T (Obj.mapFields (·.setIfInBounds 3 Value.none))).get? b = s.heap.get? b := fun b hb => Heap.get?_update_other _ _ (Ne.symm hb)
      have nr : ∀ b o, s.heap.get? b = some o → (∀ vs, o.data ≠ .fields vs) → b ≠ T := fun b o hb hnf q => by
        rw [q, hT] at hb; cases hb; exact hnf ts hdT
      exact entryD hfr (ff.of_keeps fun b o hb hnf => ⟨o, (oth b (nr b o hb hnf)).trans hb, rfl⟩) hf ((oth e (Ne.symm hTe)).trans he) (fun b o hbo => (oth b fun q => by rw [q, hnT] at hbo; cases hbo).trans (st b o hbo)) hn hd (Array.getElem?_eq_some_iff.mp h1).1 h0
        fun h' N kd => hQ h' ⟨N.1, hn, N.2.1, N.2.2.1⟩ (fun b o hb hnf => N.2.2.2 b o ((oth b (nr b o hb hnf)).trans hb) hnf) ((KD.field hT hdT _ fun _ => Array.getElem?_setIfInBounds_ne (by decide)).trans kd)
theorem landD {l : List Env} {fl : Value} {fr : Option Addr} (st : B.StaysIn s.heap) (ff : s.heap.FunFrames B l) (ht : s.heap.TracedAtW B e cls a0 fl)
    (hQ : ∀ h', B.StaysIn h' → h'.FunFrames B l → h'.TracedAtW B e cls a0 (fr.elim .none fun f => rawInt f) → s.heap.UpToSlots h' → KD s.heap h' → Q () { s with heap := h' }) : wpAny M A (setFlight (.ref e) fr) Q E s := by
  obtain ⟨oe, vs, T, oT, ts, he, hcls, hd, h1, hnT, hTe, hT, hdT, h3⟩ := ht
  have z3 : 3 < ts.size := (Array.getElem?_eq_some_iff.mp h3).1
  have oth : ∀ b, b ≠ T → (s.heap.update T (Obj.mapFields (·.setIfInBounds 3 (fr.elim Value.none fun f => rawInt f)))).get? b = s.heap.get? b := fun b hb => Heap.get?_update_other _ _ (Ne.symm hb)
  have nr : ∀ b o, s.heap.get? b = some o → (∀ vs, o.data ≠ .fields vs) → b ≠ T := fun b o hb hnf q => by
    rw [q, hT] at hb; cases hb; exact hnf ts hdT
  unfold setFlight
  refine wpAny_bind (wpAny_field he hd h1 ?_)
  rw [if_pos (show (Value.ref T != Value.none) = true by simp)]
  refine wpAny_setField hT hdT z3 (hQ _ (fun b o hbo => (oth b fun q => by rw [q, hnT] at hbo; cases hbo).trans (st b o hbo)) (ff.of_keeps fun b o hb hnf => ⟨o, (oth b (nr b o hb hnf)).trans hb, rfl⟩) ?_ (fun b o hb hnf => ⟨o.slots, (oth b (nr b o hb hnf)).trans hb⟩) (KD.field hT hdT _ fun _ => Array.getElem?_setIfInBounds_ne (by decide)))
  exact ⟨oe, vs, T, _, _, (oth e (Ne.symm hTe)).trans he, hcls, hd, h1, hnT, hTe, Heap.get?_update_self _ hT (Obj.isFreed_of_fields (Obj.data_mapFields hdT _)), Obj.data_mapFields hdT _, by simp [z3]⟩
end
/-- the dict of what lies at e, whose context is none -/
def DictAt (h : Heap) (e : Addr) (od : Option Addr) : Prop := ∃ o vs, h.get? e = some o ∧ o.dict = od ∧ o.data = .fields vs ∧ vs[2]? = some .none
theorem DictAt.kd {h h' : Heap} {e : Addr} {od : Option Addr} (d : DictAt h e od) (k : KD h h') : DictAt h' e od := by
  obtain ⟨o, vs, e1, e2, e5, e6⟩ := d
  obtain ⟨o', e3, _, e4, c2⟩ := k _ o e1
  obtain ⟨vs', e7, e8⟩ := c2 vs e5
  exact ⟨o', vs', e3, e4.trans e2, e7, e8.trans e6⟩
section
variable {P : Program} {w : World} {K : PySem.W.Frag} {mg : Str → Option Value} {base : Heap} {N : List Str} {qual : Str} {scope : Scope} {f : Addr} {cd : Value} {A : Around} {outer : List Env} {s : Shared} {H : Hp} {E : XK}
end
end L2

/-! MY RULES: try .. except C as e: .. where the exception's dict is told: FlownD, PHD, ph_missD, ph_hitD, ph_hit0D, px_callD, ps_tryAD, ps_tryED (round one call), ps_tryR with psx_raise, psx_ifR (the body itself raises). -/
set_option linter.all false
set_option maxRecDepth 100000
set_option maxHeartbeats 1000000
namespace L2
open PySem PySem.Spec PyProof.Rows
/-- a caught exception with its dict -/
def xcG (ea C : Addr) (od : Option Addr) : Heap → Prop := fun h => ∃ o vs, h.get? ea = some o ∧ o.cls = .ref C ∧ o.dict = od ∧ o.data = .fields vs ∧ vs[2]? = some .none
section
variable {X : Cx} {pins : List (Addr × Obj)} {σ : St} {H H1 : Hp} {s s1 : Shared} {ea C : Addr} {a0 : Value} {B : Heap} {od : Option Addr}
theorem xcG_ok {P : Program} {w : World} {H : Hp} {h : Heap} (q : xcG ea C od h) : ObjOk P w H h ea (.ext (xcG ea C od)) := by
  obtain ⟨o, vs, r⟩ := id q
  exact ⟨q, ⟨o, r.1⟩, fun h1 h2 ⟨o, vs, q1, q2⟩ k => ⟨o, vs, k o q1, q2⟩⟩
/-- an exception that a try of this frame has caught -/
structure CaughtD (X : Cx) (pins : List (Addr × Obj)) (σ : St) (H : Hp) (B : Heap) (ea C : Addr) (a0 : Value) (od : Option Addr) (s : Shared) : Prop where
  inv : Inv X pins σ H s
  fl : Heap.FlyingW B X.stack ea (.ref C) a0 s.heap
  d : DictAt s.heap ea od
  no : H ea = none
  go : ∀ h', B.StaysIn h' → s.heap.UpToSlots h' → xcG ea C od h' → Inv X pins σ H { s with heap := h' } ∧ Inv X pins σ (upd H ea (.ext (xcG ea C od))) { s with heap := h' }
theorem xcG_of (fl : Heap.FlyingW B X.stack ea (.ref C) a0 s.heap) (d : DictAt s.heap ea od) : xcG ea C od s.heap := by
  obtain ⟨oe, vs, e, c, dt, _⟩ := fl.first
  obtain ⟨o, vs', e2, d2, d3, d4⟩ := d
  rw [e] at e2
  cases e2
  exact ⟨oe, vs', e, c, d2, d3, d4⟩
theorem CaughtD.cls (F : CaughtD X pins σ H B ea C a0 od s) : xcF ea C s.heap := by
  obtain ⟨oe, vs, e, c, d, _⟩ := F.fl.first
  exact ⟨oe, vs, e, c, d⟩
end
/-- the clauses hs take an exception of the class at C -/
def PHD (X : Cx) (hs : List ExceptHandler) (C : Addr) (th : Option Addr → Addr → TS) : Prop :=
  ∀ (pins : List (Addr × Obj)) (σ : St) (H : Hp) (B : Heap) (ea : Addr) (a0 : Value) (od : Option Addr) (s : Shared) (D : Ends), CaughtD X pins σ H B ea C a0 od s → th od ea D σ H → wpAny (model X.prog X.w) X.A (handleBy (.ref ea) X.env hs) (SP X pins D) X.xe s
section
variable {M : Model} {A : Around} {E : Value → Shared → Prop} {s : Shared} {B : Heap} {l : List Env} {e : Addr} {cls a0 : Value} {Q : Unit → Shared → Prop}
theorem lands_againD (f : Heap.FlyingW B l e cls a0 s.heap) (hQ : ∀ h', Heap.FlyingW B l e cls a0 h' → s.heap.UpToSlots h' → KD s.heap h' → Q () { s with heap := h' }) : wpAny M A (setFlight (.ref e) none) Q E s :=
  landD f.1 f.2.2.1 f.2.2.2 fun h' s2 f2 t2 u2 k2 => hQ h' ⟨s2, f.2.1, f2, t2⟩ u2 k2
end
section
variable {X : Cx} {C C' : Addr} {y n : Str} {yp hpos : Pos} {b₀ : Stmt} {suite : List Stmt} {rest : List ExceptHandler} {i : Nat}
end
/-- raised within a frame, not yet noted by it: what is wanted of it is E -/
def Rsd (X : Cx) (pins : List (Addr × Obj)) (σ : St) (E : XK) (e : Value) (s' : Shared) : Prop := ∃ (ea C : Addr) (a0 : Value) (od : Option Addr) (H' : Hp) (B : Heap), e = .ref ea ∧ B.StaysIn s'.heap ∧ B.get? ea = none ∧ s'.heap.FunFrames B X.stack ∧ ExcAt s'.heap B ea (.ref C) a0 ∧ DictAt s'.heap ea od ∧ H' ea = none ∧ X.A.frames = some X.stack ∧
  (∀ h', B.StaysIn h' → s'.heap.UpToSlots h' → xcG ea C od h' → Inv X pins σ H' { s' with heap := h' } ∧ Inv X pins σ (upd H' ea (.ext (xcG ea C od))) { s' with heap := h' }) ∧ E (.ref C) od H'
/-- what is wanted of an exception of the body: the clauses take it, and go on as they are read -/
def xTryD (X : Cx) (hs : List ExceptHandler) (D : Ends) (σ : St) : XK := fun c od H2 => ∃ (C : Addr) (th : Option Addr → Addr → TS), c = .ref C ∧ PHD X hs C th ∧ ∀ ea, H2 ea = none → th od ea D σ H2
section
variable {X : Cx} {hs : List ExceptHandler} {h₀ : ExceptHandler} {e : Expr} {pos epos npos : Pos} {i : Nat} {n : Str}
theorem try_caughtD {pins : List (Addr × Obj)} {σ : St} {D : Ends} {s' : Shared} {ev : Value} (hst : X.stack = X.env :: X.outer ∧ X.env.frame = some X.env.locals) (hc : Rsd X pins σ (xTryD X (h₀ :: hs) D σ) ev s') :
    wpAny (model X.prog X.w) X.A (noteFrame ev X.env) (fun _ s₂ => wpAny (model X.prog X.w) X.A (setFlight ev none) (fun _ s₃ => wpAny (model X.prog X.w) X.A (handleBy ev X.env (h₀ :: hs)) (SP X pins D) X.xe s₃) X.xe s₂) X.xe s' := by
  obtain ⟨ea, C, a0, od, H', B, rfl, st, en, ff, ex, dd, hno, hfr0, go, q⟩ := hc
  obtain ⟨C', th, hC, hP, q⟩ := q
  cases hC
  have hfr : X.A.frames = some (X.env :: X.outer) := by rw [← hst.1]; exact hfr0
  refine noteD hfr hst.2 st en (by rw [← hst.1]; exact ff) ex fun h4 held up4 kd4 => ?_
  refine landD (s := { s' with heap := h4 }) held.1 held.2.2.1 held.2.2.2 fun h5 st5 ff5 t5 up5 kd5 => ?_
  have fl5 : Heap.FlyingW B X.stack ea (.ref C) a0 h5 := ⟨st5, en, by rw [hst.1]; exact ff5, t5⟩
  have d5 := (dd.kd kd4).kd kd5
  have up := up4.trans up5
  have x5 : xcG ea C od h5 := xcG_of (X := X) (s := { s' with heap := h5 }) fl5 d5
  exact hP pins σ H' B ea a0 od _ D ⟨(go h5 st5 up x5).1, fl5, d5, hno, fun h' s2 u2 x2 => go h' s2 (up.trans u2) x2⟩ (q ea hno)
/-! ### round one call -/
/-! ### the body itself raises -/
def PSX (X : Cx) (body : List Stmt) (t : St → Hp → XK → Prop) : Prop := ∀ (pins : List (Addr × Obj)) (s : Shared) (σ : St) (H : Hp) (E : XK), Inv X pins σ H s → t σ H E → wpAny (model X.prog X.w) X.A (execs body X.env) (fun _ _ => False) (Rsd X pins σ E) s
def tTryR (X : Cx) (hs : List ExceptHandler) (t : St → Hp → XK → Prop) : TS := fun D σ H => t σ H (xTryD X hs D σ)
theorem ps_tryR {b : Stmt} {body : List Stmt} {t : St → Hp → XK → Prop} (hst : X.stack = X.env :: X.outer ∧ X.env.frame = some X.env.locals) (hb : PSX X (b :: body) t) : PS X (.Try (b :: body) (h₀ :: hs) [] [] pos) (tTryR X (h₀ :: hs) t) := by
  intro pins s σ H D I h
  exact wpAny_Try_except (wpAny_mono (hb pins s σ H _ I h) (fun f s1 q => False.elim q) fun ev s1 hc => try_caughtD hst hc)
theorem psx_ifR {c : Expr} {a : List Stmt} {rest : List Stmt} {tc : TT} {ta tr : St → Hp → XK → Prop} (hc : PT X.nox c tc) (ha : PSX X a ta) (hr : PSX X rest tr) : PSX X (.If c a [] pos :: rest) (fun σ H E => tc σ H fun d H1 => if d = true then ta σ H1 E else tr σ H1 E) := by
  intro pins s σ H E I h
  refine wpAny_execs_cons ?_
  refine wpAny_If (thn (wpAny_mono (hc pins s σ H _ (I.wish _) h) (fun d s1 q => q) fun _ _ z => False.elim z) fun d s1 ⟨H1, I1, q1⟩ => ?_)
  have I1' := I1.unwish
  cases d with
  | true => exact wpAny_mono (ha pins s1 σ H1 E I1' q1) (fun _ _ z => False.elim z) fun _ _ z => z
  | false => exact wpAny_execs_nil (hr pins s1 σ H1 E I1' q1)
/-- raise C(..) within the try's own body -/
def tRaiseR (C : Addr) (sp : Sp) (t : TA) : St → Hp → XK → Prop := fun σ H E => t σ H fun vs H1 => vs.length ≤ sizeLine ∧
  ∀ ea ta, H1 ea = none → sp (.ref ea :: vs) (upd H1 ea (xcN ea C ta)) (fun v H2 => v = .non ∧ ∃ d, H2 ea = some (.ext fun h => h.get? ea = some (xcObj C ta d)) ∧ E (.ref C) d (dropH H2 ea)) E0
end
end L2

/-! MY RULES: raise C(..) with its dict told (ps_raiseD; psx_raise within a try's own body), the second field and more of a new exception (ps_fldX2), e.f of a caught exception (pe_fldG), isinstance of it (call_isiG). -/
set_option linter.all false
set_option maxRecDepth 100000
set_option maxHeartbeats 2000000
namespace PySem.W
open PySem PySem.Spec PySem.Calls PyProof.Rows PySem.Builtin.ObjectAttr PySem.Builtin
section
variable {prog : Program} {w : World} {A : Around} {s : Shared} {K : Frag} {x C : Addr}
/-- self.f = v where self, a new exception, has its dict already -/
theorem exc_setattr2 {E : Value → Shared → Prop} {ox : Obj} {dx : Addr} {vs : Array Value} {m : Str → Option Value} {ks : List Str} {name : Str} {v : Value} {Q : Unit → Shared → Prop} (X : K.In s.heap) (hx : s.heap.get? x = some ox) (hcl : ox.cls = .ref C) (hdn : ox.dict = some dx) (hdt : ox.data = .fields vs)
    (hn : s.heap.Ns1 dx m) (wi : Within m ks) (hk : ks.length ≤ 1000) (hs : findIn K (.ref C) "__setattr__" = some (some (.builtin "object.__setattr__"))) (hp : excOver K C = true) (ht : takerIn K C name = some none) (hh : (clsIn K C).any (·.hasDict) = true)
    (h : ∀ h' tk, h'.Ns1 dx (fun y => if y = name then some v else m y) → (∀ b, b ≠ dx → h'.get? b = s.heap.get? b) → Q () { s with heap := h', toks := tk }) :
    wpAny (model prog w) A (setAttr (.ref x) name v) Q E s := by
  obtain ⟨hp0, g, d, t, os⟩ := s
  dsimp only at X hx h hn
  obtain ⟨od, _, _, hod, _⟩ := id hn
  have I : InstAt hp0 x ox C (some od) := ⟨hx, hcl, by obtain ⟨_, _, d, _⟩ := ox; cases hdt; rfl, by rw [hdn]; exact hod⟩
  refine set_plain X I hs (osa_openX (s := ⟨hp0, g, d, t + 1, os⟩) X I hp ht fun b => ?_)
  obtain ⟨cd, hc, hd'⟩ := any_some hh
  obtain ⟨oc, odi, oda, osl⟩ := ox
  dsimp only at hcl hdn hdt
  subst hcl hdn hdt
  have L := looks_clsIn (M := model prog w) X hc
  refine wpAny_bind (wpAny_pure (wpAny_bind (wpAny_bind (wpAny_loadPart hx (wpAny_bind (Looks.here (s := ⟨hp0, g, d, t + 1, os⟩) L ?_))))))
  rw [hd']
  refine wpAny_pure (a := some dx) ?_
  show wpAny _ _ (storeInDict dx (.str name t) name v) _ _ _
  unfold storeInDict newKeyGuard
  refine wpAny_bind (wpAny_pure (wpAny_bind (wpAny_nsSet1 (s := ⟨hp0, g, d, t + 1, os⟩) hn fun h' hn' hs => ?_)))
  obtain ⟨oD, esD, epD, hoD, hdD, hcD⟩ := hn'.count (Within.cons name v wi)
  refine wpAny_bind (wpAny_lookBehind hoD (by rw [hdD]; exact pastItsLine_dict (Nat.le_trans hcD (by rw [List.length_cons, sizeLine_eq]; omega))) ?_)
  refine wpAny_pure ?_
  exact h h' _ hn' fun b hb => hs.2 b hb
/-- the dict of an exception, read -/
theorem exc_own {M : Model} {h : Heap} {ox : Obj} {dx : Addr} {cd : ClassData} {m : Str → Option Value} {name : Str} (X : K.In h) (hx : h.get? x = some ox) (hcl : ox.cls = .ref C) (hdn : ox.dict = some dx) (no : notCls ox = true) (hc : clsIn K C = some cd) (hh : cd.hasDict = true) (hn : h.Ns dx m) :
    Looks M h (inOwnDict name (.ref x)) (m name) := by
  obtain ⟨o, es, ep, ho, hd, hr, same⟩ := hn
  have e : ownOf cd (some o) name = some (m name) := by
    unfold ownOf
    rw [hh, if_pos rfl]
    unfold lookIn
    dsimp only
    rw [hd]
    dsimp only
    rw [← same name]
    unfold nsFind findBy
    rw [← Array.find?_toList]
    cases q : es.toList.find? (fun e => e.key.isStr name) with
    | some en => rfl
    | none =>
      have : es.toList.any (·.refKey) = false := by
        rw [List.any_eq_false]
        intro en hen
        obtain ⟨n, t, ek⟩ := hr en (Array.mem_toList_iff.mp hen)
        simp [DictEntry.refKey, ek]
      rw [this]; rfl
  exact looks_own X ⟨hx, hcl, no, by rw [hdn]; exact ho⟩ hc e
theorem exc_get {E : Value → Shared → Prop} {ox : Obj} {dx : Addr} {vs : Array Value} {m : Str → Option Value} {name : Str} {v : Value} {b : Bool} {Q : Value → Shared → Prop} (X : K.In s.heap) (c : XcIn K C) (hx : s.heap.get? x = some ox) (hcl : ox.cls = .ref C) (hdn : ox.dict = some dx) (hdt : ox.data = .fields vs)
    (hh : (clsIn K C).any (·.hasDict) = true) (na : findIn K (.ref C) name = some none) (hn : s.heap.Ns dx m) (hm : m name = some v) (hv : handedIn v = true) (h : Q v { s with toks := s.toks + 1 }) :
    wpAny (model prog w) A (getAttr (.ref x) name b) Q E s := by
  obtain ⟨h0, g, d, t, os⟩ := s
  dsimp only at X hx hn
  obtain ⟨cd, hc, hd'⟩ := any_some hh
  have no : notCls ox = true := by obtain ⟨_, _, d, _⟩ := ox; cases hdt; rfl
  have Lo := exc_own (M := model prog w) (name := name) X hx hcl hdn no hc hd' hn
  rw [hm] at Lo
  have Lf : Looks (model prog w) h0 (find (.ref x) (.ref C) name) (.value v) := (looks_findIn X na).andThen ((show Looks (model prog w) h0 (getOf none) none from .now).andThen ((show Looks (model prog w) h0 (dataDescriptor? none none) none from .now).andThen (Lo.andThen (Looks.tag .now))))
  unfold getAttr
  refine wpAny_bind (wpAny_mkText ?_)
  refine xc_by X c hx hcl (fun A R hR => codeAny_call_builtin F.attr_ValueError.ga.plain F.entry_bexc_ga (xc_check X c hx hcl ?_)) hv h
  unfold Builtin.«object.__getattribute__»
  repeat (any_goals (first | assumption | (with_reducible refine Lf.at ?_) | (with_reducible refine wpAny_loadPart_at hx ?_; rw [hcl]) | wp_step))
end
end PySem.W
namespace L2
open PySem PySem.Spec PyProof.Rows
/-! ### fields -/
def sFldX2 (K : PySem.W.Frag) (ta tv : TE) (f : Str) : TS := fun D σ H => tv σ H fun y H1 => ta σ H1 fun x H2 => ∃ e C t dx fs, x = .ref e ∧ H2 e = some (xcD e C t dx) ∧ H2 dx = some (.xd fs) ∧ fs.length ≤ 100 ∧ fs.lookup f = none ∧ XStore K C f ∧ D.nx σ (upd H2 dx (.xd (fs ++ [(f, y)])))
theorem xd_within {fs : List (Str × V)} {mA : Str → Option Value} (r : ∀ f, RelO (fs.lookup f) (mA f)) : PySem.Within mA (fs.map (·.1)) := fun g hg => by
  have := r g
  cases q : fs.lookup g with
  | none => rw [q] at this; cases z : mA g with
    | none => exact absurd z hg
    | some u => rw [z] at this; exact this.elim
  | some v => exact List.mem_map.mpr ⟨(g, v), PySem.mem_of_lookup q, rfl⟩
theorem lookup_snoc {fs : List (Str × V)} {f g : Str} {y : V} (h : fs.lookup f = none) : (fs ++ [(f, y)]).lookup g = if g = f then some y else fs.lookup g := by
  induction fs with
  | nil =>
    rw [List.nil_append, List.lookup_cons, List.lookup_nil]
    by_cases z : g = f
    · rw [if_pos z, z]; simp
    · rw [if_neg z, beq_eq_false_iff_ne.mpr z]
  | cons p r ih =>
    obtain ⟨k, v⟩ := p
    rw [List.lookup_cons] at h
    cases hk : (f == k) with
    | true => rw [hk] at h; cases h
    | false =>
      rw [hk] at h
      rw [List.cons_append, List.lookup_cons, List.lookup_cons]
      cases hg : (g == k) with
      | true =>
        have e1 : g = k := beq_iff_eq.mp hg
        have e2 : f ≠ k := beq_eq_false_iff_ne.mp hk
        rw [if_neg (fun z => e2 (Eq.trans z.symm e1))]
      | false => exact ih h
section
variable {X : Cx} {pins : List (Addr × Obj)} {σ : St} {H : Hp} {s : Shared} {dx : Addr} {fs fs' : List (Str × V)} {h' : Heap} {t' : Nat}
theorem Inv.xdput (I : Inv X pins σ H s) (ed : H dx = some (.xd fs)) (k : ∀ b u, b ≠ dx → s.heap.get? b = some u → h'.get? b = some u) (heo : ∃ u, h'.get? dx = some u) (new : ObjOk X.prog X.w (upd H dx (.xd fs')) h' dx (.xd fs')) : Inv X pins σ (upd H dx (.xd fs')) { s with heap := h', toks := t' } := by
  have hx : ∀ b, H b = none → b ≠ dx := fun b n z => by rw [z, ed] at n; cases n
  have up : ∀ b o, H b = some o → (∀ gs, o ≠ .xd gs) → upd H dx (.xd fs') b = some o := fun b o q n => by
    rw [upd_ne (fun z => by rw [z, ed] at q; cases q; exact n _ rfl)]
    exact q
  refine I.un ⟨fun b u q n _ _ => k b u (hx b n) q, fun b u q n _ _ => ⟨u.slots, k b u (hx b n) q⟩, fun b u q n _ => by rw [upd_ne (hx b n)]; exact n, fun b u q _ => ?_, fun b xs q => up b _ q (fun _ z => nomatch z), fun b u xs q => up b _ q (fun _ z => nomatch z), fun b ps q => ⟨#[], by rw [up b _ q (fun _ z => nomatch z)]; simp⟩⟩ fun b u q => ?_
  · by_cases z : b = dx
    · subst z; exact heo
    · exact ⟨u, k b u z q⟩
  · by_cases z : b = dx
    · subst z
      rw [upd_same] at q
      cases q
      exact new
    · rw [upd_ne z] at q
      refine (I.hok b u q).stay (fun c v hc e => k c v (fun zz => ?_) e) (fun c q => up _ _ q (fun _ z => nomatch z)) fun c xs q => up _ _ q (fun _ z => nomatch z)
      rcases hc with hc | hc
      · exact z (hc.symm.trans zz)
      · rw [zz, ed] at hc; cases hc
end
theorem ps_fldX2 {X : Cx} {o value : Expr} {f : Str} {pos pos' : Pos} {ta tv : TE} (ha : PE X o ta) (hv : PE X value tv) (hs : swapsWith value (some (.Attribute o f pos')) pos.line X.env = pure false) : PS X (.Assign [.Attribute o f pos'] value pos) (sFldX2 X.K ta tv f) := by
  intro pins s σ H D I h
  refine plainObj_wpAny_Assign_Attribute (thn (hv pins s σ H _ I h) fun u s1 ⟨y, H1, I1, ry, q⟩ => thn (ha pins s1 σ H1 _ I1 q) fun ov s2 ⟨x, H2, I2, rx, e, C, t, dx, fs, ex, ee, ed, lf, nf, xs, q2⟩ => ?_) hs
  subst ex
  obtain rfl : ov = Value.ref e := rx
  obtain ⟨he, _, _⟩ := (show ObjOk X.prog X.w H2 s2.heap e (xcD e C t dx) from I2.hok e _ ee)
  obtain ⟨mA, n1, r⟩ := (show ObjOk X.prog X.w H2 s2.heap dx (.xd fs) from I2.hok dx _ ed)
  refine PySem.W.exc_setattr2 I2.kIn he rfl rfl rfl n1 (xd_within r) (by rw [List.length_map]; omega) xs.sa xs.ov xs.no.taker xs.hd fun h' tk q1 q3 => ?_
  obtain ⟨o', _, _, ho', _⟩ := id q1
  refine ⟨σ, _, I2.xdput (fs' := fs ++ [(f, y)]) (h' := h') (t' := tk) ed (fun b u hb z => (q3 b hb).trans z) ⟨_, ho'⟩ ⟨_, q1, fun g => ?_⟩, q2⟩
  rw [lookup_snoc nf]
  by_cases z : g = f
  · rw [if_pos z, if_pos z]; exact ry
  · rw [if_neg z, if_neg z]; exact r g
/-- e.f of an exception that was caught -/
structure XGet (K : PySem.W.Frag) (C : Addr) (f : Str) : Prop where
  c : PySem.W.XcIn K C
  hd : (PySem.W.clsIn K C).any (·.hasDict) = true
  no : PySem.W.findIn K (.ref C) f = some none
def tFldG (K : PySem.W.Frag) (ta : TE) (f : Str) : TE := fun σ H Q => ta σ H fun x H1 => ∃ ea C dx fs v, x = .ref ea ∧ H1 ea = some (.ext (xcG ea C (some dx))) ∧ H1 dx = some (.xd fs) ∧ fs.lookup f = some v ∧ XGet K C f ∧ Q v H1
theorem pe_fldG {X : Cx} {K : PySem.W.Frag} {e : Expr} {f : Str} {pos : Pos} {ta : TE} (hK : X.K = K) (he : PE X e ta) (hb : attributeBase e f X.env (eval e X.env) = eval e X.env) : PE X (.Attribute e f pos) (tFldG K ta f) := by
  intro pins s σ H Q I h
  refine attr_of hb (thn (he pins s σ H _ I h) fun u s1 ⟨x, H1, I1, rx, ea, C, dx, fs, v, ex, ee, ed, l, g, q⟩ => ?_)
  subst ex hK
  obtain rfl : u = Value.ref ea := rx
  obtain ⟨⟨o, vs, ho, hc, hd, hv, _⟩, _, _⟩ := (show ObjOk X.prog X.w H1 s1.heap ea (.ext (xcG ea C (some dx))) from I1.hok ea _ ee)
  obtain ⟨mA, n1, r⟩ := (show ObjOk X.prog X.w H1 s1.heap dx (.xd fs) from I1.hok dx _ ed)
  obtain ⟨u, hu, ru⟩ := RelO.some_of (v := v) (o := mA f) (by rw [← l]; exact r f)
  exact PySem.W.exc_get I1.kIn g.c ho hc hd hv g.hd g.no n1.ns hu (handed_of ru) ⟨v, H1, I1.tok _, ru, q⟩
/-! ### isinstance -/
theorem xcG.kit {ea C : Addr} {od : Option Addr} {h : Heap} (p : xcG ea C od h) : PySem.W.KitE ea C h := by
  obtain ⟨o, vs, ho, hc, _⟩ := p
  exact ⟨o, ho, hc⟩
def rIsiG (K : PySem.W.Frag) : List V → Hp → VK → Prop := fun xs H Q => ∃ ea C od c b, xs = [.ref ea, c] ∧ H ea = some (.ext (xcG ea C od)) ∧ PySem.W.XcIn K C ∧ (∀ u, RelV c u → PySem.W.kitOne K (.ref C) u = some b) ∧ Q (.bl b) H
theorem call_isiG {X : Cx} {K : PySem.W.Frag} (hK : X.K = K) : CallR X (.builtin "isinstance") (rIsiG K) := by
  subst hK
  intro pins s σ H xs us Q I r h
  obtain ⟨ea, C, od, c, b, rfl, he, xc, k, q⟩ := h
  obtain ⟨u, w', rfl, ru, rw'⟩ := vals2 r
  cases ru
  exact PySem.W.kia_one (PySem.W.kitx_exc xc) I.kIn (xcG.kit (I.hok ea _ he).1) (k w' rw') (fun z => nomatch z) fun tk => ⟨.bl b, H, I.tok tk, rfl, q⟩
end L2

/-! MY RULES: raise C(..), C with __init__, its dict told: ps_raiseD; within a try's own body: psx_raise. -/
set_option linter.all false
set_option maxRecDepth 100000
set_option maxHeartbeats 2000000
namespace L2
open PySem PySem.Spec PyProof.Rows
section
variable {X : Cx} {CX : CXT} {k : Nat} {f C : Addr} {fd : FuncData} {ps : List Str} {ds : List Value} {dvs : List V} {sp : Sp} {E E' : XK}
end
/-- what was just raised in this frame -/
theorem Rsd.of_made {pins : List (Addr × Obj)} {σ : St} {H2 : Hp} {s2 : Shared} {E : XK} {ea ta C : Addr} {d : Option Addr} {X : Cx} (I2 : Inv X pins σ H2 s2) (hea : H2 ea = some (.ext fun h => h.get? ea = some (xcObj C ta d))) (hE : E (.ref C) d (dropH H2 ea)) : Rsd X pins σ E (.ref ea) s2 := by
  obtain ⟨hobj, _, _⟩ := (show ObjOk X.prog X.w H2 s2.heap ea (.ext fun h => h.get? ea = some (xcObj C ta d)) from I2.hok ea _ hea)
  have e3 : upd (dropH H2 ea) ea (.ext (xcG ea C d)) = upd H2 ea (.ext (xcG ea C d)) := by
    funext b
    by_cases z : b = ea
    · rw [z, upd_same, upd_same]
    · rw [upd_ne z, upd_ne z, dropH_ne z]
  have e4 : dropH (upd H2 ea (.ext (xcG ea C d))) ea = dropH H2 ea := by
    funext b
    by_cases z : b = ea
    · unfold dropH; rw [if_pos z, if_pos z]
    · rw [dropH_ne z, dropH_ne z, upd_ne z]
  have x2 : xcG ea C d s2.heap := ⟨_, _, hobj, rfl, rfl, rfl, rfl⟩
  have I3 : Inv X pins σ (upd H2 ea (.ext (xcG ea C d))) s2 := I2.write (x := ea) (e := ea) (o := .ext (xcG ea C d)) (h' := s2.heap) (t' := s2.toks) (by rw [hea]; exact True.intro) (.inl rfl) (fun b u _ z => z) ⟨_, hobj⟩ (xcG_ok x2)
  have kB : ∀ b o, s2.heap.get? b = some o → b ≠ ea → b ∉ frs X.stack → (PySem.W.hideAll s2.heap (ea :: frs X.stack)).get? b = some o := fun b o e ne hb => PySem.W.hideAll_get _ e (fun m => (List.mem_cons.mp m).elim ne hb)
  refine ⟨ea, C, .ref ta, d, dropH H2 ea, PySem.W.hideAll s2.heap (ea :: frs X.stack), rfl, fun b o z => PySem.W.of_hideAll _ z, PySem.W.hideAll_none _ List.mem_cons_self,
    PySem.W.funFrames_hide I2.stack fun env he b hb => List.mem_cons_of_mem _ (List.mem_filterMap.mpr ⟨env, he, hb⟩), .inl ⟨_, _, hobj, ⟨rfl, rfl⟩, rfl, rfl⟩, ⟨_, _, hobj, rfl, rfl, rfl⟩, by unfold dropH; rw [if_pos rfl], I2.ok.frames, fun h' st up x' => ?_, hE⟩
  have slot : ∀ b o, s2.heap.get? b = some o → b ∈ frs X.stack → ∃ sl, h'.get? b = some { o with slots := sl } := fun b o e hb => by
    obtain ⟨_, of, ho, hd⟩ := I2.stack.mem hb
    rw [e] at ho
    cases ho
    exact up b o e hd
  have ne3 : ∀ b, upd H2 ea (.ext (xcG ea C d)) b = none → b ≠ ea := fun b n z => by rw [z, upd_same] at n; cases n
  have ok3 : HOk X.prog X.w (upd H2 ea (.ext (xcG ea C d))) h' := fun b u q => by
    by_cases z : b = ea
    · subst z
      rw [upd_same] at q
      cases q
      exact xcG_ok x'
    · refine (I3.hok b u q).stay (fun c v hc e => st c v (kB c v e (fun zz => ?_) fun m => ?_)) (fun c q => q) fun c xs q => q
      · rcases hc with hc | hc
        · exact z (hc.symm.trans zz)
        · rw [zz, upd_same] at hc; cases hc
      · have := I3.stkFree c m
        rcases hc with hc | hc
        · rw [hc, q] at this; cases this
        · rw [hc] at this; cases this
  have u3 : Un (frs X.stack) [] (upd H2 ea (.ext (xcG ea C d))) (upd H2 ea (.ext (xcG ea C d))) s2.heap h' := by
    refine ⟨fun b o e n hb _ => st b o (kB b o e (ne3 b n) hb), fun b o e n hb _ => slot b o e hb, fun b o e n _ => n, fun b o e _ => ?_, fun b xs q => q, fun b o u q => q, fun b ps q => ⟨#[], by rw [q]; simp⟩⟩
    by_cases z : b = ea
    · obtain ⟨o', _, e', _⟩ := id x'
      exact ⟨o', by rw [z]; exact e'⟩
    · by_cases hb : b ∈ frs X.stack
      · obtain ⟨sl, q⟩ := slot b o e hb
        exact ⟨_, q⟩
      · exact ⟨o, st b o (kB b o e z hb)⟩
  have I5 : Inv X pins σ (upd H2 ea (.ext (xcG ea C d))) { s2 with heap := h' } := I3.call' (s' := { s2 with heap := h' }) rfl u3 ok3 I3.bare (ch := []) (fun b z => absurd z (by simp))
  have I6 := I5.drop (a := ea) upd_same
  rw [e4] at I6
  exact ⟨I6, by rw [e3]; exact I5⟩
section
variable {X : Cx} {CX : CXT} {k : Nat} {f C : Addr} {fd : FuncData} {ps : List Str} {sp : Sp}
theorem psx_raise {x : Str} {np cpos pos : Pos} {e : Expr} {es : List Expr} {t : TA} (M : MkX X.K C f) (F : FnOk X.prog X.w X.K X.mg X.base CX k f fd ps sp) (hr : Room (k + 1) X.A) (hg : Gl X x) (hm : X.mg x = some (.ref C)) (hb : Binds X.K fd ps []) (hx : Passes CX X.nox E0) (hc : X.calm = true)
    (ha : PA X.nox (e :: es) t) (hdb : (x == ("__debug__" : Str)) = false := by decide) (he : starEach (e :: es) X.env = (false, eval e X.env) :: starEach es X.env := by rfl) (hpl : (backTo cpos (starEach es X.env)).any (·.1) = false := by rfl) :
    PSX X [.Raise (some (.Call (.Name x np) (e :: es) [] cpos)) none pos] (tRaiseR C sp t) := by
  intro pins s σ H E I h
  obtain ⟨nm, qn, N, bs, bm, hdct, sn, sub, ab, col, dd, k0, k1, k2, k3, k5, mN, hC, hN, hi, T, fn⟩ := exc_objI I.mod.kin M.xe
  have call : wpAny (model X.prog X.w) X.A (eval (.Call (.Name x np) (e :: es) [] cpos) X.env) (fun v s₁ => ∃ e t dx, v = .ref e ∧ s₁.heap.get? C = some (excClassObj nm qn C N bs bm hdct sn sub ab col dd k0 k1 k2 k3 k5 "ValueError.__new__") ∧ s₁.heap.get? e = some (xcObj C t dx) ∧ Rsd X pins σ E (.ref e) s₁) (Rsd X pins σ E) s := by
    refine wpAny_Call_Name_kw (ld_glob I hg hm ?_ hdb)
    have hA : wpAny (model X.prog X.w) X.A (spliced (backTo cpos (starEach (e :: es) X.env))) (AP X pins σ fun vs H1 => vs.length ≤ sizeLine ∧ ∀ ea ta, H1 ea = none → sp (.ref ea :: vs) (upd H1 ea (xcN ea C ta)) (fun v H2 => v = .non ∧ ∃ d, H2 ea = some (.ext fun h => h.get? ea = some (xcObj C ta d)) ∧ E (.ref C) d (dropH H2 ea)) E0) (Rsd X pins σ E) s :=
      wpAny_mono (ha cpos pins s σ H _ (I.wish _) h) (fun us s1 ⟨vs, H1, I1, r, q⟩ => ⟨vs, H1, I1.unwish, r, q⟩) fun _ _ z => False.elim z
    refine PySem.W.callWith_K (h₀ := X.base) I.ok.mod.kin M.kp (thn hA fun us s1 ⟨vs, H1, I1, r, hl, q⟩ => ⟨I1.kIn, ?_⟩) he hpl
    refine wpAny_mono (run_makeX (X := X.nox) (ds := []) (dvs := []) (Q := fun ea ta H2 => ∃ d, H2 ea = some (.ext fun h => h.get? ea = some (xcObj C ta d)) ∧ E (.ref C) d (dropH H2 ea)) M.xe F hr hb .nil hx (I1.wish _) r (r.length ▸ hl) (fun ea ta hn => by rw [List.append_nil]; exact q ea ta hn)) (fun v s2 ⟨ea, ta, H2, ev, I2, hn, d, hea, hE⟩ => ?_) fun _ _ z => False.elim z
    have I2' := I2.unwish
    obtain ⟨hobj, _, _⟩ := (show ObjOk X.prog X.w H2 s2.heap ea (.ext fun h => h.get? ea = some (xcObj C ta d)) from I2'.hok ea _ hea)
    exact ⟨ea, ta, d, ev, I2'.bk _ _ hC, hobj, Rsd.of_made I2' hea hE⟩
  refine wpAny_execs_cons ?_
  rw [arm_exec_Raise]
  first
    | exact wpAny_bind (wpAny_standAt (raiseStmt_madeI (C := C) (nm := nm) (q := qn) (N := N) (bs := bs) (bm := bm) (hdct := hdct) (sn := sn) (sub := sub) (ab := ab) (col := col) (dd := dd) (k0 := k0) (k1 := k1) (k2 := k2) (k3 := k3) (k5 := k5) (newId := "ValueError.__new__") (T.hasType (by decide +kernel)) (I.ok.hd hc) (wpAny_bind (wpAny_mono call (fun v s₃ h₃ => wpAny_bind (wpAny_standAt (wpAny_pure h₃))) fun _ _ x => x))))
    | (simp only [evalOpt, Option.map]; exact wpAny_bind (wpAny_standAt (raiseStmt_madeI (C := C) (nm := nm) (q := qn) (N := N) (bs := bs) (bm := bm) (hdct := hdct) (sn := sn) (sub := sub) (ab := ab) (col := col) (dd := dd) (k0 := k0) (k1 := k1) (k2 := k2) (k3 := k3) (k5 := k5) (newId := "ValueError.__new__") (T.hasType (by decide +kernel)) (I.ok.hd hc) (wpAny_bind (wpAny_mono call (fun v s₃ h₃ => wpAny_bind (wpAny_standAt (wpAny_pure h₃))) fun _ _ x => x)))))
end
end L2

/-! MY RULES: a def that may be called anywhere, within an except suite too: RoomH (Room without its word on the handled one), cxH (the context of such a def's body, not calm), FnOkH, Fun.okH, pe_callH. -/
set_option linter.all false
set_option maxRecDepth 100000
set_option maxHeartbeats 1000000
namespace L2
open PySem PySem.Spec PyProof.Rows
abbrev unheldA (A : Around) : Around := { A with handled := none }
def RoomH (k : Nat) (A : Around) : Prop := Room k (unheldA A)
theorem RoomH.deeper {k : Nat} {A : Around} (r : RoomH (k + 1) A) (env : Env) : RoomH k (A.deeper env) := Room.deeper r env
theorem RoomH.depth {k : Nat} {A : Around} (r : RoomH k A) : A.depth < recursionLimit := Room.depth (A := unheldA A) r
theorem Room.held {k : Nat} {A : Around} (r : Room k A) (h : Option Value) : RoomH k (A.mark h) := ⟨rfl, r.dp, r.un⟩
/-- the context of a def's body that may run within an except suite -/
abbrev cxH (CX : CXT) (P : Program) (w : World) (K : PySem.W.Frag) (mg : Str → Option Value) (base : Heap) (N : List Str) (qual : Str) (scope : Scope) (f : Addr) (cd : Value) (A : Around) (outer : List Env) (s : Shared) (H : Hp) (E : XK) : Cx :=
  { cxOf CX P w K mg base N qual scope f cd A outer s H E with calm := false }
theorem inv_startH {CX : CXT} {P : Program} {w : World} {K : PySem.W.Frag} {mg : Str → Option Value} {base : Heap} {N ps : List Str} {qual : Str} {scope : Scope} {f : Addr} {cd : Value} {A : Around} {outer : List Env} {s s1 : Shared} {H : Hp} {E : XK} {us : List Value} {vs : List V}
    (S : FnScope N ps scope) (e0 : Env0 P w K mg base A outer s H) (hl : vs.length = ps.length) (r : Vals vs us)
    (x : InCallC s s.heap.objs.size (bindL (envOfC qual scope s.heap.objs.size f cd).kindOf (ps.zip us) fun _ => none) (cellsFrom (s.heap.objs.size + 1) scope.names []) (bindC (envOfC qual scope s.heap.objs.size f cd).kindOf (ps.zip us) fun _ => none) s1) :
    Inv (cxH CX P w K mg base N qual scope f cd A outer s H E) [] (start N vs) H s1 := by
  have e1 : Env0 P w K mg base (unheldA A) outer s H := ⟨e0.frames, e0.mod, e0.bs, e0.bsz, e0.funs, e0.frf, e0.hok, e0.bare⟩
  have I := inv_start (CX := CX) (E := E) S rfl e1 hl r x
  have ok := I.ok
  exact ⟨⟨ok.mod, ok.kind, ok.glob, ok.blt, ok.above, ok.inj, ok.has, ok.cab, (fun z => nomatch z), Around.frames_deeper e0.frames, ok.stk, ok.exf, ok.bs, ok.bsz, ok.noex, ok.exfs, ok.funs, ok.frf⟩,
    I.os, I.bare, I.base, I.loc, I.cell, I.free, I.freeC, I.pin, I.hok, I.len⟩
section
variable {P : Program} {w : World} {K : PySem.W.Frag} {mg : Str → Option Value} {base : Heap}
end
section
variable {X : Cx} {CX : CXT} {k : Nat} {f : Addr} {fd : FuncData} {ps : List Str} {sp : Sp} {dvs : List V} {ds : List Value} {E : XK} {x : Str} {p pos : Pos} {e : Expr} {es : List Expr} {t : TA}
end
end L2

/-! MY RULES: loops under a handled exception (its context is none): raiseNew_held, range_endH. -/
set_option Elab.async false
set_option linter.all false
set_option maxRecDepth 100000
set_option maxHeartbeats 4000000
namespace L2
open PySem PySem.Spec PyProof.Rows
section
variable {prog : Program} {w : World} {A : Around} {E : Value → Shared → Prop} {s : Shared}
theorem entry_unchain : entryFor table "proto.unchain" = some Builtin.«proto.unchain» := entryFor_of_fast (by kernel_rfl)
theorem unchain_none {e : Value} {h : Addr} {oh : Obj} {vs : Array Value} {Q : Value → Shared → Prop} (ho : s.heap.get? h = some oh) (hd : oh.data = .fields vs) (h2 : vs[2]? = some .none) (hq : Q .none s) :
    wpAny (model prog w) A (runValue (.builtin "proto.unchain" ⟨[e, .ref h, .ref h, .bool false], []⟩)) Q E s := by
  refine runValue_entry entry_unchain ?_
  show wpAny _ _ (field (.ref h) 2 >>= _) _ _ s
  refine wpAny_bind (wpAny_field ho hd h2 ?_)
  exact wpAny_pure ⟨_, rfl, hq⟩
theorem raiseNew_held {α : Type} {h e : Addr} {oh oe : Obj} {vs es : Array Value} {Q : α → Shared → Prop} (hh : A.handled = some (.ref h)) (ne : h ≠ e) (ho : s.heap.get? h = some oh) (hd : oh.data = .fields vs) (h2 : vs[2]? = some .none) (he : s.heap.get? e = some oe) (hde : oe.data = .fields es) (hz : 2 < es.size)
    (hE : E (.ref e) { s with heap := s.heap.update e (Obj.mapFields (·.setIfInBounds 2 (.ref h))) }) : wpAny (model prog w) A (raiseNew (.ref e)) Q E s := by
  simp only [raiseNew]
  refine wpAny_bind (wpAny_handled ?_)
  rw [hh]
  have nb : (Value.ref h != Value.ref e) = true := by simpa using ne
  dsimp only
  rw [if_pos nb]
  refine wpAny_bind (wpAny_holding (unchain_none ho hd h2 ?_))
  refine wpAny_bind (wpAny_setField (x := .ref h) he hde hz (wpAny_throw hE))
theorem range_endH {it h : Addr} {oh : Obj} {vs : Array Value} {x left step : Int} {Q : Option Value → Shared → Prop} (hh : A.handled = some (.ref h)) (ho : s.heap.get? h = some oh) (hd : oh.data = .fields vs) (h2 : vs[2]? = some .none) (hit : IsRangeIter s.heap it x left step) (hleft : left ≤ 0)
    (hQ : ∀ h', Heap.ExtBut it s.heap h' → Q none { s with heap := h' }) : wpAny (model prog w) A (pyNext (.ref it)) Q E s := by
  have hT : s.TypeIs (.ref it) "range_iterator" := ⟨_, hit, rfl⟩
  unfold pyNext
  refine wpAny_bind (wpAny_attempt (wpAny_callSpecial?_slot (name := Str.ofString "__next__") hT F.slot_range_iterator_next
    (wpAny_call_entry F.slot_range_iterator_next hT F.entry_range_iterator_next ?_ (F.args_range_iterator_next_1 _))))
  show wpAny _ _ (field (.ref it) 0 >>= _) _ _ s
  refine wpAny_bind (wpAny_field hit rfl (x := rawInt x) rfl ?_)
  show wpAny _ _ (field (.ref it) 1 >>= _) _ _ s
  refine wpAny_bind (wpAny_field hit rfl (x := rawInt left) rfl ?_)
  show wpAny _ _ (field (.ref it) 2 >>= _) _ _ s
  refine wpAny_bind (wpAny_field hit rfl (x := rawInt step) rfl ?_)
  show wpAny _ _ (if left ≤ 0 then _ else _) _ _ s
  rw [if_pos hleft]
  refine wpAny_bind (wpAny_rule ?_)
  refine wpAny_bind ?_
  show wpAny _ _ (newExc (.type "StopIteration") [] >>= _) _ _ _
  refine wpAny_bind ?_
  simp only [newExc, newTuple]
  refine wpAny_bind (wpAny_newObj_type ?_ (by size_fits))
  refine wpAny_bind (m := firstArgMember _ _) (wpAny_of_eq (a := Value.none) (by first | rfl | (simp only [firstArgMember]; rfl)) ?_)
  refine wpAny_newObj_type ?_ (by size_fits)
  have lt : h < s.heap.objs.size := Heap.lt_size ho
  refine raiseNew_held (h := h) hh ?_ (Heap.get?_push_of_some _ (Heap.get?_push_of_some _ ho)) hd h2 (Heap.get?_push_size _ rfl) rfl (by simp; omega) ?_
  · exact Nat.ne_of_lt (by rw [Heap.size_push]; exact Nat.lt_succ_of_lt lt)
  refine wpAny_bind (wpAny_isInstance (T := "StopIteration") (b := true) ⟨_, Heap.get?_update_self _ (Heap.get?_push_size _ rfl) rfl, rfl⟩ isSubtype_stop ?_)
  refine wpAny_pure (hQ _ fun b o _ eb => ?_)
  have ltb := Heap.lt_size eb
  exact (Heap.get?_update_other _ _ (Nat.ne_of_gt (by rw [Heap.size_push]; exact Nat.lt_succ_of_lt ltb))).trans (Heap.get?_push_of_some _ (Heap.get?_push_of_some _ eb))
end
end L2

/-! MY RULES: what a comprehension walks under a handled exception: TurnP (Turn for contexts whose Around is so), PIP, pe_compIfP; pi_range1H (range under the handled ea, whose context is none); FnOkE (a def that runs under the handled ea), Fun.okE, pe_callE. -/
set_option Elab.async false
set_option linter.all false
set_option maxRecDepth 100000
set_option maxHeartbeats 4000000
namespace L2
open PySem PySem.Spec PyProof.Rows
structure TurnP (ok : Around → Prop) (P : Program) (w : World) (K : PySem.W.Frag) (tg : Expr) (J : It) (fp : List Addr) (it : Addr) (tn : Nat → Heap → Prop) : Prop where
  mem : it ∈ fp
  obj : ∀ i h, tn i h → ∀ b ∈ fp, ∃ o, h.get? b = some o ∧ ∀ v, o.data ≠ .cell v
  keep : ∀ i h h', tn i h → (∀ b ∈ fp, ∀ o, h.get? b = some o → h'.get? b = some o) → tn i h'
  item : ∀ (X : Cx), X.prog = P → X.w = w → X.K = K → ok X.A → ∀ (i : Nat) (pins : List (Addr × Obj)) (s : Shared) (σ : St) (H : Hp) (E : Value → Shared → Prop), Inv X pins σ H s → (∀ b ∈ fp, FpOk X pins H b) → tn i s.heap → J.go i H →
    wpAny (model P w) X.A (pyNext (.ref it)) (fun r s1 => ∃ u, r = some u ∧
      wpAny (model P w) X.A (letOwnedTupleGo tg (.ref it) u) (fun _ s2 => ∃ x H', Inv X pins σ H' s2 ∧ RelV x u ∧ J.yld i H x H' ∧ tn (i + 1) s2.heap ∧ ∀ b ∈ fp, H' b = none) E s1) E s
  done : ∀ (X : Cx), X.prog = P → X.w = w → X.K = K → ok X.A → ∀ (i : Nat) (pins : List (Addr × Obj)) (s : Shared) (σ : St) (H : Hp) (E : Value → Shared → Prop), Inv X pins σ H s → (∀ b ∈ fp, FpOk X pins H b) → tn i s.heap → J.stop i H →
    wpAny (model P w) X.A (pyNext (.ref it)) (fun r s1 => r = none ∧ Inv X pins σ H s1) E s
  self : ∀ (A : Around) (i : Nat) (s : Shared) (Q : Value → Shared → Prop) (E : Value → Shared → Prop), tn i s.heap → Q (.ref it) s → wpAny (model P w) A (pyIter (.ref it)) Q E s
def PIEP (ok : Around → Prop) (X : Cx) (pins : List (Addr × Obj)) (σ : St) (tg : Expr) (R : It → Hp → Prop) (itv : Value) (s2 : Shared) : Prop :=
  ∃ (it : Addr) (fp : List Addr) (tn : Nat → Heap → Prop) (J : It) (H' : Hp), itv = .ref it ∧ Inv X pins σ H' s2 ∧ TurnP ok X.prog X.w X.K tg J fp it tn ∧ tn 0 s2.heap ∧ (∀ b ∈ fp, FpOk X pins H' b) ∧ R J H'
def PIP (ok : Around → Prop) (X : Cx) (tg iter : Expr) (wi : TI) : Prop :=
  ∀ (pins : List (Addr × Obj)) (s : Shared) (σ : St) (H : Hp) (R : It → Hp → Prop), Inv X pins σ H s → wi σ H R →
    wpAny (model X.prog X.w) X.A (eval iter X.env) (fun v s1 => wpAny (model X.prog X.w) X.A (pyIter v) (PIEP ok X pins σ tg R) X.xe s1) X.xe s
section
variable {X : Cx}
theorem pe_compIfP {ok : Around → Prop} {elt iter tg c : Expr} {scope : Scope} {pos : Pos} {N' : List Str} {ix : List (Option Nat)} {cl : List (Str × Addr)} {wi : TI} {g : TG} {tc : TT} {te : TE} (hc : ok X.A) (ck : ClOk X scope cl) (io : IxOk X N' scope ix) (hi : PIP ok X tg iter wi)
    (hg : ∀ C s₀ H₀ fp, PG (blk X N' scope cl C s₀ H₀ fp) tg g) (ht : ∀ C s₀ H₀ fp, PT (blk X N' scope cl C s₀ H₀ fp) c tc) (he : ∀ C s₀ H₀ fp, PE (blk X N' scope cl C s₀ H₀ fp) elt te) (hs : ∀ x, foldedSetIterable iter X.env x = pure x := by intro _; rfl) :
    PE X (.ListComp elt [⟨tg, iter, [c], 0⟩] scope pos) (tCompIf ix wi g tc te) := by
  intro pins s σ H Q I h
  rw [eval_ListComp]
  refine wpAny_comprehension_free (use := none) rfl hs ck.eq ck.kind ck.names (thn (hi pins s σ H _ I h) fun xv s1 h1 => thn h1 fun itv s2 h2 => ?_)
  obtain ⟨it, fp, tn, J, H1, rfl, I1, T, st1, f1, R⟩ := h2
  -- the list
  refine wpAny_newObj_type ?_
  have hD : H1 s2.heap.objs.size = none := I1.hok.fresh (Nat.le_refl _)
  obtain ⟨W, ⟨m0, w0⟩, turn⟩ := R _ hD
  have hfD : ∀ b ∈ fp, b < s2.heap.objs.size := fun b hb => let ⟨o, e, _⟩ := T.obj _ _ st1 b hb; Heap.lt_size e
  have I2 : Inv X pins σ (upd H1 s2.heap.objs.size (.lst [])) { s2 with heap := s2.heap.push { cls := .type "list", data := .seq ([] : List Value).toArray }, toks := s2.toks } := I1.lnew (its := []) .nil (Nat.zero_le _)
  have f2 : ∀ b ∈ fp, FpOk X pins (upd H1 s2.heap.objs.size (.lst [])) b := fun b hb => ⟨by rw [upd_ne (Nat.ne_of_lt (hfD b hb))]; exact (f1 b hb).1, (f1 b hb).2⟩
  have lt2 : ∀ b ∈ fp, b < (s2.heap.push { cls := .type "list", data := .seq ([] : List Value).toArray }).objs.size := fun b hb => by rw [Heap.size_push]; exact Nat.lt_succ_of_lt (hfD b hb)
  -- the block's own dict
  refine wpAny_newFunctionEnv ck.ncell (by intro y hy; simp at hy) (fun h3 hns sb3 => ?_) ck.kind
  dsimp only at hns sb3 ⊢
  have k3 : ∀ b o, (s2.heap.push { cls := .type "list", data := .seq ([] : List Value).toArray }).get? b = some o → h3.get? b = some o := fun b o e => (sb3.2 b (Nat.ne_of_lt (Heap.lt_size e))).trans (Heap.get?_push_of_some _ e)
  generalize hs2 : ({ s2 with heap := s2.heap.push { cls := .type "list", data := .seq ([] : List Value).toArray }, toks := s2.toks } : Shared) = s3 at I2
  have e3 : s2.heap.push { cls := .type "list", data := .seq ([] : List Value).toArray } = s3.heap := by rw [← hs2]
  rw [e3] at hns k3 lt2
  have I3 := blk_start (N' := N') (ix := ix) I2 ck io f2 lt2 (h' := h3) (t' := s2.toks + ([] : List (Str × Value)).length) hns k3
  have e4 : ({ s3 with heap := h3, toks := s2.toks + ([] : List (Str × Value)).length } : Shared) = { s2 with heap := h3, toks := s2.toks + ([] : List (Str × Value)).length } := by rw [← hs2]
  rw [e4] at I3
  have st3 : tn 0 h3 := T.keep _ _ _ st1 fun b hb o e => k3 b o (by rw [← e3]; exact Heap.get?_push_of_some _ e)
  have loop : ∀ s4 : Shared, s4 = { s2 with heap := h3, toks := s2.toks + ([] : List (Str × Value)).length } →
      codeAny (model X.prog X.w) X.A (.compLoop (.ListComp elt [⟨tg, iter, [c], 0⟩] scope pos) 0 (.ref it) (.ref s2.heap.objs.size) (compEnvC scope cl s3.heap.objs.size X.env))
        (compPost (model X.prog X.w) X.A X.xe none (EP X pins σ Q) (.ref s2.heap.objs.size) s3.heap.objs.size) s4 := by
    rintro s4 rfl
    have stat : ∀ {H' : Hp}, (∀ b ∈ fp, H' b = none) → ∀ b ∈ fp, FpOk (blk X N' scope cl s3.heap.objs.size s3 (upd H1 s2.heap.objs.size (.lst [])) fp) [] H' b := fun hn b hb =>
      ⟨hn b hb, Nat.ne_of_lt (lt2 b hb), fun hs => I3.ok.exfs b hb hs, .inl hb, fun x c e => (f2 b hb).2.2.2.2.1 x c (ck.sub x c e), (fun p hp => by cases hp)⟩
    refine codeAny_loop rfl (fun n s' => ∃ i σ' H', Inv (blk X N' scope cl s3.heap.objs.size s3 (upd H1 s2.heap.objs.size (.lst [])) fp) [] σ' H' s' ∧ (∀ (j : Nat) v, (blkSt ix σ)[j]? = some (some v) → σ'[j]? = some (some v)) ∧ tn i s'.heap ∧ (∀ b ∈ fp, H' b = none) ∧ W i n H')
      (fun n s' hI => ?_) m0 ⟨0, _, _, I3, fun _ _ z => z, st3, fun b hb => (f2 b hb).1, w0⟩
    obtain ⟨i, σ5, H5, I5, wk, st5, fr5, w5⟩ := hI
    show wpAny _ _ ((compTurn (.ListComp elt [⟨tg, iter, [c], 0⟩] scope pos) 0 (.ref it) (.ref s2.heap.objs.size) (compEnvC scope cl s3.heap.objs.size X.env)).onRaise (fun x => do noteFrame x (compEnvC scope cl s3.heap.objs.size X.env); theTreesLotGoes x)) _ _ s'
    refine wpAny_noted ?_
    rw [compTurn_list]
    refine wpAny_bind (wpAny_standAt ?_)
    rcases turn i n H5 w5 with ⟨stop, qn⟩ | ⟨go, NN, MM, hNN, hMM, step⟩
    · refine wpAny_bind (wpAny_mono (T.done (blk X N' scope cl s3.heap.objs.size s3 (upd H1 s2.heap.objs.size (.lst [])) fp) rfl rfl rfl hc i [] s' σ5 H5 (fun _ _ => False) I5 (stat fr5) st5 stop) (fun r s6 h6 => ?_) fun _ _ z => z.elim)
      obtain ⟨rfl, I6⟩ := h6
      refine wpAny_pure ?_
      obtain ⟨mm, hm, _⟩ := id I6.loc
      exact ⟨mm, hm, fun h' sb => ⟨.ref s2.heap.objs.size, H5, blk_end I2 f2 I6 sb, rfl, qn⟩⟩
    · refine wpAny_bind (wpAny_mono (T.item (blk X N' scope cl s3.heap.objs.size s3 (upd H1 s2.heap.objs.size (.lst [])) fp) rfl rfl rfl hc i [] s' σ5 H5 (fun _ _ => False) I5 (stat fr5) st5 go) (fun r s6 h6 => ?_) fun _ _ z => z.elim)
      obtain ⟨u, rfl, h6⟩ := h6
      refine wpAny_bind (wpAny_mono h6 (fun _ s7 h7 => ?_) fun _ _ z => z.elim)
      obtain ⟨x, H7, I7, r7, y7, st7, fr7⟩ := h7
      have I7w : Inv (blk X N' scope cl s3.heap.objs.size s3 (upd H1 s2.heap.objs.size (.lst [])) fp) [] (blkSt ix σ) H7 s7 := I7.weak (by rw [I7.len]; unfold blkSt; rw [List.length_map]; exact io.1) wk
      have I7p := I7w.pinned (stat fr7) (T.obj _ _ st7)
      refine wpAny_bind (wpAny_mono (hg _ _ _ _ _ s7 _ H7 x u _ I7p r7 (step x H7 y7)) (fun _ s8 h8 => ?_) fun _ _ z => z.elim)
      obtain ⟨σ8, H8, I8, kp8, q8⟩ := h8
      have back : ∀ {s10 : Shared} {σ10 : St} {H10 : Hp} {m' : Nat}, Inv (blk X N' scope cl s3.heap.objs.size s3 (upd H1 s2.heap.objs.size (.lst [])) fp) ([] ++ pinsAt fp s7.heap) σ10 H10 s10 → (∀ (j : Nat) v, (blkSt ix σ)[j]? = some (some v) → σ10[j]? = some (some v)) → W (i + 1) m' H10 →
          ∃ i σ' H', Inv (blk X N' scope cl s3.heap.objs.size s3 (upd H1 s2.heap.objs.size (.lst [])) fp) [] σ' H' s10 ∧ (∀ (j : Nat) v, (blkSt ix σ)[j]? = some (some v) → σ'[j]? = some (some v)) ∧ tn i s10.heap ∧ (∀ b ∈ fp, H' b = none) ∧ W i m' H' := by
        intro s10 σ10 H10 m' I10 kk w10
        refine ⟨i + 1, σ10, H10, I10.unpinned, kk, T.keep _ _ _ st7 fun b hb o e => (I10.pin (b, o) (List.mem_append_right _ (List.mem_append_right _ (mem_pinsAt hb e)))).1, fun b hb => ?_, w10⟩
        obtain ⟨o, e, d⟩ := T.obj _ _ st7 b hb
        exact (I10.pin (b, o) (List.mem_append_right _ (List.mem_append_right _ (mem_pinsAt hb e)))).2.1
      refine wpAny_bind (wpAny_mono (wpAny_tests_one (ht _ _ _ _ _ s8 σ8 H8 _ I8 q8)) (fun ok s9' h9' => ?_) fun _ _ z => z.elim)
      obtain ⟨H9', I9', q9'⟩ := h9'
      cases ok with
      | false =>
        have q9'' : MM H9' := by simpa using q9'
        obtain ⟨m', hm', w9⟩ := hMM _ q9''
        exact wpAny_bind (wpAny_pure (wpAny_pure ⟨rfl, m', hm', back I9' kp8.get w9⟩))
      | true =>
        have q9'' : te σ8 H9' NN := by simpa using q9'
        refine wpAny_bind (wpAny_bind (wpAny_mono (he _ _ _ _ _ s9' σ8 H9' _ I9' q9'') (fun yv s9 h9 => ?_) fun _ _ z => z.elim))
        obtain ⟨y, H9, I9, r9, n9⟩ := h9
        obtain ⟨xs, hx9, hz9, m', hm', w9⟩ := hNN _ _ n9
        refine wpAny_bind (wpAny_mono (mt_append (X := blk X N' scope cl s3.heap.objs.size s3 (upd H1 s2.heap.objs.size (.lst [])) fp) _ s9 σ8 H9 (.ref s2.heap.objs.size) [y] (.ref s2.heap.objs.size) [yv] (fun _ H' => W (i + 1) m' H') I9 rfl (.cons r9 .nil) ⟨_, xs, y, rfl, rfl, hx9, hz9, w9⟩) (fun _ s10 h10 => ?_) fun _ _ z => z.elim)
        obtain ⟨_, H10, I10, _, w10⟩ := h10
        exact wpAny_pure (wpAny_pure ⟨rfl, m', hm', back I10 kp8.get w10⟩)
  have e5 : s3.heap.objs.size = (s2.heap.push { cls := .type "list", data := .seq ([] : List Value).toArray }).objs.size := by rw [e3]
  rw [e5] at loop
  exact codeAny_compStart_list (loop _ rfl) (T.self X.A 0 _ _ _ st3 (loop _ rfl))
end
/-! ### range under the handled ea -/
abbrev Handles (ea : Addr) : Around → Prop := fun A => A.handled = some (.ref ea)
def ItrH (ea : Addr) (lo : Int) (n : Nat) : It := ⟨fun i _ => i < n, fun i H x H' => H' = H ∧ x = .int (lo + i), fun i H => n ≤ i ∧ ∃ C od, H ea = some (.ext (xcG ea C od))⟩
theorem turn_rangeH {P : Program} {w : World} {K : PySem.W.Frag} {tg : Expr} (ea it : Addr) (lo : Int) (n : Nat) : TurnP (Handles ea) P w K tg (ItrH ea lo n) [it] it (fun i h => IsRangeIter h it (lo + (i : Nat) * 1) ((n : Int) - (i : Nat)) 1) where
  mem := by simp
  obj := fun i h st b hb => by
    have e : b = it := by simpa using hb
    subst e
    exact ⟨_, st, fun v z => by
      have z' : Data.fields _ = Data.cell v := z
      cases z'⟩
  keep := fun i h h' st k => k it (by simp) _ st
  item := by
    intro X hP hw hK hc i pins s σ H E I hf st hg
    subst hP hw hK
    obtain ⟨f0, f1, f2, f3, f4, f5⟩ := hf it (by simp)
    have hg : i < n := hg
    refine wpAny_pyNext_range_item st (by omega) fun h' st' sb => ?_
    have I1 : Inv X pins σ H { s with heap := h', toks := s.toks + 1 } := I.turned (fun b o hb e => (sb.2 b hb).trans e) f0 f1 f3 f4 f5
    have e1 : lo + ((i + 1 : Nat) : Int) * 1 = lo + (i : Int) * 1 + 1 := by omega
    have e2 : (n : Int) - ((i + 1 : Nat) : Int) = (n : Int) - (i : Int) - 1 := by omega
    refine ⟨_, rfl, go_of (s := { s with heap := h', toks := s.toks + 1 }) (n := "range_iterator") st' rfl rfl (by decide) ⟨.int (lo + i), H, I1, ⟨s.toks, ?_⟩, ⟨rfl, rfl⟩, ?_, fun b hb => (hf b hb).1⟩⟩
    · rw [Int.mul_one]
    · show IsRangeIter h' it (lo + ((i + 1 : Nat) : Int) * 1) ((n : Int) - ((i + 1 : Nat) : Int)) 1
      rw [e1, e2]; exact st'
  done := by
    intro X hP hw hK hc i pins s σ H E I hf st hg
    subst hP hw hK
    obtain ⟨f0, f1, f2, f3, f4, f5⟩ := hf it (by simp)
    obtain ⟨hn, C, od, he⟩ := hg
    obtain ⟨⟨o, vs, ho, _, _, hv, h2⟩, _, _⟩ := (show ObjOk X.prog X.w H s.heap ea (.ext (xcG ea C od)) from I.hok ea _ he)
    exact range_endH hc ho hv h2 st (by omega) fun h' eb => ⟨rfl, I.turned (t' := s.toks) (fun b o hb e => eb b o hb e) f0 f1 f3 f4 f5⟩
  self := fun _ _ _ _ _ st h => wpAny_pyIter_rangeiter st h
section
variable {X : Cx} {tg : Expr}
theorem range_itH {ea : Addr} {pins : List (Addr × Obj)} {σ : St} {H : Hp} {s : Shared} {R : It → Hp → Prop} {E : Value → Shared → Prop} {lo hi : Int} {t u v : Tok} {tk : Nat} (I : Inv X pins σ H s) (h1 : -(2 ^ 62) ≤ lo) (h2 : lo < 2 ^ 62) (h3 : -(2 ^ 62) ≤ hi) (h4 : hi < 2 ^ 62)
    (q : R (ItrH ea lo (hi - lo).toNat) H) : wpAny (model X.prog X.w) X.A (pyIter (.ref s.heap.objs.size)) (PIEP (Handles ea) X pins σ tg R) E { s with heap := s.heap.push { cls := .type "range", data := .fields #[.int lo t, .int hi u, .int 1 v] }, toks := tk } := by
  refine wpAny_pyIter_range (IsRange.new ..) (small_one h1 h2 h3 h4) ?_
  have I1 : Inv X pins σ H { s with heap := s.heap.push { cls := .type "range", data := .fields #[.int lo t, .int hi u, .int 1 v] }, toks := tk } := I.kept fun b o e => Heap.get?_push_of_some _ e
  refine ⟨(s.heap.push { cls := .type "range", data := .fields #[.int lo t, .int hi u, .int 1 v] }).objs.size, [(s.heap.push { cls := .type "range", data := .fields #[.int lo t, .int hi u, .int 1 v] }).objs.size], _, _, H, rfl,
    I1.kept (t' := tk) fun b o e => Heap.get?_push_of_some _ e, turn_rangeH ea _ lo (hi - lo).toNat, ?_, fun b hb => ?_, q⟩
  · have q2 : (((hi - lo).toNat : Nat) : Int) = Builtin.Range.rangeSize lo hi 1 := by rw [rangeSize_one]; split <;> omega
    have st0 := Heap.get?_push_size (s.heap.push { cls := .type "range", data := .fields #[.int lo t, .int hi u, .int 1 v] }) (o := { cls := .type "range_iterator", data := .fields #[rawInt lo, rawInt (Builtin.Range.rangeSize lo hi 1), rawInt 1] }) rfl
    rw [← q2] at st0 ⊢
    simpa using st0
  · obtain rfl := List.mem_singleton.mp hb
    exact I1.fpOk (Nat.le_refl _) (I1.hok.fresh (Nat.le_refl _))
def iRngH (ea : Addr) (ta : TA) : TI := fun σ H R => ta σ H fun vs H1 => ∃ j : Int, vs = [.int j] ∧ -(2 ^ 62) ≤ j ∧ j < 2 ^ 62 ∧ R (ItrH ea 0 j.toNat) H1
theorem pi_rangeH {ea : Addr} {a : Expr} {ta : TA} {p pos : Pos} (hg : Gl X "range") (hm : X.mg "range" = none) (ha : PA X [a] ta) (hs : starEach [a] X.env = [(false, eval a X.env)] := by rfl) : PIP (Handles ea) X tg (.Call (.Name "range" p) [a] [] pos) (iRngH ea ta) := by
  intro pins s σ H R I h
  refine Call_ (ld_blt I hg hm boot_range (PyProof.Rows.callWith_type1 (thn (ha pos pins s σ H _ I h) fun us s1 ⟨vs, H1, I1, r1, q1⟩ => ?_) hs rfl))
  obtain ⟨j, e, q1, q2, q⟩ := q1
  subst e
  cases r1 with
  | cons r rr =>
    cases rr
    obtain ⟨t, rfl⟩ := r
    exact call_range_1 (range_itH I1 (by omega) (by omega) q1 q2 (by simpa using q))
end
/-- [elt for k in range(n) if c] under the handled ea -/
theorem compIf_rngH {ea D : Addr} {n : Nat} {g : TG} {tc : TT} {te : TE} {QD : Hp → Prop} {σ₀ : St} {H : Hp} (Pv : Nat → List V → Hp → Prop) (h0 : Pv 0 [] (upd H D (.lst []))) (hx : ∀ i ys H, Pv i ys H → ∃ C od, H ea = some (.ext (xcG ea C od)))
    (hs : ∀ i ys H, i < n → Pv i ys H → g (.int ((0 : Int) + i)) σ₀ H fun σ4 H4 => StKeep σ₀ σ4 ∧ tc σ4 H4 fun b H5 => if b = true then te σ4 H5 (fun y H5 => H5 D = some (.lst ys) ∧ ys.length < sizeLine ∧ Pv (i + 1) (ys ++ [y]) (upd H5 D (.lst (ys ++ [y])))) else Pv (i + 1) ys H5)
    (hd : ∀ ys H, Pv n ys H → QD H) :
    ∃ W : Nat → Nat → Hp → Prop, (∃ m, W 0 m (upd H D (.lst []))) ∧ ∀ i m H2, W i m H2 →
      ((ItrH ea 0 n).stop i H2 ∧ QD H2) ∨ ((ItrH ea 0 n).go i H2 ∧ ∃ (N : VK) (M : Hp → Prop), (∀ y H5, N y H5 → ∃ xs, H5 D = some (.lst xs) ∧ xs.length < sizeLine ∧ ∃ m', m' < m ∧ W (i + 1) m' (upd H5 D (.lst (xs ++ [y])))) ∧ (∀ H5, M H5 → ∃ m', m' < m ∧ W (i + 1) m' H5) ∧
        ∀ x H3, (ItrH ea 0 n).yld i H2 x H3 → g x σ₀ H3 fun σ4 H4 => StKeep σ₀ σ4 ∧ tc σ4 H4 fun b H5 => if b = true then te σ4 H5 N else M H5) := by
  refine ⟨fun i m H => m = n - i ∧ i ≤ n ∧ ∃ ys, Pv i ys H, ⟨n, by simp, Nat.zero_le _, [], h0⟩, ?_⟩
  rintro i m H2 ⟨rfl, hi, ys, p⟩
  by_cases hlt : i < n
  · refine .inr ⟨hlt, fun y H5 => H5 D = some (.lst ys) ∧ ys.length < sizeLine ∧ Pv (i + 1) (ys ++ [y]) (upd H5 D (.lst (ys ++ [y]))), fun H5 => Pv (i + 1) ys H5, fun y H5 q => ⟨ys, q.1, q.2.1, n - (i + 1), by omega, rfl, hlt, _, q.2.2⟩, fun H5 q => ⟨n - (i + 1), by omega, rfl, hlt, _, q⟩, fun x H3 z => ?_⟩
    obtain ⟨e, ex⟩ := z
    subst e ex
    exact hs i ys _ hlt p
  · have e : i = n := by omega
    subst e
    exact .inl ⟨⟨Nat.le_refl _, hx _ _ _ p⟩, hd ys H2 p⟩
/-! ### a def that runs under the handled ea -/
structure FnOkE (ea : Addr) (P : Program) (w : World) (K : PySem.W.Frag) (mg : Str → Option Value) (base : Heap) (CX : CXT) (k : Nat) (f : Addr) (fd : FuncData) (ps : List Str) (sp : Sp) : Prop where
  len : ∀ vs H Q E, sp vs H Q E → vs.length = ps.length
  run : ∀ (A : Around) (outer : List Env) (s : Shared) (H : Hp) (args : Args) (us : List Value) (vs : List V) (Q : VK) (E : XK), RoomH k A → A.handled = some (.ref ea) → Env0 P w K mg base A outer s H → BindsTo s fd args (ps.zip us) → Vals vs us → sp vs H Q E →
    codeAny (model P w) A (.call (.ref f) args) (CR CX outer P w H s Q E) s
section
variable {P : Program} {w : World} {K : PySem.W.Frag} {mg : Str → Option Value} {base : Heap}
theorem Fun.okE {ea : Addr} {x qual : Str} {st : Stmt} {f : Addr} {fd : FuncData} {N ps : List Str} {k : Nat} {sp : Sp} (F : Fun K x qual st f fd) (S : FnScope N ps (defScope st)) (len : ∀ vs H Q E, sp vs H Q E → vs.length = ps.length)
    (hbody : ∀ (cdv : Value) (A : Around) (outer : List Env) (s : Shared) (H : Hp) (vs : List V) (Q : VK) (E : XK), RoomH k (A.deeper (envOfC qual (defScope st) s.heap.objs.size f cdv)) → Handles ea (A.deeper (envOfC qual (defScope st) s.heap.objs.size f cdv)) → sp vs H Q E →
      ∃ t, PSs (cxH CX0 P w K mg base N qual (defScope st) f cdv A outer s H E).nox (defBody st) t ∧ t { nx := fun _ H' => Q .non H', rt := Q } (start N vs) H) : FnOkE ea P w K mg base CX0 (k + 1) f fd ps sp := by
  obtain ⟨oc, od, kV, doc, pm, an, cdv, ct, osl, rfl, lk, hcd⟩ := F.ex
  refine ⟨len, fun A outer s H args us vs Q E hr hh e0 hb r hsp => ?_⟩
  have stay : ∀ b o, base.get? b = some o → s.heap.get? b = some o := fun b o e => (e0.bs b o e).1
  have kin := e0.mod.kin.keeps stay
  have nl := e0.mod.nolimit.keeps stay
  have hl : vs.length = ps.length := len _ _ _ _ hsp
  have kinds : ∀ y ∈ ps.zip us, (defScope st).names.lookup y.1 = some .local ∨ ((defScope st).names.lookup y.1 = some .cell ∧ ((cellsFrom (s.heap.objs.size + 1) (defScope st).names []).lookup y.1).isSome = true) := by
    rintro ⟨n, v⟩ hy
    exact (S.par n (List.of_mem_zip hy).1).imp id fun q => ⟨q, PySem.W.cellsFrom_some _ _ _ (.inl q)⟩
  refine codeAny_call_function (RoomH.depth hr) (kin _ _ lk) rfl S.co S.gen rfl
    (PySem.W.codeRec_of kin hcd) (hb _ _ _ _ (wpAny_newFunctionEnv_cells S.kind kinds fun env he s1 x => ?_))
  cases he
  refine ⟨nl.keeps x.toInCall.keep, codeAny_func ?_⟩
  obtain ⟨t, ht, hq⟩ := hbody cdv A outer s H vs Q E (hr.deeper _) hh hsp
  have ht := PSs.nox ht
  have I := inv_startH (CX := CX0) (E := E) S e0 hl r x
  refine wpAny_mono (ht [] s1 (start N vs) H _ I hq) (fun fl s' hs => ?_) fun e s' hs => hs
  cases fl with
  | ret u =>
    obtain ⟨v, σ', H', J, rv, q⟩ := hs
    exact ⟨v, H', J.os, J.bare, J.base, J.hok, rv, q⟩
  | next =>
    obtain ⟨σ', H', J, q⟩ := hs
    exact ⟨.non, H', J.os, J.bare, J.base, J.hok, rfl, q⟩
  | brk =>
    obtain ⟨_, _, _, q⟩ := hs
    exact False.elim q
  | cont =>
    obtain ⟨_, _, _, q⟩ := hs
    exact False.elim q
end
section
variable {X : Cx} {CX : CXT} {k : Nat} {f ea : Addr} {fd : FuncData} {ps : List Str} {sp : Sp} {dvs : List V} {ds : List Value} {E : XK} {x : Str} {p pos : Pos} {e : Expr} {es : List Expr} {t : TA}
/-- f(e, ..) within the suite that handles ea -/
theorem pe_callE (F : FnOkE ea X.prog X.w X.K X.mg X.base CX k f fd ps sp) (hr : RoomH k X.A) (hh : Handles ea X.A) (hg : Gl X x) (hm : X.mg x = some (.ref f)) (hk : PySem.W.keepIn X.K (.ref f) = true) (hb : Binds X.K fd ps ds) (hd : Vals dvs ds) (hx : Passes CX X E)
    (ha : PA X (e :: es) t) (hdb : (x == ("__debug__" : Str)) = false := by decide) (he : starEach (e :: es) X.env = (false, eval e X.env) :: starEach es X.env := by rfl) (hpl : (backTo pos (starEach es X.env)).any (·.1) = false := by rfl) :
    PE X (.Call (.Name x p) (e :: es) [] pos) (tCall sp dvs E t) := by
  intro pins s σ H Q I h
  refine wpAny_Call_Name_kw (ld_glob I hg hm ?_ hdb)
  refine PySem.W.callWith_K (h₀ := X.base) I.ok.mod.kin hk (thn (ha pos pins s σ H _ I h) fun us s1 ⟨vs, H1, I1, r, q⟩ => ⟨I1.kIn, ?_⟩) he hpl
  have r2 := r.append hd
  have hl : (us ++ ds).length = ps.length := by rw [← r2.length]; exact F.len _ _ _ _ q
  refine wpAny_call (codeAny_mono (F.run X.A X.stack s1 H1 ⟨us, []⟩ (us ++ ds) (vs ++ dvs) Q E hr hh I1.env0 (hb s1 us I1.kIn hl) r2 q) fun r s' hq => ?_)
  rcases r with e | fl
  · exact hx pins σ H1 s1 e s' I1 hq
  · cases fl with
    | ret u => exact I1.after hq
    | _ => exact False.elim hq
end
/-! ### except C as e, whose suite calls a def under e -/
section
variable {X : Cx} {C C' : Addr} {y n : Str} {yp hpos : Pos} {b₀ : Stmt} {suite : List Stmt} {rest : List ExceptHandler} {i : Nat}
def tHitDE (i : Nat) (C : Addr) (ts : Addr → TS) : Option Addr → Addr → TS := fun od ea D σ H => ts ea { nx := fun σ' H' => D.nx (σ'.set i none) H', rt := D.rt, bk := fun σ' H' => D.bk (σ'.set i none) H', ct := fun σ' H' => D.ct (σ'.set i none) H' } (σ.set i (some (.ref ea))) (upd H ea (.ext (xcG ea C od)))
theorem ph_hitDE {ts : Addr → TS} (hg : Gl X y) (hm : X.mg y = some (.ref C')) (q : PySem.W.exmOne X.K (.ref C) (.ref C') = some true) (hN : X.N.Nodup) (hi : X.N[i]? = some n) (hx : X.env.scope.names.lookup n = some .local)
    (hs : ∀ ea, PSs (X.held ea) (b₀ :: suite) (ts ea)) (hd : (y == ("__debug__" : Str)) = false := by decide) :
    PHD X (.ExceptHandler (some (.Name y yp)) (some n) (b₀ :: suite) hpos :: rest) C (tHitDE i C ts) := by
  intro pins σ H B ea a0 od s D F h
  refine wpAny_handleBy_cons (codeAny_handlers_test ?_) (by intro q; cases q)
  refine ld_glob (X := X.held ea) (F.inv.held ea) hg hm ?_ hd
  refine (exm_at F.inv.kIn F.cls q).here (codeAny_handlers_suite_as ?_)
  refine lands_againD F.fl fun h' fl' up kd => ?_
  have F' := (F.go h' fl'.1 up (xcG_of (s := { s with heap := h' }) fl' (F.d.kd kd))).2
  refine store_ok (X := X.held ea) (v := .ref ea) (F'.held ea) hN hi (.inl hx) rfl (fun s2 I2 => ?_) (.inr hx)
  refine wpAny_mono (hs ea pins s2 _ _ _ I2 h) (fun f s3 hf => ?_) fun _ _ z => False.elim z
  dsimp only
  cases f with
  | next =>
    obtain ⟨σ', H', I', r⟩ := hf
    exact unbind_ok (I'.unheld F.inv.ok) hN hi hx fun s4 I4 => ⟨_, H', I4, r⟩
  | brk =>
    obtain ⟨σ', H', I', r⟩ := hf
    exact unbind_ok (I'.unheld F.inv.ok) hN hi hx fun s4 I4 => ⟨_, H', I4, r⟩
  | cont =>
    obtain ⟨σ', H', I', r⟩ := hf
    exact unbind_ok (I'.unheld F.inv.ok) hN hi hx fun s4 I4 => ⟨_, H', I4, r⟩
  | ret u =>
    obtain ⟨v, σ', H', I', rv, r⟩ := hf
    exact unbind_ok (I'.unheld F.inv.ok) hN hi hx fun s4 I4 => ⟨v, _, H', I4, rv, r⟩
end
end L2

set_option Elab.async false
set_option linter.all false
set_option maxRecDepth 100000
set_option maxHeartbeats 4000000
namespace My
open PySem L2
def top (i : Nat) : Stmt := PySem.Challenge.pw_arrayloom_k08_refusals_told.main.body.getD i (.Pass ⟨0, 0, 0, 0⟩)
abbrev s_BeyondRim_init : Stmt := inClass (top 10) 0
abbrev s_NotYet_init : Stmt := inClass (top 11) 0
abbrev s_NoMove_init : Stmt := inClass (top 12) 0
abbrev s_Clash_init : Stmt := inClass (top 13) 0
abbrev s_l_cell_at : Stmt := top 15
abbrev s_l_word_by : Stmt := top 16
abbrev s_l_tuple_by : Stmt := top 17
abbrev s_l_step_by : Stmt := top 18
abbrev s_l_others : Stmt := top 19
abbrev s_l_rim : Stmt := top 20
abbrev s_l_clash : Stmt := top 21
abbrev s_l_move : Stmt := top 22
abbrev s_law : Stmt := top 23
/-- what isinstance asks of an own class -/
structure TyC (K : PySem.W.Frag) (C : Addr) : Prop where
  ha : PySem.W.findIn K (.ref C) "__class__" = some (some (.builtin "object.__class__"))
  hn : PySem.W.specialIn K (.builtin "object.__class__") "__get__" = some (some (.builtin "getset_descriptor.__get__"))
  htk : PySem.W.takesIn K (.builtin "object.__class__") = some true
  hm : PySem.W.mroIn K C (.type "object") = some true
structure Adr where
  C_LoomError : Addr
  C_NoName : Addr
  C_NoShape : Addr
  C_TooMuch : Addr
  C_NoTable : Addr
  C_NoEnd : Addr
  C_Outside : Addr
  C_Unwritten : Addr
  C_NoText : Addr
  C_BeyondRim : Addr
  C_NotYet : Addr
  C_NoMove : Addr
  C_Clash : Addr
  f_BeyondRim_init : Addr
  d_BeyondRim_init : FuncData
  f_NotYet_init : Addr
  d_NotYet_init : FuncData
  f_NoMove_init : Addr
  d_NoMove_init : FuncData
  f_Clash_init : Addr
  d_Clash_init : FuncData
  f_l_cell_at : Addr
  d_l_cell_at : FuncData
  f_l_word_by : Addr
  d_l_word_by : FuncData
  f_l_tuple_by : Addr
  d_l_tuple_by : FuncData
  f_l_step_by : Addr
  d_l_step_by : FuncData
  f_l_others : Addr
  d_l_others : FuncData
  f_l_rim : Addr
  d_l_rim : FuncData
  f_l_clash : Addr
  d_l_clash : FuncData
  f_l_move : Addr
  d_l_move : FuncData
  f_law : Addr
  d_law : FuncData
structure Txt (K : PySem.W.Frag) (mg : Str → Option Value) (t : Adr) : Prop where
  F_BeyondRim_init : Fun K "__init__" "BeyondRim.__init__" s_BeyondRim_init t.f_BeyondRim_init t.d_BeyondRim_init
  b_BeyondRim_init : Binds K t.d_BeyondRim_init ["self", "name", "array", "spot", "cell"] []
  F_NotYet_init : Fun K "__init__" "NotYet.__init__" s_NotYet_init t.f_NotYet_init t.d_NotYet_init
  b_NotYet_init : Binds K t.d_NotYet_init ["self", "name", "array", "spot", "cell"] []
  F_NoMove_init : Fun K "__init__" "NoMove.__init__" s_NoMove_init t.f_NoMove_init t.d_NoMove_init
  b_NoMove_init : Binds K t.d_NoMove_init ["self", "place"] []
  F_Clash_init : Fun K "__init__" "Clash.__init__" s_Clash_init t.f_Clash_init t.d_Clash_init
  b_Clash_init : Binds K t.d_Clash_init ["self", "first", "second", "array", "cell"] []
  F_l_cell_at : Fun K "_law_cell_at" "_law_cell_at" s_l_cell_at t.f_l_cell_at t.d_l_cell_at
  m_l_cell_at : mg "_law_cell_at" = some (.ref t.f_l_cell_at)
  b_l_cell_at : Binds K t.d_l_cell_at ["_law_script", "_law_k"] []
  F_l_word_by : Fun K "_law_word_by" "_law_word_by" s_l_word_by t.f_l_word_by t.d_l_word_by
  m_l_word_by : mg "_law_word_by" = some (.ref t.f_l_word_by)
  b_l_word_by : Binds K t.d_l_word_by ["_law_cell"] []
  F_l_tuple_by : Fun K "_law_tuple_by" "_law_tuple_by" s_l_tuple_by t.f_l_tuple_by t.d_l_tuple_by
  m_l_tuple_by : mg "_law_tuple_by" = some (.ref t.f_l_tuple_by)
  b_l_tuple_by : Binds K t.d_l_tuple_by ["_law_script", "_law_k"] []
  F_l_step_by : Fun K "_law_step_by" "_law_step_by" s_l_step_by t.f_l_step_by t.d_l_step_by
  m_l_step_by : mg "_law_step_by" = some (.ref t.f_l_step_by)
  b_l_step_by : Binds K t.d_l_step_by ["_law_script", "_law_k"] []
  F_l_others : Fun K "_law_others" "_law_others" s_l_others t.f_l_others t.d_l_others
  m_l_others : mg "_law_others" = some (.ref t.f_l_others)
  b_l_others : Binds K t.d_l_others ["_law_e"] []
  F_l_rim : Fun K "_law_rim" "_law_rim" s_l_rim t.f_l_rim t.d_l_rim
  m_l_rim : mg "_law_rim" = some (.ref t.f_l_rim)
  b_l_rim : Binds K t.d_l_rim ["_law_sort", "_law_name", "_law_array", "_law_spot", "_law_cell"] []
  F_l_clash : Fun K "_law_clash" "_law_clash" s_l_clash t.f_l_clash t.d_l_clash
  m_l_clash : mg "_law_clash" = some (.ref t.f_l_clash)
  b_l_clash : Binds K t.d_l_clash ["_law_first", "_law_second", "_law_array", "_law_cell"] []
  F_l_move : Fun K "_law_move" "_law_move" s_l_move t.f_l_move t.d_l_move
  m_l_move : mg "_law_move" = some (.ref t.f_l_move)
  b_l_move : Binds K t.d_l_move ["_law_place"] []
  F_law : Fun K "law" "law" s_law t.f_law t.d_law
  m_law : mg "law" = some (.ref t.f_law)
  b_law : Binds K t.d_law ["_law_script"] []
  m_BeyondRim : mg "BeyondRim" = some (.ref t.C_BeyondRim)
  m_Clash : mg "Clash" = some (.ref t.C_Clash)
  m_LoomError : mg "LoomError" = some (.ref t.C_LoomError)
  m_NoEnd : mg "NoEnd" = some (.ref t.C_NoEnd)
  m_NoMove : mg "NoMove" = some (.ref t.C_NoMove)
  m_NoName : mg "NoName" = some (.ref t.C_NoName)
  m_NoShape : mg "NoShape" = some (.ref t.C_NoShape)
  m_NoTable : mg "NoTable" = some (.ref t.C_NoTable)
  m_NoText : mg "NoText" = some (.ref t.C_NoText)
  m_NotYet : mg "NotYet" = some (.ref t.C_NotYet)
  m_Outside : mg "Outside" = some (.ref t.C_Outside)
  m_TooMuch : mg "TooMuch" = some (.ref t.C_TooMuch)
  m_Unwritten : mg "Unwritten" = some (.ref t.C_Unwritten)
  mx_BeyondRim : MkX K t.C_BeyondRim t.f_BeyondRim_init
  xs_BeyondRim_name : XStore K t.C_BeyondRim "name"
  xs_BeyondRim_array : XStore K t.C_BeyondRim "array"
  xs_BeyondRim_spot : XStore K t.C_BeyondRim "spot"
  xs_BeyondRim_cell : XStore K t.C_BeyondRim "cell"
  mx_Clash : MkX K t.C_Clash t.f_Clash_init
  xs_Clash_first : XStore K t.C_Clash "first"
  xs_Clash_second : XStore K t.C_Clash "second"
  xs_Clash_array : XStore K t.C_Clash "array"
  xs_Clash_cell : XStore K t.C_Clash "cell"
  mx_NoMove : MkX K t.C_NoMove t.f_NoMove_init
  xs_NoMove_place : XStore K t.C_NoMove "place"
  mx_NotYet : MkX K t.C_NotYet t.f_NotYet_init
  xs_NotYet_name : XStore K t.C_NotYet "name"
  xs_NotYet_array : XStore K t.C_NotYet "array"
  xs_NotYet_spot : XStore K t.C_NotYet "spot"
  xs_NotYet_cell : XStore K t.C_NotYet "cell"
  xg_BeyondRim_name : XGet K t.C_BeyondRim "name"
  xg_BeyondRim_array : XGet K t.C_BeyondRim "array"
  xg_BeyondRim_spot : XGet K t.C_BeyondRim "spot"
  xg_BeyondRim_cell : XGet K t.C_BeyondRim "cell"
  xg_NotYet_name : XGet K t.C_NotYet "name"
  xg_NotYet_array : XGet K t.C_NotYet "array"
  xg_NotYet_spot : XGet K t.C_NotYet "spot"
  xg_NotYet_cell : XGet K t.C_NotYet "cell"
  xg_Clash_first : XGet K t.C_Clash "first"
  xg_Clash_second : XGet K t.C_Clash "second"
  xg_Clash_array : XGet K t.C_Clash "array"
  xg_Clash_cell : XGet K t.C_Clash "cell"
  xg_NoMove_place : XGet K t.C_NoMove "place"
  xm_BeyondRim_ValueError : PySem.W.mroIn K t.C_BeyondRim (.type "ValueError") = some true
  xm_NotYet_ValueError : PySem.W.mroIn K t.C_NotYet (.type "ValueError") = some true
  xm_NoMove_ValueError : PySem.W.mroIn K t.C_NoMove (.type "ValueError") = some true
  xm_Clash_ValueError : PySem.W.mroIn K t.C_Clash (.type "ValueError") = some true
  xc_BeyondRim : PySem.W.XcIn K t.C_BeyondRim
  kx_BeyondRim_NoEnd : PySem.W.kitOne K (.ref t.C_BeyondRim) (.ref t.C_NoEnd) = some false
  kx_BeyondRim_NoName : PySem.W.kitOne K (.ref t.C_BeyondRim) (.ref t.C_NoName) = some false
  kx_BeyondRim_NoShape : PySem.W.kitOne K (.ref t.C_BeyondRim) (.ref t.C_NoShape) = some false
  kx_BeyondRim_NoTable : PySem.W.kitOne K (.ref t.C_BeyondRim) (.ref t.C_NoTable) = some false
  kx_BeyondRim_NoText : PySem.W.kitOne K (.ref t.C_BeyondRim) (.ref t.C_NoText) = some false
  kx_BeyondRim_Outside : PySem.W.kitOne K (.ref t.C_BeyondRim) (.ref t.C_Outside) = some false
  kx_BeyondRim_TooMuch : PySem.W.kitOne K (.ref t.C_BeyondRim) (.ref t.C_TooMuch) = some false
  kx_BeyondRim_Unwritten : PySem.W.kitOne K (.ref t.C_BeyondRim) (.ref t.C_Unwritten) = some false
  kx_BeyondRim_BeyondRim : PySem.W.kitOne K (.ref t.C_BeyondRim) (.ref t.C_BeyondRim) = some true
  kx_BeyondRim_NotYet : PySem.W.kitOne K (.ref t.C_BeyondRim) (.ref t.C_NotYet) = some false
  kx_BeyondRim_NoMove : PySem.W.kitOne K (.ref t.C_BeyondRim) (.ref t.C_NoMove) = some false
  kx_BeyondRim_Clash : PySem.W.kitOne K (.ref t.C_BeyondRim) (.ref t.C_Clash) = some false
  xc_NotYet : PySem.W.XcIn K t.C_NotYet
  kx_NotYet_NoEnd : PySem.W.kitOne K (.ref t.C_NotYet) (.ref t.C_NoEnd) = some false
  kx_NotYet_NoName : PySem.W.kitOne K (.ref t.C_NotYet) (.ref t.C_NoName) = some false
  kx_NotYet_NoShape : PySem.W.kitOne K (.ref t.C_NotYet) (.ref t.C_NoShape) = some false
  kx_NotYet_NoTable : PySem.W.kitOne K (.ref t.C_NotYet) (.ref t.C_NoTable) = some false
  kx_NotYet_NoText : PySem.W.kitOne K (.ref t.C_NotYet) (.ref t.C_NoText) = some false
  kx_NotYet_Outside : PySem.W.kitOne K (.ref t.C_NotYet) (.ref t.C_Outside) = some false
  kx_NotYet_TooMuch : PySem.W.kitOne K (.ref t.C_NotYet) (.ref t.C_TooMuch) = some false
  kx_NotYet_Unwritten : PySem.W.kitOne K (.ref t.C_NotYet) (.ref t.C_Unwritten) = some false
  kx_NotYet_BeyondRim : PySem.W.kitOne K (.ref t.C_NotYet) (.ref t.C_BeyondRim) = some false
  kx_NotYet_NotYet : PySem.W.kitOne K (.ref t.C_NotYet) (.ref t.C_NotYet) = some true
  kx_NotYet_NoMove : PySem.W.kitOne K (.ref t.C_NotYet) (.ref t.C_NoMove) = some false
  kx_NotYet_Clash : PySem.W.kitOne K (.ref t.C_NotYet) (.ref t.C_Clash) = some false
  xc_NoMove : PySem.W.XcIn K t.C_NoMove
  kx_NoMove_NoEnd : PySem.W.kitOne K (.ref t.C_NoMove) (.ref t.C_NoEnd) = some false
  kx_NoMove_NoName : PySem.W.kitOne K (.ref t.C_NoMove) (.ref t.C_NoName) = some false
  kx_NoMove_NoShape : PySem.W.kitOne K (.ref t.C_NoMove) (.ref t.C_NoShape) = some false
  kx_NoMove_NoTable : PySem.W.kitOne K (.ref t.C_NoMove) (.ref t.C_NoTable) = some false
  kx_NoMove_NoText : PySem.W.kitOne K (.ref t.C_NoMove) (.ref t.C_NoText) = some false
  kx_NoMove_Outside : PySem.W.kitOne K (.ref t.C_NoMove) (.ref t.C_Outside) = some false
  kx_NoMove_TooMuch : PySem.W.kitOne K (.ref t.C_NoMove) (.ref t.C_TooMuch) = some false
  kx_NoMove_Unwritten : PySem.W.kitOne K (.ref t.C_NoMove) (.ref t.C_Unwritten) = some false
  kx_NoMove_BeyondRim : PySem.W.kitOne K (.ref t.C_NoMove) (.ref t.C_BeyondRim) = some false
  kx_NoMove_NotYet : PySem.W.kitOne K (.ref t.C_NoMove) (.ref t.C_NotYet) = some false
  kx_NoMove_NoMove : PySem.W.kitOne K (.ref t.C_NoMove) (.ref t.C_NoMove) = some true
  kx_NoMove_Clash : PySem.W.kitOne K (.ref t.C_NoMove) (.ref t.C_Clash) = some false
  xc_Clash : PySem.W.XcIn K t.C_Clash
  kx_Clash_NoEnd : PySem.W.kitOne K (.ref t.C_Clash) (.ref t.C_NoEnd) = some false
  kx_Clash_NoName : PySem.W.kitOne K (.ref t.C_Clash) (.ref t.C_NoName) = some false
  kx_Clash_NoShape : PySem.W.kitOne K (.ref t.C_Clash) (.ref t.C_NoShape) = some false
  kx_Clash_NoTable : PySem.W.kitOne K (.ref t.C_Clash) (.ref t.C_NoTable) = some false
  kx_Clash_NoText : PySem.W.kitOne K (.ref t.C_Clash) (.ref t.C_NoText) = some false
  kx_Clash_Outside : PySem.W.kitOne K (.ref t.C_Clash) (.ref t.C_Outside) = some false
  kx_Clash_TooMuch : PySem.W.kitOne K (.ref t.C_Clash) (.ref t.C_TooMuch) = some false
  kx_Clash_Unwritten : PySem.W.kitOne K (.ref t.C_Clash) (.ref t.C_Unwritten) = some false
  kx_Clash_BeyondRim : PySem.W.kitOne K (.ref t.C_Clash) (.ref t.C_BeyondRim) = some false
  kx_Clash_NotYet : PySem.W.kitOne K (.ref t.C_Clash) (.ref t.C_NotYet) = some false
  kx_Clash_NoMove : PySem.W.kitOne K (.ref t.C_Clash) (.ref t.C_NoMove) = some false
  kx_Clash_Clash : PySem.W.kitOne K (.ref t.C_Clash) (.ref t.C_Clash) = some true
  em_BeyondRim_LoomError : PySem.W.exmOne K (.ref t.C_BeyondRim) (.ref t.C_LoomError) = some true
  em_NotYet_LoomError : PySem.W.exmOne K (.ref t.C_NotYet) (.ref t.C_LoomError) = some true
  em_NoMove_LoomError : PySem.W.exmOne K (.ref t.C_NoMove) (.ref t.C_LoomError) = some true
  em_Clash_LoomError : PySem.W.exmOne K (.ref t.C_Clash) (.ref t.C_LoomError) = some true
  z_len : mg "len" = none
  z_range : mg "range" = none
  z_isinstance : mg "isinstance" = none
  z_ValueError : mg "ValueError" = none
theorem sc_BeyondRim_init : FnScope ["self", "name", "array", "spot", "cell"] ["self", "name", "array", "spot", "cell"] (defScope s_BeyondRim_init) := ⟨rfl, rfl, rfl, by decide +kernel, rfl, by decide +kernel, by decide +kernel⟩
theorem sc_NotYet_init : FnScope ["self", "name", "array", "spot", "cell"] ["self", "name", "array", "spot", "cell"] (defScope s_NotYet_init) := ⟨rfl, rfl, rfl, by decide +kernel, rfl, by decide +kernel, by decide +kernel⟩
theorem sc_NoMove_init : FnScope ["self", "place"] ["self", "place"] (defScope s_NoMove_init) := ⟨rfl, rfl, rfl, by decide +kernel, rfl, by decide +kernel, by decide +kernel⟩
theorem sc_Clash_init : FnScope ["self", "first", "second", "array", "cell"] ["self", "first", "second", "array", "cell"] (defScope s_Clash_init) := ⟨rfl, rfl, rfl, by decide +kernel, rfl, by decide +kernel, by decide +kernel⟩
theorem sc_l_cell_at : FnScope ["_law_script", "_law_k"] ["_law_script", "_law_k"] (defScope s_l_cell_at) := ⟨rfl, rfl, rfl, by decide +kernel, rfl, by decide +kernel, by decide +kernel⟩
theorem sc_l_word_by : FnScope ["_law_cell", "_law_word", "_law_rest", "_law_k"] ["_law_cell"] (defScope s_l_word_by) := ⟨rfl, rfl, rfl, by decide +kernel, rfl, by decide +kernel, by decide +kernel⟩
theorem sc_l_tuple_by : FnScope ["_law_script", "_law_k", "_law_made", "_law_turn", "_law_number"] ["_law_script", "_law_k"] (defScope s_l_tuple_by) := ⟨rfl, rfl, rfl, by decide +kernel, rfl, by decide +kernel, by decide +kernel⟩
theorem sc_l_step_by : FnScope ["_law_script", "_law_k", "_law_cell", "_law_word"] ["_law_script", "_law_k"] (defScope s_l_step_by) := ⟨rfl, rfl, rfl, by decide +kernel, rfl, by decide +kernel, by decide +kernel⟩
theorem sc_l_others : FnScope ["_law_e", "_law_found"] ["_law_e"] (defScope s_l_others) := ⟨rfl, rfl, rfl, by decide +kernel, rfl, by decide +kernel, by decide +kernel⟩
theorem sc_l_rim : FnScope ["_law_sort", "_law_name", "_law_array", "_law_spot", "_law_cell", "_law_told", "_law_e"] ["_law_sort", "_law_name", "_law_array", "_law_spot", "_law_cell"] (defScope s_l_rim) := ⟨rfl, rfl, rfl, by decide +kernel, rfl, by decide +kernel, by decide +kernel⟩
theorem sc_l_clash : FnScope ["_law_first", "_law_second", "_law_array", "_law_cell", "_law_told", "_law_e"] ["_law_first", "_law_second", "_law_array", "_law_cell"] (defScope s_l_clash) := ⟨rfl, rfl, rfl, by decide +kernel, rfl, by decide +kernel, by decide +kernel⟩
theorem sc_l_move : FnScope ["_law_place", "_law_told", "_law_e"] ["_law_place"] (defScope s_l_move) := ⟨rfl, rfl, rfl, by decide +kernel, rfl, by decide +kernel, by decide +kernel⟩
theorem sc_law : FnScope ["_law_script", "_law_name", "_law_array", "_law_spot", "_law_cell"] ["_law_script"] (defScope s_law) := ⟨rfl, rfl, rfl, by decide +kernel, rfl, by decide +kernel, by decide +kernel⟩
theorem nd_comp_0 : (["_law_k", "_law_found"] : List Str).Nodup := by decide +kernel
theorem shaped_of {d : PyData} (h : d.canLay0 = true) (hd : d.depth ≤ 60) : SeqAt.shaped d = true := by
  unfold SeqAt.shaped
  rw [h, Bool.true_and]
  exact decide_eq_true (by omega)
end My

set_option Elab.async false
set_option linter.all false
set_option maxRecDepth 100000
set_option maxHeartbeats 4000000
namespace My
open PySem L2
local macro_rules | `(tactic| walk_at "lk") => `(tactic| first | with_reducible exact lk0 | (refine lk1 (by decide +kernel) ?_; walk_at "lk") | rfl)
theorem ok_app {a b : Str} (h : PyData.strOk a = true) (g : PyData.strOk b = true) : PyData.strOk (a ++ b) = true := by
  unfold PyData.strOk at *
  rw [show (a ++ b).cps = a.cps ++ b.cps from rfl, Array.all_append, h, g]
  rfl
theorem ints_all : ∀ xs : List Int, PyData.canLayAll0 (xs.map PyData.int) = true ∧ PyData.depthAll (xs.map PyData.int) = 0
  | [] => ⟨rfl, rfl⟩
  | x :: r => by
    obtain ⟨h1, h2⟩ := ints_all r
    refine ⟨?_, ?_⟩
    · simp [PyData.canLayAll0, PyData.canLay0, h1]
    · simp [PyData.depthAll, PyData.depth, h2]
theorem Reps.ints {H : Hp} : ∀ cs : List Int, Reps H (cs.map V.int) (cs.map PyData.int)
  | [] => .nil
  | c :: r => .cons (.int c) (Reps.ints r)
/-- data that may be handed in -/
structure Dt (H : Hp) (v : V) (d : PyData) : Prop where
  r : Rep H v d
  l : d.canLay0 = true
  d : d.depth ≤ 5
theorem Dt.same {H H' : Hp} {v : V} {d : PyData} (h : Dt H v d) (s : Same H H') : Dt H' v d := ⟨h.r.same s, h.l, h.d⟩
theorem Dt.str {H : Hp} {w : Str} (h : PyData.strOk w = true) : Dt H (.str w) (.str w) := ⟨.str w, by simp [PyData.canLay0, h], by simp [PyData.depth]⟩
theorem Dt.ints {H : Hp} {p : Addr} {cs : List Int} (e : H p = some (.tup (cs.map V.int))) : Dt H (.ref p) (.tuple (cs.map PyData.int)) := ⟨.tup e (Reps.ints cs), by simp only [PyData.canLay0]; exact (ints_all cs).1, by simp only [PyData.depth, (ints_all cs).2]; omega⟩
theorem let26 : ∀ k : Fin 26, (match atI ("abcdefghijklmnopqrstuvwxyz" : Str).cps.toList (k.val : Int) with | some c => PyData.strOk ⟨#[c]⟩ | none => false) = true := by decide +kernel
theorem let_at (z : Int) : ∃ c, atI ("abcdefghijklmnopqrstuvwxyz" : Str).cps.toList (z % 26) = some c ∧ PyData.strOk ⟨#[c]⟩ = true := by
  have h0 := Int.emod_nonneg z (show (26 : Int) ≠ 0 by decide)
  have h1 := Int.emod_lt_of_pos z (show (0 : Int) < 26 by decide)
  obtain ⟨k, ek⟩ := Int.eq_ofNat_of_zero_le h0
  rw [ek]
  have := let26 ⟨k, by omega⟩
  dsimp only at this
  cases e : atI ("abcdefghijklmnopqrstuvwxyz" : Str).cps.toList (k : Int) with
  | none => rw [e] at this; cases this
  | some c => rw [e] at this; exact ⟨c, rfl, this⟩
def sp_l_cell_at (K : PySem.W.Frag) : Sp := fun vs H Q _ => ∃ (a : Addr) (ns : List Int) (k : Int), vs = [.ref a, .int k] ∧ SqL K H a (ns.map V.int) ∧ 0 ≤ k ∧ ∀ z : Int, Q (.int z) H
def sp_l_word_by : Sp := fun vs H Q _ => ∃ c : Int, vs = [.int c] ∧ ∀ w : Str, PyData.strOk w = true → Q (.str w) H
def sp_l_tuple_by (K : PySem.W.Frag) : Sp := fun vs H Q _ => ∃ (a : Addr) (ns : List Int) (k : Int), vs = [.ref a, .int k] ∧ SqL K H a (ns.map V.int) ∧ 0 ≤ k ∧ ∀ (q : Addr) (cs : List Int) (H' : Hp), Same H H' → H' q = some (.tup (cs.map V.int)) → Q (.ref q) H'
def sp_l_step_by (K : PySem.W.Frag) : Sp := fun vs H Q _ => ∃ (a : Addr) (ns : List Int) (k : Int), vs = [.ref a, .int k] ∧ SqL K H a (ns.map V.int) ∧ 0 ≤ k ∧ ∀ (q : Addr) (d : PyData) (H' : Hp), Same H H' → Dt H' (.ref q) d → Q (.ref q) H'
theorem word3 (z : Int) : ∃ w : Str, atI [V.str "set", V.str "start", V.str "add"] (z % 3) = some (.str w) ∧ PyData.strOk w = true := by
  have h0 := Int.emod_nonneg z (show (3 : Int) ≠ 0 by decide)
  have h1 := Int.emod_lt_of_pos z (show (0 : Int) < 3 by decide)
  rcases (show z % 3 = 0 ∨ z % 3 = 1 ∨ z % 3 = 2 by omega) with e | e | e <;> rw [e]
  · exact ⟨"set", rfl, by decide +kernel⟩
  · exact ⟨"start", rfl, by decide +kernel⟩
  · exact ⟨"add", rfl, by decide +kernel⟩
section
variable {P : Program} {w : World} {K : PySem.W.Frag} {mg : Str → Option Value} {base : Heap} {t : Adr}
theorem ok_l_cell_at (T : Txt K mg t) : FnOk P w K mg base CX0 1 t.f_l_cell_at t.d_l_cell_at ["_law_script", "_law_k"] (sp_l_cell_at K) := by
  refine T.F_l_cell_at.ok sc_l_cell_at (fun vs H Q E h => ?_) (fun cdv A outer s H vs Q E hr h => ?_)
  · obtain ⟨a, ns, k, rfl, _⟩ := h
    rfl
  · obtain ⟨a, ns, k, rfl, hS, k0, q⟩ := h
    refine ⟨_, (pss_cons (ps_if (pt_cmpR op_lt (pv 1) (pe_callB call_len_seq (by rfl) T.z_len PySem.boot_len (pa_cons (pv 0) pa_nil)) (nomark _))
        (pss_one (ps_ret (pe_ix ix_list (pv 0) (pv 1) (fun _ _ => rfl))))
        pss_nil)
      (pss_one (ps_ret pe_int))), ?_⟩
    refine ⟨_, rfl, _, rfl, a, _, rfl, .inl hS, _, _, rfl, rfl, _, rfl, ?_⟩
    refine iteD (fun hk => ?_) (fun _ => q 0)
    obtain ⟨z, _, e⟩ := at_mapV (f := V.int) (xs := ns) k0 (by simpa using hk)
    exact ⟨_, rfl, _, rfl, a, _, _, _, rfl, rfl, hS, e, q _⟩
theorem ok_l_word_by (T : Txt K mg t) : FnOk P w K mg base CX0 1 t.f_l_word_by t.d_l_word_by ["_law_cell"] sp_l_word_by := by
  refine T.F_l_word_by.ok sc_l_word_by (fun vs H Q E h => ?_) (fun cdv A outer s H vs Q E hr h => ?_)
  · obtain ⟨c, rfl, _⟩ := h
    rfl
  · obtain ⟨c, rfl, k⟩ := h
    have c0 := Int.emod_nonneg c (show (9 : Int) ≠ 0 by decide)
    have c1 := Int.emod_lt_of_pos c (show (0 : Int) < 9 by decide)
    refine ⟨_, (pss_cons (ps_set (i := 1) sc_l_word_by.nd rfl (Or.inl rfl) pe_str)
      (pss_cons (ps_set (i := 2) sc_l_word_by.nd rfl (Or.inl rfl) (pe_op op_fdiv (pv 0) pe_int))
      (pss_cons (ps_for PassesOwn.never rfl (pi_range1 rfl T.z_range (pa_cons (pe_op op_add pe_int (pe_op op_mod (pv 0) pe_int)) pa_nil)) (pg_name (i := 3) sc_l_word_by.nd rfl (Or.inl rfl) (Or.inl rfl))
        (pss_cons (ps_set (i := 1) sc_l_word_by.nd rfl (Or.inl rfl) (pe_op op_add_str (pv 1) (pe_ix ix_str pe_str (pe_op op_mod (pv 2) pe_int) (fun _ _ => rfl))))
        (pss_one (ps_set (i := 2) sc_l_word_by.nd rfl (Or.inl rfl) (pe_op op_fdiv (pv 2) pe_int)))))
      (pss_one (ps_ret (pv 1)))))), ?_⟩
    refine ⟨_, rfl, _, _, rfl, rfl, ⟨by decide, by decide⟩, ?_⟩
    refine ⟨_, rfl, _, _, rfl, rfl, (show (0 : Int) < 9 by decide), _, _, rfl, rfl, _, rfl, by omega, by omega, ?_⟩
    refine for_range (n := (1 + c % 9).toNat) (fun i σ H2 => ∃ (wd : Str) (z : Int) (o3 : Option V), σ = [some (.int c), some (.str wd), some (.int z), o3] ∧ H2 = H ∧ PyData.strOk wd = true ∧ wd.length ≤ i) ⟨"", c / 9, none, rfl, rfl, by decide +kernel, by decide +kernel⟩ ?_ ?_
    · rintro i σ H2 hi ⟨wd, z, o3, rfl, rfl, ow, lw⟩
      obtain ⟨ch, hc, oc⟩ := let_at z
      refine ⟨_, rfl, _, rfl, _, _, rfl, rfl, (show (0 : Int) < 26 by decide), _, _, ch, rfl, rfl, (by decide +kernel), hc, _, _, rfl, rfl, line_le (by show wd.length + 1 ≤ _; omega), ?_⟩
      refine ⟨_, rfl, _, _, rfl, rfl, ⟨by decide, by decide⟩, ?_⟩
      exact ⟨_, _, _, rfl, rfl, ok_app ow oc, by rw [Str.length_append]; show wd.length + 1 ≤ i + 1; omega⟩
    · rintro σ H2 ⟨wd, z, o3, rfl, rfl, ow, lw⟩
      exact ⟨_, rfl, k wd ow⟩
theorem ok_l_tuple_by (T : Txt K mg t) : FnOk P w K mg base CX0 2 t.f_l_tuple_by t.d_l_tuple_by ["_law_script", "_law_k"] (sp_l_tuple_by K) := by
  have G_l_cell_at := ok_l_cell_at (P := P) (w := w) (base := base) T
  refine T.F_l_tuple_by.ok sc_l_tuple_by (fun vs H Q E h => ?_) (fun cdv A outer s H vs Q E hr h => ?_)
  · obtain ⟨a, ns, k, rfl, _⟩ := h
    rfl
  · obtain ⟨a, ns, j, rfl, hS, j0, k⟩ := h
    refine ⟨_, (pss_cons (ps_set (i := 2) sc_l_tuple_by.nd rfl (Or.inl rfl) (pe_tup pa_nil))
      (pss_cons (ps_for PassesOwn.never rfl (pi_range1 rfl T.z_range (pa_cons (pe_op op_mod (pe_call G_l_cell_at (hr.mono (by omega)) rfl T.m_l_cell_at T.F_l_cell_at.kp T.b_l_cell_at .nil pass0 (pa_cons (pv 0) (pa_cons (pv 1) pa_nil))) pe_int) pa_nil)) (pg_name (i := 3) sc_l_tuple_by.nd rfl (Or.inl rfl) (Or.inl rfl))
        (pss_cons (ps_set (i := 4) sc_l_tuple_by.nd rfl (Or.inl rfl) (pe_op op_sub (pe_op op_mod (pe_call G_l_cell_at (hr.mono (by omega)) rfl T.m_l_cell_at T.F_l_cell_at.kp T.b_l_cell_at .nil pass0 (pa_cons (pv 0) (pa_cons (pe_op op_add (pe_op op_add (pv 1) pe_int) (pv 3)) pa_nil))) (pe_op op_sub (pe_op op_mul pe_int (pe_op op_pow pe_int pe_int)) pe_int)) (pe_op op_sub (pe_op op_pow pe_int pe_int) pe_int)))
        (pss_one (ps_set (i := 2) sc_l_tuple_by.nd rfl (Or.inl rfl) (pe_op op_catT4 (pv 2) (pe_tup (pa_cons (pv 4) pa_nil)))))))
      (pss_one (ps_ret (pv 2))))), ?_⟩
    refine ⟨line_le (by simp), fun p hp => ?_⟩
    have u1 : Same H (upd H p (.tup [])) := same_new hp
    have hp1 : upd H p (.tup []) p = some (.tup (([] : List Int).map V.int)) := upd_same
    generalize upd H p (.tup []) = H1 at u1 hp1 ⊢
    refine ⟨_, rfl, _, rfl, a, ns, j, rfl, u1.seq hS, j0, fun c => ?_⟩
    have c0 := Int.emod_nonneg c (show (6 : Int) ≠ 0 by decide)
    have c1 := Int.emod_lt_of_pos c (show (0 : Int) < 6 by decide)
    refine ⟨_, _, rfl, rfl, (show (0 : Int) < 6 by decide), _, rfl, by omega, by omega, ?_⟩
    refine for_range (n := (c % 6).toNat) (fun i σ H2 => ∃ (q : Addr) (cs : List Int) (o3 o4 : Option V), σ = [some (.ref a), some (.int j), some (.ref q), o3, o4] ∧ Same H H2 ∧ H2 q = some (.tup (cs.map V.int)) ∧ cs.length ≤ i) ⟨p, [], none, none, rfl, u1, hp1, Nat.le_refl _⟩ ?_ ?_
    · rintro i σ H2 hi ⟨q, cs, o3, o4, rfl, s2, hq, lc⟩
      refine ⟨_, rfl, _, rfl, _, _, rfl, rfl, _, rfl, _, _, rfl, rfl, a, ns, _, rfl, s2.seq hS, by omega, fun c2 => ?_⟩
      refine ⟨_, _, rfl, rfl, ⟨by decide, by decide, by decide⟩, _, _, rfl, rfl, .inl ⟨by decide, by decide⟩, _, _, rfl, rfl, _, _, rfl, rfl, (by show (0 : Int) < 2 * 10 ^ (30 : Int).toNat - 1; decide +kernel), _, _, rfl, rfl, ⟨by decide, by decide, by decide⟩, _, _, rfl, rfl, _, _, rfl, rfl, ?_⟩
      refine ⟨_, rfl, _, rfl, line_le (by simp), fun r hr' => ?_⟩
      refine ⟨q, r, _, _, rfl, rfl, same_new hr' _ _ hq, upd_same, line_le (by simp; omega), fun q2 H4 u4 hq2 => ?_⟩
      exact ⟨q2, cs ++ [c2 % (2 * 10 ^ (30 : Int).toNat - 1) - (10 ^ (30 : Int).toNat - 1)], _, _, rfl, s2.trans ((same_new hr').trans u4), hq2.trans (by simp), by simp; omega⟩
    · rintro σ H2 ⟨q, cs, o3, o4, rfl, s2, hq, lc⟩
      exact ⟨_, rfl, k q cs _ s2 hq⟩
theorem ok_l_step_by (T : Txt K mg t) : FnOk P w K mg base CX0 3 t.f_l_step_by t.d_l_step_by ["_law_script", "_law_k"] (sp_l_step_by K) := by
  have G_l_cell_at := ok_l_cell_at (P := P) (w := w) (base := base) T
  have G_l_tuple_by := ok_l_tuple_by (P := P) (w := w) (base := base) T
  refine T.F_l_step_by.ok sc_l_step_by (fun vs H Q E h => ?_) (fun cdv A outer s H vs Q E hr h => ?_)
  · obtain ⟨a, ns, k, rfl, _⟩ := h
    rfl
  · obtain ⟨a, ns, j, rfl, hS, j0, k⟩ := h
    refine ⟨_, (pss_cons (ps_set (i := 2) sc_l_step_by.nd rfl (Or.inl rfl) (pe_call G_l_cell_at (hr.mono (by omega)) rfl T.m_l_cell_at T.F_l_cell_at.kp T.b_l_cell_at .nil pass0 (pa_cons (pv 0) (pa_cons (pv 1) pa_nil))))
      (pss_cons (ps_set (i := 3) sc_l_step_by.nd rfl (Or.inl rfl) (pe_ix ix_list (pe_lst (pa_cons pe_str (pa_cons pe_str (pa_cons pe_str pa_nil)))) (pe_op op_mod (pv 2) pe_int) (fun _ _ => rfl)))
      (pss_one (ps_ret (pe_tup (pa_cons (pe_op op_mod (pe_op op_fdiv (pv 2) pe_int) pe_int) (pa_cons (pv 3) (pa_cons (pe_call G_l_tuple_by (hr.mono (by omega)) rfl T.m_l_tuple_by T.F_l_tuple_by.kp T.b_l_tuple_by .nil pass0 (pa_cons (pv 0) (pa_cons (pe_op op_add (pv 1) pe_int) pa_nil))) (pa_cons (pe_call G_l_tuple_by (hr.mono (by omega)) rfl T.m_l_tuple_by T.F_l_tuple_by.kp T.b_l_tuple_by .nil pass0 (pa_cons (pv 0) (pa_cons (pe_op op_add (pv 1) pe_int) pa_nil))) pa_nil))))))))), ?_⟩
    refine ⟨_, rfl, _, rfl, a, ns, j, rfl, hS, j0, fun c => ?_⟩
    refine ⟨line_le (by simp), fun l hl => ?_⟩
    have u1 : Same H (upd H l (.lst [.str "set", .str "start", .str "add"])) := same_new hl
    have hl1 : upd H l (.lst [.str "set", .str "start", .str "add"]) l = some (.lst [.str "set", .str "start", .str "add"]) := upd_same
    generalize upd H l (.lst [.str "set", .str "start", .str "add"]) = H1 at u1 hl1 ⊢
    obtain ⟨wd, aw, ow⟩ := word3 c
    refine ⟨_, rfl, _, _, rfl, rfl, (show (0 : Int) < 3 by decide), l, _, _, _, rfl, rfl, SqL.of hl1, aw, ?_⟩
    refine ⟨_, rfl, _, _, rfl, rfl, ⟨by decide, by decide⟩, _, _, rfl, rfl, (show (0 : Int) < 100 by decide), _, rfl, _, rfl, _, rfl, _, _, rfl, rfl, a, ns, _, rfl, u1.seq hS, by omega, fun q1 cs1 H2 u2 hq1 => ?_⟩
    refine ⟨_, rfl, _, rfl, _, _, rfl, rfl, a, ns, _, rfl, (u1.trans u2).seq hS, by omega, fun q2 cs2 H3 u3 hq2 => ⟨line_le (by simp), fun q hq => ?_⟩⟩
    have u4 := same_new (H := H3) (o := .tup [.int (c / 3 % 100), .str wd, .ref q1, .ref q2]) hq
    refine k q (.tuple [.int (c / 3 % 100), .str wd, .tuple (cs1.map PyData.int), .tuple (cs2.map PyData.int)]) _ (u1.trans (u2.trans (u3.trans u4))) ⟨?_, ?_, ?_⟩
    · exact .tup upd_same (.cons (.int _) (.cons (.str _) (.cons (.tup (u4 _ _ (u3 _ _ hq1)) (Reps.ints _)) (.cons (.tup (u4 _ _ hq2) (Reps.ints _)) .nil))))
    · simp [PyData.canLay0, PyData.canLayAll0, ow, (ints_all cs1).1, (ints_all cs2).1]
    · simp [PyData.depth, PyData.depthAll, (ints_all cs1).2, (ints_all cs2).2]
end
end My

set_option Elab.async false
set_option linter.all false
set_option maxRecDepth 100000
set_option maxHeartbeats 4000000
namespace My
open PySem L2
local macro_rules | `(tactic| walk_at "lk") => `(tactic| first | with_reducible exact lk0 | (refine lk1 (by decide +kernel) ?_; walk_at "lk") | rfl)
/-! ### new exceptions -/
def sp_x4 (C : Addr) (f1 f2 f3 f4 : Str) : Sp := fun vs H Q _ => ∃ (ea ta : Addr) (a1 a2 a3 a4 : V), vs = [.ref ea, a1, a2, a3, a4] ∧ H ea = some (xcN ea C ta) ∧
  ∀ (dx : Addr) (H' : Hp), H dx = none → H' ea = some (xcD ea C ta dx) → H' dx = some (.xd [(f1, a1), (f2, a2), (f3, a3), (f4, a4)]) → (∀ b, b ≠ ea → b ≠ dx → H' b = H b) → Q .non H'
def sp_x1 (C : Addr) (f1 : Str) : Sp := fun vs H Q _ => ∃ (ea ta : Addr) (a1 : V), vs = [.ref ea, a1] ∧ H ea = some (xcN ea C ta) ∧
  ∀ (dx : Addr) (H' : Hp), H dx = none → H' ea = some (xcD ea C ta dx) → H' dx = some (.xd [(f1, a1)]) → (∀ b, b ≠ ea → b ≠ dx → H' b = H b) → Q .non H'
theorem raised {H H' : Hp} {ea dx C ta : Addr} {o o' : HO} {fs : List (Str × V)} (hea : H ea = none) (hdx : upd H ea o dx = none) (h1 : H' ea = some o') (h2 : H' dx = some (.xd fs)) (h3 : ∀ b, b ≠ ea → b ≠ dx → H' b = upd H ea o b) :
    Same H (dropH H' ea) ∧ dropH H' ea dx = some (.xd fs) := by
  have ne : dx ≠ ea := fun z => by rw [z, upd_same] at hdx; cases hdx
  refine ⟨fun b u e => ?_, by rw [dropH_ne ne]; exact h2⟩
  have n1 : b ≠ ea := fun z => by rw [z, hea] at e; cases e
  have n2 : b ≠ dx := fun z => by rw [z, ← upd_ne (H := H) (o := o) ne, hdx] at e; cases e
  rw [dropH_ne n1, h3 b n1 n2, upd_ne n1]
  exact e
/-! ### which of the twelve -/
structure K12 (K : PySem.W.Frag) (t : Adr) (C : Addr) (j : Nat) : Prop where
  xc : PySem.W.XcIn K C
  xm : PySem.W.mroIn K C (.type "ValueError") = some true
  lt : j < 12
  k0 : PySem.W.kitOne K (.ref C) (.ref t.C_NoEnd) = some (decide (0 = j))
  k1 : PySem.W.kitOne K (.ref C) (.ref t.C_NoName) = some (decide (1 = j))
  k2 : PySem.W.kitOne K (.ref C) (.ref t.C_NoShape) = some (decide (2 = j))
  k3 : PySem.W.kitOne K (.ref C) (.ref t.C_NoTable) = some (decide (3 = j))
  k4 : PySem.W.kitOne K (.ref C) (.ref t.C_NoText) = some (decide (4 = j))
  k5 : PySem.W.kitOne K (.ref C) (.ref t.C_Outside) = some (decide (5 = j))
  k6 : PySem.W.kitOne K (.ref C) (.ref t.C_TooMuch) = some (decide (6 = j))
  k7 : PySem.W.kitOne K (.ref C) (.ref t.C_Unwritten) = some (decide (7 = j))
  k8 : PySem.W.kitOne K (.ref C) (.ref t.C_BeyondRim) = some (decide (8 = j))
  k9 : PySem.W.kitOne K (.ref C) (.ref t.C_NotYet) = some (decide (9 = j))
  k10 : PySem.W.kitOne K (.ref C) (.ref t.C_NoMove) = some (decide (10 = j))
  k11 : PySem.W.kitOne K (.ref C) (.ref t.C_Clash) = some (decide (11 = j))
def fl12 (j : Nat) : List V := [.bl (decide (0 = j)), .bl (decide (1 = j)), .bl (decide (2 = j)), .bl (decide (3 = j)), .bl (decide (4 = j)), .bl (decide (5 = j)), .bl (decide (6 = j)), .bl (decide (7 = j)), .bl (decide (8 = j)), .bl (decide (9 = j)), .bl (decide (10 = j)), .bl (decide (11 = j))]
theorem fl_at {j : Nat} : ∀ {i : Nat}, i < 12 → atI (fl12 j) ((0 : Int) + (i : Nat)) = some (.bl (decide (i = j)))
  | 0, _ => rfl
  | 1, _ => rfl
  | 2, _ => rfl
  | 3, _ => rfl
  | 4, _ => rfl
  | 5, _ => rfl
  | 6, _ => rfl
  | 7, _ => rfl
  | 8, _ => rfl
  | 9, _ => rfl
  | 10, _ => rfl
  | 11, _ => rfl
  | i + 12, h => absurd h (by omega)
theorem isi_own {K : PySem.W.Frag} {C D : Addr} {b : Bool} (h : PySem.W.kitOne K (.ref C) (.ref D) = some b) : ∀ u, RelV (.ref D) u → PySem.W.kitOne K (.ref C) u = some b := by
  intro u z
  obtain rfl : u = Value.ref D := z
  exact h
def sp_l_others (K : PySem.W.Frag) (t : Adr) (ea : Addr) : Sp := fun vs H Q _ => ∃ (C : Addr) (od : Option Addr) (j : Nat), vs = [.ref ea] ∧ H ea = some (.ext (xcG ea C od)) ∧ K12 K t C j ∧ ∀ (q : Addr) (H' : Hp), Same H H' → H' q = some (.lst [.int (j : Int)]) → Q (.ref q) H'
section
variable {P : Program} {w : World} {K : PySem.W.Frag} {mg : Str → Option Value} {base : Heap} {t : Adr}
theorem ok_BeyondRim_init (T : Txt K mg t) : FnOk P w K mg base CX0 1 t.f_BeyondRim_init t.d_BeyondRim_init ["self", "name", "array", "spot", "cell"] (sp_x4 t.C_BeyondRim "name" "array" "spot" "cell") := by
  refine T.F_BeyondRim_init.ok sc_BeyondRim_init (fun vs H Q E h => ?_) (fun cdv A outer s H vs Q E hr h => ?_)
  · obtain ⟨ea, ta, a1, a2, a3, a4, rfl, _⟩ := h
    rfl
  · obtain ⟨ea, ta, a1, a2, a3, a4, rfl, he, k⟩ := h
    refine ⟨_, (pss_cons (ps_fldX (pv 0) (pv 1) rfl)
      (pss_cons (ps_fldX2 (pv 0) (pv 2) rfl)
      (pss_cons (ps_fldX2 (pv 0) (pv 3) rfl)
      (pss_one (ps_fldX2 (pv 0) (pv 4) rfl))))), _, rfl, _, rfl, ea, _, ta, rfl, he, T.xs_BeyondRim_name, fun dx hdx => ?_⟩
    have ne : ea ≠ dx := fun z => by rw [z, hdx] at he; cases he
    have e1 : upd (upd H ea (xcD ea t.C_BeyondRim ta dx)) dx (.xd [("name", a1)]) ea = some (xcD ea t.C_BeyondRim ta dx) := by rw [upd_ne ne, upd_same]
    have e2 : upd (upd H ea (xcD ea t.C_BeyondRim ta dx)) dx (.xd [("name", a1)]) dx = some (.xd [("name", a1)]) := upd_same
    have e3 : ∀ b, b ≠ ea → b ≠ dx → upd (upd H ea (xcD ea t.C_BeyondRim ta dx)) dx (.xd [("name", a1)]) b = H b := fun b n1 n2 => by rw [upd_ne n2, upd_ne n1]
    generalize upd (upd H ea (xcD ea t.C_BeyondRim ta dx)) dx (.xd [("name", a1)]) = H1 at e1 e2 e3 ⊢
    refine ⟨_, rfl, _, rfl, ea, _, ta, dx, _, rfl, e1, e2, by simp, rfl, T.xs_BeyondRim_array, ?_⟩
    refine ⟨_, rfl, _, rfl, ea, _, ta, dx, _, rfl, by rw [upd_ne ne]; exact e1, upd_same, by simp, rfl, T.xs_BeyondRim_spot, ?_⟩
    refine ⟨_, rfl, _, rfl, ea, _, ta, dx, _, rfl, by rw [upd_ne ne, upd_ne ne]; exact e1, upd_same, by simp, rfl, T.xs_BeyondRim_cell, ?_⟩
    exact k dx _ hdx (by rw [upd_ne ne, upd_ne ne, upd_ne ne]; exact e1) upd_same (fun b n1 n2 => by rw [upd_ne n2, upd_ne n2, upd_ne n2]; exact e3 b n1 n2)
theorem ok_NotYet_init (T : Txt K mg t) : FnOk P w K mg base CX0 1 t.f_NotYet_init t.d_NotYet_init ["self", "name", "array", "spot", "cell"] (sp_x4 t.C_NotYet "name" "array" "spot" "cell") := by
  refine T.F_NotYet_init.ok sc_NotYet_init (fun vs H Q E h => ?_) (fun cdv A outer s H vs Q E hr h => ?_)
  · obtain ⟨ea, ta, a1, a2, a3, a4, rfl, _⟩ := h
    rfl
  · obtain ⟨ea, ta, a1, a2, a3, a4, rfl, he, k⟩ := h
    refine ⟨_, (pss_cons (ps_fldX (pv 0) (pv 1) rfl)
      (pss_cons (ps_fldX2 (pv 0) (pv 2) rfl)
      (pss_cons (ps_fldX2 (pv 0) (pv 3) rfl)
      (pss_one (ps_fldX2 (pv 0) (pv 4) rfl))))), _, rfl, _, rfl, ea, _, ta, rfl, he, T.xs_NotYet_name, fun dx hdx => ?_⟩
    have ne : ea ≠ dx := fun z => by rw [z, hdx] at he; cases he
    have e1 : upd (upd H ea (xcD ea t.C_NotYet ta dx)) dx (.xd [("name", a1)]) ea = some (xcD ea t.C_NotYet ta dx) := by rw [upd_ne ne, upd_same]
    have e2 : upd (upd H ea (xcD ea t.C_NotYet ta dx)) dx (.xd [("name", a1)]) dx = some (.xd [("name", a1)]) := upd_same
    have e3 : ∀ b, b ≠ ea → b ≠ dx → upd (upd H ea (xcD ea t.C_NotYet ta dx)) dx (.xd [("name", a1)]) b = H b := fun b n1 n2 => by rw [upd_ne n2, upd_ne n1]
    generalize upd (upd H ea (xcD ea t.C_NotYet ta dx)) dx (.xd [("name", a1)]) = H1 at e1 e2 e3 ⊢
    refine ⟨_, rfl, _, rfl, ea, _, ta, dx, _, rfl, e1, e2, by simp, rfl, T.xs_NotYet_array, ?_⟩
    refine ⟨_, rfl, _, rfl, ea, _, ta, dx, _, rfl, by rw [upd_ne ne]; exact e1, upd_same, by simp, rfl, T.xs_NotYet_spot, ?_⟩
    refine ⟨_, rfl, _, rfl, ea, _, ta, dx, _, rfl, by rw [upd_ne ne, upd_ne ne]; exact e1, upd_same, by simp, rfl, T.xs_NotYet_cell, ?_⟩
    exact k dx _ hdx (by rw [upd_ne ne, upd_ne ne, upd_ne ne]; exact e1) upd_same (fun b n1 n2 => by rw [upd_ne n2, upd_ne n2, upd_ne n2]; exact e3 b n1 n2)
theorem ok_Clash_init (T : Txt K mg t) : FnOk P w K mg base CX0 1 t.f_Clash_init t.d_Clash_init ["self", "first", "second", "array", "cell"] (sp_x4 t.C_Clash "first" "second" "array" "cell") := by
  refine T.F_Clash_init.ok sc_Clash_init (fun vs H Q E h => ?_) (fun cdv A outer s H vs Q E hr h => ?_)
  · obtain ⟨ea, ta, a1, a2, a3, a4, rfl, _⟩ := h
    rfl
  · obtain ⟨ea, ta, a1, a2, a3, a4, rfl, he, k⟩ := h
    refine ⟨_, (pss_cons (ps_fldX (pv 0) (pv 1) rfl)
      (pss_cons (ps_fldX2 (pv 0) (pv 2) rfl)
      (pss_cons (ps_fldX2 (pv 0) (pv 3) rfl)
      (pss_one (ps_fldX2 (pv 0) (pv 4) rfl))))), _, rfl, _, rfl, ea, _, ta, rfl, he, T.xs_Clash_first, fun dx hdx => ?_⟩
    have ne : ea ≠ dx := fun z => by rw [z, hdx] at he; cases he
    have e1 : upd (upd H ea (xcD ea t.C_Clash ta dx)) dx (.xd [("first", a1)]) ea = some (xcD ea t.C_Clash ta dx) := by rw [upd_ne ne, upd_same]
    have e2 : upd (upd H ea (xcD ea t.C_Clash ta dx)) dx (.xd [("first", a1)]) dx = some (.xd [("first", a1)]) := upd_same
    have e3 : ∀ b, b ≠ ea → b ≠ dx → upd (upd H ea (xcD ea t.C_Clash ta dx)) dx (.xd [("first", a1)]) b = H b := fun b n1 n2 => by rw [upd_ne n2, upd_ne n1]
    generalize upd (upd H ea (xcD ea t.C_Clash ta dx)) dx (.xd [("first", a1)]) = H1 at e1 e2 e3 ⊢
    refine ⟨_, rfl, _, rfl, ea, _, ta, dx, _, rfl, e1, e2, by simp, rfl, T.xs_Clash_second, ?_⟩
    refine ⟨_, rfl, _, rfl, ea, _, ta, dx, _, rfl, by rw [upd_ne ne]; exact e1, upd_same, by simp, rfl, T.xs_Clash_array, ?_⟩
    refine ⟨_, rfl, _, rfl, ea, _, ta, dx, _, rfl, by rw [upd_ne ne, upd_ne ne]; exact e1, upd_same, by simp, rfl, T.xs_Clash_cell, ?_⟩
    exact k dx _ hdx (by rw [upd_ne ne, upd_ne ne, upd_ne ne]; exact e1) upd_same (fun b n1 n2 => by rw [upd_ne n2, upd_ne n2, upd_ne n2]; exact e3 b n1 n2)
theorem ok_NoMove_init (T : Txt K mg t) : FnOk P w K mg base CX0 1 t.f_NoMove_init t.d_NoMove_init ["self", "place"] (sp_x1 t.C_NoMove "place") := by
  refine T.F_NoMove_init.ok sc_NoMove_init (fun vs H Q E h => ?_) (fun cdv A outer s H vs Q E hr h => ?_)
  · obtain ⟨ea, ta, a1, rfl, _⟩ := h
    rfl
  · obtain ⟨ea, ta, a1, rfl, he, k⟩ := h
    refine ⟨_, (pss_one (ps_fldX (pv 0) (pv 1) rfl)), _, rfl, _, rfl, ea, _, ta, rfl, he, T.xs_NoMove_place, fun dx hdx => ?_⟩
    have ne : ea ≠ dx := fun z => by rw [z, hdx] at he; cases he
    exact k dx _ hdx (by rw [upd_ne ne, upd_same]) upd_same (fun b n1 n2 => by rw [upd_ne n2, upd_ne n1])
theorem ok_l_others (T : Txt K mg t) (ea : Addr) : FnOkE ea P w K mg base CX0 1 t.f_l_others t.d_l_others ["_law_e"] (sp_l_others K t ea) := by
  refine T.F_l_others.okE sc_l_others (fun vs H Q E h => ?_) (fun cdv A outer s H vs Q E hr hh h => ?_)
  · obtain ⟨C, od, j, rfl, _⟩ := h
    rfl
  · obtain ⟨C, od, j, rfl, he, k12, k⟩ := h
    refine ⟨_, (pss_cons (ps_set (i := 1) sc_l_others.nd rfl (Or.inr rfl) (pe_lst (pa_cons (pe_callB (call_isiG (K := K) rfl) (by rfl) T.z_isinstance PyProof.Rows.boot_isinstance (pa_cons (pv 0) (pa_cons (pe_glob (v := V.ref t.C_NoEnd) rfl T.m_NoEnd rfl) pa_nil))) (pa_cons (pe_callB (call_isiG (K := K) rfl) (by rfl) T.z_isinstance PyProof.Rows.boot_isinstance (pa_cons (pv 0) (pa_cons (pe_glob (v := V.ref t.C_NoName) rfl T.m_NoName rfl) pa_nil))) (pa_cons (pe_callB (call_isiG (K := K) rfl) (by rfl) T.z_isinstance PyProof.Rows.boot_isinstance (pa_cons (pv 0) (pa_cons (pe_glob (v := V.ref t.C_NoShape) rfl T.m_NoShape rfl) pa_nil))) (pa_cons (pe_callB (call_isiG (K := K) rfl) (by rfl) T.z_isinstance PyProof.Rows.boot_isinstance (pa_cons (pv 0) (pa_cons (pe_glob (v := V.ref t.C_NoTable) rfl T.m_NoTable rfl) pa_nil))) pa_nil))))))
      (pss_cons (ps_set (i := 1) sc_l_others.nd rfl (Or.inr rfl) (pe_op op_cat (pv 1) (pe_lst (pa_cons (pe_callB (call_isiG (K := K) rfl) (by rfl) T.z_isinstance PyProof.Rows.boot_isinstance (pa_cons (pv 0) (pa_cons (pe_glob (v := V.ref t.C_NoText) rfl T.m_NoText rfl) pa_nil))) (pa_cons (pe_callB (call_isiG (K := K) rfl) (by rfl) T.z_isinstance PyProof.Rows.boot_isinstance (pa_cons (pv 0) (pa_cons (pe_glob (v := V.ref t.C_Outside) rfl T.m_Outside rfl) pa_nil))) (pa_cons (pe_callB (call_isiG (K := K) rfl) (by rfl) T.z_isinstance PyProof.Rows.boot_isinstance (pa_cons (pv 0) (pa_cons (pe_glob (v := V.ref t.C_TooMuch) rfl T.m_TooMuch rfl) pa_nil))) (pa_cons (pe_callB (call_isiG (K := K) rfl) (by rfl) T.z_isinstance PyProof.Rows.boot_isinstance (pa_cons (pv 0) (pa_cons (pe_glob (v := V.ref t.C_Unwritten) rfl T.m_Unwritten rfl) pa_nil))) pa_nil)))))))
      (pss_cons (ps_set (i := 1) sc_l_others.nd rfl (Or.inr rfl) (pe_op op_cat (pv 1) (pe_lst (pa_cons (pe_callB (call_isiG (K := K) rfl) (by rfl) T.z_isinstance PyProof.Rows.boot_isinstance (pa_cons (pv 0) (pa_cons (pe_glob (v := V.ref t.C_BeyondRim) rfl T.m_BeyondRim rfl) pa_nil))) (pa_cons (pe_callB (call_isiG (K := K) rfl) (by rfl) T.z_isinstance PyProof.Rows.boot_isinstance (pa_cons (pv 0) (pa_cons (pe_glob (v := V.ref t.C_NotYet) rfl T.m_NotYet rfl) pa_nil))) (pa_cons (pe_callB (call_isiG (K := K) rfl) (by rfl) T.z_isinstance PyProof.Rows.boot_isinstance (pa_cons (pv 0) (pa_cons (pe_glob (v := V.ref t.C_NoMove) rfl T.m_NoMove rfl) pa_nil))) (pa_cons (pe_callB (call_isiG (K := K) rfl) (by rfl) T.z_isinstance PyProof.Rows.boot_isinstance (pa_cons (pv 0) (pa_cons (pe_glob (v := V.ref t.C_Clash) rfl T.m_Clash rfl) pa_nil))) pa_nil)))))))
      (pss_cons (ps_if (pt_not (pt_val (pe_callB (call_isiG (K := K) rfl) (by rfl) T.z_isinstance PyProof.Rows.boot_isinstance (pa_cons (pv 0) (pa_cons (pe_bltn (v := V.ty "ValueError") rfl T.z_ValueError PyProof.Rows.Boot.«ValueError» rfl) pa_nil)))))
        (pss_one (ps_ret (pe_lst pa_nil)))
        pss_nil)
      (pss_one (ps_ret (pe_compIfP (ok := Handles ea) (N' := ["_law_k", "_law_found"]) (ix := (List.replicate 1 none ++ [some 1])) hh (clok_one (x := "_law_found") rfl rfl rfl (by decide +kernel) (by decide +kernel)) (ixok_last (N0 := ["_law_k"]) rfl (Or.inl rfl) (by first | exact Or.inl rfl | exact Or.inr rfl | (simp [relabel]; rfl) | (with_unfolding_all exact Or.inl rfl) | (with_unfolding_all exact Or.inr rfl) | (with_unfolding_all decide))) (pi_rangeH rfl T.z_range (pa_cons pe_int pa_nil)) (fun _ _ _ _ => (pg_name (i := 0) nd_comp_0 rfl (Or.inl rfl) (Or.inr rfl))) (fun _ _ _ _ => (pt_val (pe_ix (ix_listK (K := K) rfl) (pv 1) (pv 0) (fun _ _ => rfl)))) (fun _ _ _ _ => (pv 0))))))))), ?_⟩
    refine ⟨_, rfl, ea, C, od, _, _, rfl, he, k12.xc, isi_own k12.k0, _, rfl, ea, C, od, _, _, rfl, he, k12.xc, isi_own k12.k1, _, rfl, ea, C, od, _, _, rfl, he, k12.xc, isi_own k12.k2, _, rfl, ea, C, od, _, _, rfl, he, k12.xc, isi_own k12.k3, line_le (by simp), fun L0 hL0 => ?_⟩
    have u0 : Same H (upd H L0 (.lst [.bl (decide (0 = j)), .bl (decide (1 = j)), .bl (decide (2 = j)), .bl (decide (3 = j))])) := same_new hL0
    have h0 : upd H L0 (.lst [.bl (decide (0 = j)), .bl (decide (1 = j)), .bl (decide (2 = j)), .bl (decide (3 = j))]) L0 = some (.lst [.bl (decide (0 = j)), .bl (decide (1 = j)), .bl (decide (2 = j)), .bl (decide (3 = j))]) := upd_same
    generalize upd H L0 (.lst [.bl (decide (0 = j)), .bl (decide (1 = j)), .bl (decide (2 = j)), .bl (decide (3 = j))]) = H0 at u0 h0 ⊢
    refine ⟨_, rfl, _, rfl, ea, C, od, _, _, rfl, u0 _ _ he, k12.xc, isi_own k12.k4, _, rfl, ea, C, od, _, _, rfl, u0 _ _ he, k12.xc, isi_own k12.k5, _, rfl, ea, C, od, _, _, rfl, u0 _ _ he, k12.xc, isi_own k12.k6, _, rfl, ea, C, od, _, _, rfl, u0 _ _ he, k12.xc, isi_own k12.k7, line_le (by simp), fun L1 hL1 => ?_⟩
    have u1 : Same H0 (upd H0 L1 (.lst [.bl (decide (4 = j)), .bl (decide (5 = j)), .bl (decide (6 = j)), .bl (decide (7 = j))])) := same_new hL1
    have h1 : upd H0 L1 (.lst [.bl (decide (4 = j)), .bl (decide (5 = j)), .bl (decide (6 = j)), .bl (decide (7 = j))]) L1 = some (.lst [.bl (decide (4 = j)), .bl (decide (5 = j)), .bl (decide (6 = j)), .bl (decide (7 = j))]) := upd_same
    generalize upd H0 L1 (.lst [.bl (decide (4 = j)), .bl (decide (5 = j)), .bl (decide (6 = j)), .bl (decide (7 = j))]) = H1 at u1 h1 ⊢
    refine ⟨L0, L1, _, _, rfl, rfl, u1 _ _ h0, h1, line_le (by simp), fun L2 hL2 => ?_⟩
    have u2 : Same H1 (upd H1 L2 (.lst ([.bl (decide (0 = j)), .bl (decide (1 = j)), .bl (decide (2 = j)), .bl (decide (3 = j))] ++ [.bl (decide (4 = j)), .bl (decide (5 = j)), .bl (decide (6 = j)), .bl (decide (7 = j))]))) := same_new hL2
    have h2 : upd H1 L2 (.lst ([.bl (decide (0 = j)), .bl (decide (1 = j)), .bl (decide (2 = j)), .bl (decide (3 = j))] ++ [.bl (decide (4 = j)), .bl (decide (5 = j)), .bl (decide (6 = j)), .bl (decide (7 = j))])) L2 = some (.lst ([.bl (decide (0 = j)), .bl (decide (1 = j)), .bl (decide (2 = j)), .bl (decide (3 = j))] ++ [.bl (decide (4 = j)), .bl (decide (5 = j)), .bl (decide (6 = j)), .bl (decide (7 = j))])) := upd_same
    generalize upd H1 L2 (.lst ([.bl (decide (0 = j)), .bl (decide (1 = j)), .bl (decide (2 = j)), .bl (decide (3 = j))] ++ [.bl (decide (4 = j)), .bl (decide (5 = j)), .bl (decide (6 = j)), .bl (decide (7 = j))])) = H2 at u2 h2 ⊢
    have s2 := u0.trans (u1.trans u2)
    refine ⟨_, rfl, _, rfl, ea, C, od, _, _, rfl, s2 _ _ he, k12.xc, isi_own k12.k8, _, rfl, ea, C, od, _, _, rfl, s2 _ _ he, k12.xc, isi_own k12.k9, _, rfl, ea, C, od, _, _, rfl, s2 _ _ he, k12.xc, isi_own k12.k10, _, rfl, ea, C, od, _, _, rfl, s2 _ _ he, k12.xc, isi_own k12.k11, line_le (by simp), fun L3 hL3 => ?_⟩
    have u3 : Same H2 (upd H2 L3 (.lst [.bl (decide (8 = j)), .bl (decide (9 = j)), .bl (decide (10 = j)), .bl (decide (11 = j))])) := same_new hL3
    have h3 : upd H2 L3 (.lst [.bl (decide (8 = j)), .bl (decide (9 = j)), .bl (decide (10 = j)), .bl (decide (11 = j))]) L3 = some (.lst [.bl (decide (8 = j)), .bl (decide (9 = j)), .bl (decide (10 = j)), .bl (decide (11 = j))]) := upd_same
    generalize upd H2 L3 (.lst [.bl (decide (8 = j)), .bl (decide (9 = j)), .bl (decide (10 = j)), .bl (decide (11 = j))]) = H3 at u3 h3 ⊢
    refine ⟨L2, L3, _, _, rfl, rfl, u3 _ _ h2, h3, line_le (by simp), fun L4 hL4 => ?_⟩
    have u4 : Same H3 (upd H3 L4 (.lst (fl12 j))) := same_new hL4
    have h4 : upd H3 L4 (.lst (fl12 j)) L4 = some (.lst (fl12 j)) := upd_same
    change _
    rw [show ([.bl (decide (0 = j)), .bl (decide (1 = j)), .bl (decide (2 = j)), .bl (decide (3 = j))] ++ [.bl (decide (4 = j)), .bl (decide (5 = j)), .bl (decide (6 = j)), .bl (decide (7 = j))] ++ [.bl (decide (8 = j)), .bl (decide (9 = j)), .bl (decide (10 = j)), .bl (decide (11 = j))] : List V) = fl12 j from rfl]
    generalize upd H3 L4 (.lst (fl12 j)) = H4 at u4 h4 ⊢
    have s4 := s2.trans (u3.trans u4)
    have he4 := s4 _ _ he
    refine ⟨_, rfl, ea, C, od, _, true, rfl, he4, k12.xc, isi_bt k12.xm (by decide +kernel), true, rfl, iteF ?_⟩
    refine ⟨_, rfl, by decide, by decide, fun D hD => ?_⟩
    refine compIf_rngH (n := 12) (ea := ea) (D := D) (fun i ys H5 => Same H4 H5 ∧ H5 D = some (.lst ys) ∧ ys = if j < i then [.int (j : Int)] else []) ⟨same_new hD, upd_same, rfl⟩ (fun i ys H5 p => ⟨C, od, p.1 _ _ he4⟩) ?_ ?_
    · rintro i ys H5 hi ⟨s5, hD5, rfl⟩
      refine ⟨⟨rfl, True.intro⟩, ?_⟩
      refine ⟨_, rfl, _, rfl, L4, _, _, _, rfl, rfl, SqL.of (s5 _ _ h4), fl_at hi, _, rfl, iteD (fun e => ?_) (fun e => ?_)⟩
      · subst e
        refine ⟨_, rfl, hD5, line_lt (by rw [if_neg (Nat.lt_irrefl i)]; simp), same_fresh s5 hD, upd_same, ?_⟩
        rw [if_pos (Nat.lt_succ_self i), if_neg (Nat.lt_irrefl i)]
        simp
      · refine ⟨s5, ?_, ?_⟩
        · exact hD5
        · by_cases q : j < i
          · rw [if_pos q, if_pos (by omega)]
          · rw [if_neg q, if_neg (by omega)]
    · rintro ys H5 ⟨s5, hD5, rfl⟩
      rw [if_pos k12.lt] at hD5
      exact k D _ (s4.trans s5) hD5
end
end My

set_option Elab.async false
set_option linter.all false
set_option maxRecDepth 100000
set_option maxHeartbeats 4000000
namespace My
open PySem L2
local macro_rules | `(tactic| walk_at "lk") => `(tactic| first | with_reducible exact lk0 | (refine lk1 (by decide +kernel) ?_; walk_at "lk") | rfl)
def sp_l_rim : Sp := fun vs H Q _ => ∃ (j : Int) (v1 v2 v3 v4 : V) (d1 d2 d3 d4 : PyData), vs = [.int j, v1, v2, v3, v4] ∧ (j = 8 ∨ j = 9) ∧ Dt H v1 d1 ∧ Dt H v2 d2 ∧ Dt H v3 d3 ∧ Dt H v4 d4 ∧ ∀ H', Same H H' → Q (.bl true) H'
def sp_l_clash : Sp := fun vs H Q _ => ∃ (v1 v2 v3 v4 : V) (d1 d2 d3 d4 : PyData), vs = [v1, v2, v3, v4] ∧ Dt H v1 d1 ∧ Dt H v2 d2 ∧ Dt H v3 d3 ∧ Dt H v4 d4 ∧ ∀ H', Same H H' → Q (.bl true) H'
def sp_l_move : Sp := fun vs H Q _ => ∃ z : Int, vs = [.int z] ∧ ∀ H', Same H H' → Q (.bl true) H'
def dd5 (j : Int) (d1 d2 d3 d4 : PyData) : PyData := .list [.list [.int j], d1, d2, d3, d4]
theorem dd5_ok {H H' : Hp} {v1 v2 v3 v4 : V} {d1 d2 d3 d4 : PyData} (j : Int) (h1 : Dt H v1 d1) (h2 : Dt H v2 d2) (h3 : Dt H v3 d3) (h4 : Dt H v4 d4) : PyData.canLay0 (dd5 j d1 d2 d3 d4) = true ∧ SeqAt.shaped (dd5 j d1 d2 d3 d4) = true := by
  have c : PyData.canLay0 (dd5 j d1 d2 d3 d4) = true := by simp [dd5, PyData.canLay0, PyData.canLayAll0, h1.l, h2.l, h3.l, h4.l]
  refine ⟨c, shaped_of c ?_⟩
  have := h1.d
  have := h2.d
  have := h3.d
  have := h4.d
  simp only [dd5, PyData.depth, PyData.depthAll]
  omega
theorem dd5_rep {H : Hp} {v1 v2 v3 v4 : V} {d1 d2 d3 d4 : PyData} {j : Int} {L q : Addr} (hL : H L = some (.lst [.ref q, v1, v2, v3, v4])) (hq : H q = some (.lst [.int j])) (h1 : Dt H v1 d1) (h2 : Dt H v2 d2) (h3 : Dt H v3 d3) (h4 : Dt H v4 d4) : Rep H (.ref L) (dd5 j d1 d2 d3 d4) :=
  .lst hL (.cons (.lst hq (.cons (.int j) .nil)) (.cons h1.r (.cons h2.r (.cons h3.r (.cons h4.r .nil)))))
section
variable {P : Program} {w : World} {K : PySem.W.Frag} {mg : Str → Option Value} {base : Heap} {t : Adr}
theorem k12_BeyondRim (T : Txt K mg t) : K12 K t t.C_BeyondRim 8 := ⟨T.xc_BeyondRim, T.xm_BeyondRim_ValueError, by decide, T.kx_BeyondRim_NoEnd, T.kx_BeyondRim_NoName, T.kx_BeyondRim_NoShape, T.kx_BeyondRim_NoTable, T.kx_BeyondRim_NoText, T.kx_BeyondRim_Outside, T.kx_BeyondRim_TooMuch, T.kx_BeyondRim_Unwritten, T.kx_BeyondRim_BeyondRim, T.kx_BeyondRim_NotYet, T.kx_BeyondRim_NoMove, T.kx_BeyondRim_Clash⟩
theorem k12_NotYet (T : Txt K mg t) : K12 K t t.C_NotYet 9 := ⟨T.xc_NotYet, T.xm_NotYet_ValueError, by decide, T.kx_NotYet_NoEnd, T.kx_NotYet_NoName, T.kx_NotYet_NoShape, T.kx_NotYet_NoTable, T.kx_NotYet_NoText, T.kx_NotYet_Outside, T.kx_NotYet_TooMuch, T.kx_NotYet_Unwritten, T.kx_NotYet_BeyondRim, T.kx_NotYet_NotYet, T.kx_NotYet_NoMove, T.kx_NotYet_Clash⟩
theorem k12_NoMove (T : Txt K mg t) : K12 K t t.C_NoMove 10 := ⟨T.xc_NoMove, T.xm_NoMove_ValueError, by decide, T.kx_NoMove_NoEnd, T.kx_NoMove_NoName, T.kx_NoMove_NoShape, T.kx_NoMove_NoTable, T.kx_NoMove_NoText, T.kx_NoMove_Outside, T.kx_NoMove_TooMuch, T.kx_NoMove_Unwritten, T.kx_NoMove_BeyondRim, T.kx_NoMove_NotYet, T.kx_NoMove_NoMove, T.kx_NoMove_Clash⟩
theorem k12_Clash (T : Txt K mg t) : K12 K t t.C_Clash 11 := ⟨T.xc_Clash, T.xm_Clash_ValueError, by decide, T.kx_Clash_NoEnd, T.kx_Clash_NoName, T.kx_Clash_NoShape, T.kx_Clash_NoTable, T.kx_Clash_NoText, T.kx_Clash_Outside, T.kx_Clash_TooMuch, T.kx_Clash_Unwritten, T.kx_Clash_BeyondRim, T.kx_Clash_NotYet, T.kx_Clash_NoMove, T.kx_Clash_Clash⟩
theorem ok_l_rim (T : Txt K mg t) : FnOk P w K mg base CX0 3 t.f_l_rim t.d_l_rim ["_law_sort", "_law_name", "_law_array", "_law_spot", "_law_cell"] sp_l_rim := by
  have G_BeyondRim_init := ok_BeyondRim_init (P := P) (w := w) (base := base) T
  have G_NotYet_init := ok_NotYet_init (P := P) (w := w) (base := base) T
  have GE_l_others := ok_l_others (P := P) (w := w) (base := base) T
  refine T.F_l_rim.ok sc_l_rim (fun vs H Q E h => ?_) (fun cdv A outer s H vs Q E hr h => ?_)
  · obtain ⟨j, v1, v2, v3, v4, d1, d2, d3, d4, rfl, _⟩ := h
    rfl
  · obtain ⟨j, v1, v2, v3, v4, d1, d2, d3, d4, rfl, hj, D1, D2, D3, D4, k⟩ := h
    refine ⟨_, (pss_cons (ps_set (i := 5) sc_l_rim.nd rfl (Or.inl rfl) (pe_lst pa_nil))
      (pss_cons (ps_tryR ⟨rfl, rfl⟩ (psx_ifR (pt_cmpR op_eq (pv 0) pe_int (nomark _)) (psx_raise T.mx_BeyondRim G_BeyondRim_init (hr.mono (by omega)) rfl T.m_BeyondRim T.b_BeyondRim_init pass0 rfl (pa_cons (pv 1) (pa_cons (pv 2) (pa_cons (pv 3) (pa_cons (pv 4) pa_nil))))) (psx_raise T.mx_NotYet G_NotYet_init (hr.mono (by omega)) rfl T.m_NotYet T.b_NotYet_init pass0 rfl (pa_cons (pv 1) (pa_cons (pv 2) (pa_cons (pv 3) (pa_cons (pv 4) pa_nil)))))))
      (pss_one (ps_ret (pe_cmpR (op_eqD hr.units) (pv 5) (pe_lst (pa_cons (pe_lst (pa_cons (pv 0) pa_nil)) (pa_cons (pv 1) (pa_cons (pv 2) (pa_cons (pv 3) (pa_cons (pv 4) pa_nil)))))) (nomark _)))))), ?_⟩
    refine ⟨line_le (by simp), fun l hl => ?_⟩
    have u1 : Same H (upd H l (.lst [])) := same_new hl
    generalize upd H l (.lst []) = H1 at u1 ⊢
    refine ⟨_, rfl, rfl, _, rfl, iteD (fun e => ?_) (fun e => ?_)⟩
    · have e : j = 8 := by injection e
      subst e
      refine ⟨_, rfl, _, rfl, _, rfl, _, rfl, line_le (by simp), fun ea ta hea => ⟨ea, ta, v1, v2, v3, v4, rfl, upd_same, fun dx H2 hdx h1 h2 h3 => ⟨rfl, some dx, h1, t.C_BeyondRim, _, rfl, (ph_hitDE (i := 6) rfl T.m_LoomError T.em_BeyondRim_LoomError sc_l_rim.nd rfl rfl (fun _ => (pss_one (ps_set (i := 5) sc_l_rim.nd rfl (Or.inl rfl) (pe_lst (pa_cons (pe_callE (GE_l_others _) ((hr.mono (by omega)).held _) rfl rfl T.m_l_others T.F_l_others.kp T.b_l_others .nil pass0 (pa_cons (pv 6) pa_nil)) (pa_cons (pe_fldG (K := K) rfl (pv 6) rfl) (pa_cons (pe_fldG (K := K) rfl (pv 6) rfl) (pa_cons (pe_fldG (K := K) rfl (pv 6) rfl) (pa_cons (pe_fldG (K := K) rfl (pv 6) rfl) pa_nil)))))))))), fun e2 he2 => ?_⟩⟩⟩
      obtain ⟨s2, hd2⟩ := raised (C := t.C_BeyondRim) (ta := ta) hea hdx h1 h2 h3
      generalize dropH H2 ea = G at s2 hd2 he2 ⊢
      have u3 : Same G (upd G e2 (.ext (xcG e2 t.C_BeyondRim (some dx)))) := same_new he2
      have hx : upd G e2 (.ext (xcG e2 t.C_BeyondRim (some dx))) e2 = some (.ext (xcG e2 t.C_BeyondRim (some dx))) := upd_same
      refine ⟨_, rfl, t.C_BeyondRim, some dx, 8, rfl, hx, k12_BeyondRim T, fun q G2 u4 hq => ?_⟩
      refine ⟨_, rfl, e2, t.C_BeyondRim, dx, _, v1, rfl, u4 _ _ hx, u4 _ _ (u3 _ _ hd2), rfl, T.xg_BeyondRim_name, _, rfl, e2, t.C_BeyondRim, dx, _, v2, rfl, u4 _ _ hx, u4 _ _ (u3 _ _ hd2), rfl, T.xg_BeyondRim_array, _, rfl, e2, t.C_BeyondRim, dx, _, v3, rfl, u4 _ _ hx, u4 _ _ (u3 _ _ hd2), rfl, T.xg_BeyondRim_spot, _, rfl, e2, t.C_BeyondRim, dx, _, v4, rfl, u4 _ _ hx, u4 _ _ (u3 _ _ hd2), rfl, T.xg_BeyondRim_cell, line_le (by simp), fun L hL => ?_⟩
      have u5 : Same G2 (upd G2 L (.lst [.ref q, v1, v2, v3, v4])) := same_new hL
      have hL5 : upd G2 L (.lst [.ref q, v1, v2, v3, v4]) L = some (.lst [.ref q, v1, v2, v3, v4]) := upd_same
      generalize upd G2 L (.lst [.ref q, v1, v2, v3, v4]) = G3 at u5 hL5 ⊢
      have s5 := u1.trans (s2.trans (u3.trans (u4.trans u5)))
      refine ⟨_, rfl, _, rfl, line_le (by simp), fun z hz => ?_⟩
      have u6 : Same G3 (upd G3 z (.lst [.int 8])) := same_new hz
      have hz6 : upd G3 z (.lst [.int 8]) z = some (.lst [.int 8]) := upd_same
      generalize upd G3 z (.lst [.int 8]) = G4 at u6 hz6 ⊢
      refine ⟨_, rfl, _, rfl, _, rfl, _, rfl, line_le (by simp), fun y hy => ?_⟩
      have u7 : Same G4 (upd G4 y (.lst [.ref z, v1, v2, v3, v4])) := same_new hy
      have s7 := s5.trans (u6.trans u7)
      obtain ⟨cl, sh⟩ := dd5_ok (H := H) (H' := H) 8 D1 D2 D3 D4
      refine ⟨dd5 8 d1 d2 d3 d4, dd5 8 d1 d2 d3 d4, dd5_rep (q := q) ((u6.trans u7) _ _ hL5) ((u5.trans (u6.trans u7)) _ _ hq) (D1.same s7) (D2.same s7) (D3.same s7) (D4.same s7), dd5_rep (q := z) upd_same (u7 _ _ hz6) (D1.same s7) (D2.same s7) (D3.same s7) (D4.same s7), sh, sh, ?_⟩
      have e := SeqAt.eqv_refl _ cl
      show Q (.bl (PyData.eqv (dd5 8 d1 d2 d3 d4) (dd5 8 d1 d2 d3 d4))) _
      rw [e]
      exact k _ s7
    · have e : j = 9 := by
        rcases hj with hj | hj
        · exact absurd (by rw [hj]) e
        · exact hj
      subst e
      refine ⟨_, rfl, _, rfl, _, rfl, _, rfl, line_le (by simp), fun ea ta hea => ⟨ea, ta, v1, v2, v3, v4, rfl, upd_same, fun dx H2 hdx h1 h2 h3 => ⟨rfl, some dx, h1, t.C_NotYet, _, rfl, (ph_hitDE (i := 6) rfl T.m_LoomError T.em_NotYet_LoomError sc_l_rim.nd rfl rfl (fun _ => (pss_one (ps_set (i := 5) sc_l_rim.nd rfl (Or.inl rfl) (pe_lst (pa_cons (pe_callE (GE_l_others _) ((hr.mono (by omega)).held _) rfl rfl T.m_l_others T.F_l_others.kp T.b_l_others .nil pass0 (pa_cons (pv 6) pa_nil)) (pa_cons (pe_fldG (K := K) rfl (pv 6) rfl) (pa_cons (pe_fldG (K := K) rfl (pv 6) rfl) (pa_cons (pe_fldG (K := K) rfl (pv 6) rfl) (pa_cons (pe_fldG (K := K) rfl (pv 6) rfl) pa_nil)))))))))), fun e2 he2 => ?_⟩⟩⟩
      obtain ⟨s2, hd2⟩ := raised (C := t.C_NotYet) (ta := ta) hea hdx h1 h2 h3
      generalize dropH H2 ea = G at s2 hd2 he2 ⊢
      have u3 : Same G (upd G e2 (.ext (xcG e2 t.C_NotYet (some dx)))) := same_new he2
      have hx : upd G e2 (.ext (xcG e2 t.C_NotYet (some dx))) e2 = some (.ext (xcG e2 t.C_NotYet (some dx))) := upd_same
      refine ⟨_, rfl, t.C_NotYet, some dx, 9, rfl, hx, k12_NotYet T, fun q G2 u4 hq => ?_⟩
      refine ⟨_, rfl, e2, t.C_NotYet, dx, _, v1, rfl, u4 _ _ hx, u4 _ _ (u3 _ _ hd2), rfl, T.xg_NotYet_name, _, rfl, e2, t.C_NotYet, dx, _, v2, rfl, u4 _ _ hx, u4 _ _ (u3 _ _ hd2), rfl, T.xg_NotYet_array, _, rfl, e2, t.C_NotYet, dx, _, v3, rfl, u4 _ _ hx, u4 _ _ (u3 _ _ hd2), rfl, T.xg_NotYet_spot, _, rfl, e2, t.C_NotYet, dx, _, v4, rfl, u4 _ _ hx, u4 _ _ (u3 _ _ hd2), rfl, T.xg_NotYet_cell, line_le (by simp), fun L hL => ?_⟩
      have u5 : Same G2 (upd G2 L (.lst [.ref q, v1, v2, v3, v4])) := same_new hL
      have hL5 : upd G2 L (.lst [.ref q, v1, v2, v3, v4]) L = some (.lst [.ref q, v1, v2, v3, v4]) := upd_same
      generalize upd G2 L (.lst [.ref q, v1, v2, v3, v4]) = G3 at u5 hL5 ⊢
      have s5 := u1.trans (s2.trans (u3.trans (u4.trans u5)))
      refine ⟨_, rfl, _, rfl, line_le (by simp), fun z hz => ?_⟩
      have u6 : Same G3 (upd G3 z (.lst [.int 9])) := same_new hz
      have hz6 : upd G3 z (.lst [.int 9]) z = some (.lst [.int 9]) := upd_same
      generalize upd G3 z (.lst [.int 9]) = G4 at u6 hz6 ⊢
      refine ⟨_, rfl, _, rfl, _, rfl, _, rfl, line_le (by simp), fun y hy => ?_⟩
      have u7 : Same G4 (upd G4 y (.lst [.ref z, v1, v2, v3, v4])) := same_new hy
      have s7 := s5.trans (u6.trans u7)
      obtain ⟨cl, sh⟩ := dd5_ok (H := H) (H' := H) 9 D1 D2 D3 D4
      refine ⟨dd5 9 d1 d2 d3 d4, dd5 9 d1 d2 d3 d4, dd5_rep (q := q) ((u6.trans u7) _ _ hL5) ((u5.trans (u6.trans u7)) _ _ hq) (D1.same s7) (D2.same s7) (D3.same s7) (D4.same s7), dd5_rep (q := z) upd_same (u7 _ _ hz6) (D1.same s7) (D2.same s7) (D3.same s7) (D4.same s7), sh, sh, ?_⟩
      have e := SeqAt.eqv_refl _ cl
      show Q (.bl (PyData.eqv (dd5 9 d1 d2 d3 d4) (dd5 9 d1 d2 d3 d4))) _
      rw [e]
      exact k _ s7
theorem ok_l_clash (T : Txt K mg t) : FnOk P w K mg base CX0 3 t.f_l_clash t.d_l_clash ["_law_first", "_law_second", "_law_array", "_law_cell"] sp_l_clash := by
  have G_Clash_init := ok_Clash_init (P := P) (w := w) (base := base) T
  have GE_l_others := ok_l_others (P := P) (w := w) (base := base) T
  refine T.F_l_clash.ok sc_l_clash (fun vs H Q E h => ?_) (fun cdv A outer s H vs Q E hr h => ?_)
  · obtain ⟨v1, v2, v3, v4, d1, d2, d3, d4, rfl, _⟩ := h
    rfl
  · obtain ⟨v1, v2, v3, v4, d1, d2, d3, d4, rfl, D1, D2, D3, D4, k⟩ := h
    refine ⟨_, (pss_cons (ps_set (i := 4) sc_l_clash.nd rfl (Or.inl rfl) (pe_lst pa_nil))
      (pss_cons (ps_tryR ⟨rfl, rfl⟩ (psx_raise T.mx_Clash G_Clash_init (hr.mono (by omega)) rfl T.m_Clash T.b_Clash_init pass0 rfl (pa_cons (pv 0) (pa_cons (pv 1) (pa_cons (pv 2) (pa_cons (pv 3) pa_nil))))))
      (pss_one (ps_ret (pe_cmpR (op_eqD hr.units) (pv 4) (pe_lst (pa_cons (pe_lst (pa_cons pe_int pa_nil)) (pa_cons (pv 0) (pa_cons (pv 1) (pa_cons (pv 2) (pa_cons (pv 3) pa_nil)))))) (nomark _)))))), ?_⟩
    refine ⟨line_le (by simp), fun l hl => ?_⟩
    have u1 : Same H (upd H l (.lst [])) := same_new hl
    generalize upd H l (.lst []) = H1 at u1 ⊢
    refine ⟨_, rfl, _, rfl, _, rfl, _, rfl, line_le (by simp), fun ea ta hea => ⟨ea, ta, v1, v2, v3, v4, rfl, upd_same, fun dx H2 hdx h1 h2 h3 => ⟨rfl, some dx, h1, t.C_Clash, _, rfl, (ph_hitDE (i := 5) rfl T.m_LoomError T.em_Clash_LoomError sc_l_clash.nd rfl rfl (fun _ => (pss_one (ps_set (i := 4) sc_l_clash.nd rfl (Or.inl rfl) (pe_lst (pa_cons (pe_callE (GE_l_others _) ((hr.mono (by omega)).held _) rfl rfl T.m_l_others T.F_l_others.kp T.b_l_others .nil pass0 (pa_cons (pv 5) pa_nil)) (pa_cons (pe_fldG (K := K) rfl (pv 5) rfl) (pa_cons (pe_fldG (K := K) rfl (pv 5) rfl) (pa_cons (pe_fldG (K := K) rfl (pv 5) rfl) (pa_cons (pe_fldG (K := K) rfl (pv 5) rfl) pa_nil)))))))))), fun e2 he2 => ?_⟩⟩⟩
    obtain ⟨s2, hd2⟩ := raised (C := t.C_Clash) (ta := ta) hea hdx h1 h2 h3
    generalize dropH H2 ea = G at s2 hd2 he2 ⊢
    have u3 : Same G (upd G e2 (.ext (xcG e2 t.C_Clash (some dx)))) := same_new he2
    have hx : upd G e2 (.ext (xcG e2 t.C_Clash (some dx))) e2 = some (.ext (xcG e2 t.C_Clash (some dx))) := upd_same
    refine ⟨_, rfl, t.C_Clash, some dx, 11, rfl, hx, k12_Clash T, fun q G2 u4 hq => ?_⟩
    refine ⟨_, rfl, e2, t.C_Clash, dx, _, v1, rfl, u4 _ _ hx, u4 _ _ (u3 _ _ hd2), rfl, T.xg_Clash_first, _, rfl, e2, t.C_Clash, dx, _, v2, rfl, u4 _ _ hx, u4 _ _ (u3 _ _ hd2), rfl, T.xg_Clash_second, _, rfl, e2, t.C_Clash, dx, _, v3, rfl, u4 _ _ hx, u4 _ _ (u3 _ _ hd2), rfl, T.xg_Clash_array, _, rfl, e2, t.C_Clash, dx, _, v4, rfl, u4 _ _ hx, u4 _ _ (u3 _ _ hd2), rfl, T.xg_Clash_cell, line_le (by simp), fun L hL => ?_⟩
    have u5 : Same G2 (upd G2 L (.lst [.ref q, v1, v2, v3, v4])) := same_new hL
    have hL5 : upd G2 L (.lst [.ref q, v1, v2, v3, v4]) L = some (.lst [.ref q, v1, v2, v3, v4]) := upd_same
    generalize upd G2 L (.lst [.ref q, v1, v2, v3, v4]) = G3 at u5 hL5 ⊢
    have s5 := u1.trans (s2.trans (u3.trans (u4.trans u5)))
    refine ⟨_, rfl, line_le (by simp), fun z hz => ?_⟩
    have u6 : Same G3 (upd G3 z (.lst [.int 11])) := same_new hz
    have hz6 : upd G3 z (.lst [.int 11]) z = some (.lst [.int 11]) := upd_same
    generalize upd G3 z (.lst [.int 11]) = G4 at u6 hz6 ⊢
    refine ⟨_, rfl, _, rfl, _, rfl, _, rfl, line_le (by simp), fun y hy => ?_⟩
    have u7 : Same G4 (upd G4 y (.lst [.ref z, v1, v2, v3, v4])) := same_new hy
    have s7 := s5.trans (u6.trans u7)
    obtain ⟨cl, sh⟩ := dd5_ok (H := H) (H' := H) 11 D1 D2 D3 D4
    refine ⟨dd5 11 d1 d2 d3 d4, dd5 11 d1 d2 d3 d4, dd5_rep (q := q) ((u6.trans u7) _ _ hL5) ((u5.trans (u6.trans u7)) _ _ hq) (D1.same s7) (D2.same s7) (D3.same s7) (D4.same s7), dd5_rep (q := z) upd_same (u7 _ _ hz6) (D1.same s7) (D2.same s7) (D3.same s7) (D4.same s7), sh, sh, ?_⟩
    have e := SeqAt.eqv_refl _ cl
    show Q (.bl (PyData.eqv (dd5 11 d1 d2 d3 d4) (dd5 11 d1 d2 d3 d4))) _
    rw [e]
    exact k _ s7
theorem ok_l_move (T : Txt K mg t) : FnOk P w K mg base CX0 3 t.f_l_move t.d_l_move ["_law_place"] sp_l_move := by
  have G_NoMove_init := ok_NoMove_init (P := P) (w := w) (base := base) T
  have GE_l_others := ok_l_others (P := P) (w := w) (base := base) T
  refine T.F_l_move.ok sc_l_move (fun vs H Q E h => ?_) (fun cdv A outer s H vs Q E hr h => ?_)
  · obtain ⟨z0, rfl, _⟩ := h
    rfl
  · obtain ⟨z0, rfl, k⟩ := h
    refine ⟨_, (pss_cons (ps_set (i := 1) sc_l_move.nd rfl (Or.inl rfl) (pe_lst pa_nil))
      (pss_cons (ps_tryR ⟨rfl, rfl⟩ (psx_raise T.mx_NoMove G_NoMove_init (hr.mono (by omega)) rfl T.m_NoMove T.b_NoMove_init pass0 rfl (pa_cons (pv 0) pa_nil)))
      (pss_one (ps_ret (pe_cmpR (op_eqD hr.units) (pv 1) (pe_lst (pa_cons (pe_lst (pa_cons pe_int pa_nil)) (pa_cons (pv 0) pa_nil))) (nomark _)))))), ?_⟩
    refine ⟨line_le (by simp), fun l hl => ?_⟩
    have u1 : Same H (upd H l (.lst [])) := same_new hl
    generalize upd H l (.lst []) = H1 at u1 ⊢
    refine ⟨_, rfl, line_le (by simp), fun ea ta hea => ⟨ea, ta, .int z0, rfl, upd_same, fun dx H2 hdx h1 h2 h3 => ⟨rfl, some dx, h1, t.C_NoMove, _, rfl, (ph_hitDE (i := 2) rfl T.m_LoomError T.em_NoMove_LoomError sc_l_move.nd rfl rfl (fun _ => (pss_one (ps_set (i := 1) sc_l_move.nd rfl (Or.inl rfl) (pe_lst (pa_cons (pe_callE (GE_l_others _) ((hr.mono (by omega)).held _) rfl rfl T.m_l_others T.F_l_others.kp T.b_l_others .nil pass0 (pa_cons (pv 2) pa_nil)) (pa_cons (pe_fldG (K := K) rfl (pv 2) rfl) pa_nil))))))), fun e2 he2 => ?_⟩⟩⟩
    obtain ⟨s2, hd2⟩ := raised (C := t.C_NoMove) (ta := ta) hea hdx h1 h2 h3
    generalize dropH H2 ea = G at s2 hd2 he2 ⊢
    have u3 : Same G (upd G e2 (.ext (xcG e2 t.C_NoMove (some dx)))) := same_new he2
    have hx : upd G e2 (.ext (xcG e2 t.C_NoMove (some dx))) e2 = some (.ext (xcG e2 t.C_NoMove (some dx))) := upd_same
    refine ⟨_, rfl, t.C_NoMove, some dx, 10, rfl, hx, k12_NoMove T, fun q G2 u4 hq => ?_⟩
    refine ⟨_, rfl, e2, t.C_NoMove, dx, _, V.int z0, rfl, u4 _ _ hx, u4 _ _ (u3 _ _ hd2), rfl, T.xg_NoMove_place, line_le (by simp), fun L hL => ?_⟩
    have u5 : Same G2 (upd G2 L (.lst [.ref q, V.int z0])) := same_new hL
    have hL5 : upd G2 L (.lst [.ref q, V.int z0]) L = some (.lst [.ref q, V.int z0]) := upd_same
    generalize upd G2 L (.lst [.ref q, V.int z0]) = G3 at u5 hL5 ⊢
    have s5 := u1.trans (s2.trans (u3.trans (u4.trans u5)))
    refine ⟨_, rfl, line_le (by simp), fun z hz => ?_⟩
    have u6 : Same G3 (upd G3 z (.lst [.int 10])) := same_new hz
    have hz6 : upd G3 z (.lst [.int 10]) z = some (.lst [.int 10]) := upd_same
    generalize upd G3 z (.lst [.int 10]) = G4 at u6 hz6 ⊢
    refine ⟨_, rfl, line_le (by simp), fun y hy => ?_⟩
    have u7 : Same G4 (upd G4 y (.lst [.ref z, V.int z0])) := same_new hy
    have s7 := s5.trans (u6.trans u7)
    have cl : PyData.canLay0 (.list [.list [.int 10], .int z0]) = true := by simp [PyData.canLay0, PyData.canLayAll0]
    have sh := shaped_of cl (by simp [PyData.depth, PyData.depthAll])
    refine ⟨.list [.list [.int 10], .int z0], .list [.list [.int 10], .int z0], .lst ((u6.trans u7) _ _ hL5) (.cons (.lst ((u5.trans (u6.trans u7)) _ _ hq) (.cons (.int _) .nil)) (.cons (.int _) .nil)), .lst upd_same (.cons (.lst (u7 _ _ hz6) (.cons (.int _) .nil)) (.cons (.int _) .nil)), sh, sh, ?_⟩
    have e := SeqAt.eqv_refl _ cl
    show Q (.bl (PyData.eqv (.list [.list [.int 10], .int z0]) (.list [.list [.int 10], .int z0]))) _
    rw [e]
    exact k _ s7
def spLaw (K : PySem.W.Frag) : Sp := fun vs H Q _ => ∃ (a : Addr) (ns : List Int), vs = [.ref a] ∧ SqL K H a (ns.map V.int) ∧ ns.length ≤ 63 ∧ ∀ H', Q (.bl true) H'
theorem ok_law (T : Txt K mg t) : FnOk P w K mg base CX0 4 t.f_law t.d_law ["_law_script"] (spLaw K) := by
  have G_l_cell_at := ok_l_cell_at (P := P) (w := w) (base := base) T
  have G_l_word_by := ok_l_word_by (P := P) (w := w) (base := base) T
  have G_l_tuple_by := ok_l_tuple_by (P := P) (w := w) (base := base) T
  have G_l_step_by := ok_l_step_by (P := P) (w := w) (base := base) T
  have G_l_rim := ok_l_rim (P := P) (w := w) (base := base) T
  have G_l_clash := ok_l_clash (P := P) (w := w) (base := base) T
  have G_l_move := ok_l_move (P := P) (w := w) (base := base) T
  refine T.F_law.ok sc_law (fun vs H Q E h => ?_) (fun cdv A outer s H vs Q E hr h => ?_)
  · obtain ⟨a, ns, rfl, _⟩ := h
    rfl
  · obtain ⟨a, ns, rfl, hS, _, k⟩ := h
    refine ⟨_, (pss_cons (ps_set (i := 1) sc_law.nd rfl (Or.inl rfl) (pe_call G_l_word_by (hr.mono (by omega)) rfl T.m_l_word_by T.F_l_word_by.kp T.b_l_word_by .nil pass0 (pa_cons (pe_call G_l_cell_at (hr.mono (by omega)) rfl T.m_l_cell_at T.F_l_cell_at.kp T.b_l_cell_at .nil pass0 (pa_cons (pv 0) (pa_cons pe_int pa_nil))) pa_nil)))
      (pss_cons (ps_set (i := 2) sc_law.nd rfl (Or.inl rfl) (pe_call G_l_word_by (hr.mono (by omega)) rfl T.m_l_word_by T.F_l_word_by.kp T.b_l_word_by .nil pass0 (pa_cons (pe_call G_l_cell_at (hr.mono (by omega)) rfl T.m_l_cell_at T.F_l_cell_at.kp T.b_l_cell_at .nil pass0 (pa_cons (pv 0) (pa_cons pe_int pa_nil))) pa_nil)))
      (pss_cons (ps_set (i := 3) sc_law.nd rfl (Or.inl rfl) (pe_call G_l_tuple_by (hr.mono (by omega)) rfl T.m_l_tuple_by T.F_l_tuple_by.kp T.b_l_tuple_by .nil pass0 (pa_cons (pv 0) (pa_cons pe_int pa_nil))))
      (pss_cons (ps_set (i := 4) sc_law.nd rfl (Or.inl rfl) (pe_call G_l_tuple_by (hr.mono (by omega)) rfl T.m_l_tuple_by T.F_l_tuple_by.kp T.b_l_tuple_by .nil pass0 (pa_cons (pv 0) (pa_cons pe_int pa_nil))))
      (pss_cons (ps_if (PW.pt (pw_or (pt_not (pt_val (pe_call G_l_rim (hr.mono (by omega)) rfl T.m_l_rim T.F_l_rim.kp T.b_l_rim .nil pass0 (pa_cons pe_int (pa_cons (pv 1) (pa_cons (pv 2) (pa_cons (pv 3) (pa_cons (pv 4) pa_nil)))))))) (pw_or1 (pt_not (pt_val (pe_call G_l_rim (hr.mono (by omega)) rfl T.m_l_rim T.F_l_rim.kp T.b_l_rim .nil pass0 (pa_cons pe_int (pa_cons (pv 2) (pa_cons (pv 1) (pa_cons (pv 4) (pa_cons (pv 3) pa_nil)))))))))))
        (pss_one (ps_ret pe_bl))
        pss_nil)
      (pss_cons (ps_if (pt_not (pt_val (pe_call G_l_clash (hr.mono (by omega)) rfl T.m_l_clash T.F_l_clash.kp T.b_l_clash .nil pass0 (pa_cons (pe_call G_l_step_by (hr.mono (by omega)) rfl T.m_l_step_by T.F_l_step_by.kp T.b_l_step_by .nil pass0 (pa_cons (pv 0) (pa_cons pe_int pa_nil))) (pa_cons (pe_call G_l_step_by (hr.mono (by omega)) rfl T.m_l_step_by T.F_l_step_by.kp T.b_l_step_by .nil pass0 (pa_cons (pv 0) (pa_cons pe_int pa_nil))) (pa_cons (pv 2) (pa_cons (pv 4) pa_nil)))))))
        (pss_one (ps_ret pe_bl))
        pss_nil)
      (pss_one (ps_ret (pe_call G_l_move (hr.mono (by omega)) rfl T.m_l_move T.F_l_move.kp T.b_l_move .nil pass0 (pa_cons (pe_op op_mod (pe_call G_l_cell_at (hr.mono (by omega)) rfl T.m_l_cell_at T.F_l_cell_at.kp T.b_l_cell_at .nil pass0 (pa_cons (pv 0) (pa_cons pe_int pa_nil))) (pe_op op_pow pe_int pe_int)) pa_nil)))))))))), ?_⟩
    refine ⟨_, rfl, a, ns, 0, rfl, hS, by decide, fun c0 => ⟨c0, rfl, fun w0 o0 => ?_⟩⟩
    refine ⟨_, rfl, a, ns, 1, rfl, hS, by decide, fun c1 => ⟨c1, rfl, fun w1 o1 => ?_⟩⟩
    refine ⟨_, rfl, a, ns, 2, rfl, hS, by decide, fun q2 cs2 H2 u2 hq2 => ?_⟩
    refine ⟨_, rfl, a, ns, 5, rfl, u2.seq hS, by decide, fun q3 cs3 H3 u3 hq3 => ?_⟩
    have u23 := u2.trans u3
    refine ⟨_, rfl, _, rfl, _, rfl, _, rfl, 8, _, _, _, _, _, _, _, _, rfl, .inl rfl, Dt.str o0, Dt.str o1, Dt.ints (u3 _ _ hq2), Dt.ints hq3, fun H4 u4 => ⟨true, rfl, iteF ?_⟩⟩
    refine ⟨_, rfl, _, rfl, _, rfl, _, rfl, 9, _, _, _, _, _, _, _, _, rfl, .inr rfl, Dt.str o1, Dt.str o0, Dt.ints (u4 _ _ hq3), Dt.ints (u4 _ _ (u3 _ _ hq2)), fun H5 u5 => ⟨true, rfl, iteF ?_⟩⟩
    have u25 := u23.trans (u4.trans u5)
    refine ⟨_, rfl, a, ns, 7, rfl, u25.seq hS, by decide, fun q6 d6 H6 u6 D6 => ?_⟩
    refine ⟨_, rfl, a, ns, 9, rfl, (u25.trans u6).seq hS, by decide, fun q7 d7 H7 u7 D7 => ?_⟩
    refine ⟨_, rfl, _, rfl, _, _, _, _, _, _, _, _, rfl, D6.same u7, D7, Dt.str o1, Dt.ints (u7 _ _ (u6 _ _ (u5 _ _ (u4 _ _ hq3)))), fun H8 u8 => ⟨true, rfl, iteF ?_⟩⟩
    exact ⟨_, rfl, a, ns, 3, rfl, (u25.trans (u6.trans (u7.trans u8))).seq hS, by decide, fun c3 => ⟨_, _, rfl, rfl, ⟨by decide, by decide, by decide⟩, _, _, rfl, rfl, (by show (0 : Int) < 10 ^ (30 : Int).toNat; decide +kernel), _, rfl, fun H9 _ => k H9⟩⟩
end
end My

set_option Elab.async false
set_option linter.all false
set_option maxRecDepth 100000
set_option maxHeartbeats 4000000
/-! The head lays a twin of each constant that it meets, and of the largest ones its equation is quadratic in the constants within (some 30 MB). A constant that bears the twin's name already keeps it from laying that one. -/
def PySem.W.Fast.tw13381049096940926541 : Unit := ()
def PySem.W.Fast.tw10865549421897635804 : Unit := ()
def PySem.W.Fast.tw1870070842015865726 : Unit := ()
def PySem.W.Fast.tw15675056041023546148 : Unit := ()
def PySem.W.Fast.tw10848376993702320195 : Unit := ()
def PySem.W.Fast.tw4179336172181563172 : Unit := ()
def PySem.W.Fast.tw13161625860379602947 : Unit := ()
def PySem.W.Fast.tw14762304990325520934 : Unit := ()
def PySem.W.Fast.tw13218299397631683002 : Unit := ()
def PySem.W.Fast.tw5217105471815449181 : Unit := ()
def PySem.W.Fast.tw3992531797754132664 : Unit := ()
def PySem.W.Fast.tw15317033908479952340 : Unit := ()
def PySem.W.Fast.tw4737373067750611936 : Unit := ()
def PySem.W.Fast.tw12024117519397147184 : Unit := ()
def PySem.W.Fast.tw18061258069063677485 : Unit := ()
def PySem.W.Fast.tw6493030702760454978 : Unit := ()
def PySem.W.Fast.tw13922155086777799158 : Unit := ()
def PySem.W.Fast.tw13219801654561058309 : Unit := ()
def PySem.W.Fast.tw10428791699920745983 : Unit := ()
def PySem.W.Fast.tw7353378546363482085 : Unit := ()
def PySem.W.Fast.tw6855371834640348762 : Unit := ()
def PySem.W.Fast.tw6597118984867602857 : Unit := ()
def PySem.W.Fast.tw16078005556635195763 : Unit := ()
def PySem.W.Fast.tw8739719733090852799 : Unit := ()
def PySem.W.Fast.tw4938757650030259141 : Unit := ()
def PySem.W.Fast.tw286401966118762493 : Unit := ()
def PySem.W.Fast.tw15061312594794211403 : Unit := ()
def PySem.W.Fast.tw1266285167027449957 : Unit := ()
def PySem.W.Fast.tw13291855058000963766 : Unit := ()
def PySem.W.Fast.tw17978589874308815333 : Unit := ()
def PySem.W.Fast.tw8663648271220503415 : Unit := ()
def PySem.W.Fast.tw283550417927518254 : Unit := ()
def PySem.W.Fast.tw13852122838769727828 : Unit := ()
def PySem.W.Fast.tw3971008367060373172 : Unit := ()
namespace My
open PySem L2
theorem all_mk {l : PySem.W.OpenLaw} {w : World} {K : PySem.W.Frag} {h : Heap} {mg : Str → Option Value} {fa : Addr} (X : K.In h) (G : h.Ns mainGlobals mg) (hfa : mg "law" = some (.ref fa))
    {C_LoomError C_NoName C_NoShape C_TooMuch C_NoTable C_NoEnd C_Outside C_Unwritten C_NoText C_BeyondRim C_NotYet C_NoMove C_Clash : Addr}
    (aC_LoomError : PySem.W.nsIn K mainGlobals "LoomError" = some (some (.ref C_LoomError)))
    (aC_NoName : PySem.W.nsIn K mainGlobals "NoName" = some (some (.ref C_NoName)))
    (aC_NoShape : PySem.W.nsIn K mainGlobals "NoShape" = some (some (.ref C_NoShape)))
    (aC_TooMuch : PySem.W.nsIn K mainGlobals "TooMuch" = some (some (.ref C_TooMuch)))
    (aC_NoTable : PySem.W.nsIn K mainGlobals "NoTable" = some (some (.ref C_NoTable)))
    (aC_NoEnd : PySem.W.nsIn K mainGlobals "NoEnd" = some (some (.ref C_NoEnd)))
    (aC_Outside : PySem.W.nsIn K mainGlobals "Outside" = some (some (.ref C_Outside)))
    (aC_Unwritten : PySem.W.nsIn K mainGlobals "Unwritten" = some (some (.ref C_Unwritten)))
    (aC_NoText : PySem.W.nsIn K mainGlobals "NoText" = some (some (.ref C_NoText)))
    (aC_BeyondRim : PySem.W.nsIn K mainGlobals "BeyondRim" = some (some (.ref C_BeyondRim)))
    (aC_NotYet : PySem.W.nsIn K mainGlobals "NotYet" = some (some (.ref C_NotYet)))
    (aC_NoMove : PySem.W.nsIn K mainGlobals "NoMove" = some (some (.ref C_NoMove)))
    (aC_Clash : PySem.W.nsIn K mainGlobals "Clash" = some (some (.ref C_Clash)))
    {f0 : Addr} {od0 an0 : Option Addr} {sl0 : Array (Option Value)} {oc0 kV0 dc0 pm0 cd0 ct0 : Value}
    (a0 : PySem.W.findIn K (.ref C_BeyondRim) "__init__" = some (some (.ref f0)))
    (l0 : K.lookup f0 = some ⟨oc0, od0, .func (PySem.W.fnOf "__init__" "BeyondRim.__init__" (defArgs s_BeyondRim_init) (defBody s_BeyondRim_init) (defScope s_BeyondRim_init) .none kV0 dc0 pm0 an0 cd0 ct0), sl0⟩)
    (c0 : PySem.W.codeIn K cd0 "BeyondRim.__init__" = true)
    (k0 : PySem.W.keepIn K (.ref f0) = true)
    (i0 : PySem.W.isFn K (.ref f0) = true)
    {f1 : Addr} {od1 an1 : Option Addr} {sl1 : Array (Option Value)} {oc1 kV1 dc1 pm1 cd1 ct1 : Value}
    (a1 : PySem.W.findIn K (.ref C_NotYet) "__init__" = some (some (.ref f1)))
    (l1 : K.lookup f1 = some ⟨oc1, od1, .func (PySem.W.fnOf "__init__" "NotYet.__init__" (defArgs s_NotYet_init) (defBody s_NotYet_init) (defScope s_NotYet_init) .none kV1 dc1 pm1 an1 cd1 ct1), sl1⟩)
    (c1 : PySem.W.codeIn K cd1 "NotYet.__init__" = true)
    (k1 : PySem.W.keepIn K (.ref f1) = true)
    (i1 : PySem.W.isFn K (.ref f1) = true)
    {f2 : Addr} {od2 an2 : Option Addr} {sl2 : Array (Option Value)} {oc2 kV2 dc2 pm2 cd2 ct2 : Value}
    (a2 : PySem.W.findIn K (.ref C_NoMove) "__init__" = some (some (.ref f2)))
    (l2 : K.lookup f2 = some ⟨oc2, od2, .func (PySem.W.fnOf "__init__" "NoMove.__init__" (defArgs s_NoMove_init) (defBody s_NoMove_init) (defScope s_NoMove_init) .none kV2 dc2 pm2 an2 cd2 ct2), sl2⟩)
    (c2 : PySem.W.codeIn K cd2 "NoMove.__init__" = true)
    (k2 : PySem.W.keepIn K (.ref f2) = true)
    (i2 : PySem.W.isFn K (.ref f2) = true)
    {f3 : Addr} {od3 an3 : Option Addr} {sl3 : Array (Option Value)} {oc3 kV3 dc3 pm3 cd3 ct3 : Value}
    (a3 : PySem.W.findIn K (.ref C_Clash) "__init__" = some (some (.ref f3)))
    (l3 : K.lookup f3 = some ⟨oc3, od3, .func (PySem.W.fnOf "__init__" "Clash.__init__" (defArgs s_Clash_init) (defBody s_Clash_init) (defScope s_Clash_init) .none kV3 dc3 pm3 an3 cd3 ct3), sl3⟩)
    (c3 : PySem.W.codeIn K cd3 "Clash.__init__" = true)
    (k3 : PySem.W.keepIn K (.ref f3) = true)
    (i3 : PySem.W.isFn K (.ref f3) = true)
    {f4 : Addr} {od4 an4 : Option Addr} {sl4 : Array (Option Value)} {oc4 kV4 dc4 pm4 cd4 ct4 : Value}
    (a4 : PySem.W.nsIn K mainGlobals "_law_cell_at" = some (some (.ref f4)))
    (l4 : K.lookup f4 = some ⟨oc4, od4, .func (PySem.W.fnOf "_law_cell_at" "_law_cell_at" (defArgs s_l_cell_at) (defBody s_l_cell_at) (defScope s_l_cell_at) .none kV4 dc4 pm4 an4 cd4 ct4), sl4⟩)
    (c4 : PySem.W.codeIn K cd4 "_law_cell_at" = true)
    (k4 : PySem.W.keepIn K (.ref f4) = true)
    {f5 : Addr} {od5 an5 : Option Addr} {sl5 : Array (Option Value)} {oc5 kV5 dc5 pm5 cd5 ct5 : Value}
    (a5 : PySem.W.nsIn K mainGlobals "_law_word_by" = some (some (.ref f5)))
    (l5 : K.lookup f5 = some ⟨oc5, od5, .func (PySem.W.fnOf "_law_word_by" "_law_word_by" (defArgs s_l_word_by) (defBody s_l_word_by) (defScope s_l_word_by) .none kV5 dc5 pm5 an5 cd5 ct5), sl5⟩)
    (c5 : PySem.W.codeIn K cd5 "_law_word_by" = true)
    (k5 : PySem.W.keepIn K (.ref f5) = true)
    {f6 : Addr} {od6 an6 : Option Addr} {sl6 : Array (Option Value)} {oc6 kV6 dc6 pm6 cd6 ct6 : Value}
    (a6 : PySem.W.nsIn K mainGlobals "_law_tuple_by" = some (some (.ref f6)))
    (l6 : K.lookup f6 = some ⟨oc6, od6, .func (PySem.W.fnOf "_law_tuple_by" "_law_tuple_by" (defArgs s_l_tuple_by) (defBody s_l_tuple_by) (defScope s_l_tuple_by) .none kV6 dc6 pm6 an6 cd6 ct6), sl6⟩)
    (c6 : PySem.W.codeIn K cd6 "_law_tuple_by" = true)
    (k6 : PySem.W.keepIn K (.ref f6) = true)
    {f7 : Addr} {od7 an7 : Option Addr} {sl7 : Array (Option Value)} {oc7 kV7 dc7 pm7 cd7 ct7 : Value}
    (a7 : PySem.W.nsIn K mainGlobals "_law_step_by" = some (some (.ref f7)))
    (l7 : K.lookup f7 = some ⟨oc7, od7, .func (PySem.W.fnOf "_law_step_by" "_law_step_by" (defArgs s_l_step_by) (defBody s_l_step_by) (defScope s_l_step_by) .none kV7 dc7 pm7 an7 cd7 ct7), sl7⟩)
    (c7 : PySem.W.codeIn K cd7 "_law_step_by" = true)
    (k7 : PySem.W.keepIn K (.ref f7) = true)
    {f8 : Addr} {od8 an8 : Option Addr} {sl8 : Array (Option Value)} {oc8 kV8 dc8 pm8 cd8 ct8 : Value}
    (a8 : PySem.W.nsIn K mainGlobals "_law_others" = some (some (.ref f8)))
    (l8 : K.lookup f8 = some ⟨oc8, od8, .func (PySem.W.fnOf "_law_others" "_law_others" (defArgs s_l_others) (defBody s_l_others) (defScope s_l_others) .none kV8 dc8 pm8 an8 cd8 ct8), sl8⟩)
    (c8 : PySem.W.codeIn K cd8 "_law_others" = true)
    (k8 : PySem.W.keepIn K (.ref f8) = true)
    {f9 : Addr} {od9 an9 : Option Addr} {sl9 : Array (Option Value)} {oc9 kV9 dc9 pm9 cd9 ct9 : Value}
    (a9 : PySem.W.nsIn K mainGlobals "_law_rim" = some (some (.ref f9)))
    (l9 : K.lookup f9 = some ⟨oc9, od9, .func (PySem.W.fnOf "_law_rim" "_law_rim" (defArgs s_l_rim) (defBody s_l_rim) (defScope s_l_rim) .none kV9 dc9 pm9 an9 cd9 ct9), sl9⟩)
    (c9 : PySem.W.codeIn K cd9 "_law_rim" = true)
    (k9 : PySem.W.keepIn K (.ref f9) = true)
    {f10 : Addr} {od10 an10 : Option Addr} {sl10 : Array (Option Value)} {oc10 kV10 dc10 pm10 cd10 ct10 : Value}
    (a10 : PySem.W.nsIn K mainGlobals "_law_clash" = some (some (.ref f10)))
    (l10 : K.lookup f10 = some ⟨oc10, od10, .func (PySem.W.fnOf "_law_clash" "_law_clash" (defArgs s_l_clash) (defBody s_l_clash) (defScope s_l_clash) .none kV10 dc10 pm10 an10 cd10 ct10), sl10⟩)
    (c10 : PySem.W.codeIn K cd10 "_law_clash" = true)
    (k10 : PySem.W.keepIn K (.ref f10) = true)
    {f11 : Addr} {od11 an11 : Option Addr} {sl11 : Array (Option Value)} {oc11 kV11 dc11 pm11 cd11 ct11 : Value}
    (a11 : PySem.W.nsIn K mainGlobals "_law_move" = some (some (.ref f11)))
    (l11 : K.lookup f11 = some ⟨oc11, od11, .func (PySem.W.fnOf "_law_move" "_law_move" (defArgs s_l_move) (defBody s_l_move) (defScope s_l_move) .none kV11 dc11 pm11 an11 cd11 ct11), sl11⟩)
    (c11 : PySem.W.codeIn K cd11 "_law_move" = true)
    (k11 : PySem.W.keepIn K (.ref f11) = true)
    {f12 : Addr} {od12 an12 : Option Addr} {sl12 : Array (Option Value)} {oc12 kV12 dc12 pm12 cd12 ct12 : Value}
    (a12 : PySem.W.nsIn K mainGlobals "law" = some (some (.ref f12)))
    (l12 : K.lookup f12 = some ⟨oc12, od12, .func (PySem.W.fnOf "law" "law" (defArgs s_law) (defBody s_law) (defScope s_law) .none kV12 dc12 pm12 an12 cd12 ct12), sl12⟩)
    (c12 : PySem.W.codeIn K cd12 "law" = true)
    (k12 : PySem.W.keepIn K (.ref f12) = true)
    (xe_BeyondRim : PySem.W.excInI K C_BeyondRim f0 [.type "ValueError", .type "Exception", .type "BaseException", .type "object"] "ValueError.__new__" = true)
    (kc_BeyondRim : PySem.W.keepIn K (.ref C_BeyondRim) = true)
    (sx_BeyondRim : PySem.W.findIn K (.ref C_BeyondRim) "__setattr__" = some (some (.builtin "object.__setattr__")))
    (xo_BeyondRim : PySem.W.excOver K C_BeyondRim = true)
    (xh_BeyondRim : (PySem.W.clsIn K C_BeyondRim).any (·.hasDict) = true)
    (na_BeyondRim_name : PySem.W.findIn K (.ref C_BeyondRim) "name" = some none)
    (na_BeyondRim_array : PySem.W.findIn K (.ref C_BeyondRim) "array" = some none)
    (na_BeyondRim_spot : PySem.W.findIn K (.ref C_BeyondRim) "spot" = some none)
    (na_BeyondRim_cell : PySem.W.findIn K (.ref C_BeyondRim) "cell" = some none)
    (xe_Clash : PySem.W.excInI K C_Clash f3 [.type "ValueError", .type "Exception", .type "BaseException", .type "object"] "ValueError.__new__" = true)
    (kc_Clash : PySem.W.keepIn K (.ref C_Clash) = true)
    (sx_Clash : PySem.W.findIn K (.ref C_Clash) "__setattr__" = some (some (.builtin "object.__setattr__")))
    (xo_Clash : PySem.W.excOver K C_Clash = true)
    (xh_Clash : (PySem.W.clsIn K C_Clash).any (·.hasDict) = true)
    (na_Clash_first : PySem.W.findIn K (.ref C_Clash) "first" = some none)
    (na_Clash_second : PySem.W.findIn K (.ref C_Clash) "second" = some none)
    (na_Clash_array : PySem.W.findIn K (.ref C_Clash) "array" = some none)
    (na_Clash_cell : PySem.W.findIn K (.ref C_Clash) "cell" = some none)
    (xe_NoMove : PySem.W.excInI K C_NoMove f2 [.type "ValueError", .type "Exception", .type "BaseException", .type "object"] "ValueError.__new__" = true)
    (kc_NoMove : PySem.W.keepIn K (.ref C_NoMove) = true)
    (sx_NoMove : PySem.W.findIn K (.ref C_NoMove) "__setattr__" = some (some (.builtin "object.__setattr__")))
    (xo_NoMove : PySem.W.excOver K C_NoMove = true)
    (xh_NoMove : (PySem.W.clsIn K C_NoMove).any (·.hasDict) = true)
    (na_NoMove_place : PySem.W.findIn K (.ref C_NoMove) "place" = some none)
    (xe_NotYet : PySem.W.excInI K C_NotYet f1 [.type "ValueError", .type "Exception", .type "BaseException", .type "object"] "ValueError.__new__" = true)
    (kc_NotYet : PySem.W.keepIn K (.ref C_NotYet) = true)
    (sx_NotYet : PySem.W.findIn K (.ref C_NotYet) "__setattr__" = some (some (.builtin "object.__setattr__")))
    (xo_NotYet : PySem.W.excOver K C_NotYet = true)
    (xh_NotYet : (PySem.W.clsIn K C_NotYet).any (·.hasDict) = true)
    (na_NotYet_name : PySem.W.findIn K (.ref C_NotYet) "name" = some none)
    (na_NotYet_array : PySem.W.findIn K (.ref C_NotYet) "array" = some none)
    (na_NotYet_spot : PySem.W.findIn K (.ref C_NotYet) "spot" = some none)
    (na_NotYet_cell : PySem.W.findIn K (.ref C_NotYet) "cell" = some none)
    (xm_BeyondRim_ValueError : PySem.W.mroIn K C_BeyondRim (.type "ValueError") = some true)
    (xm_NotYet_ValueError : PySem.W.mroIn K C_NotYet (.type "ValueError") = some true)
    (xm_NoMove_ValueError : PySem.W.mroIn K C_NoMove (.type "ValueError") = some true)
    (xm_Clash_ValueError : PySem.W.mroIn K C_Clash (.type "ValueError") = some true)
    (x1_BeyondRim : PySem.W.findIn K (.ref C_BeyondRim) "__getattribute__" = some (some (.builtin "BaseException.__getattribute__")))
    (x2_BeyondRim : PySem.W.findIn K (.ref C_BeyondRim) "__getattr__" = some none)
    (x3_BeyondRim : PySem.W.mroIn K C_BeyondRim (.type "BaseException") = some true)
    (x4_BeyondRim : PySem.W.mroIn K C_BeyondRim (.type "object") = some true)
    (x5_BeyondRim : PySem.W.findIn K (.ref C_BeyondRim) "__class__" = some (some (.builtin "object.__class__")))
    (x6_BeyondRim : PySem.W.specialIn K (.builtin "object.__class__") "__get__" = some (some (.builtin "getset_descriptor.__get__")))
    (x7_BeyondRim : PySem.W.takesIn K (.builtin "object.__class__") = some true)
    (cs_NoEnd : PySem.W.isClsIn K C_NoEnd = true)
    (ct_NoEnd : PySem.W.typeIn K (.ref C_NoEnd) = some (.type "type"))
    (mr_BeyondRim_NoEnd : PySem.W.mroIn K C_BeyondRim (.ref C_NoEnd) = some false)
    (ne_BeyondRim_NoEnd : (Value.ref C_BeyondRim == Value.ref C_NoEnd) = false)
    (cs_NoName : PySem.W.isClsIn K C_NoName = true)
    (ct_NoName : PySem.W.typeIn K (.ref C_NoName) = some (.type "type"))
    (mr_BeyondRim_NoName : PySem.W.mroIn K C_BeyondRim (.ref C_NoName) = some false)
    (ne_BeyondRim_NoName : (Value.ref C_BeyondRim == Value.ref C_NoName) = false)
    (cs_NoShape : PySem.W.isClsIn K C_NoShape = true)
    (ct_NoShape : PySem.W.typeIn K (.ref C_NoShape) = some (.type "type"))
    (mr_BeyondRim_NoShape : PySem.W.mroIn K C_BeyondRim (.ref C_NoShape) = some false)
    (ne_BeyondRim_NoShape : (Value.ref C_BeyondRim == Value.ref C_NoShape) = false)
    (cs_NoTable : PySem.W.isClsIn K C_NoTable = true)
    (ct_NoTable : PySem.W.typeIn K (.ref C_NoTable) = some (.type "type"))
    (mr_BeyondRim_NoTable : PySem.W.mroIn K C_BeyondRim (.ref C_NoTable) = some false)
    (ne_BeyondRim_NoTable : (Value.ref C_BeyondRim == Value.ref C_NoTable) = false)
    (cs_NoText : PySem.W.isClsIn K C_NoText = true)
    (ct_NoText : PySem.W.typeIn K (.ref C_NoText) = some (.type "type"))
    (mr_BeyondRim_NoText : PySem.W.mroIn K C_BeyondRim (.ref C_NoText) = some false)
    (ne_BeyondRim_NoText : (Value.ref C_BeyondRim == Value.ref C_NoText) = false)
    (cs_Outside : PySem.W.isClsIn K C_Outside = true)
    (ct_Outside : PySem.W.typeIn K (.ref C_Outside) = some (.type "type"))
    (mr_BeyondRim_Outside : PySem.W.mroIn K C_BeyondRim (.ref C_Outside) = some false)
    (ne_BeyondRim_Outside : (Value.ref C_BeyondRim == Value.ref C_Outside) = false)
    (cs_TooMuch : PySem.W.isClsIn K C_TooMuch = true)
    (ct_TooMuch : PySem.W.typeIn K (.ref C_TooMuch) = some (.type "type"))
    (mr_BeyondRim_TooMuch : PySem.W.mroIn K C_BeyondRim (.ref C_TooMuch) = some false)
    (ne_BeyondRim_TooMuch : (Value.ref C_BeyondRim == Value.ref C_TooMuch) = false)
    (cs_Unwritten : PySem.W.isClsIn K C_Unwritten = true)
    (ct_Unwritten : PySem.W.typeIn K (.ref C_Unwritten) = some (.type "type"))
    (mr_BeyondRim_Unwritten : PySem.W.mroIn K C_BeyondRim (.ref C_Unwritten) = some false)
    (ne_BeyondRim_Unwritten : (Value.ref C_BeyondRim == Value.ref C_Unwritten) = false)
    (cs_BeyondRim : PySem.W.isClsIn K C_BeyondRim = true)
    (ct_BeyondRim : PySem.W.typeIn K (.ref C_BeyondRim) = some (.type "type"))
    (mr_BeyondRim_BeyondRim : PySem.W.mroIn K C_BeyondRim (.ref C_BeyondRim) = some true)
    (cs_NotYet : PySem.W.isClsIn K C_NotYet = true)
    (ct_NotYet : PySem.W.typeIn K (.ref C_NotYet) = some (.type "type"))
    (mr_BeyondRim_NotYet : PySem.W.mroIn K C_BeyondRim (.ref C_NotYet) = some false)
    (ne_BeyondRim_NotYet : (Value.ref C_BeyondRim == Value.ref C_NotYet) = false)
    (cs_NoMove : PySem.W.isClsIn K C_NoMove = true)
    (ct_NoMove : PySem.W.typeIn K (.ref C_NoMove) = some (.type "type"))
    (mr_BeyondRim_NoMove : PySem.W.mroIn K C_BeyondRim (.ref C_NoMove) = some false)
    (ne_BeyondRim_NoMove : (Value.ref C_BeyondRim == Value.ref C_NoMove) = false)
    (cs_Clash : PySem.W.isClsIn K C_Clash = true)
    (ct_Clash : PySem.W.typeIn K (.ref C_Clash) = some (.type "type"))
    (mr_BeyondRim_Clash : PySem.W.mroIn K C_BeyondRim (.ref C_Clash) = some false)
    (ne_BeyondRim_Clash : (Value.ref C_BeyondRim == Value.ref C_Clash) = false)
    (x1_NotYet : PySem.W.findIn K (.ref C_NotYet) "__getattribute__" = some (some (.builtin "BaseException.__getattribute__")))
    (x2_NotYet : PySem.W.findIn K (.ref C_NotYet) "__getattr__" = some none)
    (x3_NotYet : PySem.W.mroIn K C_NotYet (.type "BaseException") = some true)
    (x4_NotYet : PySem.W.mroIn K C_NotYet (.type "object") = some true)
    (x5_NotYet : PySem.W.findIn K (.ref C_NotYet) "__class__" = some (some (.builtin "object.__class__")))
    (x6_NotYet : PySem.W.specialIn K (.builtin "object.__class__") "__get__" = some (some (.builtin "getset_descriptor.__get__")))
    (x7_NotYet : PySem.W.takesIn K (.builtin "object.__class__") = some true)
    (mr_NotYet_NoEnd : PySem.W.mroIn K C_NotYet (.ref C_NoEnd) = some false)
    (ne_NotYet_NoEnd : (Value.ref C_NotYet == Value.ref C_NoEnd) = false)
    (mr_NotYet_NoName : PySem.W.mroIn K C_NotYet (.ref C_NoName) = some false)
    (ne_NotYet_NoName : (Value.ref C_NotYet == Value.ref C_NoName) = false)
    (mr_NotYet_NoShape : PySem.W.mroIn K C_NotYet (.ref C_NoShape) = some false)
    (ne_NotYet_NoShape : (Value.ref C_NotYet == Value.ref C_NoShape) = false)
    (mr_NotYet_NoTable : PySem.W.mroIn K C_NotYet (.ref C_NoTable) = some false)
    (ne_NotYet_NoTable : (Value.ref C_NotYet == Value.ref C_NoTable) = false)
    (mr_NotYet_NoText : PySem.W.mroIn K C_NotYet (.ref C_NoText) = some false)
    (ne_NotYet_NoText : (Value.ref C_NotYet == Value.ref C_NoText) = false)
    (mr_NotYet_Outside : PySem.W.mroIn K C_NotYet (.ref C_Outside) = some false)
    (ne_NotYet_Outside : (Value.ref C_NotYet == Value.ref C_Outside) = false)
    (mr_NotYet_TooMuch : PySem.W.mroIn K C_NotYet (.ref C_TooMuch) = some false)
    (ne_NotYet_TooMuch : (Value.ref C_NotYet == Value.ref C_TooMuch) = false)
    (mr_NotYet_Unwritten : PySem.W.mroIn K C_NotYet (.ref C_Unwritten) = some false)
    (ne_NotYet_Unwritten : (Value.ref C_NotYet == Value.ref C_Unwritten) = false)
    (mr_NotYet_BeyondRim : PySem.W.mroIn K C_NotYet (.ref C_BeyondRim) = some false)
    (ne_NotYet_BeyondRim : (Value.ref C_NotYet == Value.ref C_BeyondRim) = false)
    (mr_NotYet_NotYet : PySem.W.mroIn K C_NotYet (.ref C_NotYet) = some true)
    (mr_NotYet_NoMove : PySem.W.mroIn K C_NotYet (.ref C_NoMove) = some false)
    (ne_NotYet_NoMove : (Value.ref C_NotYet == Value.ref C_NoMove) = false)
    (mr_NotYet_Clash : PySem.W.mroIn K C_NotYet (.ref C_Clash) = some false)
    (ne_NotYet_Clash : (Value.ref C_NotYet == Value.ref C_Clash) = false)
    (x1_NoMove : PySem.W.findIn K (.ref C_NoMove) "__getattribute__" = some (some (.builtin "BaseException.__getattribute__")))
    (x2_NoMove : PySem.W.findIn K (.ref C_NoMove) "__getattr__" = some none)
    (x3_NoMove : PySem.W.mroIn K C_NoMove (.type "BaseException") = some true)
    (x4_NoMove : PySem.W.mroIn K C_NoMove (.type "object") = some true)
    (x5_NoMove : PySem.W.findIn K (.ref C_NoMove) "__class__" = some (some (.builtin "object.__class__")))
    (x6_NoMove : PySem.W.specialIn K (.builtin "object.__class__") "__get__" = some (some (.builtin "getset_descriptor.__get__")))
    (x7_NoMove : PySem.W.takesIn K (.builtin "object.__class__") = some true)
    (mr_NoMove_NoEnd : PySem.W.mroIn K C_NoMove (.ref C_NoEnd) = some false)
    (ne_NoMove_NoEnd : (Value.ref C_NoMove == Value.ref C_NoEnd) = false)
    (mr_NoMove_NoName : PySem.W.mroIn K C_NoMove (.ref C_NoName) = some false)
    (ne_NoMove_NoName : (Value.ref C_NoMove == Value.ref C_NoName) = false)
    (mr_NoMove_NoShape : PySem.W.mroIn K C_NoMove (.ref C_NoShape) = some false)
    (ne_NoMove_NoShape : (Value.ref C_NoMove == Value.ref C_NoShape) = false)
    (mr_NoMove_NoTable : PySem.W.mroIn K C_NoMove (.ref C_NoTable) = some false)
    (ne_NoMove_NoTable : (Value.ref C_NoMove == Value.ref C_NoTable) = false)
    (mr_NoMove_NoText : PySem.W.mroIn K C_NoMove (.ref C_NoText) = some false)
    (ne_NoMove_NoText : (Value.ref C_NoMove == Value.ref C_NoText) = false)
    (mr_NoMove_Outside : PySem.W.mroIn K C_NoMove (.ref C_Outside) = some false)
    (ne_NoMove_Outside : (Value.ref C_NoMove == Value.ref C_Outside) = false)
    (mr_NoMove_TooMuch : PySem.W.mroIn K C_NoMove (.ref C_TooMuch) = some false)
    (ne_NoMove_TooMuch : (Value.ref C_NoMove == Value.ref C_TooMuch) = false)
    (mr_NoMove_Unwritten : PySem.W.mroIn K C_NoMove (.ref C_Unwritten) = some false)
    (ne_NoMove_Unwritten : (Value.ref C_NoMove == Value.ref C_Unwritten) = false)
    (mr_NoMove_BeyondRim : PySem.W.mroIn K C_NoMove (.ref C_BeyondRim) = some false)
    (ne_NoMove_BeyondRim : (Value.ref C_NoMove == Value.ref C_BeyondRim) = false)
    (mr_NoMove_NotYet : PySem.W.mroIn K C_NoMove (.ref C_NotYet) = some false)
    (ne_NoMove_NotYet : (Value.ref C_NoMove == Value.ref C_NotYet) = false)
    (mr_NoMove_NoMove : PySem.W.mroIn K C_NoMove (.ref C_NoMove) = some true)
    (mr_NoMove_Clash : PySem.W.mroIn K C_NoMove (.ref C_Clash) = some false)
    (ne_NoMove_Clash : (Value.ref C_NoMove == Value.ref C_Clash) = false)
    (x1_Clash : PySem.W.findIn K (.ref C_Clash) "__getattribute__" = some (some (.builtin "BaseException.__getattribute__")))
    (x2_Clash : PySem.W.findIn K (.ref C_Clash) "__getattr__" = some none)
    (x3_Clash : PySem.W.mroIn K C_Clash (.type "BaseException") = some true)
    (x4_Clash : PySem.W.mroIn K C_Clash (.type "object") = some true)
    (x5_Clash : PySem.W.findIn K (.ref C_Clash) "__class__" = some (some (.builtin "object.__class__")))
    (x6_Clash : PySem.W.specialIn K (.builtin "object.__class__") "__get__" = some (some (.builtin "getset_descriptor.__get__")))
    (x7_Clash : PySem.W.takesIn K (.builtin "object.__class__") = some true)
    (mr_Clash_NoEnd : PySem.W.mroIn K C_Clash (.ref C_NoEnd) = some false)
    (ne_Clash_NoEnd : (Value.ref C_Clash == Value.ref C_NoEnd) = false)
    (mr_Clash_NoName : PySem.W.mroIn K C_Clash (.ref C_NoName) = some false)
    (ne_Clash_NoName : (Value.ref C_Clash == Value.ref C_NoName) = false)
    (mr_Clash_NoShape : PySem.W.mroIn K C_Clash (.ref C_NoShape) = some false)
    (ne_Clash_NoShape : (Value.ref C_Clash == Value.ref C_NoShape) = false)
    (mr_Clash_NoTable : PySem.W.mroIn K C_Clash (.ref C_NoTable) = some false)
    (ne_Clash_NoTable : (Value.ref C_Clash == Value.ref C_NoTable) = false)
    (mr_Clash_NoText : PySem.W.mroIn K C_Clash (.ref C_NoText) = some false)
    (ne_Clash_NoText : (Value.ref C_Clash == Value.ref C_NoText) = false)
    (mr_Clash_Outside : PySem.W.mroIn K C_Clash (.ref C_Outside) = some false)
    (ne_Clash_Outside : (Value.ref C_Clash == Value.ref C_Outside) = false)
    (mr_Clash_TooMuch : PySem.W.mroIn K C_Clash (.ref C_TooMuch) = some false)
    (ne_Clash_TooMuch : (Value.ref C_Clash == Value.ref C_TooMuch) = false)
    (mr_Clash_Unwritten : PySem.W.mroIn K C_Clash (.ref C_Unwritten) = some false)
    (ne_Clash_Unwritten : (Value.ref C_Clash == Value.ref C_Unwritten) = false)
    (mr_Clash_BeyondRim : PySem.W.mroIn K C_Clash (.ref C_BeyondRim) = some false)
    (ne_Clash_BeyondRim : (Value.ref C_Clash == Value.ref C_BeyondRim) = false)
    (mr_Clash_NotYet : PySem.W.mroIn K C_Clash (.ref C_NotYet) = some false)
    (ne_Clash_NotYet : (Value.ref C_Clash == Value.ref C_NotYet) = false)
    (mr_Clash_NoMove : PySem.W.mroIn K C_Clash (.ref C_NoMove) = some false)
    (ne_Clash_NoMove : (Value.ref C_Clash == Value.ref C_NoMove) = false)
    (mr_Clash_Clash : PySem.W.mroIn K C_Clash (.ref C_Clash) = some true)
    (cs_LoomError : PySem.W.isClsIn K C_LoomError = true)
    (ct_LoomError : PySem.W.typeIn K (.ref C_LoomError) = some (.type "type"))
    (mr_BeyondRim_LoomError : PySem.W.mroIn K C_BeyondRim (.ref C_LoomError) = some true)
    (eb_LoomError : PySem.W.mroIn K C_LoomError (.type "BaseException") = some true)
    (mr_NotYet_LoomError : PySem.W.mroIn K C_NotYet (.ref C_LoomError) = some true)
    (mr_NoMove_LoomError : PySem.W.mroIn K C_NoMove (.ref C_LoomError) = some true)
    (mr_Clash_LoomError : PySem.W.mroIn K C_Clash (.ref C_LoomError) = some true)
    (z_len : PySem.W.nsIn K mainGlobals "len" = some none)
    (z_range : PySem.W.nsIn K mainGlobals "range" = some none)
    (z_isinstance : PySem.W.nsIn K mainGlobals "isinstance" = some none)
    (z_ValueError : PySem.W.nsIn K mainGlobals "ValueError" = some none)
    : ∃ fd : FuncData, (∀ (s : Shared) (v : Value), BindsTo s fd ⟨[v], []⟩ [("_law_script", v)]) ∧ ∀ base : Heap, K.In base → base.Ns mainGlobals mg → FnOk l.prog w K mg base CX0 4 fa fd ["_law_script"] (spLaw K) := by
  have e := hfa.symm.trans (PySem.W.mg_of X G a12)
  cases e
  have F0 := fun_mk (st := s_BeyondRim_init) l0 c0 k0
  have b0 := F0.binds (ps := ["self", "name", "array", "spot", "cell"]) fun _ _ _ _ _ _ us hl => match us, hl with | [_, _, _, _, _], _ => rfl
  have F1 := fun_mk (st := s_NotYet_init) l1 c1 k1
  have b1 := F1.binds (ps := ["self", "name", "array", "spot", "cell"]) fun _ _ _ _ _ _ us hl => match us, hl with | [_, _, _, _, _], _ => rfl
  have F2 := fun_mk (st := s_NoMove_init) l2 c2 k2
  have b2 := F2.binds (ps := ["self", "place"]) fun _ _ _ _ _ _ us hl => match us, hl with | [_, _], _ => rfl
  have F3 := fun_mk (st := s_Clash_init) l3 c3 k3
  have b3 := F3.binds (ps := ["self", "first", "second", "array", "cell"]) fun _ _ _ _ _ _ us hl => match us, hl with | [_, _, _, _, _], _ => rfl
  have F4 := fun_mk (st := s_l_cell_at) l4 c4 k4
  have b4 := F4.binds (ps := ["_law_script", "_law_k"]) fun _ _ _ _ _ _ us hl => match us, hl with | [_, _], _ => rfl
  have F5 := fun_mk (st := s_l_word_by) l5 c5 k5
  have b5 := F5.binds (ps := ["_law_cell"]) fun _ _ _ _ _ _ us hl => match us, hl with | [_], _ => rfl
  have F6 := fun_mk (st := s_l_tuple_by) l6 c6 k6
  have b6 := F6.binds (ps := ["_law_script", "_law_k"]) fun _ _ _ _ _ _ us hl => match us, hl with | [_, _], _ => rfl
  have F7 := fun_mk (st := s_l_step_by) l7 c7 k7
  have b7 := F7.binds (ps := ["_law_script", "_law_k"]) fun _ _ _ _ _ _ us hl => match us, hl with | [_, _], _ => rfl
  have F8 := fun_mk (st := s_l_others) l8 c8 k8
  have b8 := F8.binds (ps := ["_law_e"]) fun _ _ _ _ _ _ us hl => match us, hl with | [_], _ => rfl
  have F9 := fun_mk (st := s_l_rim) l9 c9 k9
  have b9 := F9.binds (ps := ["_law_sort", "_law_name", "_law_array", "_law_spot", "_law_cell"]) fun _ _ _ _ _ _ us hl => match us, hl with | [_, _, _, _, _], _ => rfl
  have F10 := fun_mk (st := s_l_clash) l10 c10 k10
  have b10 := F10.binds (ps := ["_law_first", "_law_second", "_law_array", "_law_cell"]) fun _ _ _ _ _ _ us hl => match us, hl with | [_, _, _, _], _ => rfl
  have F11 := fun_mk (st := s_l_move) l11 c11 k11
  have b11 := F11.binds (ps := ["_law_place"]) fun _ _ _ _ _ _ us hl => match us, hl with | [_], _ => rfl
  have F12 := fun_mk (st := s_law) l12 c12 k12
  have b12 := F12.binds (ps := ["_law_script"]) fun _ _ _ _ _ _ us hl => match us, hl with | [_], _ => rfl
  exact ⟨_, fun s v => .of_eq rfl, fun base _ _ => ok_law (t := ⟨C_LoomError, C_NoName, C_NoShape, C_TooMuch, C_NoTable, C_NoEnd, C_Outside, C_Unwritten, C_NoText, C_BeyondRim, C_NotYet, C_NoMove, C_Clash, f0, _, f1, _, f2, _, f3, _, f4, _, f5, _, f6, _, f7, _, f8, _, f9, _, f10, _, f11, _, fa, _⟩) ⟨F0, b0, F1, b1, F2, b2, F3, b3, F4, PySem.W.mg_of X G a4, b4, F5, PySem.W.mg_of X G a5, b5, F6, PySem.W.mg_of X G a6, b6, F7, PySem.W.mg_of X G a7, b7, F8, PySem.W.mg_of X G a8, b8, F9, PySem.W.mg_of X G a9, b9, F10, PySem.W.mg_of X G a10, b10, F11, PySem.W.mg_of X G a11, b11, F12, PySem.W.mg_of X G a12, b12, PySem.W.mg_of X G aC_BeyondRim, PySem.W.mg_of X G aC_Clash, PySem.W.mg_of X G aC_LoomError, PySem.W.mg_of X G aC_NoEnd, PySem.W.mg_of X G aC_NoMove, PySem.W.mg_of X G aC_NoName, PySem.W.mg_of X G aC_NoShape, PySem.W.mg_of X G aC_NoTable, PySem.W.mg_of X G aC_NoText, PySem.W.mg_of X G aC_NotYet, PySem.W.mg_of X G aC_Outside, PySem.W.mg_of X G aC_TooMuch, PySem.W.mg_of X G aC_Unwritten, ⟨xe_BeyondRim, kc_BeyondRim⟩, ⟨sx_BeyondRim, xo_BeyondRim, xh_BeyondRim, na_BeyondRim_name⟩, ⟨sx_BeyondRim, xo_BeyondRim, xh_BeyondRim, na_BeyondRim_array⟩, ⟨sx_BeyondRim, xo_BeyondRim, xh_BeyondRim, na_BeyondRim_spot⟩, ⟨sx_BeyondRim, xo_BeyondRim, xh_BeyondRim, na_BeyondRim_cell⟩, ⟨xe_Clash, kc_Clash⟩, ⟨sx_Clash, xo_Clash, xh_Clash, na_Clash_first⟩, ⟨sx_Clash, xo_Clash, xh_Clash, na_Clash_second⟩, ⟨sx_Clash, xo_Clash, xh_Clash, na_Clash_array⟩, ⟨sx_Clash, xo_Clash, xh_Clash, na_Clash_cell⟩, ⟨xe_NoMove, kc_NoMove⟩, ⟨sx_NoMove, xo_NoMove, xh_NoMove, na_NoMove_place⟩, ⟨xe_NotYet, kc_NotYet⟩, ⟨sx_NotYet, xo_NotYet, xh_NotYet, na_NotYet_name⟩, ⟨sx_NotYet, xo_NotYet, xh_NotYet, na_NotYet_array⟩, ⟨sx_NotYet, xo_NotYet, xh_NotYet, na_NotYet_spot⟩, ⟨sx_NotYet, xo_NotYet, xh_NotYet, na_NotYet_cell⟩, ⟨⟨x1_BeyondRim, x2_BeyondRim, x3_BeyondRim, x4_BeyondRim, x5_BeyondRim, x6_BeyondRim, x7_BeyondRim⟩, xh_BeyondRim, na_BeyondRim_name⟩, ⟨⟨x1_BeyondRim, x2_BeyondRim, x3_BeyondRim, x4_BeyondRim, x5_BeyondRim, x6_BeyondRim, x7_BeyondRim⟩, xh_BeyondRim, na_BeyondRim_array⟩, ⟨⟨x1_BeyondRim, x2_BeyondRim, x3_BeyondRim, x4_BeyondRim, x5_BeyondRim, x6_BeyondRim, x7_BeyondRim⟩, xh_BeyondRim, na_BeyondRim_spot⟩, ⟨⟨x1_BeyondRim, x2_BeyondRim, x3_BeyondRim, x4_BeyondRim, x5_BeyondRim, x6_BeyondRim, x7_BeyondRim⟩, xh_BeyondRim, na_BeyondRim_cell⟩, ⟨⟨x1_NotYet, x2_NotYet, x3_NotYet, x4_NotYet, x5_NotYet, x6_NotYet, x7_NotYet⟩, xh_NotYet, na_NotYet_name⟩, ⟨⟨x1_NotYet, x2_NotYet, x3_NotYet, x4_NotYet, x5_NotYet, x6_NotYet, x7_NotYet⟩, xh_NotYet, na_NotYet_array⟩, ⟨⟨x1_NotYet, x2_NotYet, x3_NotYet, x4_NotYet, x5_NotYet, x6_NotYet, x7_NotYet⟩, xh_NotYet, na_NotYet_spot⟩, ⟨⟨x1_NotYet, x2_NotYet, x3_NotYet, x4_NotYet, x5_NotYet, x6_NotYet, x7_NotYet⟩, xh_NotYet, na_NotYet_cell⟩, ⟨⟨x1_Clash, x2_Clash, x3_Clash, x4_Clash, x5_Clash, x6_Clash, x7_Clash⟩, xh_Clash, na_Clash_first⟩, ⟨⟨x1_Clash, x2_Clash, x3_Clash, x4_Clash, x5_Clash, x6_Clash, x7_Clash⟩, xh_Clash, na_Clash_second⟩, ⟨⟨x1_Clash, x2_Clash, x3_Clash, x4_Clash, x5_Clash, x6_Clash, x7_Clash⟩, xh_Clash, na_Clash_array⟩, ⟨⟨x1_Clash, x2_Clash, x3_Clash, x4_Clash, x5_Clash, x6_Clash, x7_Clash⟩, xh_Clash, na_Clash_cell⟩, ⟨⟨x1_NoMove, x2_NoMove, x3_NoMove, x4_NoMove, x5_NoMove, x6_NoMove, x7_NoMove⟩, xh_NoMove, na_NoMove_place⟩, xm_BeyondRim_ValueError, xm_NotYet_ValueError, xm_NoMove_ValueError, xm_Clash_ValueError, ⟨x1_BeyondRim, x2_BeyondRim, x3_BeyondRim, x4_BeyondRim, x5_BeyondRim, x6_BeyondRim, x7_BeyondRim⟩, kit_false ne_BeyondRim_NoEnd cs_NoEnd ct_NoEnd mr_BeyondRim_NoEnd, kit_false ne_BeyondRim_NoName cs_NoName ct_NoName mr_BeyondRim_NoName, kit_false ne_BeyondRim_NoShape cs_NoShape ct_NoShape mr_BeyondRim_NoShape, kit_false ne_BeyondRim_NoTable cs_NoTable ct_NoTable mr_BeyondRim_NoTable, kit_false ne_BeyondRim_NoText cs_NoText ct_NoText mr_BeyondRim_NoText, kit_false ne_BeyondRim_Outside cs_Outside ct_Outside mr_BeyondRim_Outside, kit_false ne_BeyondRim_TooMuch cs_TooMuch ct_TooMuch mr_BeyondRim_TooMuch, kit_false ne_BeyondRim_Unwritten cs_Unwritten ct_Unwritten mr_BeyondRim_Unwritten, kit_true cs_BeyondRim ct_BeyondRim mr_BeyondRim_BeyondRim, kit_false ne_BeyondRim_NotYet cs_NotYet ct_NotYet mr_BeyondRim_NotYet, kit_false ne_BeyondRim_NoMove cs_NoMove ct_NoMove mr_BeyondRim_NoMove, kit_false ne_BeyondRim_Clash cs_Clash ct_Clash mr_BeyondRim_Clash, ⟨x1_NotYet, x2_NotYet, x3_NotYet, x4_NotYet, x5_NotYet, x6_NotYet, x7_NotYet⟩, kit_false ne_NotYet_NoEnd cs_NoEnd ct_NoEnd mr_NotYet_NoEnd, kit_false ne_NotYet_NoName cs_NoName ct_NoName mr_NotYet_NoName, kit_false ne_NotYet_NoShape cs_NoShape ct_NoShape mr_NotYet_NoShape, kit_false ne_NotYet_NoTable cs_NoTable ct_NoTable mr_NotYet_NoTable, kit_false ne_NotYet_NoText cs_NoText ct_NoText mr_NotYet_NoText, kit_false ne_NotYet_Outside cs_Outside ct_Outside mr_NotYet_Outside, kit_false ne_NotYet_TooMuch cs_TooMuch ct_TooMuch mr_NotYet_TooMuch, kit_false ne_NotYet_Unwritten cs_Unwritten ct_Unwritten mr_NotYet_Unwritten, kit_false ne_NotYet_BeyondRim cs_BeyondRim ct_BeyondRim mr_NotYet_BeyondRim, kit_true cs_NotYet ct_NotYet mr_NotYet_NotYet, kit_false ne_NotYet_NoMove cs_NoMove ct_NoMove mr_NotYet_NoMove, kit_false ne_NotYet_Clash cs_Clash ct_Clash mr_NotYet_Clash, ⟨x1_NoMove, x2_NoMove, x3_NoMove, x4_NoMove, x5_NoMove, x6_NoMove, x7_NoMove⟩, kit_false ne_NoMove_NoEnd cs_NoEnd ct_NoEnd mr_NoMove_NoEnd, kit_false ne_NoMove_NoName cs_NoName ct_NoName mr_NoMove_NoName, kit_false ne_NoMove_NoShape cs_NoShape ct_NoShape mr_NoMove_NoShape, kit_false ne_NoMove_NoTable cs_NoTable ct_NoTable mr_NoMove_NoTable, kit_false ne_NoMove_NoText cs_NoText ct_NoText mr_NoMove_NoText, kit_false ne_NoMove_Outside cs_Outside ct_Outside mr_NoMove_Outside, kit_false ne_NoMove_TooMuch cs_TooMuch ct_TooMuch mr_NoMove_TooMuch, kit_false ne_NoMove_Unwritten cs_Unwritten ct_Unwritten mr_NoMove_Unwritten, kit_false ne_NoMove_BeyondRim cs_BeyondRim ct_BeyondRim mr_NoMove_BeyondRim, kit_false ne_NoMove_NotYet cs_NotYet ct_NotYet mr_NoMove_NotYet, kit_true cs_NoMove ct_NoMove mr_NoMove_NoMove, kit_false ne_NoMove_Clash cs_Clash ct_Clash mr_NoMove_Clash, ⟨x1_Clash, x2_Clash, x3_Clash, x4_Clash, x5_Clash, x6_Clash, x7_Clash⟩, kit_false ne_Clash_NoEnd cs_NoEnd ct_NoEnd mr_Clash_NoEnd, kit_false ne_Clash_NoName cs_NoName ct_NoName mr_Clash_NoName, kit_false ne_Clash_NoShape cs_NoShape ct_NoShape mr_Clash_NoShape, kit_false ne_Clash_NoTable cs_NoTable ct_NoTable mr_Clash_NoTable, kit_false ne_Clash_NoText cs_NoText ct_NoText mr_Clash_NoText, kit_false ne_Clash_Outside cs_Outside ct_Outside mr_Clash_Outside, kit_false ne_Clash_TooMuch cs_TooMuch ct_TooMuch mr_Clash_TooMuch, kit_false ne_Clash_Unwritten cs_Unwritten ct_Unwritten mr_Clash_Unwritten, kit_false ne_Clash_BeyondRim cs_BeyondRim ct_BeyondRim mr_Clash_BeyondRim, kit_false ne_Clash_NotYet cs_NotYet ct_NotYet mr_Clash_NotYet, kit_false ne_Clash_NoMove cs_NoMove ct_NoMove mr_Clash_NoMove, kit_true cs_Clash ct_Clash mr_Clash_Clash, exm_of eb_LoomError cs_LoomError ct_LoomError mr_BeyondRim_LoomError, exm_of eb_LoomError cs_LoomError ct_LoomError mr_NotYet_LoomError, exm_of eb_LoomError cs_LoomError ct_LoomError mr_NoMove_LoomError, exm_of eb_LoomError cs_LoomError ct_LoomError mr_Clash_LoomError, PySem.W.mg_none_of X G z_len, PySem.W.mg_none_of X G z_range, PySem.W.mg_none_of X G z_isinstance, PySem.W.mg_none_of X G z_ValueError⟩⟩
theorem walk {l : PySem.W.OpenLaw} {q : Program} {loose : List Str} {XP : (Str → Option Value) → Heap → Prop} {YP : World → Heap → Prop} {d : DefRec} {K : Params → PySem.W.Frag} (hn : l.most = some 63) (hdf : d.params.defaults = [])
    (hY : ∀ (w : World) (h : Heap), YP w h → (K w.params).In h)
    (F : ∀ (w : World) (mg : Str → Option Value) (fa : Addr) (h : Heap), (K w.params).In h → h.Ns mainGlobals mg → mg d.name = some (.ref fa) →
      ∃ fd : FuncData, (∀ (s : Shared) (u : Value), BindsTo s fd ⟨[u], []⟩ [("_law_script", u)]) ∧ ∀ base : Heap, (K w.params).In base → base.Ns mainGlobals mg → FnOk l.prog w (K w.params) mg base CX0 4 fa fd ["_law_script"] (spLaw (K w.params))) :
    PySem.W.WalkO q loose XP YP l.row.toRowW d [] (fun f vs => PySem.call f vs) :=
  L2.walk_of (n := 63) (k := 4) (x := "_law_script") (CX := fun _ => CX0) (sp := fun w => spLaw (K w.params)) hn (by decide) hdf ⟨rfl, by decide, by decide⟩ hY F (fun _ _ a ns hl _ hS => ⟨a, ns, rfl, hS, hl, fun _ => rfl⟩) fun _ _ _ _ _ z => z
end My
open PySem PySem.W PyProof.Rows
set_option maxRecDepth 100000 in
set_option maxHeartbeats 0 in
theorem PySem.Challenge.cw_arrayloom_k08_refusals_told_holds : PySem.Challenge.rw_arrayloom_k08_refusals_told.Holds := by
  w_on; o_law; k_head; (case hw => w_witness2)
  k_fill
  refine My.walk (l := PySem.Challenge.rw_arrayloom_k08_refusals_told) rfl rfl (fun w h Y => PySem.W.kIn_of Y) ?F
  case F =>
    intro w mg fa h KX G hmg
    refine' My.all_mk KX G hmg ?aC_LoomError ?aC_NoName ?aC_NoShape ?aC_TooMuch ?aC_NoTable ?aC_NoEnd ?aC_Outside ?aC_Unwritten ?aC_NoText ?aC_BeyondRim ?aC_NotYet ?aC_NoMove ?aC_Clash ?a0 ?l0 ?c0 ?k0 ?i0 ?a1 ?l1 ?c1 ?k1 ?i1 ?a2 ?l2 ?c2 ?k2 ?i2 ?a3 ?l3 ?c3 ?k3 ?i3 ?a4 ?l4 ?c4 ?k4 ?a5 ?l5 ?c5 ?k5 ?a6 ?l6 ?c6 ?k6 ?a7 ?l7 ?c7 ?k7 ?a8 ?l8 ?c8 ?k8 ?a9 ?l9 ?c9 ?k9 ?a10 ?l10 ?c10 ?k10 ?a11 ?l11 ?c11 ?k11 ?a12 ?l12 ?c12 ?k12 ?xe_BeyondRim ?kc_BeyondRim ?sx_BeyondRim ?xo_BeyondRim ?xh_BeyondRim ?na_BeyondRim_name ?na_BeyondRim_array ?na_BeyondRim_spot ?na_BeyondRim_cell ?xe_Clash ?kc_Clash ?sx_Clash ?xo_Clash ?xh_Clash ?na_Clash_first ?na_Clash_second ?na_Clash_array ?na_Clash_cell ?xe_NoMove ?kc_NoMove ?sx_NoMove ?xo_NoMove ?xh_NoMove ?na_NoMove_place ?xe_NotYet ?kc_NotYet ?sx_NotYet ?xo_NotYet ?xh_NotYet ?na_NotYet_name ?na_NotYet_array ?na_NotYet_spot ?na_NotYet_cell ?xm_BeyondRim_ValueError ?xm_NotYet_ValueError ?xm_NoMove_ValueError ?xm_Clash_ValueError ?x1_BeyondRim ?x2_BeyondRim ?x3_BeyondRim ?x4_BeyondRim ?x5_BeyondRim ?x6_BeyondRim ?x7_BeyondRim ?cs_NoEnd ?ct_NoEnd ?mr_BeyondRim_NoEnd ?ne_BeyondRim_NoEnd ?cs_NoName ?ct_NoName ?mr_BeyondRim_NoName ?ne_BeyondRim_NoName ?cs_NoShape ?ct_NoShape ?mr_BeyondRim_NoShape ?ne_BeyondRim_NoShape ?cs_NoTable ?ct_NoTable ?mr_BeyondRim_NoTable ?ne_BeyondRim_NoTable ?cs_NoText ?ct_NoText ?mr_BeyondRim_NoText ?ne_BeyondRim_NoText ?cs_Outside ?ct_Outside ?mr_BeyondRim_Outside ?ne_BeyondRim_Outside ?cs_TooMuch ?ct_TooMuch ?mr_BeyondRim_TooMuch ?ne_BeyondRim_TooMuch ?cs_Unwritten ?ct_Unwritten ?mr_BeyondRim_Unwritten ?ne_BeyondRim_Unwritten ?cs_BeyondRim ?ct_BeyondRim ?mr_BeyondRim_BeyondRim ?cs_NotYet ?ct_NotYet ?mr_BeyondRim_NotYet ?ne_BeyondRim_NotYet ?cs_NoMove ?ct_NoMove ?mr_BeyondRim_NoMove ?ne_BeyondRim_NoMove ?cs_Clash ?ct_Clash ?mr_BeyondRim_Clash ?ne_BeyondRim_Clash ?x1_NotYet ?x2_NotYet ?x3_NotYet ?x4_NotYet ?x5_NotYet ?x6_NotYet ?x7_NotYet ?mr_NotYet_NoEnd ?ne_NotYet_NoEnd ?mr_NotYet_NoName ?ne_NotYet_NoName ?mr_NotYet_NoShape ?ne_NotYet_NoShape ?mr_NotYet_NoTable ?ne_NotYet_NoTable ?mr_NotYet_NoText ?ne_NotYet_NoText ?mr_NotYet_Outside ?ne_NotYet_Outside ?mr_NotYet_TooMuch ?ne_NotYet_TooMuch ?mr_NotYet_Unwritten ?ne_NotYet_Unwritten ?mr_NotYet_BeyondRim ?ne_NotYet_BeyondRim ?mr_NotYet_NotYet ?mr_NotYet_NoMove ?ne_NotYet_NoMove ?mr_NotYet_Clash ?ne_NotYet_Clash ?x1_NoMove ?x2_NoMove ?x3_NoMove ?x4_NoMove ?x5_NoMove ?x6_NoMove ?x7_NoMove ?mr_NoMove_NoEnd ?ne_NoMove_NoEnd ?mr_NoMove_NoName ?ne_NoMove_NoName ?mr_NoMove_NoShape ?ne_NoMove_NoShape ?mr_NoMove_NoTable ?ne_NoMove_NoTable ?mr_NoMove_NoText ?ne_NoMove_NoText ?mr_NoMove_Outside ?ne_NoMove_Outside ?mr_NoMove_TooMuch ?ne_NoMove_TooMuch ?mr_NoMove_Unwritten ?ne_NoMove_Unwritten ?mr_NoMove_BeyondRim ?ne_NoMove_BeyondRim ?mr_NoMove_NotYet ?ne_NoMove_NotYet ?mr_NoMove_NoMove ?mr_NoMove_Clash ?ne_NoMove_Clash ?x1_Clash ?x2_Clash ?x3_Clash ?x4_Clash ?x5_Clash ?x6_Clash ?x7_Clash ?mr_Clash_NoEnd ?ne_Clash_NoEnd ?mr_Clash_NoName ?ne_Clash_NoName ?mr_Clash_NoShape ?ne_Clash_NoShape ?mr_Clash_NoTable ?ne_Clash_NoTable ?mr_Clash_NoText ?ne_Clash_NoText ?mr_Clash_Outside ?ne_Clash_Outside ?mr_Clash_TooMuch ?ne_Clash_TooMuch ?mr_Clash_Unwritten ?ne_Clash_Unwritten ?mr_Clash_BeyondRim ?ne_Clash_BeyondRim ?mr_Clash_NotYet ?ne_Clash_NotYet ?mr_Clash_NoMove ?ne_Clash_NoMove ?mr_Clash_Clash ?cs_LoomError ?ct_LoomError ?mr_BeyondRim_LoomError ?eb_LoomError ?mr_NotYet_LoomError ?mr_NoMove_LoomError ?mr_Clash_LoomError ?z_len ?z_range ?z_isinstance ?z_ValueError
    (case aC_LoomError => k_is)
    (case aC_NoName => k_is)
    (case aC_NoShape => k_is)
    (case aC_TooMuch => k_is)
    (case aC_NoTable => k_is)
    (case aC_NoEnd => k_is)
    (case aC_Outside => k_is)
    (case aC_Unwritten => k_is)
    (case aC_NoText => k_is)
    (case aC_BeyondRim => k_is)
    (case aC_NotYet => k_is)
    (case aC_NoMove => k_is)
    (case aC_Clash => k_is)
    (case a0 => k_is)
    (case l0 => k_is)
    (case c0 => k_is)
    (case k0 => k_is)
    (case i0 => k_is)
    (case a1 => k_is)
    (case l1 => k_is)
    (case c1 => k_is)
    (case k1 => k_is)
    (case i1 => k_is)
    (case a2 => k_is)
    (case l2 => k_is)
    (case c2 => k_is)
    (case k2 => k_is)
    (case i2 => k_is)
    (case a3 => k_is)
    (case l3 => k_is)
    (case c3 => k_is)
    (case k3 => k_is)
    (case i3 => k_is)
    (case a4 => k_is)
    (case l4 => k_is)
    (case c4 => k_is)
    (case k4 => k_is)
    (case a5 => k_is)
    (case l5 => k_is)
    (case c5 => k_is)
    (case k5 => k_is)
    (case a6 => k_is)
    (case l6 => k_is)
    (case c6 => k_is)
    (case k6 => k_is)
    (case a7 => k_is)
    (case l7 => k_is)
    (case c7 => k_is)
    (case k7 => k_is)
    (case a8 => k_is)
    (case l8 => k_is)
    (case c8 => k_is)
    (case k8 => k_is)
    (case a9 => k_is)
    (case l9 => k_is)
    (case c9 => k_is)
    (case k9 => k_is)
    (case a10 => k_is)
    (case l10 => k_is)
    (case c10 => k_is)
    (case k10 => k_is)
    (case a11 => k_is)
    (case l11 => k_is)
    (case c11 => k_is)
    (case k11 => k_is)
    (case a12 => k_is)
    (case l12 => k_is)
    (case c12 => k_is)
    (case k12 => k_is)
    (case xe_BeyondRim => first | kernel_rfl | rfl | decide | k_is)
    (case kc_BeyondRim => k_is)
    (case sx_BeyondRim => k_is)
    (case xo_BeyondRim => first | kernel_rfl | rfl | decide | k_is)
    (case xh_BeyondRim => first | kernel_rfl | rfl | decide | k_is)
    (case na_BeyondRim_name => k_is)
    (case na_BeyondRim_array => k_is)
    (case na_BeyondRim_spot => k_is)
    (case na_BeyondRim_cell => k_is)
    (case xe_Clash => first | kernel_rfl | rfl | decide | k_is)
    (case kc_Clash => k_is)
    (case sx_Clash => k_is)
    (case xo_Clash => first | kernel_rfl | rfl | decide | k_is)
    (case xh_Clash => first | kernel_rfl | rfl | decide | k_is)
    (case na_Clash_first => k_is)
    (case na_Clash_second => k_is)
    (case na_Clash_array => k_is)
    (case na_Clash_cell => k_is)
    (case xe_NoMove => first | kernel_rfl | rfl | decide | k_is)
    (case kc_NoMove => k_is)
    (case sx_NoMove => k_is)
    (case xo_NoMove => first | kernel_rfl | rfl | decide | k_is)
    (case xh_NoMove => first | kernel_rfl | rfl | decide | k_is)
    (case na_NoMove_place => k_is)
    (case xe_NotYet => first | kernel_rfl | rfl | decide | k_is)
    (case kc_NotYet => k_is)
    (case sx_NotYet => k_is)
    (case xo_NotYet => first | kernel_rfl | rfl | decide | k_is)
    (case xh_NotYet => first | kernel_rfl | rfl | decide | k_is)
    (case na_NotYet_name => k_is)
    (case na_NotYet_array => k_is)
    (case na_NotYet_spot => k_is)
    (case na_NotYet_cell => k_is)
    (case xm_BeyondRim_ValueError => k_is)
    (case xm_NotYet_ValueError => k_is)
    (case xm_NoMove_ValueError => k_is)
    (case xm_Clash_ValueError => k_is)
    (case x1_BeyondRim => k_is)
    (case x2_BeyondRim => k_is)
    (case x3_BeyondRim => k_is)
    (case x4_BeyondRim => k_is)
    (case x5_BeyondRim => k_is)
    (case x6_BeyondRim => k_is)
    (case x7_BeyondRim => k_is)
    (case cs_NoEnd => k_is)
    (case ct_NoEnd => k_is)
    (case mr_BeyondRim_NoEnd => k_is)
    (case ne_BeyondRim_NoEnd => first | rfl | decide)
    (case cs_NoName => k_is)
    (case ct_NoName => k_is)
    (case mr_BeyondRim_NoName => k_is)
    (case ne_BeyondRim_NoName => first | rfl | decide)
    (case cs_NoShape => k_is)
    (case ct_NoShape => k_is)
    (case mr_BeyondRim_NoShape => k_is)
    (case ne_BeyondRim_NoShape => first | rfl | decide)
    (case cs_NoTable => k_is)
    (case ct_NoTable => k_is)
    (case mr_BeyondRim_NoTable => k_is)
    (case ne_BeyondRim_NoTable => first | rfl | decide)
    (case cs_NoText => k_is)
    (case ct_NoText => k_is)
    (case mr_BeyondRim_NoText => k_is)
    (case ne_BeyondRim_NoText => first | rfl | decide)
    (case cs_Outside => k_is)
    (case ct_Outside => k_is)
    (case mr_BeyondRim_Outside => k_is)
    (case ne_BeyondRim_Outside => first | rfl | decide)
    (case cs_TooMuch => k_is)
    (case ct_TooMuch => k_is)
    (case mr_BeyondRim_TooMuch => k_is)
    (case ne_BeyondRim_TooMuch => first | rfl | decide)
    (case cs_Unwritten => k_is)
    (case ct_Unwritten => k_is)
    (case mr_BeyondRim_Unwritten => k_is)
    (case ne_BeyondRim_Unwritten => first | rfl | decide)
    (case cs_BeyondRim => k_is)
    (case ct_BeyondRim => k_is)
    (case mr_BeyondRim_BeyondRim => k_is)
    (case cs_NotYet => k_is)
    (case ct_NotYet => k_is)
    (case mr_BeyondRim_NotYet => k_is)
    (case ne_BeyondRim_NotYet => first | rfl | decide)
    (case cs_NoMove => k_is)
    (case ct_NoMove => k_is)
    (case mr_BeyondRim_NoMove => k_is)
    (case ne_BeyondRim_NoMove => first | rfl | decide)
    (case cs_Clash => k_is)
    (case ct_Clash => k_is)
    (case mr_BeyondRim_Clash => k_is)
    (case ne_BeyondRim_Clash => first | rfl | decide)
    (case x1_NotYet => k_is)
    (case x2_NotYet => k_is)
    (case x3_NotYet => k_is)
    (case x4_NotYet => k_is)
    (case x5_NotYet => k_is)
    (case x6_NotYet => k_is)
    (case x7_NotYet => k_is)
    (case mr_NotYet_NoEnd => k_is)
    (case ne_NotYet_NoEnd => first | rfl | decide)
    (case mr_NotYet_NoName => k_is)
    (case ne_NotYet_NoName => first | rfl | decide)
    (case mr_NotYet_NoShape => k_is)
    (case ne_NotYet_NoShape => first | rfl | decide)
    (case mr_NotYet_NoTable => k_is)
    (case ne_NotYet_NoTable => first | rfl | decide)
    (case mr_NotYet_NoText => k_is)
    (case ne_NotYet_NoText => first | rfl | decide)
    (case mr_NotYet_Outside => k_is)
    (case ne_NotYet_Outside => first | rfl | decide)
    (case mr_NotYet_TooMuch => k_is)
    (case ne_NotYet_TooMuch => first | rfl | decide)
    (case mr_NotYet_Unwritten => k_is)
    (case ne_NotYet_Unwritten => first | rfl | decide)
    (case mr_NotYet_BeyondRim => k_is)
    (case ne_NotYet_BeyondRim => first | rfl | decide)
    (case mr_NotYet_NotYet => k_is)
    (case mr_NotYet_NoMove => k_is)
    (case ne_NotYet_NoMove => first | rfl | decide)
    (case mr_NotYet_Clash => k_is)
    (case ne_NotYet_Clash => first | rfl | decide)
    (case x1_NoMove => k_is)
    (case x2_NoMove => k_is)
    (case x3_NoMove => k_is)
    (case x4_NoMove => k_is)
    (case x5_NoMove => k_is)
    (case x6_NoMove => k_is)
    (case x7_NoMove => k_is)
    (case mr_NoMove_NoEnd => k_is)
    (case ne_NoMove_NoEnd => first | rfl | decide)
    (case mr_NoMove_NoName => k_is)
    (case ne_NoMove_NoName => first | rfl | decide)
    (case mr_NoMove_NoShape => k_is)
    (case ne_NoMove_NoShape => first | rfl | decide)
    (case mr_NoMove_NoTable => k_is)
    (case ne_NoMove_NoTable => first | rfl | decide)
    (case mr_NoMove_NoText => k_is)
    (case ne_NoMove_NoText => first | rfl | decide)
    (case mr_NoMove_Outside => k_is)
    (case ne_NoMove_Outside => first | rfl | decide)
    (case mr_NoMove_TooMuch => k_is)
    (case ne_NoMove_TooMuch => first | rfl | decide)
    (case mr_NoMove_Unwritten => k_is)
    (case ne_NoMove_Unwritten => first | rfl | decide)
    (case mr_NoMove_BeyondRim => k_is)
    (case ne_NoMove_BeyondRim => first | rfl | decide)
    (case mr_NoMove_NotYet => k_is)
    (case ne_NoMove_NotYet => first | rfl | decide)
    (case mr_NoMove_NoMove => k_is)
    (case mr_NoMove_Clash => k_is)
    (case ne_NoMove_Clash => first | rfl | decide)
    (case x1_Clash => k_is)
    (case x2_Clash => k_is)
    (case x3_Clash => k_is)
    (case x4_Clash => k_is)
    (case x5_Clash => k_is)
    (case x6_Clash => k_is)
    (case x7_Clash => k_is)
    (case mr_Clash_NoEnd => k_is)
    (case ne_Clash_NoEnd => first | rfl | decide)
    (case mr_Clash_NoName => k_is)
    (case ne_Clash_NoName => first | rfl | decide)
    (case mr_Clash_NoShape => k_is)
    (case ne_Clash_NoShape => first | rfl | decide)
    (case mr_Clash_NoTable => k_is)
    (case ne_Clash_NoTable => first | rfl | decide)
    (case mr_Clash_NoText => k_is)
    (case ne_Clash_NoText => first | rfl | decide)
    (case mr_Clash_Outside => k_is)
    (case ne_Clash_Outside => first | rfl | decide)
    (case mr_Clash_TooMuch => k_is)
    (case ne_Clash_TooMuch => first | rfl | decide)
    (case mr_Clash_Unwritten => k_is)
    (case ne_Clash_Unwritten => first | rfl | decide)
    (case mr_Clash_BeyondRim => k_is)
    (case ne_Clash_BeyondRim => first | rfl | decide)
    (case mr_Clash_NotYet => k_is)
    (case ne_Clash_NotYet => first | rfl | decide)
    (case mr_Clash_NoMove => k_is)
    (case ne_Clash_NoMove => first | rfl | decide)
    (case mr_Clash_Clash => k_is)
    (case cs_LoomError => k_is)
    (case ct_LoomError => k_is)
    (case mr_BeyondRim_LoomError => k_is)
    (case eb_LoomError => k_is)
    (case mr_NotYet_LoomError => k_is)
    (case mr_NoMove_LoomError => k_is)
    (case mr_Clash_LoomError => k_is)
    (case z_len => k_is)
    (case z_range => k_is)
    (case z_isinstance => k_is)
    (case z_ValueError => k_is)
