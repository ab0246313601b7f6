import PyProof.Rows.All
import Wide.All
import OpenK.AllK
import Wide.FinOn
import Lean
import PyProof.EqAt
import PyProof.EqKinds
import PyProof.TupleCall
import KE.KDictLaws
import KE.KDictList
import KE.KDictOf
import KE.KEqDict
import KE.KIntText
import KE.KTabLook
import KE.KTryMore
import PyProof.AttrMissHeap
import PyProof.CompUse
import PyProof.ConsumeWalk
import PyProof.Conv_int_bool
import PyProof.DictItems
import PyProof.DictValues
import PyProof.DictWalks
import PyProof.Draws
import PyProof.EnumFor
import PyProof.EnumMake
import PyProof.EnumStmt
import PyProof.ExcClass3
import PyProof.ExcInit
import PyProof.FString5
import PyProof.FactsAll.set
import PyProof.FactsAll.subtypes_5
import PyProof.FactsAll.zip
import PyProof.NeKinds
import PyProof.P3Eq
import PyProof.Rows.SetFrom
import PyProof.Rows.StrNews
import PyProof.SetRoads
import PyProof.StrWalks
import PyProof.SumAny
import PyProof.TupleKey
import PyProof.Walks
import PySem.Challenge.RW_arrayloom_k53_loops_joined
-- CHANGE: your row's module here, as the last of these rows
set_option Elab.async false
set_option linter.all false
set_option maxRecDepth 100000
/-! THE HAND LAYER, for ints, bools, texts, own classes, LISTS and tuples (index, slices, in, append, pop ..), calls, loops. Paste it whole ahead of your own text; what your proof does not reach may be deleted. -/
namespace L2
open PySem PySem.Spec PyProof.Rows

/-- a key: an int or a str -/
abbrev Key := Sum Int Str
def keyIs : Key → Value → Bool
  | .inl k, v => Value.isInt k v
  | .inr x, v => Value.isStrOf x v
def keyH (w : World) : Key → Int
  | .inl k => hashInt k
  | .inr x => hashStr w x
theorem keyIs_shape : ∀ {k : Key} {v : Value}, keyIs k v = true → (∃ i t, k = Sum.inl i ∧ v = Value.int i t) ∨ (∃ x t, k = Sum.inr x ∧ v = Value.str x t)
  | .inl i, v, h => by
    obtain ⟨t, e⟩ := Value.isInt_shape (k := i) (v := v) h
    exact .inl ⟨i, t, rfl, e⟩
  | .inr x, v, h => by
    obtain ⟨t, e⟩ := Value.isStrOf_shape (x := x) (v := v) h
    exact .inr ⟨x, t, rfl, e⟩
theorem keyIs_int (i : Int) (t : Tok) : keyIs (.inl i) (.int i t) = true := by simp [keyIs, Value.isInt]
theorem keyIs_str (x : Str) (t : Tok) : keyIs (.inr x) (.str x t) = true := by simp [keyIs, Value.isStrOf]
theorem key_ll (a b : Int) : decide ((Sum.inl a : Key) = Sum.inl b) = (a == b) := by
  by_cases e : a = b
  · subst e; simp
  · have h : ¬ (Sum.inl a : Key) = Sum.inl b := fun q => e (Sum.inl.inj q)
    rw [decide_eq_false h]
    exact (beq_eq_false_iff_ne.mpr e).symm
theorem key_rr (a b : Str) : decide ((Sum.inr a : Key) = Sum.inr b) = decide (a = b) := by
  by_cases e : a = b
  · subst e; simp
  · have h : ¬ (Sum.inr a : Key) = Sum.inr b := fun q => e (Sum.inr.inj q)
    rw [decide_eq_false h, decide_eq_false e]
theorem key_lr (a : Int) (b : Str) : decide ((Sum.inl a : Key) = Sum.inr b) = false := decide_eq_false (fun q => nomatch q)
theorem key_rl (a : Str) (b : Int) : decide ((Sum.inr a : Key) = Sum.inl b) = false := decide_eq_false (fun q => nomatch q)

def mixKind (prog : Program) (w : World) : PySem.KeyKind prog w Key where
  is := keyIs
  hash := keyH w
  inj := fun v a b ha hb => by
    rcases keyIs_shape ha with ⟨i, t, rfl, rfl⟩ | ⟨x, t, rfl, rfl⟩
    · rcases keyIs_shape hb with ⟨j, u, rfl, e⟩ | ⟨y, u, rfl, e⟩
      · injection e with e1 _; rw [e1]
      · exact nomatch e
    · rcases keyIs_shape hb with ⟨j, u, rfl, e⟩ | ⟨y, u, rfl, e⟩
      · exact nomatch e
      · injection e with e1 _; rw [e1]
  byValue := fun k v h => by
    rcases keyIs_shape h with ⟨i, t, rfl, rfl⟩ | ⟨x, t, rfl, rfl⟩ <;> rfl
  pyHash := fun hv h => by
    rcases keyIs_shape hv with ⟨i, t, rfl, rfl⟩ | ⟨x, t, rfl, rfl⟩
    · exact wpAny_pyHash_int h
    · exact wpAny_pyHash_str h
  eqBool := fun hu hv h => by
    rcases keyIs_shape hu with ⟨i, t, rfl, rfl⟩ | ⟨x, t, rfl, rfl⟩
    · rcases keyIs_shape hv with ⟨j, u, rfl, rfl⟩ | ⟨y, u, rfl, rfl⟩
      · rw [key_ll] at h; exact wpAny_eqBool_int h
      · rw [key_lr] at h; exact SeqAt.EqAt.int_str i t y u _ _ _ _ h
    · rcases keyIs_shape hv with ⟨j, u, rfl, rfl⟩ | ⟨y, u, rfl, rfl⟩
      · rw [key_rl] at h; exact SeqAt.EqAt.str_int x t j u _ _ _ _ h
      · rw [key_rr] at h; exact wpAny_eqBool_str h
  «strs» := fun k x t v h => by
    rcases keyIs_shape h with ⟨i, u, rfl, e⟩ | ⟨y, u, rfl, e⟩
    · exact nomatch e
    · injection e with e1 _
      subst e1
      cases v <;> rfl

theorem mixKind_int (prog : Program) (w : World) (i : Int) (t : Tok) : (mixKind prog w).is (.inl i) (.int i t) = true := keyIs_int i t
theorem mixKind_str (prog : Program) (w : World) (x : Str) (t : Tok) : (mixKind prog w).is (.inr x) (.str x t) = true := keyIs_str x t
end L2

namespace L2
open PySem PySem.Spec PyProof.Rows

/-- a value, without the heap -/
inductive V where
  | non | bl (b : Bool) | int (i : Int) | str (x : Str) | byt (b : Array UInt8) | flt (b : UInt64) | ref (a : Addr) | ty (n : String)
  deriving DecidableEq

def RelV : V → Value → Prop
  | .non, u => u = Value.none
  | .bl b, u => u = Value.bool b
  | .int i, u => ∃ t, u = Value.int i t
  | .str x, u => ∃ t, u = Value.str x t
  | .byt b, u => ∃ t, u = Value.bytes b t
  | .flt b, u => ∃ t, u = Value.float b t
  | .ref a, u => u = Value.ref a
  | .ty n, u => u = Value.type n

abbrev Vals : List V → List Value → Prop := Paired RelV
theorem Vals.length {xs : List V} {us : List Value} (r : Vals xs us) : xs.length = us.length := Paired.length r
theorem Vals.get : ∀ {xs : List V} {us : List Value} {i : Nat} {x : V}, Vals xs us → xs[i]? = some x → ∃ u, us[i]? = some u ∧ RelV x u
  | _, _, _, _, .nil, e => by simp at e
  | _, _, 0, _, .cons r _, e => by simp at e; subst e; exact ⟨_, rfl, r⟩
  | _, _, i + 1, x, .cons _ t, e => by
    obtain ⟨u, h1, h2⟩ := Vals.get (i := i) (x := x) t (by simpa using e)
    exact ⟨u, by simpa using h1, h2⟩
theorem Vals.append : ∀ {xs ys : List V} {us ws : List Value}, Vals xs us → Vals ys ws → Vals (xs ++ ys) (us ++ ws)
  | _, _, _, _, .nil, s => s
  | _, _, _, _, .cons r t, s => .cons r (Vals.append t s)
theorem Vals.take : ∀ {xs : List V} {us : List Value} (n : Nat), Vals xs us → Vals (xs.take n) (us.take n)
  | _, _, 0, _ => .nil
  | _, _, _ + 1, .nil => .nil
  | _, _, n + 1, .cons r t => .cons r (Vals.take n t)
theorem Vals.drop : ∀ {xs : List V} {us : List Value} (n : Nat), Vals xs us → Vals (xs.drop n) (us.drop n)
  | _, _, 0, r => r
  | _, _, _ + 1, .nil => .nil
  | _, _, n + 1, .cons _ t => Vals.drop n t
def RelO : Option V → Option Value → Prop
  | some v, some u => RelV v u
  | none, none => True
  | _, _ => False
def KV {κ : Type} : List (κ × V) → List (κ × Value) → Prop := Paired fun (p : κ × V) (q : κ × Value) => p.1 = q.1 ∧ RelV p.2 q.2

/-- a key of a dict (00_mix): an int or a text -/
def kV : Key → V
  | .inl i => .int i
  | .inr x => .str x

/-- what stands at a tracked address -/
inductive HO where
  /-- a list -/
  | lst (xs : List V)
  /-- a tuple (never changes) -/
  | tup (xs : List V)
  /-- a dict whose keys are ints and texts; one whose keys are tuples of ints and texts (the empty one is both) -/
  | dK (kvs : List (Key × V)) | dT (kvs : List (List Key × V))
  /-- a set of ints: its members, its size -/
  | set (S : Int → Bool) (n : Nat)
  /-- an instance of the class at C, its dict at dx, its attributes -/
  | ins (C dx : Addr) (fs : List (Str × V))
  /-- the dict of the instance at x -/
  | own (x : Addr)
  /-- the dict of an exception -/
  | xd (fs : List (Str × V))
  /-- a bound method, f of x -/
  | met (f x : Addr)
  /-- a range object lo, lo + 1, .. below hi -/
  | rng (lo hi : Int)
  /-- a thing that is known to the object (the script; a dict while a loop walks it): read, never written while it is so -/
  | frz (o : Obj) (u : HO)
  /-- a code object's table -/
  | tbl (ps : Array Value)
  /-- any other thing, by what is true of its one object (a def of one's own: SetO a S n := HO.ext fun h => ..) -/
  | ext (φ : Heap → Prop)

abbrev Hp := Addr → Option HO
def upd (H : Hp) (a : Addr) (o : HO) : Hp := fun b => if b = a then some o else H b
theorem upd_same {H : Hp} {a : Addr} {o : HO} : upd H a o a = some o := by unfold upd; rw [if_pos rfl]
theorem upd_ne {H : Hp} {a b : Addr} {o : HO} (h : b ≠ a) : upd H a o b = H b := by unfold upd; rw [if_neg h]
/-- two objects of different content stand apart -/
theorem ne_of {H : Hp} {a b : Addr} {o u : HO} (h : H a = some o) (h' : H b = some u) (d : o ≠ u) : a ≠ b := by
  intro e; subst e; rw [h] at h'; exact d (Option.some.inj h')
theorem ne_of_none {H : Hp} {a b : Addr} {o : HO} (h : H a = some o) (h' : H b = none) : a ≠ b := by
  intro e; subst e; rw [h] at h'; cases h'

section
variable (P : Program) (w : World)
def ObjOk (H : Hp) (h : Heap) (a : Addr) : HO → Prop
  | .lst xs => xs.length ≤ sizeLine ∧ ∃ (its : List Value) (n : Nat), Vals xs its ∧ h.get? a = some { cls := .type "list", data := .seq its.toArray n }
  | .tup xs => xs.length ≤ sizeLine ∧ ∃ its : List Value, Vals xs its ∧ IsTup h a its.toArray
  | .dK kvs => kvs.length ≤ sizeLine ∧ (a == sysModules) = false ∧ ∃ vs, KV kvs vs ∧ h.DictOf (mixKind P w) a vs
  | .dT kvs => kvs.length ≤ sizeLine ∧ (a == sysModules) = false ∧ ∃ xs : List (List Key × Addr × Value),
      Paired (fun (p : List Key × V) (q : List Key × Addr × Value) => p.1 = q.1 ∧ H q.2.1 = some (.tup (p.1.map kV)) ∧ RelV p.2 q.2.2) kvs xs ∧
      ∃ o es ep, h.get? a = some o ∧ o.ExactDict ∧ o.data = .dict es ep ∧ es.toList = xs.map (entryOfKey (tupleKind (mixKind P w))) ∧ (xs.map (·.1)).Nodup
  | .set S n => h.SetOf (intKind P w) a S n
  | .ins C dx fs => H dx = some (.own a) ∧ fs.length ≤ 1000 ∧ dx ≠ a ∧ h.get? a = some (PySem.W.instObj C dx) ∧
      ∃ mA, h.Ns1 dx mA ∧ (∀ f, RelO (fs.lookup f) (mA f)) ∧ PySem.Within mA (fs.map (·.1))
  | .own _ => ∃ o, h.get? a = some o
  | .xd fs => ∃ mA, h.Ns1 a mA ∧ ∀ f, RelO (fs.lookup f) (mA f)
  | .rng lo hi => ∃ t u v, h.get? a = some { cls := .type "range", data := .fields #[.int lo t, .int hi u, .int 1 v] }
  | .frz o u => h.get? a = some o ∧ ObjOk H h a u
  | .tbl ps => h.get? a = some { cls := .none, data := .fields ps }
  | .met f x => h.get? a = some (PySem.W.methodObj (.ref f) (.ref x))
  | .ext φ => φ h ∧ (∃ o, h.get? a = some o) ∧ ∀ h1 h2 : Heap, φ h1 → (∀ o, h1.get? a = some o → h2.get? a = some o) → φ h2
/-- the abstract heap is held -/
def HOk (H : Hp) (h : Heap) : Prop := ∀ a o, H a = some o → ObjOk P w H h a o
end

section
variable {P : Program} {w : World} {H H' : Hp} {h h' : Heap} {a : Addr} {o : HO}
theorem ObjOk.lt (x : ObjOk P w H h a o) : a < h.objs.size := by
  cases o with
  | lst xs => obtain ⟨_, _, _, _, e⟩ := x; exact Heap.lt_size e
  | tup xs => obtain ⟨_, _, _, p⟩ := x; exact p.lt
  | dK kvs => obtain ⟨_, _, _, _, o, _, _, e, _⟩ := x; exact Heap.lt_size e
  | dT kvs => obtain ⟨_, _, _, _, o, _, _, e, _⟩ := x; exact Heap.lt_size e
  | set S n => obtain ⟨o, _, _, _, e, _⟩ := x; exact Heap.lt_size e
  | ins C dx fs => obtain ⟨_, _, _, e, _⟩ := x; exact Heap.lt_size e
  | own y => obtain ⟨_, e⟩ := x; exact Heap.lt_size e
  | xd fs => obtain ⟨_, ⟨_, _, _, e, _⟩, _⟩ := x; exact Heap.lt_size e
  | rng lo hi => obtain ⟨_, _, _, e⟩ := x; exact Heap.lt_size e
  | frz ob u => obtain ⟨e, _⟩ := x; exact Heap.lt_size e
  | tbl ps => exact Heap.lt_size (show h.get? a = some _ from x)
  | met f y => exact Heap.lt_size (show h.get? a = some _ from x)
  | ext φ => obtain ⟨_, ⟨_, e⟩, _⟩ := x; exact Heap.lt_size e
theorem Paired.mapP {α β : Type} {F G : α → β → Prop} : ∀ {l₁ : List α} {l₂ : List β}, Paired F l₁ l₂ → (∀ a b, F a b → G a b) → Paired G l₁ l₂
  | _, _, .nil, _ => .nil
  | _, _, .cons r t, f => .cons (f _ _ r) (Paired.mapP t f)
/-- what an object's description leans on: its own object, its own dict, the tuples -/
theorem ObjOk.stay (x : ObjOk P w H h a o) (k : ∀ b u, (b = a ∨ H b = some (.own a)) → h.get? b = some u → h'.get? b = some u)
    (ho : ∀ b, H b = some (.own a) → H' b = some (.own a)) (ht : ∀ b xs, H b = some (.tup xs) → H' b = some (.tup xs)) : ObjOk P w H' h' a o := by
  induction o with
  | lst xs => obtain ⟨z, its, n, r, e⟩ := x; exact ⟨z, its, n, r, k _ _ (.inl rfl) e⟩
  | tup xs => obtain ⟨z, its, r, ob, e, c⟩ := x; exact ⟨z, its, r, ob, k _ _ (.inl rfl) e, c⟩
  | dK kvs => obtain ⟨z, y, vs, r, ob, es, ep, e, c⟩ := x; exact ⟨z, y, vs, r, ob, es, ep, k _ _ (.inl rfl) e, c⟩
  | dT kvs =>
    obtain ⟨z, y, xs, r, ob, es, ep, e, c⟩ := x
    exact ⟨z, y, xs, Paired.mapP r fun p q z => ⟨z.1, ht _ _ z.2.1, z.2.2⟩, ob, es, ep, k _ _ (.inl rfl) e, c⟩
  | set S n => obtain ⟨ob, es, ep, t, e, c⟩ := x; exact ⟨ob, es, ep, t, k _ _ (.inl rfl) e, c⟩
  | ins C dx fs =>
    obtain ⟨d, z, ne, e, mA, ⟨od, es, ep, e2, c⟩, r⟩ := x
    exact ⟨ho _ d, z, ne, k _ _ (.inl rfl) e, mA, ⟨od, es, ep, k _ _ (.inr d) e2, c⟩, r⟩
  | own y => obtain ⟨ob, e⟩ := x; exact ⟨ob, k _ _ (.inl rfl) e⟩
  | xd fs => obtain ⟨mA, ⟨od, es, ep, e, c⟩, r⟩ := x; exact ⟨mA, ⟨od, es, ep, k _ _ (.inl rfl) e, c⟩, r⟩
  | rng lo hi => obtain ⟨t, u, v, e⟩ := x; exact ⟨t, u, v, k _ _ (.inl rfl) e⟩
  | frz ob u ih => obtain ⟨e, q⟩ := x; exact ⟨k _ _ (.inl rfl) e, ih q⟩
  | tbl ps =>
    have e : h.get? a = some { cls := .none, data := .fields ps } := x
    show h'.get? a = some { cls := .none, data := .fields ps }
    exact k a _ (.inl rfl) e
  | met f y =>
    have e : h.get? a = some (PySem.W.methodObj (.ref f) (.ref y)) := x
    show h'.get? a = some (PySem.W.methodObj (.ref f) (.ref y))
    exact k a _ (.inl rfl) e
  | ext φ => obtain ⟨p, ⟨o, e⟩, st⟩ := x; exact ⟨st _ _ p fun o q => k _ _ (.inl rfl) q, ⟨o, k _ _ (.inl rfl) e⟩, st⟩
theorem HOk.lt (x : HOk P w H h) (e : H a = some o) : a < h.objs.size := (x a o e).lt
theorem HOk.fresh (x : HOk P w H h) (e : h.objs.size ≤ a) : H a = none := by
  cases q : H a with
  | none => rfl
  | some u => exact absurd (Nat.lt_of_lt_of_le (x.lt q) e) (Nat.lt_irrefl _)
/-- every object of the heap is kept -/
theorem HOk.kept (x : HOk P w H h) (k : ∀ b u, h.get? b = some u → h'.get? b = some u) : HOk P w H h' := fun a o e =>
  (x a o e).stay (fun b u _ q => k b u q) (fun _ q => q) fun _ _ q => q
/-- a new object is laid and tracked -/
theorem HOk.laid (x : HOk P w H h) (k : ∀ b u, h.get? b = some u → h'.get? b = some u) (hp : h.objs.size ≤ a) (new : ObjOk P w (upd H a o) h' a o) : HOk P w (upd H a o) h' := fun b u e => by
  have hn := x.fresh hp
  by_cases hb : b = a
  · subst hb; rw [upd_same] at e; cases e; exact new
  · rw [upd_ne hb] at e
    exact (x b u e).stay (fun c v _ q => k c v q) (fun c q => by rw [upd_ne (ne_of_none q hn)]; exact q) fun c xs q => by rw [upd_ne (ne_of_none q hn)]; exact q
end

/-- what may be read as u: it is u, or a known u -/
def Rd (H : Hp) (a : Addr) (u : HO) : Prop := H a = some u ∨ ∃ o, H a = some (.frz o u)
theorem Rd.ok {P : Program} {w : World} {H : Hp} {h : Heap} {a : Addr} {u : HO} (r : Rd H a u) (x : HOk P w H h) : ObjOk P w H h a u := by
  rcases r with r | ⟨o, r⟩
  · exact x a u r
  · obtain ⟨_, q⟩ := x a _ r
    exact q
/-- what may be written -/
def Mut : Option HO → Prop
  | some (.lst _) => True
  | some (.dK _) => True
  | some (.dT _) => True
  | some (.set _ _) => True
  | some (.ins _ _ _) => True
  | some (.ext _) => True
  | _ => False
section
variable {P : Program} {w : World} {H : Hp} {h h' : Heap} {x e : Addr} {o' : HO}
/-- the object at e is changed: x itself, or the dict of the instance x -/
theorem HOk.write (ok : HOk P w H h) (mu : Mut (H x)) (he : e = x ∨ H e = some (.own x)) (k : ∀ b u, b ≠ e → h.get? b = some u → h'.get? b = some u) (heo : ∃ u, h'.get? e = some u)
    (new : ObjOk P w (upd H x o') h' x o') : HOk P w (upd H x o') h' := fun b u q => by
  have nown : ∀ c y, H c = some (.own y) → c ≠ x := fun c y r z => by subst z; rw [r] at mu; exact mu
  have ntup : ∀ c xs, H c = some (.tup xs) → c ≠ x := fun c xs r z => by subst z; rw [r] at mu; exact mu
  by_cases hb : b = x
  · subst hb; rw [upd_same] at q; cases q; exact new
  · rw [upd_ne hb] at q
    by_cases hbe : b = e
    · have q' : H b = some (.own x) := by
        rcases he with z | z
        · exact absurd (hbe.trans z) hb
        · rw [hbe]; exact z
      rw [q] at q'; cases q'
      obtain ⟨v, hv⟩ := heo
      exact ⟨v, by rw [hbe]; exact hv⟩
    · refine (ok b u q).stay (fun c v hc r => k c v ?_ r) (fun c r => by rw [upd_ne (nown c b r)]; exact r) fun c xs r => by rw [upd_ne (ntup c xs r)]; exact r
      rcases hc with rfl | hc
      · exact hbe
      · rintro rfl
        rcases he with z | z
        · exact nown c b hc z
        · rw [hc] at z; cases z; exact hb rfl
end

/-! ### kept unless tracked; of the frames at fs (the callers') the slots may change (an exception that passes writes there); of the records at ex (iterators) nothing is said -/
structure Un (fs ex : List Addr) (H H' : Hp) (h h' : Heap) : Prop where
  keep : ∀ b o, h.get? b = some o → H b = none → b ∉ fs → b ∉ ex → h'.get? b = some o
  slot : ∀ b o, h.get? b = some o → H b = none → b ∈ fs → b ∉ ex → ∃ sl, h'.get? b = some { o with slots := sl }
  free : ∀ b o, h.get? b = some o → H b = none → b ∉ ex → H' b = none
  there : ∀ b o, h.get? b = some o → b ∉ ex → ∃ o', h'.get? b = some o'
  tups : ∀ b xs, H b = some (.tup xs) → H' b = some (.tup xs)
  frzs : ∀ b o u, H b = some (.frz o u) → H' b = some (.frz o u)
  tbls : ∀ b ps, H b = some (.tbl ps) → ∃ more, H' b = some (.tbl (ps ++ more))
section
variable {fs fs' ex ex' : List Addr} {H H1 H2 : Hp} {h h1 h2 h' : Heap} {a x e : Addr} {o : HO}
theorem Un.any (u : Un fs ex H H1 h h1) {b : Addr} {ob : Obj} (q : h.get? b = some ob) (n : H b = none) (hx : b ∉ ex) : ∃ sl, h1.get? b = some { ob with slots := sl } := by
  by_cases hb : b ∈ fs
  · exact u.slot b ob q n hb hx
  · exact ⟨ob.slots, u.keep b ob q n hb hx⟩
theorem Un.kept (k : ∀ b u, h.get? b = some u → h'.get? b = some u) : Un fs ex H H h h' :=
  ⟨fun b ob q _ _ _ => k b ob q, fun b ob q _ _ _ => ⟨ob.slots, k b ob q⟩, fun _ _ _ n _ => n, fun b ob q _ => ⟨ob, k b ob q⟩, fun _ _ q => q, fun _ _ _ q => q, fun _ ps q => ⟨#[], by rw [q]; simp⟩⟩
theorem Un.refl : Un fs ex H H h h := Un.kept fun _ _ q => q
theorem Un.laid (k : ∀ b u, h.get? b = some u → h'.get? b = some u) (hp : h.objs.size ≤ a) (hn : H a = none) : Un fs ex H (upd H a o) h h' where
  keep := fun b u q _ _ _ => k b u q
  slot := fun b u q _ _ _ => ⟨u.slots, k b u q⟩
  free := fun b u q n _ => by rw [upd_ne (Nat.ne_of_lt (Nat.lt_of_lt_of_le (Heap.lt_size q) hp))]; exact n
  there := fun b u q _ => ⟨u, k b u q⟩
  tups := fun b xs q => by rw [upd_ne (ne_of_none q hn)]; exact q
  frzs := fun b u xs q => by rw [upd_ne (ne_of_none q hn)]; exact q
  tbls := fun b ps q => ⟨#[], by rw [upd_ne (ne_of_none q hn), q]; simp⟩
theorem Un.write (mu : Mut (H x)) (he : e = x ∨ H e = some (.own x)) (k : ∀ b u, b ≠ e → h.get? b = some u → h'.get? b = some u) (heo : ∃ u, h'.get? e = some u) : Un fs ex H (upd H x o) h h' := by
  have hx : ∀ b, H b = none → b ≠ x := fun b n z => by subst z; rw [n] at mu; exact mu
  have hb : ∀ b, H b = none → b ≠ e := fun b n z => by
    subst z
    rcases he with r | r
    · exact hx b n r
    · rw [n] at r; cases r
  have hm : ∀ b u, H b = some u → ¬ Mut (some u) → b ≠ x := fun b u q nm z => by subst z; rw [q] at mu; exact nm mu
  refine ⟨fun b u q n _ _ => k b u (hb b n) q, fun b u q n _ _ => ⟨u.slots, k b u (hb b n) q⟩, fun b u q n _ => by rw [upd_ne (hx b n)]; exact n, fun b u q _ => ?_,
    fun b xs q => by rw [upd_ne (hm b _ q fun z => z)]; exact q, fun b u xs q => by rw [upd_ne (hm b _ q fun z => z)]; exact q, fun b ps q => ⟨#[], by rw [upd_ne (hm b _ q fun z => z), q]; simp⟩⟩
  by_cases hbe : b = e
  · subst hbe; exact heo
  · exact ⟨u, k b u hbe q⟩
end

/-! ### the heap without what is tracked -/
def trk (h : Heap) (H : Hp) : List Addr := (List.range h.objs.size).filter fun a => (H a).isSome
def hidT (h : Heap) (H : Hp) : Heap := PySem.W.hideAll h (trk h H)
theorem hidT_size (h : Heap) (H : Hp) : (hidT h H).objs.size = h.objs.size := PySem.W.hideAll_size _ _
theorem hidT_get {h : Heap} {H : Hp} {b : Addr} {o : Obj} (e : h.get? b = some o) (n : H b = none) : (hidT h H).get? b = some o :=
  PySem.W.hideAll_get _ e fun hm => by
    have q : (H b).isSome = true := (List.mem_filter.mp hm).2
    rw [n] at q; simp at q
theorem of_hidT {h : Heap} {H : Hp} {b : Addr} {o : Obj} (e : (hidT h H).get? b = some o) : h.get? b = some o ∧ H b = none := by
  have e' : h.get? b = some o := PySem.W.of_hideAll (trk h H) e
  refine ⟨e', ?_⟩
  cases q : H b with
  | none => rfl
  | some x =>
    have hm : b ∈ trk h H := List.mem_filter.mpr ⟨List.mem_range.mpr (Heap.lt_size e'), by simp [q]⟩
    have z : (hidT h H).get? b = none := PySem.W.hideAll_none (trk h H) hm
    rw [z] at e; cases e

/-! ### OpenK's ledger, filled with every new object but one -/
end L2

namespace L2
open PySem PySem.Spec PyProof.Rows

/-- the module's facts, over the base: the heap at the law's entry without what is tracked there -/
structure Mod (K : PySem.W.Frag) (mg : Str → Option Value) (base : Heap) : Prop where
  kin : K.In base
  glob : base.Ns mainGlobals mg
  blt : ∃ mb, base.Ns builtinsNs mb ∧ ∀ x : Str, x ≠ "__name__" → mb x = bootBuiltins x
  nolimit : base.NoLimit

/-- the context: a def's body (or a comprehension's block) running. base: fixed through the whole law; s₀, H₀: the entry; outer: the frames whose slots others may change (a def's callers); stack: all frames that run;
   ex: iterators that were made ahead of the entry and are walked here (a comprehension's); fn: the names whose cells were made at the entry (a def: all; a comprehension's block: its own); calm: not within an except suite; pn: pins that every state bears; xe: what is wanted of an exception that leaves the code -/
structure Cx where
  prog : Program
  w : World
  K : PySem.W.Frag
  mg : Str → Option Value
  base : Heap
  A : Around
  N : List Str
  s₀ : Shared
  H₀ : Hp
  env : Env
  outer : List Env
  stack : List Env
  ex : List Addr
  fn : Str → Bool
  calm : Bool
  pn : List (Addr × Obj)
  xe : Value → Shared → Prop
/-- the callers' frames -/
def frs (l : List Env) : List Addr := l.filterMap (·.frame)
abbrev Cx.fs (X : Cx) : List Addr := frs X.outer

def Vis (sc : Scope) (x : Str) : Prop := sc.names.lookup x = some .local ∨ sc.names.lookup x = some .cell ∨ sc.names.lookup x = some .free
def Loc (sc : Scope) (x : Str) : Prop := sc.names.lookup x = some .local ∨ sc.names.lookup x = some .cell
def Look (env : Env) (h : Heap) (m : Str → Option Value) (x : Str) (u : Value) : Prop :=
  (env.kindOf x = some .local ∧ m x = some u) ∨ ((env.kindOf x = some .cell ∨ env.kindOf x = some .free) ∧ ∃ c, env.cells.lookup x = some c ∧ h.IsCell c (some u))

structure Cx.Ok (X : Cx) : Prop where
  mod : Mod X.K X.mg X.base
  kind : X.env.scope.kind = .function
  glob : X.env.globals = mainGlobals
  blt : X.env.builtins = builtinsNs
  above : X.s₀.heap.objs.size ≤ X.env.locals
  inj : ∀ x y c, X.env.cells.lookup x = some c → X.env.cells.lookup y = some c → x = y
  has : ∀ x, (X.env.kindOf x = some .cell ∨ X.env.kindOf x = some .free) → ∃ c, X.env.cells.lookup x = some c
  cab : ∀ x c, X.fn x = true → X.env.cells.lookup x = some c → X.s₀.heap.objs.size ≤ c
  hd : X.calm = true → X.A.handled = none
  frames : X.A.frames = some X.stack
  stk : X.stack = X.outer ∨ (X.stack = X.env :: X.outer ∧ X.env.frame = some X.env.locals)
  exf : ∀ b ∈ X.ex, b ≠ X.env.locals ∧ ∀ x c, X.env.cells.lookup x = some c → c ≠ b
  bs : ∀ b o, X.base.get? b = some o → X.s₀.heap.get? b = some o ∧ X.H₀ b = none
  bsz : X.base.objs.size ≤ X.s₀.heap.objs.size
  noex : ∀ b o, X.base.get? b = some o → b ∉ X.ex
  exfs : ∀ b ∈ X.ex, b ∉ X.fs
  funs : X.s₀.heap.FunFrames X.base X.outer
  frf : ∀ b ∈ X.fs, X.H₀ b = none

structure Inv (X : Cx) (pins : List (Addr × Obj)) (σ : List (Option V)) (H : Hp) (s : Shared) : Prop where
  ok : X.Ok
  os : s.os = X.s₀.os
  bare : AllBare s.gens
  base : Un X.fs X.ex X.H₀ H X.s₀.heap s.heap
  loc : ∃ m, s.heap.Ns X.env.locals m ∧ ∀ (i : Nat) (x : Str) (v : V), X.N[i]? = some x → σ[i]? = some (some v) → Vis X.env.scope x → ∃ u, RelV v u ∧ Look X.env s.heap m x u
  cell : ∀ x c, X.env.cells.lookup x = some c → ∃ v, s.heap.IsCell c v
  free : H X.env.locals = none
  freeC : ∀ x c, X.env.cells.lookup x = some c → H c = none
  pin : ∀ p ∈ X.pn ++ pins, s.heap.get? p.1 = some p.2 ∧ H p.1 = none ∧ p.1 ≠ X.env.locals ∧ p.1 ∉ X.fs ∧ ∀ v, p.2.data ≠ .cell v
  hok : HOk X.prog X.w H s.heap
  len : σ.length = X.N.length

section
variable {X : Cx} {pins : List (Addr × Obj)} {σ : List (Option V)} {H H' : Hp} {s : Shared} {h' : Heap}

theorem Cx.Ok.nofr (ok : X.Ok) {b : Addr} {o : Obj} (e : X.base.get? b = some o) : b ∉ X.fs := fun hb => by
  have := (ok.funs.mem hb).1
  rw [e] at this; cases this
theorem Inv.bs (I : Inv X pins σ H s) : ∀ b o, X.base.get? b = some o → s.heap.get? b = some o ∧ H b = none := fun b o e =>
  ⟨I.base.keep b o (I.ok.bs b o e).1 (I.ok.bs b o e).2 (I.ok.nofr e) (I.ok.noex b o e), I.base.free b o (I.ok.bs b o e).1 (I.ok.bs b o e).2 (I.ok.noex b o e)⟩
theorem Inv.bk (I : Inv X pins σ H s) : ∀ b o, X.base.get? b = some o → s.heap.get? b = some o := fun b o e => (I.bs b o e).1
theorem Inv.mod (I : Inv X pins σ H s) : Mod X.K X.mg X.base := I.ok.mod
theorem Inv.kIn (I : Inv X pins σ H s) : X.K.In s.heap := I.ok.mod.kin.keeps I.bk
theorem Inv.lt (I : Inv X pins σ H s) : X.env.locals < s.heap.objs.size := let ⟨_, hn, _⟩ := I.loc; hn.lt
theorem Inv.sz (I : Inv X pins σ H s) : X.s₀.heap.objs.size ≤ s.heap.objs.size := Nat.le_trans I.ok.above (Nat.le_of_lt I.lt)
theorem Inv.nofs (I : Inv X pins σ H s) {a : Addr} (h : s.heap.objs.size ≤ a) : a ∉ X.fs := fun hb => by
  obtain ⟨_, o, ho, _⟩ := I.ok.funs.mem hb
  exact absurd (Nat.lt_of_lt_of_le (Heap.lt_size ho) (Nat.le_trans I.sz h)) (Nat.lt_irrefl _)
theorem Inv.cne (I : Inv X pins σ H s) : ∀ x c, X.env.cells.lookup x = some c → c ≠ X.env.locals := fun x c e z => by
  obtain ⟨v, o, ho, hd⟩ := I.cell x c e
  obtain ⟨m, ⟨o', es, ep, ho', hd', _⟩, _⟩ := I.loc
  rw [z, ho'] at ho; cases ho; rw [hd'] at hd; cases hd
theorem Inv.funs (I : Inv X pins σ H s) : s.heap.FunFrames X.base X.outer := by
  have all : ∀ (l : List Env), (∀ b ∈ frs l, b ∈ X.fs) → X.s₀.heap.FunFrames X.base l → s.heap.FunFrames X.base l := by
    intro l
    induction l with
    | nil => intro _ _; trivial
    | cons env r ih =>
      intro hs hl
      obtain ⟨hk, ⟨L, o, hf, hn, ho, hd⟩, hr⟩ := hl
      have hL : L ∈ X.fs := hs L (by unfold frs; rw [List.filterMap_cons, hf]; exact List.mem_cons_self)
      obtain ⟨sl, e⟩ := I.base.slot L o ho (I.ok.frf L hL) hL fun z => I.ok.exfs L z hL
      exact ⟨hk, ⟨L, _, hf, hn, e, hd⟩, ih (fun b hb => hs b (by unfold frs; rw [List.filterMap_cons, hf]; exact List.mem_cons_of_mem _ hb)) hr⟩
  exact all X.outer (fun _ hb => hb) I.ok.funs

/-- the frames that run, for a call -/
theorem Inv.stack (I : Inv X pins σ H s) : s.heap.FunFrames X.base X.stack := by
  rcases I.ok.stk with e | ⟨e, hf⟩
  · rw [e]; exact I.funs
  · rw [e]
    obtain ⟨m, hn, _⟩ := I.loc
    refine .cons (by rw [I.ok.kind]; decide) hf hn ?_ I.funs
    exact Heap.get?_none_of_le (Nat.le_trans I.ok.bsz I.ok.above)
theorem Inv.stkSub (I : Inv X pins σ H s) : ∀ b ∈ frs X.stack, b ∈ X.env.locals :: X.fs := fun b hb => by
  rcases I.ok.stk with e | ⟨e, hf⟩
  · rw [e] at hb; exact List.mem_cons_of_mem _ hb
  · rw [e] at hb
    unfold frs at hb
    rw [List.filterMap_cons, hf] at hb
    exact hb
theorem Inv.stkFree (I : Inv X pins σ H s) : ∀ b ∈ frs X.stack, H b = none := fun b hb => by
  rcases List.mem_cons.mp (I.stkSub b hb) with e | hb
  · rw [e]; exact I.free
  · obtain ⟨_, o, ho, _⟩ := I.ok.funs.mem hb
    exact I.base.free b o ho (I.ok.frf b hb) fun z => I.ok.exfs b z hb

/-- THE STEP: the untracked objects but the frame and the records at ch are kept (the callers' frames up to slots), the frame's map is kept, the new abstract heap is held -/
theorem Inv.step {g' : Array GenState} {t' : Nat} {d' : Drawn} {ch : List Addr} (I : Inv X pins σ H s)
    (hch : ∀ b ∈ ch, (b ∈ X.ex ∨ X.s₀.heap.objs.size ≤ b) ∧ b ≠ X.env.locals ∧ (∀ x c, X.env.cells.lookup x = some c → c ≠ b) ∧ ∀ p ∈ X.pn ++ pins, p.1 ≠ b)
    (keep : ∀ b o, b ≠ X.env.locals → b ∉ X.fs → b ∉ ch → s.heap.get? b = some o → H b = none → h'.get? b = some o)
    (slot : ∀ b o, b ≠ X.env.locals → b ∈ X.fs → b ∉ ch → s.heap.get? b = some o → H b = none → ∃ sl, h'.get? b = some { o with slots := sl }) (free : ∀ b o, b ∉ ch → s.heap.get? b = some o → H b = none → H' b = none)
    (there : ∀ b o, b ∉ ch → s.heap.get? b = some o → ∃ o', h'.get? b = some o')
    (tups : ∀ b xs, H b = some (.tup xs) → H' b = some (.tup xs)) (frzs : ∀ b o u, H b = some (.frz o u) → H' b = some (.frz o u)) (tbls : ∀ b ps, H b = some (.tbl ps) → ∃ more, H' b = some (.tbl (ps ++ more)))
    (ns : ∀ m, s.heap.Ns X.env.locals m → h'.Ns X.env.locals m) (hok : HOk X.prog X.w H' h') (hg : AllBare g') :
    Inv X pins σ H' { s with heap := h', gens := g', drawn := d', toks := t' } := by
  have neL : ∀ b o, X.s₀.heap.get? b = some o → b ≠ X.env.locals := fun b o e => Nat.ne_of_lt (Nat.lt_of_lt_of_le (Heap.lt_size e) I.ok.above)
  have neC : ∀ b o, X.s₀.heap.get? b = some o → b ∉ X.ex → b ∉ ch := fun b o e hx hb => by
    rcases (hch b hb).1 with z | z
    · exact hx z
    · exact absurd (Nat.lt_of_lt_of_le (Heap.lt_size e) z) (Nat.lt_irrefl _)
  have cellK : ∀ x c, X.env.cells.lookup x = some c → ∀ v, s.heap.IsCell c v → h'.IsCell c v := fun x c e v ⟨o, ho, hd⟩ => by
    have nch : c ∉ ch := fun z => (hch c z).2.2.1 x c e rfl
    by_cases hc : c ∈ X.fs
    · obtain ⟨sl, q⟩ := slot c o (I.cne x c e) hc nch ho (I.freeC x c e)
      exact ⟨_, q, hd⟩
    · exact ⟨o, keep c o (I.cne x c e) hc nch ho (I.freeC x c e), hd⟩
  refine ⟨I.ok, I.os, hg, ⟨fun b o e n hb hx => ?_, fun b o e n hb hx => ?_, fun b o e n hx => ?_, fun b o e hx => ?_, fun b xs e => tups b xs (I.base.tups b xs e), fun b o xs e => frzs b o xs (I.base.frzs b o xs e), fun b ps e => ?_⟩, ?_, fun x c e => ?_, ?_, fun x c e => ?_, fun p hp => ?_, hok, I.len⟩
  · exact keep b o (neL b o e) hb (neC b o e hx) (I.base.keep b o e n hb hx) (I.base.free b o e n hx)
  · obtain ⟨sl, e1⟩ := I.base.slot b o e n hb hx
    obtain ⟨sl', e2⟩ := slot b _ (neL b o e) hb (neC b o e hx) e1 (I.base.free b o e n hx)
    exact ⟨sl', e2⟩
  · obtain ⟨o', e1⟩ := I.base.there b o e hx
    exact free b o' (neC b o e hx) e1 (I.base.free b o e n hx)
  · obtain ⟨o', e1⟩ := I.base.there b o e hx
    exact there b o' (neC b o e hx) e1
  · obtain ⟨m1, e1⟩ := I.base.tbls b ps e
    obtain ⟨m2, e2⟩ := tbls b _ e1
    exact ⟨m1 ++ m2, by rw [e2, Array.append_assoc]⟩
  · obtain ⟨m, hn, hl⟩ := I.loc
    refine ⟨m, ns m hn, fun i x v e1 e2 e3 => ?_⟩
    obtain ⟨u, r, l⟩ := hl i x v e1 e2 e3
    refine ⟨u, r, ?_⟩
    rcases l with l | ⟨k, c, e, z⟩
    · exact .inl l
    · exact .inr ⟨k, c, e, cellK x c e _ z⟩
  · obtain ⟨v, z⟩ := I.cell x c e
    exact ⟨v, cellK x c e v z⟩
  · obtain ⟨m, ⟨o, _, _, ho, _⟩, _⟩ := I.loc
    exact free _ o (fun z => (hch _ z).2.1 rfl) ho I.free
  · obtain ⟨v, o, ho, hd⟩ := I.cell x c e
    exact free c o (fun z => (hch c z).2.2.1 x c e rfl) ho (I.freeC x c e)
  · obtain ⟨e, n, ne, nf, d⟩ := I.pin p hp
    have nch : p.1 ∉ ch := fun z => (hch p.1 z).2.2.2 p hp rfl
    exact ⟨keep p.1 p.2 ne nf nch e n, free p.1 p.2 nch e n, ne, nf, d⟩
/-- .. where the frame's own object is kept too -/
theorem Inv.un {t' : Nat} (I : Inv X pins σ H s) (u : Un X.fs [] H H' s.heap h') (hok : HOk X.prog X.w H' h') : Inv X pins σ H' { s with heap := h', toks := t' } := by
  obtain ⟨m, ⟨o, es, ep, ho, r⟩, _⟩ := id I.loc
  obtain ⟨sl, hL⟩ := u.any ho I.free (by simp)
  exact I.step (g' := s.gens) (d' := s.drawn) (ch := []) (fun _ z => nomatch z) (fun b o _ hb _ e n => u.keep b o e n hb (by simp)) (fun b o _ hb _ e n => u.slot b o e n hb (by simp)) (fun b o _ e n => u.free b o e n (by simp)) (fun b o _ e => u.there b o e (by simp)) u.tups u.frzs u.tbls (fun m' hm => by
    obtain ⟨o', es', ep', ho', r'⟩ := hm
    rw [ho] at ho'; cases ho'
    exact ⟨_, es', ep', hL, r'⟩) hok I.bare
/-- behind a call (or a comprehension's block): the slots of this frame may have changed too, the records at ch may have turned -/
theorem Inv.call {g' : Array GenState} {t' : Nat} {d' : Drawn} {ch : List Addr} (I : Inv X pins σ H s) (u : Un (frs X.stack) ch H H' s.heap h') (hok : HOk X.prog X.w H' h') (hg : AllBare g')
    (hch : ∀ b ∈ ch, (b ∈ X.ex ∨ X.s₀.heap.objs.size ≤ b) ∧ b ≠ X.env.locals ∧ (∀ x c, X.env.cells.lookup x = some c → c ≠ b) ∧ ∀ p ∈ X.pn ++ pins, p.1 ≠ b) :
    Inv X pins σ H' { s with heap := h', gens := g', drawn := d', toks := t' } := by
  obtain ⟨m, ⟨o, es, ep, ho, r⟩, _⟩ := id I.loc
  obtain ⟨sl, hL⟩ := u.any ho I.free fun z => (hch _ z).2.1 rfl
  exact I.step (ch := ch) hch (fun b o hL hb hc e n => u.keep b o e n (fun z => (List.mem_cons.mp (I.stkSub b z)).elim hL hb) hc) (fun b o _ _ hc e n => u.any e n hc) (fun b o hc e n => u.free b o e n hc) (fun b o hc e => u.there b o e hc) u.tups u.frzs u.tbls (fun m' hm => by
    obtain ⟨o', es', ep', ho', r'⟩ := hm
    rw [ho] at ho'; cases ho'
    exact ⟨_, es', ep', hL, r'⟩) hok hg
/-- an untracked record of ours (an iterator) has turned -/
theorem Inv.turned {t' : Nat} {it : Addr} (I : Inv X pins σ H s) (k : ∀ b o, b ≠ it → s.heap.get? b = some o → h'.get? b = some o) (hn : H it = none) (hL : it ≠ X.env.locals)
    (h1 : it ∈ X.ex ∨ X.s₀.heap.objs.size ≤ it) (h2 : ∀ x c, X.env.cells.lookup x = some c → c ≠ it) (h3 : ∀ p ∈ X.pn ++ pins, p.1 ≠ it) : Inv X pins σ H { s with heap := h', toks := t' } := by
  have nit : ∀ b u, H b = some u → b ≠ it := fun b u e z => by rw [z, hn] at e; cases e
  refine I.step (g' := s.gens) (d' := s.drawn) (ch := [it]) (fun b hb => ?_) (fun b o _ _ hc e _ => k b o (fun z => hc (by simp [z])) e) (fun b o _ _ hc e _ => ⟨o.slots, k b o (fun z => hc (by simp [z])) e⟩) (fun _ _ _ _ n => n)
    (fun b o hc e => ⟨o, k b o (fun z => hc (by simp [z])) e⟩) (fun _ _ e => e) (fun _ _ _ e => e) (fun b ps e => ⟨#[], by rw [e]; simp⟩) (fun m hm => ?_) (fun b u e => ?_) I.bare
  · have e : b = it := by simpa using hb
    subst e
    exact ⟨h1, hL, h2, h3⟩
  · obtain ⟨o, es, ep, ho, r⟩ := hm
    exact ⟨o, es, ep, k _ o (Ne.symm hL) ho, r⟩
  · refine (I.hok b u e).stay (fun c v hc q => k c v ?_ q) (fun _ q => q) fun _ _ q => q
    rcases hc with z | z
    · rw [z]; exact nit b u e
    · exact nit c _ z
theorem Inv.tok (I : Inv X pins σ H s) (t : Nat) : Inv X pins σ H { s with toks := t } := I.un (h' := s.heap) (t' := t) Un.refl I.hok
/-- all objects kept -/
theorem Inv.kept {t' : Nat} (I : Inv X pins σ H s) (k : ∀ b u, s.heap.get? b = some u → h'.get? b = some u) : Inv X pins σ H { s with heap := h', toks := t' } := I.un (Un.kept k) (I.hok.kept k)
/-- a new object laid and tracked -/
theorem Inv.laid {a : Addr} {o : HO} {t' : Nat} (I : Inv X pins σ H s) (k : ∀ b u, s.heap.get? b = some u → h'.get? b = some u) (hp : s.heap.objs.size ≤ a) (new : ObjOk X.prog X.w (upd H a o) h' a o) :
    Inv X pins σ (upd H a o) { s with heap := h', toks := t' } := I.un (Un.laid k hp (I.hok.fresh hp)) (I.hok.laid k hp new)
/-- an object written -/
theorem Inv.write {x e : Addr} {o : HO} {t' : Nat} (I : Inv X pins σ H s) (mu : Mut (H x)) (he : e = x ∨ H e = some (.own x)) (k : ∀ b u, b ≠ e → s.heap.get? b = some u → h'.get? b = some u) (heo : ∃ u, h'.get? e = some u)
    (new : ObjOk X.prog X.w (upd H x o) h' x o) : Inv X pins σ (upd H x o) { s with heap := h', toks := t' } := I.un (Un.write mu he k heo) (I.hok.write mu he k heo new)
/-- forgetting slots, pins -/
theorem Inv.weak {σ' : List (Option V)} (I : Inv X pins σ H s) (hl : σ'.length = σ.length) (w : ∀ (i : Nat) v, σ'[i]? = some (some v) → σ[i]? = some (some v)) : Inv X pins σ' H s :=
  ⟨I.ok, I.os, I.bare, I.base, let ⟨m, hn, hl'⟩ := I.loc; ⟨m, hn, fun i x v e1 e2 e3 => hl' i x v e1 (w i v e2) e3⟩, I.cell, I.free, I.freeC, I.pin, I.hok, hl.trans I.len⟩
theorem Inv.pins_of {pins' : List (Addr × Obj)} (I : Inv X pins σ H s) (h : ∀ p ∈ pins', s.heap.get? p.1 = some p.2 ∧ H p.1 = none ∧ p.1 ≠ X.env.locals ∧ p.1 ∉ X.fs ∧ ∀ v, p.2.data ≠ .cell v) : Inv X pins' σ H s :=
  ⟨I.ok, I.os, I.bare, I.base, I.loc, I.cell, I.free, I.freeC, fun p hp => (List.mem_append.mp hp).elim (fun z => I.pin p (List.mem_append_left _ z)) (h p), I.hok, I.len⟩

theorem nodup_ix {N : List Str} (hN : N.Nodup) {i j : Nat} {x : Str} (a : N[i]? = some x) (b : N[j]? = some x) : i = j := by
  obtain ⟨h1, e1⟩ := List.getElem?_eq_some_iff.mp a
  obtain ⟨h2, e2⟩ := List.getElem?_eq_some_iff.mp b
  exact (List.getElem_inj hN).mp (e1.trans e2.symm)

/-- a name is stored; what changed -/
theorem store_ok2 {M : Model} {A : Around} {E : Value → Shared → Prop} {i : Nat} {x : Str} {v : V} {u : Value} {Q : Unit → Shared → Prop} (I : Inv X pins σ H s) (hN : X.N.Nodup) (hi : X.N[i]? = some x) (hx : Loc X.env.scope x) (r : RelV v u)
    (h : ∀ s', Inv X pins (σ.set i (some v)) H s' → (∃ a, Heap.SameBut a s.heap s'.heap ∧ (a = X.env.locals ∨ X.env.cells.lookup x = some a)) → Q () s') (hf : X.fn x = true ∨ X.env.scope.names.lookup x = some .local := by first | exact .inl rfl | exact .inr rfl | assumption) : wpAny M A (storeName X.env x u) Q E s := by
  obtain ⟨m, hn, hl⟩ := id I.loc
  have hcls : (X.env.scope.kind == .class || (X.env.scope.kind == .module && X.env.locals != X.env.globals)) = false := by rw [I.ok.kind]; rfl
  have hiσ : i < σ.length := by rw [I.len]; exact (List.getElem?_eq_some_iff.mp hi).1
  have cne := I.cne
  have tracked : ∀ {a : Addr} {h' : Heap}, (∃ o, s.heap.get? a = some o ∧ H a = none) → Heap.SameBut a s.heap h' → HOk X.prog X.w H h' := fun {a h'} ha hs b ob e => by
    obtain ⟨_, _, hfree⟩ := ha
    refine (I.hok b ob e).stay (fun c w' hc q => (hs.2 c ?_).trans q) (fun _ q => q) fun _ _ q => q
    rintro rfl
    rcases hc with rfl | hc
    · rw [hfree] at e; cases e
    · rw [hfree] at hc; cases hc
  rcases hx with hk | hk
  · refine wpAny_storeName_local hk hn (fun h' hn' hs => ?_) hcls
    obtain ⟨oL, _, _, hoL, _⟩ := id hn
    refine h _ ⟨I.ok, I.os, I.bare, ⟨fun b o e n hb hx => ?_, fun b o e n hb hx => ?_, I.base.free, fun b o e hx => ?_, I.base.tups, I.base.frzs, I.base.tbls⟩, ⟨_, hn', fun j y v' e1 e2 e3 => ?_⟩, fun y c e => ?_, I.free, I.freeC, fun p hp => ?_, tracked ⟨oL, hoL, I.free⟩ hs, by simpa using I.len⟩ ⟨_, hs, .inl rfl⟩
    · exact (hs.2 b (Nat.ne_of_lt (Nat.lt_of_lt_of_le (Heap.lt_size e) I.ok.above))).trans (I.base.keep b o e n hb hx)
    · obtain ⟨sl, e1⟩ := I.base.slot b o e n hb hx
      exact ⟨sl, (hs.2 b (Nat.ne_of_lt (Nat.lt_of_lt_of_le (Heap.lt_size e) I.ok.above))).trans e1⟩
    · obtain ⟨o', e1⟩ := I.base.there b o e hx
      exact ⟨o', (hs.2 b (Nat.ne_of_lt (Nat.lt_of_lt_of_le (Heap.lt_size e) I.ok.above))).trans e1⟩
    · by_cases hj : j = i
      · subst hj
        rw [hi] at e1; cases e1
        rw [List.getElem?_set_self hiσ] at e2
        cases e2
        exact ⟨u, r, .inl ⟨hk, by simp⟩⟩
      · rw [List.getElem?_set_ne (Ne.symm hj)] at e2
        obtain ⟨u', r', q⟩ := hl j y v' e1 e2 e3
        refine ⟨u', r', ?_⟩
        rcases q with ⟨k, e⟩ | ⟨k, c, e, z⟩
        · refine .inl ⟨k, ?_⟩
          have : y ≠ x := fun e => hj (nodup_ix hN e1 (e ▸ hi))
          simp [this, e]
        · exact .inr ⟨k, c, e, z.sameBut hs (cne y c e)⟩
    · obtain ⟨w', z⟩ := I.cell y c e
      exact ⟨w', z.sameBut hs (cne y c e)⟩
    · obtain ⟨e, n, ne, nf, d⟩ := I.pin p hp
      exact ⟨(hs.2 p.1 ne).trans e, n, ne, nf, d⟩
  · have hfn : X.fn x = true := by
      rcases hf with z | z
      · exact z
      · rw [z] at hk; cases hk
    obtain ⟨c, hc⟩ := I.ok.has x (.inl hk)
    obtain ⟨w', z⟩ := I.cell x c hc
    refine wpAny_storeName_cell I.ok.kind hk hc z (fun h' hc' hs => ?_)
    obtain ⟨oc, hoc, hocd⟩ := id z
    refine h { s with heap := h' } ⟨I.ok, I.os, I.bare, ⟨fun b o e n hb hx => ?_, fun b o e n hb hx => ?_, I.base.free, fun b o e hx => ?_, I.base.tups, I.base.frzs, I.base.tbls⟩, ⟨m, hn.sameBut hs (Ne.symm (cne x c hc)), fun j y v' e1 e2 e3 => ?_⟩, fun y c' e => ?_, I.free, I.freeC, fun p hp => ?_, tracked ⟨oc, hoc, I.freeC x c hc⟩ hs, by simpa using I.len⟩ ⟨c, hs, .inr hc⟩
    · exact (hs.2 b (Nat.ne_of_lt (Nat.lt_of_lt_of_le (Heap.lt_size e) (I.ok.cab x c hfn hc)))).trans (I.base.keep b o e n hb hx)
    · obtain ⟨sl, e1⟩ := I.base.slot b o e n hb hx
      exact ⟨sl, (hs.2 b (Nat.ne_of_lt (Nat.lt_of_lt_of_le (Heap.lt_size e) (I.ok.cab x c hfn hc)))).trans e1⟩
    · obtain ⟨o', e1⟩ := I.base.there b o e hx
      exact ⟨o', (hs.2 b (Nat.ne_of_lt (Nat.lt_of_lt_of_le (Heap.lt_size e) (I.ok.cab x c hfn hc)))).trans e1⟩
    · by_cases hj : j = i
      · subst hj
        rw [hi] at e1; cases e1
        rw [List.getElem?_set_self hiσ] at e2
        cases e2
        exact ⟨u, r, .inr ⟨.inl hk, c, hc, hc'⟩⟩
      · rw [List.getElem?_set_ne (Ne.symm hj)] at e2
        obtain ⟨u', r', q⟩ := hl j y v' e1 e2 e3
        refine ⟨u', r', ?_⟩
        rcases q with q | ⟨k, c', e, z'⟩
        · exact .inl q
        · refine .inr ⟨k, c', e, z'.sameBut hs ?_⟩
          rintro rfl
          exact hj (nodup_ix hN e1 (I.ok.inj _ _ _ e hc ▸ hi))
    · by_cases hcc : c' = c
      · subst hcc; exact ⟨_, hc'⟩
      · obtain ⟨w2, z2⟩ := I.cell y c' e
        exact ⟨w2, z2.sameBut hs hcc⟩
    · obtain ⟨e, n, ne, nf, d⟩ := I.pin p hp
      refine ⟨(hs.2 p.1 ?_).trans e, n, ne, nf, d⟩
      intro q
      rw [q, hoc] at e
      have q' : oc = p.2 := Option.some.inj e
      exact d w' (by rw [← q']; exact hocd)
theorem store_ok {M : Model} {A : Around} {E : Value → Shared → Prop} {i : Nat} {x : Str} {v : V} {u : Value} {Q : Unit → Shared → Prop} (I : Inv X pins σ H s) (hN : X.N.Nodup) (hi : X.N[i]? = some x) (hx : Loc X.env.scope x) (r : RelV v u)
    (h : ∀ s', Inv X pins (σ.set i (some v)) H s' → Q () s') (hf : X.fn x = true ∨ X.env.scope.names.lookup x = some .local := by first | exact .inl rfl | exact .inr rfl | assumption) : wpAny M A (storeName X.env x u) Q E s :=
  store_ok2 I hN hi hx r (fun s' I' _ => h s' I') hf
/-- behind a call or a block, the state as it is -/
theorem Inv.call' {s' : Shared} {ch : List Addr} (I : Inv X pins σ H s) (ho : s'.os = s.os) (u : Un (frs X.stack) ch H H' s.heap s'.heap) (hok : HOk X.prog X.w H' s'.heap) (hg : AllBare s'.gens)
    (hch : ∀ b ∈ ch, (b ∈ X.ex ∨ X.s₀.heap.objs.size ≤ b) ∧ b ≠ X.env.locals ∧ (∀ x c, X.env.cells.lookup x = some c → c ≠ b) ∧ ∀ p ∈ X.pn ++ pins, p.1 ≠ b) : Inv X pins σ H' s' := by
  obtain ⟨h', g', d', t', o'⟩ := s'
  have e : o' = s.os := ho
  subst e
  exact I.call (g' := g') (t' := t') (d' := d') u hok hg hch
end

/-! ### the judgements -/
/-- an exception: its class, its own dict's address (where it has one), the abstract heap behind it -/
abbrev XK := Value → Option Addr → Hp → Prop
abbrev St := List (Option V)
abbrev VK := V → Hp → Prop
/-- an expression's reading; a test's; an argument list's -/
abbrev TE := St → Hp → VK → Prop
abbrev TT := St → Hp → (Bool → Hp → Prop) → Prop
abbrev TA := St → Hp → (List V → Hp → Prop) → Prop
/-- what is wanted behind a statement -/
structure Ends where
  nx : St → Hp → Prop
  rt : VK
  bk : St → Hp → Prop := fun _ _ => False
  ct : St → Hp → Prop := fun _ _ => False
abbrev TS := Ends → St → Hp → Prop

def EP (X : Cx) (pins : List (Addr × Obj)) (σ : St) (Q : VK) (u : Value) (s' : Shared) : Prop := ∃ v H', Inv X pins σ H' s' ∧ RelV v u ∧ Q v H'
def TP (X : Cx) (pins : List (Addr × Obj)) (σ : St) (Q : Bool → Hp → Prop) (b : Bool) (s' : Shared) : Prop := ∃ H', Inv X pins σ H' s' ∧ Q b H'
def AP (X : Cx) (pins : List (Addr × Obj)) (σ : St) (Q : List V → Hp → Prop) (us : List Value) (s' : Shared) : Prop := ∃ vs H', Inv X pins σ H' s' ∧ Vals vs us ∧ Q vs H'
def SP (X : Cx) (pins : List (Addr × Obj)) (D : Ends) (f : Flow) (s' : Shared) : Prop :=
  match f with
  | .next => ∃ σ' H', Inv X pins σ' H' s' ∧ D.nx σ' H'
  | .brk => ∃ σ' H', Inv X pins σ' H' s' ∧ D.bk σ' H'
  | .cont => ∃ σ' H', Inv X pins σ' H' s' ∧ D.ct σ' H'
  | .ret u => ∃ v σ' H', Inv X pins σ' H' s' ∧ RelV v u ∧ D.rt v H'

def PE (X : Cx) (e : Expr) (t : TE) : Prop :=
  ∀ (pins : List (Addr × Obj)) (s : Shared) (σ : St) (H : Hp) (Q : VK), Inv X pins σ H s → t σ H Q → wpAny (model X.prog X.w) X.A (eval e X.env) (EP X pins σ Q) X.xe s
def PT (X : Cx) (e : Expr) (t : TT) : Prop :=
  ∀ (pins : List (Addr × Obj)) (s : Shared) (σ : St) (H : Hp) (Q : Bool → Hp → Prop), Inv X pins σ H s → t σ H Q → wpAny (model X.prog X.w) X.A (isTrue e X.env (eval e X.env)) (TP X pins σ Q) X.xe s
/-- a test whatever its 'whole' is (and, or) -/
def PW (X : Cx) (e : Expr) (t : TT) : Prop :=
  ∀ (whole : Sem Value) (pins : List (Addr × Obj)) (s : Shared) (σ : St) (H : Hp) (Q : Bool → Hp → Prop), Inv X pins σ H s → t σ H Q → wpAny (model X.prog X.w) X.A (isTrue e X.env whole) (TP X pins σ Q) X.xe s
theorem PW.pt {X : Cx} {e : Expr} {t : TT} (h : PW X e t) : PT X e t := h _
/-- an argument list (no star), from the left -/
def PA (X : Cx) (es : List Expr) (t : TA) : Prop :=
  ∀ (pos : Pos) (pins : List (Addr × Obj)) (s : Shared) (σ : St) (H : Hp) (Q : List V → Hp → Prop), Inv X pins σ H s → t σ H Q → wpAny (model X.prog X.w) X.A (spliced (backTo pos (starEach es X.env))) (AP X pins σ Q) X.xe s
def PS (X : Cx) (st : Stmt) (t : TS) : Prop :=
  ∀ (pins : List (Addr × Obj)) (s : Shared) (σ : St) (H : Hp) (D : Ends), Inv X pins σ H s → t D σ H → wpAny (model X.prog X.w) X.A (exec st X.env) (SP X pins D) X.xe s
def PSs (X : Cx) (st : List Stmt) (t : TS) : Prop :=
  ∀ (pins : List (Addr × Obj)) (s : Shared) (σ : St) (H : Hp) (D : Ends), Inv X pins σ H s → t D σ H → wpAny (model X.prog X.w) X.A (execs st X.env) (SP X pins D) X.xe s
/-- weaken the end -/
theorem thn {α : Type} {t : Sem α} {Q Q' : α → Shared → Prop} {M : Model} {A : Around} {E : Value → Shared → Prop} {s : Shared} (h : wpAny M A t Q E s) (hQ : ∀ a s, Q a s → Q' a s) : wpAny M A t Q' E s := wpAny_mono h hQ fun _ _ x => x
end L2

namespace L2
open PySem PySem.Spec PyProof.Rows
section
variable {X : Cx}

/-! ### names and constants -/
def tVar (i : Nat) : TE := fun σ H Q => ∃ v, σ[i]? = some (some v) ∧ Q v H
def tC (v : V) : TE := fun _ H Q => Q v H
theorem pe_var {i : Nat} {x : Str} {pos : Pos} (hN : X.N[i]? = some x) (hv : Vis X.env.scope x) (hd : (x == ("__debug__" : Str)) = false := by decide) (hcd : (x == ("__classdict__" : Str)) = false := by decide) : PE X (.Name x pos) (tVar i) := by
  intro pins s σ H Q I h
  obtain ⟨v, e, h⟩ := h
  obtain ⟨m, hn, hl⟩ := I.loc
  obtain ⟨u, r, l⟩ := hl i x v hN e hv
  have fin : EP X pins σ Q u s := ⟨v, H, I, r, h⟩
  rcases l with ⟨hk, hm⟩ | ⟨hk, c, hc, hcell⟩
  · exact wpAny_Name (wpAny_loadName_local I.ok.kind hk hn hm fin) hd
  · rcases hk with hk | hk
    · exact wpAny_Name (wpAny_loadName_cell I.ok.kind hk hc hcell fin) hd
    · exact wpAny_Name (wpAny_loadName_free I.ok.kind hk hc hcell fin hcd) hd
theorem pe_int {i j pos} : PE X (.Constant (.int i) j pos) (tC (.int i)) := fun _ _ _ H _ I h => wpAny_Constant_int ⟨.int i, H, I.tok _, ⟨_, rfl⟩, h⟩
theorem pe_bl {b j pos} : PE X (.Constant (.bool b) j pos) (tC (.bl b)) := fun _ _ _ H _ I h => Constant_bool ⟨.bl b, H, I, rfl, h⟩
theorem pe_non {j pos} : PE X (.Constant .none j pos) (tC .non) := fun _ _ _ H _ I h => Constant_none ⟨.non, H, I, rfl, h⟩
theorem pe_str {x j pos} : PE X (.Constant (.str x) j pos) (tC (.str x)) := fun _ _ _ H _ I h => Calls.Constant_str ⟨.str x, H, I.tok _, ⟨_, rfl⟩, h⟩

/-- a global name of the def -/
def Gl (X : Cx) (x : Str) : Prop := X.env.kindOf x = some .globalImplicit
theorem ld_glob {E : Value → Shared → Prop} {pins : List (Addr × Obj)} {s : Shared} {σ : St} {H : Hp} {x : Str} {u : Value} {pos : Pos} {Q : Value → Shared → Prop} (I : Inv X pins σ H s) (hg : Gl X x) (hm : X.mg x = some u) (h : Q u s)
    (hd : (x == ("__debug__" : Str)) = false := by decide) : wpAny (model X.prog X.w) X.A (eval (.Name x pos) X.env) Q E s :=
  Calls.Name_function_global I.ok.kind hg (Calls.loadGlobal_global (by rw [I.ok.glob]; exact I.mod.glob.keeps I.bk) hm h) hd
theorem ld_blt {E : Value → Shared → Prop} {pins : List (Addr × Obj)} {s : Shared} {σ : St} {H : Hp} {x : Str} {u : Value} {pos : Pos} {Q : Value → Shared → Prop} (I : Inv X pins σ H s) (hg : Gl X x) (hm : X.mg x = none) (hv : bootBuiltins x = some u) (h : Q u s)
    (hn : x ≠ "__name__" := by decide) (hd : (x == ("__debug__" : Str)) = false := by decide) : wpAny (model X.prog X.w) X.A (eval (.Name x pos) X.env) Q E s := by
  obtain ⟨mb, h1, h2⟩ := I.mod.blt
  exact Calls.Name_function_global I.ok.kind hg (Calls.loadGlobal_builtin (by rw [I.ok.glob]; exact I.mod.glob.keeps I.bk) hm (by rw [I.ok.blt]; exact h1.keeps I.bk) ((h2 x hn).trans hv) h) hd
/-- a module's constant, a class, a function, as a value -/
theorem pe_glob {x : Str} {v : V} {u : Value} {pos : Pos} (hg : Gl X x) (hm : X.mg x = some u) (r : RelV v u) (hd : (x == ("__debug__" : Str)) = false := by decide) : PE X (.Name x pos) (tC v) :=
  fun _ _ _ H _ I h => ld_glob I hg hm ⟨v, H, I, r, h⟩ hd
theorem pe_bltn {x : Str} {v : V} {u : Value} {pos : Pos} (hg : Gl X x) (hm : X.mg x = none) (hv : bootBuiltins x = some u) (r : RelV v u) (hn : x ≠ "__name__" := by decide) (hd : (x == ("__debug__" : Str)) = false := by decide) : PE X (.Name x pos) (tC v) :=
  fun _ _ _ H _ I h => ld_blt I hg hm hv ⟨v, H, I, r, h⟩ hn hd

/-! ### arithmetic -/
variable {a b : Expr} {ta tb : TE} {pos : Pos}
/-! ### comparisons -/
/-- a comparison as a value, as a test -/
def tB (t : TE) : TT := fun σ H Q => t σ H fun x H1 => ∃ c, x = .bl c ∧ Q c H1
/-- an expression whose value is a bool, as a test -/
theorem pt_val {e : Expr} {t : TE} (h : PE X e t) (he : ∀ whole, isTrue e X.env whole = (do let v ← whole; standAt e.pos; holding [v] (truthy v)) := by intro _; rfl) : PT X e (tB t) := by
  intro pins s σ H Q I hw
  refine isTrue_plain (thn (h pins s σ H _ I hw) fun v s1 ⟨x, H1, I1, r1, q1⟩ => ?_) (he _)
  obtain ⟨d, rfl, q⟩ := q1
  cases r1
  exact wpAny_truthy_bool ⟨H1, I1, q⟩

/-! ### and, or, not -/
variable {tA tB' : TT} {rest : List Expr}
def tAnd (t u : TT) : TT := fun σ H Q => t σ H fun c H1 => if c = true then u σ H1 Q else Q false H1
def tOr (t u : TT) : TT := fun σ H Q => t σ H fun c H1 => if c = true then Q true H1 else u σ H1 Q
def tNot (t : TT) : TT := fun σ H Q => t σ H fun c H1 => Q (!c) H1
theorem pw_and1 (ha : PT X a tA) : PW X (.BoolOp .And [a] pos) tA := by
  intro wh pins s σ H Q I h
  refine isTrue_and (thn (ha pins s σ H Q I h) fun c s1 e => ?_)
  cases c with
  | true => exact isTrue_and_nil e
  | false => exact e
theorem pw_or1 (ha : PT X a tA) : PW X (.BoolOp .Or [a] pos) tA := by
  intro wh pins s σ H Q I h
  refine isTrue_or (thn (ha pins s σ H Q I h) fun c s1 e => ?_)
  cases c with
  | false => exact isTrue_or_nil e
  | true => exact e
theorem pw_and (ha : PT X a tA) (hb : PW X (.BoolOp .And (b :: rest) pos) tB') : PW X (.BoolOp .And (a :: b :: rest) pos) (tAnd tA tB') := by
  intro wh pins s σ H Q I h
  refine isTrue_and (thn (ha pins s σ H _ I h) fun c s1 ⟨H1, I1, q1⟩ => ?_)
  cases c with
  | true => exact hb wh pins s1 σ H1 Q I1 q1
  | false => exact ⟨H1, I1, q1⟩
theorem pw_or (ha : PT X a tA) (hb : PW X (.BoolOp .Or (b :: rest) pos) tB') : PW X (.BoolOp .Or (a :: b :: rest) pos) (tOr tA tB') := by
  intro wh pins s σ H Q I h
  refine isTrue_or (thn (ha pins s σ H _ I h) fun c s1 ⟨H1, I1, q1⟩ => ?_)
  cases c with
  | true => exact ⟨H1, I1, q1⟩
  | false => exact hb wh pins s1 σ H1 Q I1 q1
theorem pt_not (ha : PT X a tA) : PT X (.UnaryOp .Not a pos) (tNot tA) := by
  intro pins s σ H Q I h
  exact isTrue_not (ha pins s σ H (fun c H1 => Q (!c) H1) I h)
/-- .. as values (bools) -/
def tAndV (ta tb : TE) : TE := fun σ H Q => ta σ H fun x H1 => ∃ c, x = .bl c ∧ if c = true then tb σ H1 Q else Q (.bl false) H1
def tNotV (ta : TE) : TE := fun σ H Q => ta σ H fun x H1 => ∃ c, x = .bl c ∧ Q (.bl (!c)) H1
theorem pe_one {op} {t : TE} (h : PE X a t) : PE X (.BoolOp op [a] pos) t := fun pins s σ H Q I hw => BoolOp_one (h pins s σ H Q I hw)
theorem pe_and (ha : PE X a ta) (hb : PE X (.BoolOp .And (b :: rest) pos) tb) : PE X (.BoolOp .And (a :: b :: rest) pos) (tAndV ta tb) := by
  intro pins s σ H Q I h
  refine BoolOp_and (thn (ha pins s σ H _ I h) fun v s1 ⟨x, H1, I1, r1, q1⟩ => ?_)
  obtain ⟨c, rfl, q1⟩ := q1
  cases r1
  refine wpAny_truthy_bool ?_
  cases c with
  | true => exact hb pins s1 σ H1 Q I1 q1
  | false => exact ⟨.bl false, H1, I1, rfl, q1⟩
theorem pe_not (ha : PE X a ta) : PE X (.UnaryOp .Not a pos) (tNotV ta) := by
  intro pins s σ H Q I h
  refine UnaryOp_ (thn (ha pins s σ H _ I h) fun v s1 ⟨x, H1, I1, r1, q1⟩ => ?_)
  obtain ⟨c, rfl, q1⟩ := q1
  cases r1
  exact not_of (wpAny_truthy_bool ⟨.bl (!c), H1, I1, rfl, q1⟩)
/-- a if t else b -/
def tIf (t : TT) (ta tb : TE) : TE := fun σ H Q => t σ H fun c H1 => if c = true then ta σ H1 Q else tb σ H1 Q
theorem pe_ifExp {c : Expr} (hc : PT X c tA) (ha : PE X a ta) (hb : PE X b tb) : PE X (.IfExp c a b pos) (tIf tA ta tb) := by
  intro pins s σ H Q I h
  refine wpAny_IfExp (thn (hc pins s σ H _ I h) fun d s1 ⟨H1, I1, q1⟩ => ?_)
  cases d with
  | true => exact ha pins s1 σ H1 Q I1 q1
  | false => exact hb pins s1 σ H1 Q I1 q1
end
end L2

namespace L2
open PySem PySem.Spec PyProof.Rows

/-! ### a list, a tuple that is read: tracked, frozen, or an object of the module -/
def SqL (K : PySem.W.Frag) (H : Hp) (a : Addr) (xs : List V) : Prop :=
  Rd H a (.lst xs) ∨
    ∃ (o : Obj) (its : Array Value) (n : Nat), K.lookup a = some o ∧ o.cls = .type "list" ∧ o.dict = none ∧ o.data = .seq its n ∧ its.size ≤ sizeLine ∧ Vals xs its.toList
def SqT (K : PySem.W.Frag) (H : Hp) (a : Addr) (xs : List V) : Prop :=
  Rd H a (.tup xs) ∨
    ∃ (o : Obj) (its : Array Value) (n : Nat), K.lookup a = some o ∧ o.cls = .type "tuple" ∧ o.data = .seq its n ∧ its.size ≤ sizeLine ∧ Vals xs its.toList
def absV : Value → Option V
  | .none => some .non
  | .bool b => some (.bl b)
  | .int i _ => some (.int i)
  | .str x _ => some (.str x)
  | .bytes b _ => some (.byt b)
  | .float b _ => some (.flt b)
  | .ref a => some (.ref a)
  | .type n => some (.ty n)
  | _ => none
theorem RelV.abs {x : V} {u : Value} (r : RelV x u) : absV u = some x := by
  cases x with
  | non => cases r; rfl
  | bl _ => cases r; rfl
  | int _ => obtain ⟨t, rfl⟩ := r; rfl
  | str _ => obtain ⟨t, rfl⟩ := r; rfl
  | byt _ => obtain ⟨t, rfl⟩ := r; rfl
  | flt _ => obtain ⟨t, rfl⟩ := r; rfl
  | ref _ => cases r; rfl
  | ty _ => cases r; rfl
theorem RelV.inj {x y : V} {u : Value} (r : RelV x u) (q : RelV y u) : x = y := Option.some.inj (r.abs.symm.trans q.abs)
theorem Vals.inj : ∀ {xs ys : List V} {us : List Value}, Vals xs us → Vals ys us → xs = ys
  | _, _, _, .nil, .nil => rfl
  | _, _, _, .cons r t, .cons r' t' => by rw [r.inj r', Vals.inj t t']
section
variable {X : Cx} {pins : List (Addr × Obj)} {σ : St} {H : Hp} {s : Shared} {a : Addr} {xs ys : List V}
theorem SqL.of {K : PySem.W.Frag} (h : H a = some (.lst xs)) : SqL K H a xs := .inl (.inl h)
theorem SqT.of {K : PySem.W.Frag} (h : H a = some (.tup xs)) : SqT K H a xs := .inl (.inl h)
theorem Inv.list (I : Inv X pins σ H s) (h : SqL X.K H a xs) : ∃ its : List Value, Vals xs its ∧ PlainL s.heap a its.toArray ∧ xs.length ≤ sizeLine := by
  rcases h with h | ⟨o, its, n, hk, hc, hd, hs, hz, r⟩
  · obtain ⟨z, its, n, r, e⟩ := h.ok I.hok
    exact ⟨its, r, ⟨_, n, e, rfl, rfl, rfl⟩, z⟩
  · refine ⟨its.toList, r, ⟨o, n, I.kIn a o hk, hc, hd, by simpa using hs⟩, ?_⟩
    have e := r.length
    simp only [Array.length_toList] at e
    omega
theorem Inv.tuple (I : Inv X pins σ H s) (h : SqT X.K H a xs) : ∃ its : List Value, Vals xs its ∧ IsTup s.heap a its.toArray ∧ xs.length ≤ sizeLine := by
  rcases h with h | ⟨o, its, n, hk, hc, hs, hz, r⟩
  · obtain ⟨z, its, r, p⟩ := h.ok I.hok
    exact ⟨its, r, p, z⟩
  · refine ⟨its.toList, r, ⟨o, I.kIn a o hk, hc, n, by simpa using hs⟩, ?_⟩
    have e := r.length
    simp only [Array.length_toList] at e
    omega
theorem Inv.list_inj (I : Inv X pins σ H s) (h : SqL X.K H a xs) (h' : SqL X.K H a ys) : xs = ys := by
  obtain ⟨its, r, ⟨o, n, e, _, _, d⟩, _⟩ := I.list h
  obtain ⟨its', r', ⟨o', n', e', _, _, d'⟩, _⟩ := I.list h'
  rw [e] at e'; cases e'
  rw [d] at d'
  injection d' with d1 _
  have : its = its' := by simpa using congrArg Array.toList d1
  subst this
  exact r.inj r'
theorem Inv.tuple_inj (I : Inv X pins σ H s) (h : SqT X.K H a xs) (h' : SqT X.K H a ys) : xs = ys := by
  obtain ⟨its, r, ⟨o, e, _, n, d⟩, _⟩ := I.tuple h
  obtain ⟨its', r', ⟨o', e', _, n', d'⟩, _⟩ := I.tuple h'
  rw [e] at e'; cases e'
  rw [d] at d'
  injection d' with d1 _
  have : its = its' := by simpa using congrArg Array.toList d1
  subst this
  exact r.inj r'
end

/-! ### another wish about exceptions -/
abbrev Cx.wish (X : Cx) (E : Value → Shared → Prop) : Cx := { X with xe := E }
/-- no exception leaves -/
abbrev Cx.nox (X : Cx) : Cx := X.wish fun _ _ => False
theorem Cx.Ok.wish {X : Cx} (ok : X.Ok) (E : Value → Shared → Prop) : (X.wish E).Ok :=
  ⟨ok.mod, ok.kind, ok.glob, ok.blt, ok.above, ok.inj, ok.has, ok.cab, ok.hd, ok.frames, ok.stk, ok.exf, ok.bs, ok.bsz, ok.noex, ok.exfs, ok.funs, ok.frf⟩
theorem Cx.Ok.unwish {X : Cx} {E : Value → Shared → Prop} (ok : (X.wish E).Ok) : X.Ok :=
  ⟨ok.mod, ok.kind, ok.glob, ok.blt, ok.above, ok.inj, ok.has, ok.cab, ok.hd, ok.frames, ok.stk, ok.exf, ok.bs, ok.bsz, ok.noex, ok.exfs, ok.funs, ok.frf⟩
section
variable {X : Cx} {pins : List (Addr × Obj)} {σ : St} {H : Hp} {s : Shared} {E : Value → Shared → Prop}
theorem Inv.wish (I : Inv X pins σ H s) (E : Value → Shared → Prop) : Inv (X.wish E) pins σ H s := ⟨I.ok.wish E, I.os, I.bare, I.base, I.loc, I.cell, I.free, I.freeC, I.pin, I.hok, I.len⟩
theorem Inv.unwish (I : Inv (X.wish E) pins σ H s) : Inv X pins σ H s := ⟨I.ok.unwish, I.os, I.bare, I.base, I.loc, I.cell, I.free, I.freeC, I.pin, I.hok, I.len⟩
theorem SP.unwish {D : Ends} {f : Flow} {s' : Shared} (h : SP (X.wish E) pins D f s') : SP X pins D f s' := by
  cases f with
  | next => obtain ⟨σ', H', I, q⟩ := h; exact ⟨σ', H', I.unwish, q⟩
  | brk => obtain ⟨σ', H', I, q⟩ := h; exact ⟨σ', H', I.unwish, q⟩
  | cont => obtain ⟨σ', H', I, q⟩ := h; exact ⟨σ', H', I.unwish, q⟩
  | ret u => obtain ⟨v, σ', H', I, r, q⟩ := h; exact ⟨v, σ', H', I.unwish, r, q⟩
theorem PSs.nox {st : List Stmt} {t : TS} (h : PSs X.nox st t) : PSs X st t := fun pins s σ H D I hw =>
  wpAny_mono (h pins s σ H D (I.wish _) hw) (fun _ _ q => q.unwish) fun _ _ z => False.elim z
end

/-! ### blocks and small statements -/
section
variable {X : Cx} {st : Stmt} {rest : List Stmt} {t u : TS} {e : Expr} {te : TE} {pos : Pos}
def tNext : TS := fun D σ H => D.nx σ H
def tSeq (t u : TS) : TS := fun D σ H => t { D with nx := u D } σ H
theorem pss_nil : PSs X [] tNext := fun _ _ σ H _ I h => wpAny_execs_nil ⟨σ, H, I, h⟩
theorem pss_cons (h1 : PS X st t) (h2 : PSs X rest u) : PSs X (st :: rest) (tSeq t u) := by
  intro pins s σ H D I h
  refine wpAny_execs_cons (thn (h1 pins s σ H { D with nx := u D } I h) fun f s1 q => ?_)
  cases f with
  | next =>
    obtain ⟨σ', H', I', q⟩ := q
    exact h2 pins s1 σ' H' D I' q
  | ret v => exact q
  | brk => exact q
  | cont => exact q
theorem pss_one (h1 : PS X st t) : PSs X [st] t := by
  intro pins s σ H D I h
  refine wpAny_execs_cons (thn (h1 pins s σ H D I h) fun f s1 q => ?_)
  cases f with
  | next => exact wpAny_execs_nil q
  | ret v => exact q
  | brk => exact q
  | cont => exact q
/-- in a def's body nothing is shown -/
theorem Inv.quiet {pins : List (Addr × Obj)} {σ : St} {H : Hp} {s : Shared} (I : Inv X pins σ H s) : interactive X.env = false := by simp [interactive, I.ok.kind]
/-- an expression whose value is dropped -/
def tDrop (te : TE) : TS := fun D σ H => te σ H fun _ H1 => D.nx σ H1
theorem ps_expr (he : PE X e te) (hs : swapsWith e none pos.line X.env = pure false := by rfl) : PS X (.Expr e pos) (tDrop te) := by
  intro pins s σ H D I h
  exact wpAny_Expr_any (thn (he pins s σ H _ I h) fun v s1 ⟨x, H1, I1, r1, q1⟩ => ⟨σ, H1, I1, q1⟩) I.quiet hs
def tRet (te : TE) : TS := fun D σ H => te σ H D.rt
theorem ps_ret (he : PE X e te) : PS X (.Return (some e) pos) (tRet te) := by
  intro pins s σ H D I h
  exact wpAny_Return_some (thn (he pins s σ H _ I h) fun v s1 ⟨x, H1, I1, r1, q1⟩ => ⟨x, σ, H1, I1, r1, q1⟩)
def tIfS (c : TT) (t u : TS) : TS := fun D σ H => c σ H fun b H1 => if b = true then t D σ H1 else u D σ H1
theorem ps_if {c : Expr} {a b : List Stmt} {tc : TT} (hc : PT X c tc) (ha : PSs X a t) (hb : PSs X b u) : PS X (.If c a b pos) (tIfS tc t u) := by
  intro pins s σ H D I h
  refine wpAny_If (thn (hc pins s σ H _ I h) fun d s1 ⟨H1, I1, q1⟩ => ?_)
  cases d with
  | true => exact ha pins s1 σ H1 D I1 q1
  | false => exact hb pins s1 σ H1 D I1 q1
end

/-! ### targets -/
abbrev TG := V → St → Hp → (St → Hp → Prop) → Prop
abbrev TGs := List V → St → Hp → (St → Hp → Prop) → Prop
def PG (X : Cx) (target : Expr) (t : TG) : Prop :=
  ∀ (pins : List (Addr × Obj)) (s : Shared) (σ : St) (H : Hp) (v : V) (u : Value) (Q : St → Hp → Prop), Inv X pins σ H s → RelV v u → t v σ H Q →
    wpAny (model X.prog X.w) X.A (assign target X.env u) (fun _ s' => ∃ σ' H', Inv X pins σ' H' s' ∧ Q σ' H') X.xe s
/-- several targets, one after another -/
def PGs (X : Cx) (ts : List Expr) (t : TGs) : Prop :=
  ∀ (pins : List (Addr × Obj)) (s : Shared) (σ : St) (H : Hp) (vs : List V) (us : List Value) (Q : St → Hp → Prop), Inv X pins σ H s → Vals vs us → t vs σ H Q →
    wpAny (model X.prog X.w) X.A (assignInOrder ((assignEach ts X.env).map (·.2)) us) (fun _ s' => ∃ σ' H', Inv X pins σ' H' s' ∧ Q σ' H') X.xe s
section
variable {X : Cx} {pos : Pos}
def gName (i : Nat) : TG := fun v σ H Q => Q (σ.set i (some v)) H
theorem pg_name {i : Nat} {x : Str} (hN : X.N.Nodup) (hi : X.N[i]? = some x) (hx : Loc X.env.scope x) (hf : X.fn x = true ∨ X.env.scope.names.lookup x = some .local := by first | exact .inl rfl | exact .inr rfl | assumption) : PG X (.Name x pos) (gName i) := by
  intro pins s σ H v u Q I r h
  exact wpAny_assign_Name (store_ok I hN hi hx r (fun s' I' => ⟨_, H, I', h⟩) hf)
def gNil : TGs := fun vs σ H Q => vs = [] ∧ Q σ H
def gCons (t : TG) (u : TGs) : TGs := fun vs σ H Q => ∃ v r, vs = v :: r ∧ t v σ H fun σ' H' => u r σ' H' Q
theorem pgs_nil : PGs X [] gNil := by
  intro pins s σ H vs us Q I r h
  obtain ⟨e, h⟩ := h
  subst e
  cases r
  exact assignInOrder_nil ⟨σ, H, I, h⟩
theorem pgs_cons {e : Expr} {es : List Expr} {t : TG} {u : TGs} (h1 : PG X e t) (h2 : PGs X es u)
    (hs : (assignEach (e :: es) X.env).map (·.2) = assign e X.env :: (assignEach es X.env).map (·.2) := by rfl) : PGs X (e :: es) (gCons t u) := by
  intro pins s σ H vs us Q I r h
  obtain ⟨v, vr, e1, h⟩ := h
  subst e1
  cases r with
  | cons r rr =>
    rw [hs]
    refine assignInOrder_cons (thn (h1 pins s σ H _ _ _ I r h) fun _ s1 ⟨σ1, H1, I1, q1⟩ => ?_)
    exact h2 pins s1 σ1 H1 _ _ Q I1 rr q1
/-- (a, b, ..) = a tuple of that length -/
def gTup (K : PySem.W.Frag) (n : Nat) (t : TGs) : TG := fun v σ H Q => ∃ a xs, v = .ref a ∧ SqT K H a xs ∧ xs.length = n ∧ t xs σ H Q
theorem pg_tup {es : List Expr} {k : Nat} {t : TGs} {n : Nat} (hc : X.calm = true) (h : PGs X es t)
    (hn : (assignEach es X.env).length = n := by rfl) (hst : (assignEach es X.env).findIdx? (·.1) = none := by rfl) : PG X (.Tuple es k pos) (gTup X.K n t) := by
  intro pins s σ H v u Q I r hw
  obtain ⟨a, xs, e1, hq, hl, hw⟩ := hw
  subst e1
  cases r
  obtain ⟨its, rv, ht, hz⟩ := I.tuple hq
  refine assign_Tuple_tuple (I.ok.hd hc) ht (by simp [hn, ← hl, rv.length]) hst fun h' hx => ?_
  have I1 : Inv X pins σ H { s with heap := h' } := I.kept (t' := s.toks) fun b o e => hx b o (Nat.ne_of_lt (Heap.lt_size e)) e
  exact h pins _ σ H xs _ Q I1 (by simpa using rv) hw
/-- target = value -/
def tAsg (te : TE) (g : TG) : TS := fun D σ H => te σ H fun x H1 => g x σ H1 D.nx
theorem ps_asg {tg e : Expr} {te : TE} {g : TG} (he : PE X e te) (hg : PG X tg g) (hs : swapsWithSole [tg] e pos.line X.env = pure false := by rfl) (hw : swappedStores [tg] e X.env = pure none := by rfl)
    (h1 : (assignEach [tg] X.env).map (·.2) = [assign tg X.env] := by rfl) : PS X (.Assign [tg] e pos) (tAsg te g) := by
  intro pins s σ H D I h
  refine wpAny_Assign_stores (thn (he pins s σ H _ I h) fun v s1 ⟨x, H1, I1, r1, q1⟩ => ?_) hs hw
  rw [h1]
  exact thn (hg pins s1 σ H1 x v _ I1 r1 q1) fun _ s2 q => q
/-- name = value -/
theorem ps_set {i : Nat} {x : Str} {e : Expr} {te : TE} {pos' : Pos} (hN : X.N.Nodup) (hi : X.N[i]? = some x) (hx : Loc X.env.scope x) (he : PE X e te) (hs : swapsWith e (some (.Name x pos')) pos.line X.env = pure false := by rfl) (hf : X.fn x = true ∨ X.env.scope.names.lookup x = some .local := by first | exact .inl rfl | exact .inr rfl | assumption) :
    PS X (.Assign [.Name x pos'] e pos) (tAsg te (gName i)) := by
  intro pins s σ H D I h
  refine wpAny_Assign_Name (thn (he pins s σ H _ I h) fun v s1 ⟨y, H1, I1, r1, q1⟩ => ?_) hs
  exact store_ok I1 hN hi hx r1 (fun s2 I2 => ⟨_, H1, I2, q1⟩) hf
end

/-! ### while -/
section
variable {X : Cx} {pos : Pos}
/-- the invariant W with its measure -/
def tWhile (c : TT) (tb : TS) : TS := fun D σ H => ∃ W : Nat → St → Hp → Prop, (∃ m, W m σ H) ∧ ∀ m σ H, W m σ H →
  c σ H fun b H1 => if b = true then ∃ N : St → Hp → Prop, (∀ σ' H', N σ' H' → ∃ m', m' < m ∧ W m' σ' H') ∧ tb { D with nx := N, ct := N, bk := D.nx } σ H1 else D.nx σ H1
theorem ps_while {c : Expr} {body : List Stmt} {tc : TT} {tb : TS} (hp : PassesOwn (model X.prog X.w) X.A X.env X.xe) (hc : PT X c tc) (hb : PSs X body tb) : PS X (.While c body [] pos) (tWhile tc tb) := by
  intro pins s σ H D I h
  obtain ⟨W, ⟨m0, w0⟩, turn⟩ := h
  refine wpAny_While (codeAny_whileLoop (fun n s' => ∃ σ' H', Inv X pins σ' H' s' ∧ W n σ' H') ?_ m0 ⟨σ, H, I, w0⟩)
  rintro n s1 ⟨σ1, H1, I1, w1⟩
  refine wpAny_passesOwn hp (thn (hc pins s1 σ1 H1 _ I1 (turn n σ1 H1 w1)) fun b s2 ⟨H2, I2, q2⟩ => ?_)
  cases b with
  | true =>
    obtain ⟨N, hN, q2⟩ := q2
    rw [if_pos rfl]
    refine wpAny_passesOwn hp (thn (hb pins s2 σ1 H2 _ I2 q2) fun f s3 q3 => ?_)
    cases f with
    | next =>
      obtain ⟨σ3, H3, I3, n3⟩ := q3
      obtain ⟨m', hm, w3⟩ := hN σ3 H3 n3
      exact ⟨m', hm, σ3, H3, I3, w3⟩
    | cont =>
      obtain ⟨σ3, H3, I3, n3⟩ := q3
      obtain ⟨m', hm, w3⟩ := hN σ3 H3 n3
      exact ⟨m', hm, σ3, H3, I3, w3⟩
    | brk => exact q3
    | ret v => exact q3
  | false =>
    rw [if_neg Bool.false_ne_true]
    exact wpAny_execs_nil ⟨σ1, H2, I2, q2⟩
end

/-! ### what a loop or a comprehension walks -/
/-- at turn i: it yields x (the heap may grow), or it stops -/
structure It where
  go : Nat → Hp → Prop
  yld : Nat → Hp → V → Hp → Prop
  stop : Nat → Hp → Prop
/-- the iterator's own objects may turn: they are not the frame's, not pinned, younger than the entry (or a comprehension's own) -/
def FpOk (X : Cx) (pins : List (Addr × Obj)) (H : Hp) (b : Addr) : Prop :=
  H b = none ∧ b ≠ X.env.locals ∧ b ∉ X.fs ∧ (b ∈ X.ex ∨ X.s₀.heap.objs.size ≤ b) ∧ (∀ x c, X.env.cells.lookup x = some c → c ≠ b) ∧ ∀ p ∈ X.pn ++ pins, p.1 ≠ b
theorem Inv.fpOk {X : Cx} {pins : List (Addr × Obj)} {σ : St} {H H' : Hp} {s : Shared} {b : Addr} (I : Inv X pins σ H s) (hb : s.heap.objs.size ≤ b) (hn : H' b = none) : FpOk X pins H' b := by
  refine ⟨hn, Nat.ne_of_gt (Nat.lt_of_lt_of_le I.lt hb), I.nofs hb, .inr (Nat.le_trans I.sz hb), fun x c e z => ?_, fun p hp z => ?_⟩
  · obtain ⟨v, q⟩ := I.cell x c e
    exact absurd (Nat.lt_of_lt_of_le q.lt (by rw [z]; exact hb)) (Nat.lt_irrefl _)
  · exact absurd (Nat.lt_of_lt_of_le (Heap.lt_size (I.pin p hp).1) (by rw [z]; exact hb)) (Nat.lt_irrefl _)
structure Turn (P : Program) (w : World) (K : PySem.W.Frag) (tg : Expr) (J : It) (fp : List Addr) (it : Addr) (tn : Nat → Heap → Prop) : Prop where
  mem : it ∈ fp
  obj : ∀ i h, tn i h → ∀ b ∈ fp, ∃ o, h.get? b = some o ∧ ∀ v, o.data ≠ .cell v
  keep : ∀ i h h', tn i h → (∀ b ∈ fp, ∀ o, h.get? b = some o → h'.get? b = some o) → tn i h'
  item : ∀ (X : Cx), X.prog = P → X.w = w → X.K = K → X.calm = true → ∀ (i : Nat) (pins : List (Addr × Obj)) (s : Shared) (σ : St) (H : Hp) (E : Value → Shared → Prop), Inv X pins σ H s → (∀ b ∈ fp, FpOk X pins H b) → tn i s.heap → J.go i H →
    wpAny (model P w) X.A (pyNext (.ref it)) (fun r s1 => ∃ u, r = some u ∧
      wpAny (model P w) X.A (letOwnedTupleGo tg (.ref it) u) (fun _ s2 => ∃ x H', Inv X pins σ H' s2 ∧ RelV x u ∧ J.yld i H x H' ∧ tn (i + 1) s2.heap ∧ ∀ b ∈ fp, H' b = none) E s1) E s
  done : ∀ (X : Cx), X.prog = P → X.w = w → X.K = K → X.calm = true → ∀ (i : Nat) (pins : List (Addr × Obj)) (s : Shared) (σ : St) (H : Hp) (E : Value → Shared → Prop), Inv X pins σ H s → (∀ b ∈ fp, FpOk X pins H b) → tn i s.heap → J.stop i H →
    wpAny (model P w) X.A (pyNext (.ref it)) (fun r s1 => r = none ∧ Inv X pins σ H s1) E s
  self : ∀ (A : Around) (i : Nat) (s : Shared) (Q : Value → Shared → Prop) (E : Value → Shared → Prop), tn i s.heap → Q (.ref it) s → wpAny (model P w) A (pyIter (.ref it)) Q E s
abbrev TI := St → Hp → (It → Hp → Prop) → Prop
/-- an iterator has come -/
def PIE (X : Cx) (pins : List (Addr × Obj)) (σ : St) (tg : Expr) (R : It → Hp → Prop) (itv : Value) (s2 : Shared) : Prop :=
  ∃ (it : Addr) (fp : List Addr) (tn : Nat → Heap → Prop) (J : It) (H' : Hp), itv = .ref it ∧ Inv X pins σ H' s2 ∧ Turn X.prog X.w X.K tg J fp it tn ∧ tn 0 s2.heap ∧ (∀ b ∈ fp, FpOk X pins H' b) ∧ R J H'
def PI (X : Cx) (tg iter : Expr) (wi : TI) : Prop :=
  ∀ (pins : List (Addr × Obj)) (s : Shared) (σ : St) (H : Hp) (R : It → Hp → Prop), Inv X pins σ H s → wi σ H R →
    wpAny (model X.prog X.w) X.A (eval iter X.env) (fun v s1 => wpAny (model X.prog X.w) X.A (pyIter v) (PIE X pins σ tg R) X.xe s1) X.xe s

/-- the step ahead of the store is nothing for an iterator that keeps no tuple -/
theorem go_of {M : Model} {A : Around} {E : Value → Shared → Prop} {s : Shared} {tg : Expr} {it : Addr} {u : Value} {o : Obj} {n : String} {vs : Array Value} {Q : Unit → Shared → Prop} (ho : s.heap.get? it = some o) (hc : o.cls = .type n) (hd : o.data = .fields vs)
    (hn : ["enumerate", "zip", "dict_itemiterator", "dict_reverseitemiterator", "odict_iterator", "itertools.zip_longest", "itertools.pairwise"].contains n = false) (hQ : Q () s) : wpAny M A (letOwnedTupleGo tg (.ref it) u) Q E s := by
  unfold letOwnedTupleGo
  cases tg <;> first
    | exact wpAny_pure hQ
    | (cases u <;> first
        | exact wpAny_pure hQ
        | (refine wpAny_bind (wpAny_load ho ?_)
           rw [hc, hd]
           show wpAny M A (if (["enumerate", "zip", "dict_itemiterator", "dict_reverseitemiterator", "odict_iterator", "itertools.zip_longest", "itertools.pairwise"].contains n && vs[0]? == some (rawInt _)) = true then _ else _) Q E s
           rw [if_neg (by intro h; rw [hn, Bool.false_and] at h; cases h)]
           exact wpAny_pure hQ))

/-- the list at a, as it stands at each turn (a loop may append to it) -/
def Itl (K : PySem.W.Frag) (a : Addr) : It :=
  ⟨fun i H => ∃ xs x, SqL K H a xs ∧ xs[i]? = some x, fun i H x H' => H' = H ∧ ∀ xs, SqL K H a xs → xs[i]? = some x, fun i H => ∃ xs, SqL K H a xs ∧ xs.length ≤ i⟩
def Itt (K : PySem.W.Frag) (a : Addr) : It :=
  ⟨fun i H => ∃ xs x, SqT K H a xs ∧ xs[i]? = some x, fun i H x H' => H' = H ∧ ∀ xs, SqT K H a xs → xs[i]? = some x, fun i H => ∃ xs, SqT K H a xs ∧ xs.length ≤ i⟩
/-- lo, lo + 1, .. (n of them) -/
def Itr (lo : Int) (n : Nat) : It := ⟨fun i _ => i < n, fun i H x H' => H' = H ∧ x = .int (lo + i), fun i _ => n ≤ i⟩
theorem turn_list {P : Program} {w : World} {K : PySem.W.Frag} {tg : Expr} (a it : Addr) : Turn P w K tg (Itl K a) [it] it (fun i h => h.IsListIter it a i) where
  mem := by simp
  obj := fun i h st b hb => by
    have e : b = it := by simpa using hb
    subst e
    obtain ⟨o, e, c, d⟩ := st
    exact ⟨o, e, fun v z => by rw [d] at z; cases z⟩
  keep := fun i h h' st k => st.at fun o e => k it (by simp) o e
  item := by
    intro X hP hw hK hc i pins s σ H E I hf st hg
    subst hP hw hK
    obtain ⟨xs, x, hq, hx⟩ := hg
    obtain ⟨its, rv, p, hz⟩ := I.list hq
    obtain ⟨u, hu, ru⟩ := rv.get hx
    obtain ⟨f0, f1, f2, f3, f4, f5⟩ := hf it (by simp)
    refine wpAny_pyNext_list_item st p.isList (x := u) (by simpa using hu) fun h' st' sb => ?_
    have I1 : Inv X pins σ H { s with heap := h' } := I.turned (t' := s.toks) (fun b o hb e => (sb.2 b hb).trans e) f0 f1 f3 f4 f5
    obtain ⟨o, e, c, d⟩ := id st'
    exact ⟨u, rfl, go_of (s := { s with heap := h' }) e c d (by decide) ⟨x, H, I1, ru, ⟨rfl, fun ys hy => by rw [I.list_inj hy hq]; exact hx⟩, st', fun b hb => (hf b hb).1⟩⟩
  done := by
    intro X hP hw hK hc i pins s σ H E I hf st hg
    subst hP hw hK
    obtain ⟨xs, hq, hx⟩ := hg
    obtain ⟨its, rv, p, hz⟩ := I.list hq
    obtain ⟨f0, f1, f2, f3, f4, f5⟩ := hf it (by simp)
    have hl := rv.length
    exact wpAny_pyNext_list_end (I.ok.hd hc) st p.isList (by simp; omega) fun h' eb => ⟨rfl, I.turned (t' := s.toks) (fun b o hb e => eb b o hb e) f0 f1 f3 f4 f5⟩
  self := fun _ _ _ _ _ st h => wpAny_pyIter_listiter st h
theorem turn_tuple {P : Program} {w : World} {K : PySem.W.Frag} {tg : Expr} (a it : Addr) : Turn P w K tg (Itt K a) [it] it (fun i h => h.IsTupleIter it a i) where
  mem := by simp
  obj := fun i h st b hb => by
    have e : b = it := by simpa using hb
    subst e
    obtain ⟨o, e, c, d⟩ := st
    exact ⟨o, e, fun v z => by rw [d] at z; cases z⟩
  keep := fun i h h' st k => st.at fun o e => k it (by simp) o e
  item := by
    intro X hP hw hK hc i pins s σ H E I hf st hg
    subst hP hw hK
    obtain ⟨xs, x, hq, hx⟩ := hg
    obtain ⟨its, rv, p, hz⟩ := I.tuple hq
    obtain ⟨u, hu, ru⟩ := rv.get hx
    obtain ⟨f0, f1, f2, f3, f4, f5⟩ := hf it (by simp)
    refine wpAny_pyNext_tuple_item st (show s.heap.IsTuple a its.toArray from p) (x := u) (by simpa using hu) fun h' st' sb => ?_
    have I1 : Inv X pins σ H { s with heap := h' } := I.turned (t' := s.toks) (fun b o hb e => (sb.2 b hb).trans e) f0 f1 f3 f4 f5
    obtain ⟨o, e, c, d⟩ := id st'
    exact ⟨u, rfl, go_of (s := { s with heap := h' }) e c d (by decide) ⟨x, H, I1, ru, ⟨rfl, fun ys hy => by rw [I.tuple_inj hy hq]; exact hx⟩, st', fun b hb => (hf b hb).1⟩⟩
  done := by
    intro X hP hw hK hc i pins s σ H E I hf st hg
    subst hP hw hK
    obtain ⟨xs, hq, hx⟩ := hg
    obtain ⟨its, rv, p, hz⟩ := I.tuple hq
    obtain ⟨f0, f1, f2, f3, f4, f5⟩ := hf it (by simp)
    have hl := rv.length
    exact wpAny_pyNext_tuple_end (I.ok.hd hc) st (show s.heap.IsTuple a its.toArray from p) (by simp; omega) fun h' eb => ⟨rfl, I.turned (t' := s.toks) (fun b o hb e => eb b o hb e) f0 f1 f3 f4 f5⟩
  self := fun _ _ _ _ _ st h => wpAny_pyIter_tupleiter st h
theorem turn_range {P : Program} {w : World} {K : PySem.W.Frag} {tg : Expr} (it : Addr) (lo : Int) (n : Nat) : Turn P w K tg (Itr lo n) [it] it (fun i h => IsRangeIter h it (lo + (i : Nat) * 1) ((n : Int) - (i : Nat)) 1) where
  mem := by simp
  obj := fun i h st b hb => by
    have e : b = it := by simpa using hb
    subst e
    exact ⟨_, st, fun v z => by
      have z' : Data.fields _ = Data.cell v := z
      cases z'⟩
  keep := fun i h h' st k => k it (by simp) _ st
  item := by
    intro X hP hw hK hc i pins s σ H E I hf st hg
    subst hP hw hK
    obtain ⟨f0, f1, f2, f3, f4, f5⟩ := hf it (by simp)
    have W := Walks.range (prog := X.prog) (w := X.w) (I.ok.hd hc) it lo 1 n
    refine W.item i s _ _ hg st fun v h' tk hv st' kk => ?_
    obtain ⟨t, rfl⟩ := hv
    have I1 : Inv X pins σ H { s with heap := h', toks := tk } := I.turned (fun b o hb e => kk b o (by simpa using hb) e) f0 f1 f3 f4 f5
    refine ⟨_, rfl, go_of (s := { s with heap := h', toks := tk }) (n := "range_iterator") st' rfl rfl (by decide) ⟨.int (lo + i), H, I1, ⟨t, ?_⟩, ⟨rfl, rfl⟩, st', fun b hb => (hf b hb).1⟩⟩
    rw [Int.mul_one]
  done := by
    intro X hP hw hK hc i pins s σ H E I hf st hg
    subst hP hw hK
    obtain ⟨f0, f1, f2, f3, f4, f5⟩ := hf it (by simp)
    exact wpAny_pyNext_range_end (I.ok.hd hc) st (by have : n ≤ i := hg; omega) fun h' eb => ⟨rfl, I.turned (t' := s.toks) (fun b o hb e => eb b o hb e) f0 f1 f3 f4 f5⟩
  self := fun _ _ _ _ _ st h => wpAny_pyIter_rangeiter st h
end L2

namespace L2
open PySem PySem.Spec PyProof.Rows
section
variable {X : Cx} {tg : Expr}
def iList (K : PySem.W.Frag) (tl : TE) : TI := fun σ H R => tl σ H fun x H1 => ∃ a, x = .ref a ∧ (∃ xs, SqL K H1 a xs) ∧ R (Itl K a) H1
def iTup (K : PySem.W.Frag) (tl : TE) : TI := fun σ H R => tl σ H fun x H1 => ∃ a, x = .ref a ∧ (∃ xs, SqT K H1 a xs) ∧ R (Itt K a) H1
theorem pi_list {l : Expr} {tl : TE} (hl : PE X l tl) : PI X tg l (iList X.K tl) := by
  intro pins s σ H R I h
  refine thn (hl pins s σ H _ I h) fun v s1 ⟨x, H1, I1, r1, q1⟩ => ?_
  obtain ⟨a, e, ⟨xs, hq⟩, q⟩ := q1
  subst e
  cases r1
  obtain ⟨its, rv, p, hz⟩ := I1.list hq
  refine wpAny_pyIter_list p.isList ?_
  refine ⟨s1.heap.objs.size, [s1.heap.objs.size], _, _, H1, rfl, I1.kept (t' := s1.toks) fun b o e => Heap.get?_push_of_some _ e, turn_list a _, ⟨_, Heap.get?_push_size _ rfl, rfl, rfl⟩, fun b hb => ?_, q⟩
  have e : b = s1.heap.objs.size := by simpa using hb
  subst e
  exact I1.fpOk (Nat.le_refl _) (I1.hok.fresh (Nat.le_refl _))
theorem pi_tup {l : Expr} {tl : TE} (hl : PE X l tl) : PI X tg l (iTup X.K tl) := by
  intro pins s σ H R I h
  refine thn (hl pins s σ H _ I h) fun v s1 ⟨x, H1, I1, r1, q1⟩ => ?_
  obtain ⟨a, e, ⟨xs, hq⟩, q⟩ := q1
  subst e
  cases r1
  obtain ⟨its, rv, p, hz⟩ := I1.tuple hq
  refine wpAny_pyIter_tuple (show s1.heap.IsTuple a its.toArray from p) ?_
  refine ⟨s1.heap.objs.size, [s1.heap.objs.size], _, _, H1, rfl, I1.kept (t' := s1.toks) fun b o e => Heap.get?_push_of_some _ e, turn_tuple a _, ⟨_, Heap.get?_push_size _ rfl, rfl, rfl⟩, fun b hb => ?_, q⟩
  have e : b = s1.heap.objs.size := by simpa using hb
  subst e
  exact I1.fpOk (Nat.le_refl _) (I1.hok.fresh (Nat.le_refl _))
/-- a range object just made, walked -/
theorem range_it {pins : List (Addr × Obj)} {σ : St} {H : Hp} {s : Shared} {R : It → Hp → Prop} {E : Value → Shared → Prop} {lo hi : Int} {t u v : Tok} {tk : Nat} (I : Inv X pins σ H s) (h1 : -(2 ^ 62) ≤ lo) (h2 : lo < 2 ^ 62) (h3 : -(2 ^ 62) ≤ hi) (h4 : hi < 2 ^ 62)
    (q : R (Itr lo (hi - lo).toNat) H) : wpAny (model X.prog X.w) X.A (pyIter (.ref s.heap.objs.size)) (PIE X pins σ tg R) E { s with heap := s.heap.push { cls := .type "range", data := .fields #[.int lo t, .int hi u, .int 1 v] }, toks := tk } := by
  refine wpAny_pyIter_range (IsRange.new ..) (small_one h1 h2 h3 h4) ?_
  have I1 : Inv X pins σ H { s with heap := s.heap.push { cls := .type "range", data := .fields #[.int lo t, .int hi u, .int 1 v] }, toks := tk } := I.kept fun b o e => Heap.get?_push_of_some _ e
  refine ⟨(s.heap.push { cls := .type "range", data := .fields #[.int lo t, .int hi u, .int 1 v] }).objs.size, [(s.heap.push { cls := .type "range", data := .fields #[.int lo t, .int hi u, .int 1 v] }).objs.size], _, _, H, rfl,
    I1.kept (t' := tk) fun b o e => Heap.get?_push_of_some _ e, turn_range _ lo (hi - lo).toNat, ?_, fun b hb => ?_, q⟩
  · have e1 : lo + ((0 : Nat) : Int) * 1 = lo := by simp
    have e2 : (((hi - lo).toNat : Nat) : Int) - ((0 : Nat) : Int) = Builtin.Range.rangeSize lo hi 1 := by rw [rangeSize_one]; split <;> omega
    show IsRangeIter _ _ (lo + ((0 : Nat) : Int) * 1) ((((hi - lo).toNat : Nat) : Int) - ((0 : Nat) : Int)) 1
    rw [e1, e2]
    exact Heap.get?_push_size _ rfl
  · have e : b = (s.heap.push { cls := .type "range", data := .fields #[.int lo t, .int hi u, .int 1 v] }).objs.size := by simpa using hb
    subst e
    exact I1.fpOk (Nat.le_refl _) (I1.hok.fresh (Nat.le_refl _))
def iRng1 (ta : TA) : TI := fun σ H R => ta σ H fun vs H1 => ∃ j : Int, vs = [.int j] ∧ -(2 ^ 62) ≤ j ∧ j < 2 ^ 62 ∧ R (Itr 0 j.toNat) H1
def iRng2 (ta : TA) : TI := fun σ H R => ta σ H fun vs H1 => ∃ i j : Int, vs = [.int i, .int j] ∧ (-(2 ^ 62) ≤ i ∧ i < 2 ^ 62 ∧ -(2 ^ 62) ≤ j ∧ j < 2 ^ 62) ∧ R (Itr i (j - i).toNat) H1
theorem pi_range1 {a : Expr} {ta : TA} {p pos : Pos} (hg : Gl X "range") (hm : X.mg "range" = none) (ha : PA X [a] ta) (hs : starEach [a] X.env = [(false, eval a X.env)] := by rfl) : PI X tg (.Call (.Name "range" p) [a] [] pos) (iRng1 ta) := by
  intro pins s σ H R I h
  refine Call_ (ld_blt I hg hm boot_range (PyProof.Rows.callWith_type1 (thn (ha pos pins s σ H _ I h) fun us s1 ⟨vs, H1, I1, r1, q1⟩ => ?_) hs rfl))
  obtain ⟨j, e, q1, q2, q⟩ := q1
  subst e
  cases r1 with
  | cons r rr =>
    cases rr
    obtain ⟨t, rfl⟩ := r
    exact call_range_1 (range_it I1 (by omega) (by omega) q1 q2 (by simpa using q))
theorem pi_range2 {a b : Expr} {ta : TA} {p pos : Pos} (hg : Gl X "range") (hm : X.mg "range" = none) (ha : PA X [a, b] ta) (hs : starEach [a, b] X.env = [(false, eval a X.env), (false, eval b X.env)] := by rfl) (hs2 : starEach [b] X.env = [(false, eval b X.env)] := by rfl) :
    PI X tg (.Call (.Name "range" p) [a, b] [] pos) (iRng2 ta) := by
  intro pins s σ H R I h
  refine Call_ (ld_blt I hg hm boot_range (PyProof.Rows.callWith_type1 (thn (ha pos pins s σ H _ I h) fun us s1 ⟨vs, H1, I1, r1, q1⟩ => ?_) (by rw [hs, hs2]) (by rw [hs2]; rfl)))
  obtain ⟨i, j, e, ⟨q1, q2, q3, q4⟩, q⟩ := q1
  subst e
  cases r1 with
  | cons r rr =>
    cases rr with
    | cons r' rr =>
      cases rr
      obtain ⟨t, rfl⟩ := r
      obtain ⟨t', rfl⟩ := r'
      exact call_range_2 (range_it I1 q1 q2 q3 q4 q)

/-! ### for -/
/-- W: the invariant by the turn and a measure; N: what the body is to reach -/
def tFor (wi : TI) (g : TG) (tb : TS) : TS := fun D σ H => wi σ H fun J H1 => ∃ W : Nat → Nat → St → Hp → Prop, (∃ m, W 0 m σ H1) ∧ ∀ i m σ H, W i m σ H →
  (J.stop i H ∧ D.nx σ H) ∨ (J.go i H ∧ ∃ N : St → Hp → Prop, (∀ σ' H', N σ' H' → ∃ m', m' < m ∧ W (i + 1) m' σ' H') ∧ ∀ x H', J.yld i H x H' → g x σ H' fun σ2 H2 => tb { D with nx := N, ct := N, bk := D.nx } σ2 H2)
/-- the records at fp as they stand -/
def pinsAt (fp : List Addr) (h : Heap) : List (Addr × Obj) := fp.filterMap fun b => (h.get? b).map fun o => (b, o)
theorem mem_pinsAt {fp : List Addr} {h : Heap} {b : Addr} {o : Obj} (hb : b ∈ fp) (e : h.get? b = some o) : (b, o) ∈ pinsAt fp h := List.mem_filterMap.mpr ⟨b, hb, by rw [e]; rfl⟩
theorem of_pinsAt {fp : List Addr} {h : Heap} {p : Addr × Obj} (hp : p ∈ pinsAt fp h) : p.1 ∈ fp ∧ h.get? p.1 = some p.2 := by
  obtain ⟨b, hb, e⟩ := List.mem_filterMap.mp hp
  cases q : h.get? b with
  | none => rw [q] at e; cases e
  | some o =>
    rw [q] at e
    have e' : (b, o) = p := Option.some.inj e
    subst e'
    exact ⟨hb, q⟩
theorem Inv.pinned {pins : List (Addr × Obj)} {σ : St} {H : Hp} {s : Shared} {fp : List Addr} (I : Inv X pins σ H s) (hf : ∀ b ∈ fp, FpOk X pins H b) (ho : ∀ b ∈ fp, ∃ o, s.heap.get? b = some o ∧ ∀ v, o.data ≠ .cell v) : Inv X (pins ++ pinsAt fp s.heap) σ H s :=
  I.pins_of fun p hp => (List.mem_append.mp hp).elim (fun z => I.pin p (List.mem_append_right _ z)) fun z => by
    obtain ⟨hb, e⟩ := of_pinsAt z
    obtain ⟨f0, f1, f2, _⟩ := hf p.1 hb
    obtain ⟨o, e', d⟩ := ho p.1 hb
    rw [e] at e'; cases e'
    exact ⟨e, f0, f1, f2, d⟩
theorem Inv.unpinned {pins pl : List (Addr × Obj)} {σ : St} {H : Hp} {s : Shared} (I : Inv X (pins ++ pl) σ H s) : Inv X pins σ H s := I.pins_of fun p hp => I.pin p (List.mem_append_right _ (List.mem_append_left _ hp))
theorem ps_for {iter : Expr} {body : List Stmt} {wi : TI} {g : TG} {tb : TS} {pos : Pos} (hp : PassesOwn (model X.prog X.w) X.A X.env X.xe) (hc : X.calm = true) (hi : PI X tg iter wi) (hg : PG X tg g) (hb : PSs X body tb)
    (hs : ∀ x, foldedSetIterable iter X.env x = pure x := by intro _; rfl) : PS X (.For tg iter body [] pos) (tFor wi g tb) := by
  intro pins s σ H D I h
  refine wpAny_For (thn (hi pins s σ H _ I h) fun v s1 h1 => thn h1 fun itv s2 h2 => ?_) hs
  obtain ⟨it, fp, tn, J, H2, e, I2, T, st2, f2, W, ⟨m0, w0⟩, turn⟩ := h2
  subst e
  -- what stays true of the iterator's objects through the loop
  have stat : ∀ {H' : Hp}, (∀ b ∈ fp, H' b = none) → ∀ b ∈ fp, FpOk X pins H' b := fun hn b hb => ⟨hn b hb, (f2 b hb).2⟩
  refine codeAny_forLoop_any (fun n s' => ∃ i σ' H', Inv X pins σ' H' s' ∧ tn i s'.heap ∧ (∀ b ∈ fp, H' b = none) ∧ W i n σ' H') ?_ m0 ⟨0, σ, H2, I2, st2, fun b hb => (f2 b hb).1, w0⟩
  rintro n s3 ⟨i, σ3, H3, I3, st3, fr3, w3⟩
  rcases turn i n σ3 H3 w3 with ⟨stop, qn⟩ | ⟨go, N, hN, step⟩
  · refine wpAny_passesOwn hp (thn (T.done X rfl rfl rfl hc i pins s3 σ3 H3 X.xe I3 (stat fr3) st3 stop) fun r s4 ⟨hr, I4⟩ => ?_)
    subst hr
    exact wpAny_execs_nil ⟨σ3, H3, I4, qn⟩
  · refine wpAny_passesOwn hp (thn (T.item X rfl rfl rfl hc i pins s3 σ3 H3 X.xe I3 (stat fr3) st3 go) fun r s4 ⟨u, hr, h4⟩ => ?_)
    subst hr
    refine wpAny_passesOwn hp (thn h4 fun _ s5 ⟨x, H5, I5, r5, y5, st5, fr5⟩ => ?_)
    have I5' := I5.pinned (stat fr5) (T.obj _ _ st5)
    refine wpAny_passesOwn hp (thn (hg _ s5 σ3 H5 x u _ I5' r5 (step x H5 y5)) fun _ s6 ⟨σ6, H6, I6, q6⟩ => ?_)
    refine wpAny_passesOwn hp (thn (hb _ s6 σ6 H6 _ I6 q6) fun f s7 q7 => ?_)
    have again : ∀ {σ7 : St} {H7 : Hp}, Inv X (pins ++ pinsAt fp s5.heap) σ7 H7 s7 → N σ7 H7 → ∃ m, m < n ∧ ∃ i σ' H', Inv X pins σ' H' s7 ∧ tn i s7.heap ∧ (∀ b ∈ fp, H' b = none) ∧ W i m σ' H' := fun {σ7 H7} I7 n7 => by
      obtain ⟨m', hm, w7⟩ := hN σ7 H7 n7
      refine ⟨m', hm, i + 1, σ7, H7, I7.unpinned, T.keep _ _ _ st5 fun b hb o e => (I7.pin (b, o) (List.mem_append_right _ (List.mem_append_right _ (mem_pinsAt hb e)))).1, fun b hb => ?_, w7⟩
      obtain ⟨o, e, d⟩ := T.obj _ _ st5 b hb
      exact (I7.pin (b, o) (List.mem_append_right _ (List.mem_append_right _ (mem_pinsAt hb e)))).2.1
    cases f with
    | next => obtain ⟨σ7, H7, I7, n7⟩ := q7; exact again I7 n7
    | cont => obtain ⟨σ7, H7, I7, n7⟩ := q7; exact again I7 n7
    | brk => obtain ⟨σ7, H7, I7, q7⟩ := q7; exact ⟨σ7, H7, I7.unpinned, q7⟩
    | ret v => obtain ⟨x7, σ7, H7, I7, r7, q7⟩ := q7; exact ⟨x7, σ7, H7, I7.unpinned, r7, q7⟩
end

/-! ### the forms one uses -/
/-- over a list that the body leaves as it is -/
theorem for_list {K : PySem.W.Frag} {a : Addr} {xs : List V} {g : TG} {tb : TS} {D : Ends} {σ : St} {H : Hp} (Pv : Nat → St → Hp → Prop) (h0 : Pv 0 σ H) (hl : ∀ i σ H, i ≤ xs.length → Pv i σ H → SqL K H a xs)
    (hs : ∀ i x σ H, xs[i]? = some x → Pv i σ H → g x σ H fun σ2 H2 => tb { D with nx := Pv (i + 1), ct := Pv (i + 1), bk := D.nx } σ2 H2) (hd : ∀ σ H, Pv xs.length σ H → D.nx σ H) :
    ∃ W : Nat → Nat → St → Hp → Prop, (∃ m, W 0 m σ H) ∧ ∀ i m σ H, W i m σ H →
      ((Itl K a).stop i H ∧ D.nx σ H) ∨ ((Itl K a).go i H ∧ ∃ N : St → Hp → Prop, (∀ σ' H', N σ' H' → ∃ m', m' < m ∧ W (i + 1) m' σ' H') ∧ ∀ x H', (Itl K a).yld i H x H' → g x σ H' fun σ2 H2 => tb { D with nx := N, ct := N, bk := D.nx } σ2 H2) := by
  refine ⟨fun i m σ H => m = xs.length - i ∧ i ≤ xs.length ∧ Pv i σ H, ⟨xs.length, by simp, Nat.zero_le _, h0⟩, ?_⟩
  rintro i m σ H ⟨rfl, hi, p⟩
  have q := hl i σ H hi p
  by_cases hlt : i < xs.length
  · refine .inr ⟨⟨xs, xs[i], q, by simp [hlt]⟩, Pv (i + 1), fun σ' H' p' => ⟨xs.length - (i + 1), by omega, rfl, hlt, p'⟩, fun x H' y => ?_⟩
    obtain ⟨e, y⟩ := y
    subst e
    exact hs i x σ _ (y xs q) p
  · have e : i = xs.length := by omega
    subst e
    exact .inl ⟨⟨xs, q, Nat.le_refl _⟩, hd σ H p⟩
theorem for_tup {K : PySem.W.Frag} {a : Addr} {xs : List V} {g : TG} {tb : TS} {D : Ends} {σ : St} {H : Hp} (Pv : Nat → St → Hp → Prop) (h0 : Pv 0 σ H) (hl : ∀ i σ H, i ≤ xs.length → Pv i σ H → SqT K H a xs)
    (hs : ∀ i x σ H, xs[i]? = some x → Pv i σ H → g x σ H fun σ2 H2 => tb { D with nx := Pv (i + 1), ct := Pv (i + 1), bk := D.nx } σ2 H2) (hd : ∀ σ H, Pv xs.length σ H → D.nx σ H) :
    ∃ W : Nat → Nat → St → Hp → Prop, (∃ m, W 0 m σ H) ∧ ∀ i m σ H, W i m σ H →
      ((Itt K a).stop i H ∧ D.nx σ H) ∨ ((Itt K a).go i H ∧ ∃ N : St → Hp → Prop, (∀ σ' H', N σ' H' → ∃ m', m' < m ∧ W (i + 1) m' σ' H') ∧ ∀ x H', (Itt K a).yld i H x H' → g x σ H' fun σ2 H2 => tb { D with nx := N, ct := N, bk := D.nx } σ2 H2) := by
  refine ⟨fun i m σ H => m = xs.length - i ∧ i ≤ xs.length ∧ Pv i σ H, ⟨xs.length, by simp, Nat.zero_le _, h0⟩, ?_⟩
  rintro i m σ H ⟨rfl, hi, p⟩
  have q := hl i σ H hi p
  by_cases hlt : i < xs.length
  · refine .inr ⟨⟨xs, xs[i], q, by simp [hlt]⟩, Pv (i + 1), fun σ' H' p' => ⟨xs.length - (i + 1), by omega, rfl, hlt, p'⟩, fun x H' y => ?_⟩
    obtain ⟨e, y⟩ := y
    subst e
    exact hs i x σ _ (y xs q) p
  · have e : i = xs.length := by omega
    subst e
    exact .inl ⟨⟨xs, q, Nat.le_refl _⟩, hd σ H p⟩
theorem for_range {lo : Int} {n : Nat} {g : TG} {tb : TS} {D : Ends} {σ : St} {H : Hp} (Pv : Nat → St → Hp → Prop) (h0 : Pv 0 σ H)
    (hs : ∀ i σ H, i < n → Pv i σ H → g (.int (lo + i)) σ H fun σ2 H2 => tb { D with nx := Pv (i + 1), ct := Pv (i + 1), bk := D.nx } σ2 H2) (hd : ∀ σ H, Pv n σ H → D.nx σ H) :
    ∃ W : Nat → Nat → St → Hp → Prop, (∃ m, W 0 m σ H) ∧ ∀ i m σ H, W i m σ H →
      ((Itr lo n).stop i H ∧ D.nx σ H) ∨ ((Itr lo n).go i H ∧ ∃ N : St → Hp → Prop, (∀ σ' H', N σ' H' → ∃ m', m' < m ∧ W (i + 1) m' σ' H') ∧ ∀ x H', (Itr lo n).yld i H x H' → g x σ H' fun σ2 H2 => tb { D with nx := N, ct := N, bk := D.nx } σ2 H2) := by
  refine ⟨fun i m σ H => m = n - i ∧ i ≤ n ∧ Pv i σ H, ⟨n, by simp, Nat.zero_le _, h0⟩, ?_⟩
  rintro i m σ H ⟨rfl, hi, p⟩
  by_cases hlt : i < n
  · refine .inr ⟨hlt, Pv (i + 1), fun σ' H' p' => ⟨n - (i + 1), by omega, rfl, hlt, p'⟩, fun x H' y => ?_⟩
    obtain ⟨e, y⟩ := y
    subst e y
    exact hs i σ _ hlt p
  · have e : i = n := by omega
    subst e
    exact .inl ⟨Nat.le_refl _, hd σ H p⟩
end L2

namespace L2
open PySem PySem.Spec PyProof.Rows

abbrev R2 := V → V → Hp → VK → Prop
/-- a two-place operation on values: f is binaryOp op, inplaceOp op or compareOp op -/
def OpR (X : Cx) (f : Value → Value → Sem Value) (r : R2) : Prop :=
  ∀ (pins : List (Addr × Obj)) (s : Shared) (σ : St) (H : Hp) (x y : V) (v u : Value) (Q : VK), Inv X pins σ H s → RelV x v → RelV y u → r x y H Q →
    wpAny (model X.prog X.w) X.A (f v u) (EP X pins σ Q) X.xe s
/-- a one-place operation -/
def UnR (X : Cx) (f : Value → Sem Value) (r : V → Hp → VK → Prop) : Prop :=
  ∀ (pins : List (Addr × Obj)) (s : Shared) (σ : St) (H : Hp) (x : V) (v : Value) (Q : VK), Inv X pins σ H s → RelV x v → r x H Q →
    wpAny (model X.prog X.w) X.A (f v) (EP X pins σ Q) X.xe s
/-- a call of a value that is known (a builtin, a type) with values -/
def CallR (X : Cx) (f : Value) (r : List V → Hp → VK → Prop) : Prop :=
  ∀ (pins : List (Addr × Obj)) (s : Shared) (σ : St) (H : Hp) (xs : List V) (us : List Value) (Q : VK), Inv X pins σ H s → Vals xs us → r xs H Q →
    wpAny (model X.prog X.w) X.A (call f us) (EP X pins σ Q) X.xe s
def tOp (r : R2) (ta tb : TE) : TE := fun σ H Q => ta σ H fun x H1 => tb σ H1 fun y H2 => r x y H2 Q
def tUn (r : V → Hp → VK → Prop) (ta : TE) : TE := fun σ H Q => ta σ H fun x H1 => r x H1 Q
/-- ints in, under C, and a value out -/
def rI (C : Int → Int → Prop) (g : Int → Int → V) : R2 := fun x y H Q => ∃ i j, x = .int i ∧ y = .int j ∧ C i j ∧ Q (g i j) H
def rI0 (g : Int → Int → V) : R2 := fun x y H Q => ∃ i j, x = .int i ∧ y = .int j ∧ Q (g i j) H
def rU (g : Int → V) : V → Hp → VK → Prop := fun x H Q => ∃ i, x = .int i ∧ Q (g i) H

section
variable {X : Cx} {a b c : Expr} {ta tb tc : TE} {pos : Pos}

theorem binT (ha : PE X a ta) (hb : PE X b tb) {pins : List (Addr × Obj)} {s : Shared} {σ : St} {H : Hp} {R : V → V → Hp → Prop} (I : Inv X pins σ H s)
    (h : ta σ H fun x H1 => tb σ H1 fun y H2 => R x y H2) {Q : Value → Shared → Prop} {f : Value → Value → Sem Value}
    (hf : ∀ v u s2 x y H2, Inv X pins σ H2 s2 → RelV x v → RelV y u → R x y H2 → wpAny (model X.prog X.w) X.A (f v u) Q X.xe s2) :
    wpAny (model X.prog X.w) X.A (eval a X.env) (fun v s₁ => wpAny (model X.prog X.w) X.A (eval b X.env) (fun u s₂ => wpAny (model X.prog X.w) X.A (f v u) Q X.xe s₂) X.xe s₁) X.xe s := by
  refine thn (ha pins s σ H _ I h) fun v s1 ⟨x, H1, I1, r1, q1⟩ => ?_
  refine thn (hb pins s1 σ H1 _ I1 q1) fun u s2 ⟨y, H2, I2, r2, q2⟩ => ?_
  exact hf v u s2 x y H2 I2 r1 r2 q2

theorem pe_op {op : Operator} {r : R2} (ho : OpR X (binaryOp op) r) (ha : PE X a ta) (hb : PE X b tb) : PE X (.BinOp a op b pos) (tOp r ta tb) := by
  intro pins s σ H Q I h
  exact wpAny_BinOp (binT ha hb I h fun v u s2 x y H2 I2 rx ry q => ho pins s2 σ H2 x y v u Q I2 rx ry q)
theorem pe_un {op : UnaryOp} {r : V → Hp → VK → Prop} (ho : UnR X (unaryOp op) r) (ha : PE X a ta) : PE X (.UnaryOp op a pos) (tUn r ta) := by
  intro pins s σ H Q I h
  exact UnaryOp_ (thn (ha pins s σ H _ I h) fun v s1 ⟨x, H1, I1, r1, q1⟩ => ho pins s1 σ H1 x v Q I1 r1 q1)
/-! ### ints -/
theorem opI {f : Value → Value → Sem Value} {C : Int → Int → Prop} {g : Int → Int → Int}
    (rule : ∀ (i j : Int) (t u : Tok) (s : Shared) (Q : Value → Shared → Prop) (E : Value → Shared → Prop), C i j → Q (.int (g i j) s.toks) { s with toks := s.toks + 1 } → wpAny (model X.prog X.w) X.A (f (.int i t) (.int j u)) Q E s) :
    OpR X f (rI C fun i j => .int (g i j)) := by
  intro pins s σ H x y v u Q I rx ry h
  obtain ⟨i, j, rfl, rfl, hc, q⟩ := h
  obtain ⟨t, rfl⟩ := rx
  obtain ⟨t', rfl⟩ := ry
  exact rule i j t t' s _ _ hc ⟨.int (g i j), H, I.tok _, ⟨_, rfl⟩, q⟩
theorem opI0 {f : Value → Value → Sem Value} {g : Int → Int → Int}
    (rule : ∀ (i j : Int) (t u : Tok) (s : Shared) (Q : Value → Shared → Prop) (E : Value → Shared → Prop), Q (.int (g i j) s.toks) { s with toks := s.toks + 1 } → wpAny (model X.prog X.w) X.A (f (.int i t) (.int j u)) Q E s) :
    OpR X f (rI0 fun i j => .int (g i j)) := by
  intro pins s σ H x y v u Q I rx ry h
  obtain ⟨i, j, rfl, rfl, q⟩ := h
  obtain ⟨t, rfl⟩ := rx
  obtain ⟨t', rfl⟩ := ry
  exact rule i j t t' s _ _ ⟨.int (g i j), H, I.tok _, ⟨_, rfl⟩, q⟩
theorem opB0 {f : Value → Value → Sem Value} {g : Int → Int → Bool}
    (rule : ∀ (i j : Int) (t u : Tok) (s : Shared) (Q : Value → Shared → Prop) (E : Value → Shared → Prop), Q (.bool (g i j)) s → wpAny (model X.prog X.w) X.A (f (.int i t) (.int j u)) Q E s) :
    OpR X f (rI0 fun i j => .bl (g i j)) := by
  intro pins s σ H x y v u Q I rx ry h
  obtain ⟨i, j, rfl, rfl, q⟩ := h
  obtain ⟨t, rfl⟩ := rx
  obtain ⟨t', rfl⟩ := ry
  exact rule i j t t' s _ _ ⟨.bl (g i j), H, I, rfl, q⟩

def CDiv (i j : Int) : Prop := 0 < j ∧ j < 1073741824
def CPow (i j : Int) : Prop := 0 ≤ j ∧ j ≤ 1000000 ∧ i.natAbs < 2 ^ 64
def CMul (i j : Int) : Prop := (-(2 ^ 64) < i ∧ i < 2 ^ 64) ∨ (-(2 ^ 64) < j ∧ j < 2 ^ 64)
theorem CMul.ok {i j : Int} (h : CMul i j) : IntMulOk i j := by
  rcases h with ⟨h1, h2⟩ | ⟨h1, h2⟩
  · exact .of_left (intBits_le_64 h1 h2)
  · exact .of_right (intBits_le_64 h1 h2)
theorem op_add : OpR X (binaryOp .Add) (rI0 fun i j => .int (i + j)) := opI0 fun _ _ _ _ _ _ _ q => add_int q
theorem op_sub : OpR X (binaryOp .Sub) (rI0 fun i j => .int (i - j)) := opI0 fun _ _ _ _ _ _ _ q => sub_int q
theorem op_mul : OpR X (binaryOp .Mult) (rI CMul fun i j => .int (i * j)) := opI fun _ _ _ _ _ _ _ hc q => mul_int q hc.ok
/-- // by a positive divisor -/
theorem op_fdiv : OpR X (binaryOp .FloorDiv) (rI CDiv fun i j => .int (i / j)) := opI fun i j _ _ _ _ _ hc q => by
  have h1 : (0 : Int) < j := hc.1
  have h2 : j < 1073741824 := hc.2
  exact floordiv_int (by omega) (by rw [Int.fdiv_eq_ediv_of_nonneg i (by omega)]; exact q) (.inl (PyProof.noPylong_small (by omega)))
/-- % by a positive divisor of any size -/
theorem op_mod : OpR X (binaryOp .Mod) (rI (fun _ j => 0 < j) fun i j => .int (i % j)) := opI fun i j _ _ _ _ _ hc q => by
  have h1 : (0 : Int) < j := hc
  exact mod_int' (by omega) (by rw [Int.fmod_eq_emod_of_nonneg i (by omega)]; exact q)
theorem op_pow : OpR X (binaryOp .Pow) (rI CPow fun i j => .int (i ^ j.toNat)) := opI fun _ _ _ _ _ _ _ hc q => pow_int_small hc.1 hc.2.1 hc.2.2 q
theorem unI {f : Value → Sem Value} {g : Int → Int}
    (rule : ∀ (i : Int) (t : Tok) (s : Shared) (Q : Value → Shared → Prop) (E : Value → Shared → Prop), Q (.int (g i) s.toks) { s with toks := s.toks + 1 } → wpAny (model X.prog X.w) X.A (f (.int i t)) Q E s) :
    UnR X f (rU fun i => .int (g i)) := by
  intro pins s σ H x v Q I rx h
  obtain ⟨i, rfl, q⟩ := h
  obtain ⟨t, rfl⟩ := rx
  exact rule i t s _ _ ⟨.int (g i), H, I.tok _, ⟨_, rfl⟩, q⟩
theorem un_neg : UnR X (unaryOp .USub) (rU fun i => .int (-i)) := unI fun _ _ _ _ _ q => neg_int q
/-! ### bools among ints: n += (a < b) -/
end

/-! ### comparisons -/
/-- the scalars that == tells apart as data does -/
def scal : V → V → Bool
  | .non, .non => true | .non, .int _ => true | .int _, .non => true | .non, .bl _ => true | .bl _, .non => true | .non, .str _ => true | .str _, .non => true
  | .int _, .int _ => true | .bl _, .bl _ => true | .str _, .str _ => true | .byt _, .byt _ => true
  | .int _, .str _ => true | .str _, .int _ => true | .bl _, .str _ => true | .str _, .bl _ => true
  | _, _ => false
def rEq : R2 := fun x y H Q => scal x y = true ∧ Q (.bl (decide (x = y))) H
def rNe : R2 := fun x y H Q => scal x y = true ∧ Q (.bl (!decide (x = y))) H

theorem dec_int {i j : Int} : decide (V.int i = V.int j) = (i == j) := by
  rw [Bool.eq_iff_iff]
  simp
theorem dec_bl {i j : Bool} : decide (V.bl i = V.bl j) = (i == j) := by
  rw [Bool.eq_iff_iff]
  simp
theorem dec_str {i j : Str} : decide (V.str i = V.str j) = (i == j) := by
  rw [Bool.eq_iff_iff]
  simp
theorem dec_byt {i j : Array UInt8} : decide (V.byt i = V.byt j) = (i.toList == j.toList) := by
  rw [Bool.eq_iff_iff]
  cases i
  cases j
  simp

section
variable {X : Cx} {a b c : Expr} {ta tb tc : TE} {pos : Pos}
theorem fin_bl {pins : List (Addr × Obj)} {σ : St} {H : Hp} {s : Shared} {Q : VK} {k k' : Bool} (I : Inv X pins σ H s) (q : Q (.bl k) H) (e : k = k') : EP X pins σ Q (.bool k') s := by
  subst e
  exact ⟨.bl k, H, I, rfl, q⟩
theorem op_eq : OpR X (compareOp .Eq) rEq := by
  intro pins s σ H x y v u Q I rx ry h
  obtain ⟨hs, q⟩ := h
  cases x with
  | non =>
    cases rx
    cases y with
    | non => cases ry; exact PySem.EqNone.eq_none_none (fin_bl I q (by simp))
    | bl j => cases ry; exact PySem.EqNone.eq_none_bool (fin_bl I q (by simp))
    | int j => obtain ⟨t', rfl⟩ := ry; exact PySem.EqNone.eq_none_int (fin_bl I q (by simp))
    | str j => obtain ⟨t', rfl⟩ := ry; exact PySem.EqNone.eq_none_str (fin_bl I q (by simp))
    | _ => exact absurd (show false = true from hs) Bool.false_ne_true
  | bl i =>
    cases rx
    cases y with
    | non => cases ry; exact PySem.EqNone.eq_bool_none (fin_bl I q (by simp))
    | bl j => cases ry; exact eq_bool (fin_bl I q dec_bl)
    | str j => obtain ⟨t', rfl⟩ := ry; exact PySem.EqMixed.eq_bool_str (fin_bl I q (by simp))
    | _ => exact absurd (show false = true from hs) Bool.false_ne_true
  | int i =>
    obtain ⟨t, rfl⟩ := rx
    cases y with
    | non => cases ry; exact PySem.EqNone.eq_int_none (fin_bl I q (by simp))
    | int j => obtain ⟨t', rfl⟩ := ry; exact eq_int (fin_bl I q dec_int)
    | str j => obtain ⟨t', rfl⟩ := ry; exact PySem.EqMixed.eq_int_str (fin_bl I q (by simp))
    | _ => exact absurd (show false = true from hs) Bool.false_ne_true
  | str i =>
    obtain ⟨t, rfl⟩ := rx
    cases y with
    | non => cases ry; exact PySem.EqNone.eq_str_none (fin_bl I q (by simp))
    | bl j => cases ry; exact PySem.EqMixed.eq_str_bool (fin_bl I q (by simp))
    | int j => obtain ⟨t', rfl⟩ := ry; exact PySem.EqMixed.eq_str_int (fin_bl I q (by simp))
    | str j => obtain ⟨t', rfl⟩ := ry; exact eq_str (fin_bl I q dec_str)
    | _ => exact absurd (show false = true from hs) Bool.false_ne_true
  | byt i =>
    obtain ⟨t, rfl⟩ := rx
    cases y with
    | byt j => obtain ⟨t', rfl⟩ := ry; exact PySem.W.eq_bytes (fin_bl I q dec_byt)
    | _ => exact absurd (show false = true from hs) Bool.false_ne_true
  | _ => cases y <;> exact absurd (show false = true from hs) Bool.false_ne_true
theorem op_ne : OpR X (compareOp .NotEq) rNe := by
  intro pins s σ H x y v u Q I rx ry h
  obtain ⟨hs, q⟩ := h
  cases x with
  | non =>
    cases rx
    cases y with
    | non => cases ry; exact PySem.EqNone.ne_none_none (fin_bl I q (by simp))
    | bl j => cases ry; exact PySem.EqNone.ne_none_bool (fin_bl I q (by simp))
    | int j => obtain ⟨t', rfl⟩ := ry; exact PySem.EqNone.ne_none_int (fin_bl I q (by simp))
    | str j => obtain ⟨t', rfl⟩ := ry; exact PySem.EqNone.ne_none_str (fin_bl I q (by simp))
    | _ => exact absurd (show false = true from hs) Bool.false_ne_true
  | bl i =>
    cases rx
    cases y with
    | non => cases ry; exact PySem.EqNone.ne_bool_none (fin_bl I q (by simp))
    | bl j => cases ry; exact ne_bool (fin_bl I q (congrArg not dec_bl))
    | str j => obtain ⟨t', rfl⟩ := ry; exact PySem.EqMixed.ne_bool_str (fin_bl I q (by simp))
    | _ => exact absurd (show false = true from hs) Bool.false_ne_true
  | int i =>
    obtain ⟨t, rfl⟩ := rx
    cases y with
    | non => cases ry; exact PySem.EqNone.ne_int_none (fin_bl I q (by simp))
    | int j => obtain ⟨t', rfl⟩ := ry; exact ne_int (fin_bl I q (congrArg not dec_int))
    | str j => obtain ⟨t', rfl⟩ := ry; exact PySem.EqMixed.ne_int_str (fin_bl I q (by simp))
    | _ => exact absurd (show false = true from hs) Bool.false_ne_true
  | str i =>
    obtain ⟨t, rfl⟩ := rx
    cases y with
    | non => cases ry; exact PySem.EqNone.ne_str_none (fin_bl I q (by simp))
    | bl j => cases ry; exact PySem.EqMixed.ne_str_bool (fin_bl I q (by simp))
    | int j => obtain ⟨t', rfl⟩ := ry; exact PySem.EqMixed.ne_str_int (fin_bl I q (by simp))
    | str j => obtain ⟨t', rfl⟩ := ry; exact ne_str (fin_bl I q (congrArg not dec_str))
    | _ => exact absurd (show false = true from hs) Bool.false_ne_true
  | byt i =>
    obtain ⟨t, rfl⟩ := rx
    cases y with
    | byt j => obtain ⟨t', rfl⟩ := ry; exact PySem.W.ne_bytes (fin_bl I q (congrArg not dec_byt))
    | _ => exact absurd (show false = true from hs) Bool.false_ne_true
  | _ => cases y <;> exact absurd (show false = true from hs) Bool.false_ne_true

theorem op_lt : OpR X (compareOp .Lt) (rI0 fun i j => .bl (decide (i < j))) := opB0 fun _ _ _ _ _ _ _ q => lt_int q
theorem op_gt : OpR X (compareOp .Gt) (rI0 fun i j => .bl (decide (j < i))) := opB0 fun _ _ _ _ _ _ _ q => gt_int q
theorem op_ge : OpR X (compareOp .GtE) (rI0 fun i j => .bl (decide (j ≤ i))) := opB0 fun _ _ _ _ _ _ _ q => ge_int q
/-- is None, is not None: the right side a value none -/
theorem op_isN : OpR X (compareOp .Is) (fun x y H Q => y = .non ∧ Q (.bl (decide (x = .non))) H) := by
  intro pins s σ H x y v u Q I rx ry h
  obtain ⟨rfl, q⟩ := h
  cases ry
  refine is_none_gen (fin_bl I q ?_)
  cases x <;> first
    | (cases rx; rfl)
    | (obtain ⟨t, rfl⟩ := rx; rfl)
theorem op_notN : OpR X (compareOp .IsNot) (fun x y H Q => y = .non ∧ Q (.bl (!decide (x = .non))) H) := by
  intro pins s σ H x y v u Q I rx ry h
  obtain ⟨rfl, q⟩ := h
  cases ry
  refine isnot_none_gen (fin_bl I q ?_)
  cases x <;> first
    | (cases rx; rfl)
    | (obtain ⟨t, rfl⟩ := rx; rfl)

theorem nomark (b : Expr) {op : CmpOp} (h : op ≠ .In := by decide) (h2 : op ≠ .NotIn := by decide) : behindInMarks op b = false := by
  have e1 : (op == CmpOp.In) = false := by cases op <;> first | rfl | exact absurd rfl h
  have e2 : (op == CmpOp.NotIn) = false := by cases op <;> first | rfl | exact absurd rfl h2
  cases b <;> simp [behindInMarks, e1, e2]
/-- a comparison as a value; hm: nomark b, or (for in, not in) by with_unfolding_all rfl -/
theorem pe_cmpR {op : CmpOp} {r : R2} (ho : OpR X (compareOp op) r) (ha : PE X a ta) (hb : PE X b tb) (hm : behindInMarks op b = false) : PE X (.Compare a [op] [b] pos) (tOp r ta tb) := by
  intro pins s σ H Q I h
  exact wpAny_Compare1 (binT ha hb I h fun v u s2 x y H2 I2 rx ry q => ho pins s2 σ H2 x y v u Q I2 rx ry q) hm
/-- a reading of a value as a test -/
def tTest (t : TE) : TT := fun σ H Q => t σ H fun x H' => ∃ k, x = .bl k ∧ Q k H'
theorem pt_cmpR {op : CmpOp} {r : R2} (ho : OpR X (compareOp op) r) (ha : PE X a ta) (hb : PE X b tb) (hm : behindInMarks op b = false) : PT X (.Compare a [op] [b] pos) (tTest (tOp r ta tb)) := by
  intro pins s σ H Q I h
  refine wpAny_isTrue_Compare1 (thn (ha pins s σ H _ I h) fun v s1 ⟨x, H1, I1, r1, q1⟩ => thn (hb pins s1 σ H1 _ I1 q1) fun u s2 ⟨y, H2, I2, r2, q2⟩ =>
    thn (ho pins s2 σ H2 x y v u _ I2 r1 r2 q2) fun c s3 ⟨z, H3, I3, r3, k, e, q3⟩ => ?_) hm
  subst e
  cases r3
  exact wpAny_truthy_bool ⟨H3, I3, q3⟩
/-! ### truth -/
theorem line63 : (sizeLine : Nat) < 2 ^ 63 := by rw [sizeLine_eq]; decide
/-! ### strs and bytes -/
/-! ### scalar builtins, by CallR -/
theorem vals1 {x : V} {us : List Value} (r : Vals [x] us) : ∃ u, us = [u] ∧ RelV x u := by
  cases r with
  | cons r1 r2 => cases r2; exact ⟨_, rfl, r1⟩
theorem vals2 {x y : V} {us : List Value} (r : Vals [x, y] us) : ∃ u w', us = [u, w'] ∧ RelV x u ∧ RelV y w' := by
  cases r with
  | cons r1 r2 =>
    cases r2 with
    | cons r3 r4 => cases r4; exact ⟨_, _, rfl, r1, r3⟩
theorem call_max2 (hc : X.calm = true) : CallR X (.builtin "max") (fun xs H Q => ∃ i j, xs = [.int i, .int j] ∧ Q (.int (if j > i then j else i)) H) := by
  intro pins s σ H xs us Q I r h
  obtain ⟨i, j, rfl, q⟩ := h
  obtain ⟨u, w', rfl, ⟨t, rfl⟩, ⟨t', rfl⟩⟩ := vals2 r
  refine max_two_ints (I.ok.hd hc) fun h' tk k => ⟨_, H, I.kept k, ?_, q⟩
  by_cases hj : j > i
  · rw [if_pos hj, if_pos hj]; exact ⟨_, rfl⟩
  · rw [if_neg hj, if_neg hj]; exact ⟨_, rfl⟩
theorem call_min2 (hc : X.calm = true) : CallR X (.builtin "min") (fun xs H Q => ∃ i j, xs = [.int i, .int j] ∧ Q (.int (if j < i then j else i)) H) := by
  intro pins s σ H xs us Q I r h
  obtain ⟨i, j, rfl, q⟩ := h
  obtain ⟨u, w', rfl, ⟨t, rfl⟩, ⟨t', rfl⟩⟩ := vals2 r
  refine min_two_ints (I.ok.hd hc) fun h' tk k => ⟨_, H, I.kept k, ?_, q⟩
  by_cases hj : j < i
  · rw [if_pos hj, if_pos hj]; exact ⟨_, rfl⟩
  · rw [if_neg hj, if_neg hj]; exact ⟨_, rfl⟩
end
end L2

namespace L2
open PySem PySem.Spec PyProof.Rows

/-! ### an instance, its attributes a map -/
structure ObjM (h : Heap) (x dx C : Addr) (mA : Str → Option Value) : Prop where
  obj : h.get? x = some (PySem.W.instObj C dx)
  ns : h.Ns1 dx mA
  ne : dx ≠ x

theorem lookIn_ns {h : Heap} {dx : Addr} {mA : Str → Option Value} (n : h.Ns1 dx mA) : ∃ od, h.get? dx = some od ∧ ∀ name, PySem.W.lookIn name od = some (mA name) := by
  obtain ⟨o, es, ep, ho, hd, hk, _, hm⟩ := n
  refine ⟨o, ho, fun name => ?_⟩
  have e := hm name
  unfold nsFind findBy at e
  rw [← Array.find?_toList] at e
  unfold PySem.W.lookIn
  rw [hd]
  dsimp only
  split
  · rename_i y q
    rw [q] at e
    exact congrArg some e
  · rename_i q
    rw [q] at e
    have a : es.toList.any (·.refKey) = false := by
      rw [List.any_eq_false]
      intro y hy
      obtain ⟨z, t, hkey⟩ := hk y (Array.mem_toList_iff.mp hy)
      simp [DictEntry.refKey, hkey]
    have a' : ¬ es.toList.any (·.refKey) = true := by rw [a]; exact Bool.false_ne_true
    rw [if_neg a']
    exact congrArg some e

theorem ObjM.look {h : Heap} {x dx C : Addr} {mA : Str → Option Value} (I : ObjM h x dx C mA) : ∃ od, PySem.W.InstAt h x (PySem.W.instObj C dx) C (some od) ∧ ∀ name, PySem.W.lookIn name od = some (mA name) :=
  let ⟨od, ho, hl⟩ := lookIn_ns I.ns
  ⟨od, ⟨I.obj, rfl, rfl, ho⟩, hl⟩

section
variable {prog : Program} {w : World} {A : Around} {E : Value → Shared → Prop} {s : Shared} {K : PySem.W.Frag} {x dx C f : Addr} {mA : Str → Option Value} {name : Str} {v : Value}

end

/-! ### the attributes as a list of pairs -/
theorem RelO.some_of {v : V} {o : Option Value} (r : RelO (some v) o) : ∃ u, o = some u ∧ RelV v u := by
  cases o with
  | none => exact (show False from r).elim
  | some u => exact ⟨u, rfl, r⟩
theorem handed_of {v : V} {u : Value} (r : RelV v u) : PySem.W.handedIn u = true := by
  cases v with
  | non => cases (show u = Value.none from r); rfl
  | bl b => cases (show u = Value.bool b from r); rfl
  | int i => obtain ⟨t, e⟩ := (show ∃ t, u = Value.int i t from r); cases e; rfl
  | str x => obtain ⟨t, e⟩ := (show ∃ t, u = Value.str x t from r); cases e; rfl
  | byt b => obtain ⟨t, e⟩ := (show ∃ t, u = Value.bytes b t from r); cases e; rfl
  | flt b => obtain ⟨t, e⟩ := (show ∃ t, u = Value.float b t from r); cases e; rfl
  | ref a => cases (show u = Value.ref a from r); rfl
  | ty n => cases (show u = Value.type n from r); rfl

section
variable {P : Program} {w : World} {H H' : Hp} {h h' : Heap} {a C dx : Addr} {fs fs' : List (Str × V)}
theorem ins_get (hok : HOk P w H h) (e : H a = some (.ins C dx fs)) : ∃ mA, ObjM h a dx C mA ∧ (∀ f, RelO (fs.lookup f) (mA f)) ∧ PySem.Within mA (fs.map (·.1)) ∧ fs.length ≤ 1000 ∧ H dx = some (.own a) := by
  obtain ⟨d, z, ne, ob, mA, n, r, q⟩ := (show ObjOk P w H h a (.ins C dx fs) from hok a _ e)
  exact ⟨mA, ⟨ob, n, ne⟩, r, q, z, d⟩
end

/-! ### what of the text a class must have -/
structure Cls (K : PySem.W.Frag) (C : Addr) : Prop where
  pg : PySem.W.plainGet K C Str.empty = true
  hd : PySem.W.hasDictIn K C = true
  po : PySem.W.plainOver K C = true
  sa : PySem.W.findIn K (.ref C) "__setattr__" = some (some (.builtin "object.__setattr__"))
theorem Cls.get {K : PySem.W.Frag} {C : Addr} (c : Cls K C) (f : Str) : PySem.W.plainGet K C f = true := c.pg
/-- no class of it has the name -/
def NoAttr (K : PySem.W.Frag) (C : Addr) (f : Str) : Prop := PySem.W.findIn K (.ref C) f = some none
theorem NoAttr.taker {K : PySem.W.Frag} {C : Addr} {f : Str} (n : NoAttr K C f) : PySem.W.takerIn K C f = some none := by
  unfold PySem.W.takerIn
  rw [show PySem.W.findIn K (.ref C) f = some none from n]
  rfl
section
variable {X : Cx} {pins : List (Addr × Obj)} {σ : St} {H : Hp} {s : Shared} {a C dx : Addr} {fs : List (Str × V)} {f : Str} {v : V} {A : Around} {E : Value → Shared → Prop}

/-- e.f where nothing but the object is asked: through attributeBase (super) and the last hold -/
theorem attr_of {prog : Program} {w : World} {env : Env} {e : Expr} {f : Str} {pos : Pos} {s : Shared} {Q : Value → Shared → Prop} (hb : attributeBase e f env (eval e env) = eval e env)
    (h : wpAny (model prog w) A (eval e env) (fun o s₁ => wpAny (model prog w) A (getAttr o f true) Q E s₁) E s) : wpAny (model prog w) A (eval (.Attribute e f pos) env) Q E s :=
  Attribute_any_ h (by rw [arm_eval_Attribute, hb])
end

/-! ### readings and rules -/
section
variable {X : Cx} {o e value : Expr} {f : Str} {pos pos' tpos : Pos} {ta tv : TE}
end

/-! ### isinstance -/
section
variable {X : Cx} {pins : List (Addr × Obj)} {σ : St} {H : Hp} {s : Shared} {A : Around} {E : Value → Shared → Prop} {Q : Value → Shared → Prop} {c : Value} {b : Bool}
/-- the type of a value, as the fragment's deciders take it; for an instance its class -/
inductive TyOf (K : PySem.W.Frag) (H : Hp) : V → Value → Prop where
  | non : TyOf K H .non (.type "NoneType")
  | bl (x : Bool) : TyOf K H (.bl x) (.type "bool")
  | int (i : Int) : TyOf K H (.int i) (.type "int")
  | str (x : Str) : TyOf K H (.str x) (.type "str")
  | flt (x : UInt64) : TyOf K H (.flt x) (.type "float")
  | lst {a : Addr} {xs : List V} (e : H a = some (.lst xs)) : TyOf K H (.ref a) (.type "list")
  | frz {a : Addr} {o : Obj} {xs : List V} (e : H a = some (.frz o (.lst xs))) : TyOf K H (.ref a) (.type "list")
  | tup {a : Addr} {xs : List V} (e : H a = some (.tup xs)) : TyOf K H (.ref a) (.type "tuple")
  | dK {a : Addr} {kvs : List (Key × V)} (e : H a = some (.dK kvs)) : TyOf K H (.ref a) (.type "dict")
  | dT {a : Addr} {kvs : List (List Key × V)} (e : H a = some (.dT kvs)) : TyOf K H (.ref a) (.type "dict")
  | ins {a C dx : Addr} {fs : List (Str × V)} (e : H a = some (.ins C dx fs)) (cl : Cls K C) (ha : PySem.W.findIn K (.ref C) "__class__" = some (some (.builtin "object.__class__")))
      (hn : PySem.W.specialIn K (.builtin "object.__class__") "__get__" = some (some (.builtin "getset_descriptor.__get__"))) (htk : PySem.W.takesIn K (.builtin "object.__class__") = some true)
      (hm : PySem.W.mroIn K C (.type "object") = some true) : TyOf K H (.ref a) (.ref C)
/-- isinstance(x, c) for one class c, a built-in or an own one: kitOne's answer -/
theorem isinst_ok {x : V} {u t : Value} (I : Inv X pins σ H s) (rx : RelV x u) (ty : TyOf X.K H x t) (e : PySem.W.kitOne X.K t c = some b) (h : ∀ tk, Q (.bool b) { s with toks := tk }) :
    wpAny (model X.prog X.w) A (call (.builtin "isinstance") [u, c]) Q E s := by
  cases ty with
  | non => cases (show u = Value.none from rx); exact PySem.W.kia_one PySem.W.kitx_none I.kIn True.intro e (fun z => nomatch z) h
  | bl y => cases (show u = Value.bool y from rx); exact PySem.W.kia_one PySem.W.kitx_bool I.kIn True.intro e (fun z => nomatch z) h
  | int i => obtain ⟨t, q⟩ := (show ∃ t, u = Value.int i t from rx); cases q; exact PySem.W.kia_one PySem.W.kitx_int I.kIn True.intro e (fun z => nomatch z) h
  | str y => obtain ⟨t, q⟩ := (show ∃ t, u = Value.str y t from rx); cases q; exact PySem.W.kia_one PySem.W.kitx_str I.kIn True.intro e (fun z => nomatch z) h
  | flt y => obtain ⟨t, q⟩ := (show ∃ t, u = Value.float y t from rx); cases q; exact PySem.W.kia_one PySem.W.kitx_float I.kIn True.intro e (fun z => nomatch z) h
  | @lst a xs ea =>
    cases (show u = Value.ref a from rx)
    obtain ⟨_, _, n, _, h1⟩ := (show ObjOk X.prog X.w H s.heap a (.lst xs) from I.hok a _ ea)
    exact PySem.W.kia_one PySem.W.kitx_list I.kIn ⟨_, h1, rfl⟩ e (fun z => nomatch z) h
  | @frz a ob xs ea =>
    cases (show u = Value.ref a from rx)
    obtain ⟨_, _, _, n, _, h1⟩ := (show ObjOk X.prog X.w H s.heap a (.frz ob (.lst xs)) from I.hok a _ ea)
    exact PySem.W.kia_one PySem.W.kitx_list I.kIn ⟨_, h1, rfl⟩ e (fun z => nomatch z) h
  | @tup a xs ea =>
    cases (show u = Value.ref a from rx)
    obtain ⟨_, _, _, p⟩ := (show ObjOk X.prog X.w H s.heap a (.tup xs) from I.hok a _ ea)
    obtain ⟨o, h1, h2, _⟩ := p
    exact PySem.W.kia_one PySem.W.kitx_tuple I.kIn ⟨o, h1, h2⟩ e (fun z => nomatch z) h
  | @dK a kvs ea =>
    cases (show u = Value.ref a from rx)
    obtain ⟨_, _, vs, _, p⟩ := (show ObjOk X.prog X.w H s.heap a (.dK kvs) from I.hok a _ ea)
    obtain ⟨o, es, ep, h1, h2, _⟩ := p
    exact PySem.W.kia_one PySem.W.kitx_dict I.kIn ⟨o, h1, h2.1⟩ e (fun z => nomatch z) h
  | @dT a kvs ea =>
    cases (show u = Value.ref a from rx)
    obtain ⟨_, _, xs, _, o, es, ep, h1, h2, _⟩ := (show ObjOk X.prog X.w H s.heap a (.dT kvs) from I.hok a _ ea)
    exact PySem.W.kia_one PySem.W.kitx_dict I.kIn ⟨o, h1, h2.1⟩ e (fun z => nomatch z) h
  | @ins a C dx fs ea cl ha hn htk hm =>
    cases (show u = Value.ref a from rx)
    obtain ⟨mA, O, _⟩ := ins_get I.hok ea
    obtain ⟨od, J, _⟩ := O.look
    exact PySem.W.kia_one (PySem.W.kitx_own (cl.get _) cl.hd ha hn htk hm) I.kIn J e (fun z => nomatch z) h
end
end L2

namespace L2
open PySem PySem.Spec PyProof.Rows

/-! ### room -/
structure Room (k : Nat) (A : Around) : Prop where
  hd : A.handled = none
  dp : A.depth + 3 * k + 5 < recursionLimit
  un : A.units + 16 * k + 200 < cLine
theorem Room.mono {j k : Nat} {A : Around} (r : Room k A) (h : j ≤ k) : Room j A := ⟨r.hd, by have := r.dp; omega, by have := r.un; omega⟩
theorem Room.deeper {k : Nat} {A : Around} (r : Room (k + 1) A) (env : Env) : Room k (A.deeper env) :=
  ⟨r.hd, by have := r.dp; show A.depth + 1 + 3 * k + 5 < _; omega, by have := r.un; show A.units + 3 + 16 * k + 200 < _; omega⟩
theorem make_depth {A : Around} {C : Addr} {us : List Value} {kw : List (Str × Value)} : (A.under (.builtin "type.__call__" ⟨.ref C :: us, kw⟩)).depth = A.depth + 1 := by
  first | rfl | simp [Around.under, Code.weight, Code.isCreation, Code.isGuard, Code.isCaller, Code.frames, Code.isFrame, guardIds]
theorem make_units {A : Around} {C : Addr} {us : List Value} {kw : List (Str × Value)} : (A.under (.builtin "type.__call__" ⟨.ref C :: us, kw⟩)).units = A.units + 1 := by
  first | rfl | simp [Around.under, Code.cUnits, Code.frames, Code.isFrame]
theorem Room.make {k : Nat} {A : Around} (r : Room (k + 1) A) (C : Addr) (us : List Value) (kw : List (Str × Value)) : Room k (A.under (.builtin "type.__call__" ⟨.ref C :: us, kw⟩)) :=
  ⟨r.hd, by have := r.dp; rw [make_depth]; omega, by have := r.un; rw [make_units]; omega⟩
theorem Room.depth {k : Nat} {A : Around} (r : Room k A) : A.depth < recursionLimit := by have := r.dp; omega
theorem Room.units {k : Nat} {A : Around} (r : Room k A) : A.units + 64 < cLine := by have := r.un; omega
/-! ### argument lists and displays -/
def tNil : TA := fun _ H Q => Q [] H
def tCons (ta : TE) (tr : TA) : TA := fun σ H Q => ta σ H fun x H1 => tr σ H1 fun xs H2 => Q (x :: xs) H2
section
variable {X : Cx} {e : Expr} {es : List Expr} {te : TE} {t : TA} {pos : Pos}
theorem pa_nil : PA X [] tNil := fun _ _ _ _ H Q I h => Calls.spliced_nil ⟨[], H, I, .nil, h⟩
theorem pa_cons (ha : PE X e te) (hr : PA X es t) (hs : starEach (e :: es) X.env = (false, eval e X.env) :: starEach es X.env := by rfl) : PA X (e :: es) (tCons te t) := by
  intro pos pins s σ H Q I h
  rw [hs]
  show wpAny _ _ (spliced ((false, eval e X.env) :: backTo pos (starEach es X.env))) _ _ s
  refine Calls.spliced_cons (thn (ha pins s σ H _ I h) fun u s1 ⟨x, H1, I1, r1, q1⟩ => ?_)
  exact thn (hr pos pins s1 σ H1 _ I1 q1) fun us s2 ⟨xs, H2, I2, r2, q2⟩ => ⟨x :: xs, H2, I2, .cons r1 r2, q2⟩

/-- a tuple, a list of written items -/
def tTup (t : TA) : TE := fun σ H Q => t σ H fun xs H1 => xs.length ≤ sizeLine ∧ ∀ p, H1 p = none → Q (.ref p) (upd H1 p (.tup xs))
def tLst (t : TA) : TE := fun σ H Q => t σ H fun xs H1 => xs.length ≤ sizeLine ∧ ∀ p, H1 p = none → Q (.ref p) (upd H1 p (.lst xs))
theorem pe_tup {x1} (h : PA X es t) : PE X (.Tuple es x1 pos) (tTup t) := by
  intro pins s σ H Q I hq
  refine wpAny_Tuple_spliced (thn (h pos pins s σ H _ I hq) fun us s1 ⟨xs, H1, I1, r, z, q⟩ => ⟨by rw [← r.length]; exact z, ?_⟩)
  have hf : H1 s1.heap.objs.size = none := I1.hok.fresh (Nat.le_refl _)
  refine ⟨.ref s1.heap.objs.size, upd H1 s1.heap.objs.size (.tup xs), I1.laid (t' := s1.toks) (fun b u e => Heap.get?_push_of_some _ e) (Nat.le_refl _) ?_, rfl, q _ hf⟩
  exact ⟨z, us, r, ⟨_, Heap.get?_push_size _ rfl, rfl, _, rfl⟩⟩
theorem pe_lst (h : PA X es t) : PE X (.List es pos) (tLst t) := by
  intro pins s σ H Q I hq
  refine wpAny_List_spliced (thn (h pos pins s σ H _ I hq) fun us s1 ⟨xs, H1, I1, r, z, q⟩ => ⟨by rw [← r.length]; exact z, ?_⟩)
  have hf : H1 s1.heap.objs.size = none := I1.hok.fresh (Nat.le_refl _)
  refine ⟨.ref s1.heap.objs.size, upd H1 s1.heap.objs.size (.lst xs), I1.laid (t' := s1.toks) (fun b u e => Heap.get?_push_of_some _ e) (Nat.le_refl _) ?_, rfl, q _ hf⟩
  exact ⟨z, us, 0, r, Heap.get?_push_size _ rfl⟩
end

/-! ### what a def promises -/
/-- a def's promise: the bound arguments in the parameters' order, the heap, the wanted end, the wanted exception -/
abbrev Sp := List V → Hp → VK → XK → Prop
/-- how an exception lies behind a call (file 08 gives it): the callers' frames, abstract heap and state ahead of the call, the wish, the exception, the state -/
abbrev CXT := List Env → Hp → Shared → XK → Value → Shared → Prop

/-- the state at a call -/
structure Env0 (P : Program) (w : World) (K : PySem.W.Frag) (mg : Str → Option Value) (base : Heap) (A : Around) (outer : List Env) (s : Shared) (H : Hp) : Prop where
  frames : A.frames = some outer
  mod : Mod K mg base
  bs : ∀ b o, base.get? b = some o → s.heap.get? b = some o ∧ H b = none
  bsz : base.objs.size ≤ s.heap.objs.size
  funs : s.heap.FunFrames base outer
  frf : ∀ b ∈ frs outer, H b = none
  hok : HOk P w H s.heap
  bare : AllBare s.gens
/-- a call's end -/
def CE (outer : List Env) (P : Program) (w : World) (H : Hp) (s : Shared) (Q : VK) (u : Value) (s' : Shared) : Prop :=
  ∃ v H', s'.os = s.os ∧ AllBare s'.gens ∧ Un (frs outer) [] H H' s.heap s'.heap ∧ HOk P w H' s'.heap ∧ RelV v u ∧ Q v H'
def CR (CX : CXT) (outer : List Env) (P : Program) (w : World) (H : Hp) (s : Shared) (Q : VK) (E : XK) (r : Result) (s' : Shared) : Prop :=
  match r with
  | .ok (.ret u) => CE outer P w H s Q u s'
  | .ok _ => False
  | .error e => CX outer H s E e s'
structure FnOk (P : Program) (w : World) (K : PySem.W.Frag) (mg : Str → Option Value) (base : Heap) (CX : CXT) (k : Nat) (f : Addr) (fd : FuncData) (ps : List Str) (sp : Sp) : Prop where
  len : ∀ vs H Q E, sp vs H Q E → vs.length = ps.length
  run : ∀ (A : Around) (outer : List Env) (s : Shared) (H : Hp) (args : Args) (us : List Value) (vs : List V) (Q : VK) (E : XK), Room k A → Env0 P w K mg base A outer s H → BindsTo s fd args (ps.zip us) → Vals vs us → sp vs H Q E →
    codeAny (model P w) A (.call (.ref f) args) (CR CX outer P w H s Q E) s
theorem Env0.make {P : Program} {w : World} {K : PySem.W.Frag} {mg : Str → Option Value} {base : Heap} {A : Around} {outer : List Env} {s : Shared} {H : Hp} (e : Env0 P w K mg base A outer s H) (C : Addr) (us : List Value) (kw : List (Str × Value)) :
    Env0 P w K mg base (A.under (.builtin "type.__call__" ⟨.ref C :: us, kw⟩)) outer s H := ⟨by first | exact e.frames | (simpa [Around.under, Code.envs, Code.isFrame, pushEnvs] using e.frames), e.mod, e.bs, e.bsz, e.funs, e.frf, e.hok, e.bare⟩
section
variable {X : Cx} {pins : List (Addr × Obj)} {σ : St} {H : Hp} {s s' : Shared}
/-- from a body: what a callee wants -/
theorem Inv.env0 (I : Inv X pins σ H s) : Env0 X.prog X.w X.K X.mg X.base X.A X.stack s H :=
  ⟨I.ok.frames, I.ok.mod, I.bs, Nat.le_trans I.ok.bsz I.sz, I.stack, I.stkFree, I.hok, I.bare⟩
/-- behind a call -/
theorem Inv.after {Q : VK} {u : Value} (I : Inv X pins σ H s) (h : CE X.stack X.prog X.w H s Q u s') : EP X pins σ Q u s' := by
  obtain ⟨v, H', os, bare, un, hok, r, q⟩ := h
  obtain ⟨hh, g, d, t, os'⟩ := s'
  obtain rfl : os' = s.os := os
  exact ⟨v, H', I.call (h' := hh) (g' := g) (d' := d) (t' := t) (ch := []) un hok bare (fun b z => absurd z (by simp)), r, q⟩
end

/-! ### calls -/
/-- f(..): the written arguments, then the defaults dvs; E: what is wanted of an exception -/
def tCall (sp : Sp) (dvs : List V) (E : XK) (t : TA) : TE := fun σ H Q => t σ H fun vs H1 => sp (vs ++ dvs) H1 Q E
/-- how the parameters are bound: us the positional arguments, kw the keywords' values by name, ds the defaults that fill up -/
def Binds (K : PySem.W.Frag) (fd : FuncData) (ps : List Str) (ds : List Value) : Prop :=
  ∀ (s : Shared) (us : List Value), K.In s.heap → (us ++ ds).length = ps.length → BindsTo s fd ⟨us, []⟩ (ps.zip (us ++ ds))
/-- every parameter is given -/
theorem Binds.all {K : PySem.W.Frag} {fd : FuncData} {ps : List Str} (h : ∀ us : List Value, us.length = ps.length → bindArgs fd ⟨us, []⟩ = pure (ps.zip us)) : Binds K fd ps [] := fun s us _ hl => by
  rw [List.append_nil] at hl ⊢
  exact .of_eq (h us hl)

/-- an exception of a callee reaches what this body wants of exceptions -/
def Passes (CX : CXT) (X : Cx) (E : XK) : Prop := ∀ (pins : List (Addr × Obj)) (σ : St) (H : Hp) (s : Shared) (e : Value) (s' : Shared), Inv X pins σ H s → CX X.stack H s E e s' → X.xe e s'

section
variable {X : Cx} {CX : CXT} {k : Nat} {f C : Addr} {fd : FuncData} {ps : List Str} {sp : Sp} {dvs : List V} {ds : List Value} {E : XK} {x m : Str} {p pos apos : Pos} {e o : Expr} {es : List Expr} {ta : TE} {t : TA}

/-- the callee runs -/
theorem run_fn {pins : List (Addr × Obj)} {σ : St} {H : Hp} {s : Shared} {Q : VK} {us : List Value} {vs : List V} (F : FnOk X.prog X.w X.K X.mg X.base CX k f fd ps sp) (hr : Room k X.A) (hb : Binds X.K fd ps ds) (hd : Vals dvs ds) (hx : Passes CX X E)
    (I : Inv X pins σ H s) (r : Vals vs us) (h : sp (vs ++ dvs) H Q E) : wpAny (model X.prog X.w) X.A (call (.ref f) us) (EP X pins σ Q) X.xe s := by
  have r2 : Vals (vs ++ dvs) (us ++ ds) := r.append hd
  have hl : (us ++ ds).length = ps.length := by rw [← r2.length]; exact F.len _ _ _ _ h
  refine wpAny_call (codeAny_mono (F.run X.A X.stack s H ⟨us, []⟩ (us ++ ds) (vs ++ dvs) Q E hr I.env0 (hb s us I.kIn hl) r2 h) fun r s' hq => ?_)
  cases r with
  | error e => exact hx pins σ H s e s' I hq
  | ok fl =>
    cases fl with
    | ret u => exact I.after hq
    | next => exact False.elim hq
    | brk => exact False.elim hq
    | cont => exact False.elim hq

theorem pe_call (F : FnOk X.prog X.w X.K X.mg X.base CX k f fd ps sp) (hr : Room k X.A) (hg : Gl X x) (hm : X.mg x = some (.ref f)) (hk : PySem.W.keepIn X.K (.ref f) = true) (hb : Binds X.K fd ps ds) (hd : Vals dvs ds) (hx : Passes CX X E)
    (ha : PA X (e :: es) t) (hdb : (x == ("__debug__" : Str)) = false := by decide) (he : starEach (e :: es) X.env = (false, eval e X.env) :: starEach es X.env := by rfl) (hpl : (backTo pos (starEach es X.env)).any (·.1) = false := by rfl) :
    PE X (.Call (.Name x p) (e :: es) [] pos) (tCall sp dvs E t) := by
  intro pins s σ H Q I h
  refine wpAny_Call_Name_kw (ld_glob I hg hm ?_ hdb)
  refine PySem.W.callWith_K (h₀ := X.base) I.ok.mod.kin hk (thn (ha pos pins s σ H _ I h) fun us s1 ⟨vs, H1, I1, r, q⟩ => ⟨I1.kIn, ?_⟩) he hpl
  exact run_fn F hr hb hd hx I1 r q
end

/-! ### keywords -/
section
variable {X : Cx} {CX : CXT} {k : Nat} {f C : Addr} {fd : FuncData} {ps ks : List Str} {sp : Sp} {E : XK} {x m : Str} {p pos apos kpos : Pos} {e o : Expr} {es : List Expr} {kws : List Keyword} {te ta : TE} {t tk : TA} {nm : Option Str}
variable {g : List Value → List Value → List Value} {gV : List V → List V → List V}
end

/-! ### a def's body keeps its promise -/
/-- names: the parameters first -/
structure FnScope (N P : List Str) (sc : Scope) : Prop where
  kind : sc.kind = .function
  co : sc.isCoroutine = false
  gen : sc.isGenerator = false
  nd : N.Nodup
  pre : N.take P.length = P
  par : ∀ x ∈ P, sc.names.lookup x = some .local ∨ sc.names.lookup x = some .cell
  nofree : ∀ y ∈ sc.names, y.2 ≠ .free

theorem bindL_out {kindOf : Str → Option NameKind} {x : Str} : ∀ {binds : List (Str × Value)} {m : Str → Option Value}, (∀ v, (x, v) ∉ binds) → bindL kindOf binds m x = m x
  | [], _, _ => rfl
  | (n, v) :: r, m, h => by
    unfold bindL
    rw [bindL_out fun w hw => h w (List.mem_cons_of_mem _ hw)]
    split
    · have : x ≠ n := by rintro rfl; exact h v List.mem_cons_self
      simp [this]
    · rfl
theorem bindC_out {kindOf : Str → Option NameKind} {x : Str} : ∀ {binds : List (Str × Value)} {m : Str → Option Value}, (∀ v, (x, v) ∉ binds) → bindC kindOf binds m x = m x
  | [], _, _ => rfl
  | (n, v) :: r, m, h => by
    unfold bindC
    rw [bindC_out fun w hw => h w (List.mem_cons_of_mem _ hw)]
    split
    · rfl
    · have : x ≠ n := by rintro rfl; exact h v List.mem_cons_self
      simp [this]
theorem bindL_get {kindOf : Str → Option NameKind} {x : Str} {v : Value} : ∀ {P : List Str} {vs : List Value} {i : Nat} {m : Str → Option Value}, P.Nodup → P[i]? = some x → vs[i]? = some v → kindOf x = some .local →
    bindL kindOf (P.zip vs) m x = some v
  | [], _, _, _, _, h, _, _ => by simp at h
  | _ :: _, [], _, _, _, _, h, _ => by simp at h
  | p :: P, w :: vs, 0, m, nd, h1, h2, hk => by
    simp at h1 h2; subst h1; subst h2
    show bindL kindOf ((p, w) :: P.zip vs) m p = _
    unfold bindL
    rw [bindL_out fun v hv => (List.nodup_cons.mp nd).1 (List.of_mem_zip hv).1, if_pos hk]
    simp
  | p :: P, w :: vs, i + 1, m, nd, h1, h2, hk => by
    show bindL kindOf ((p, w) :: P.zip vs) m x = _
    unfold bindL
    exact bindL_get (i := i) (List.nodup_cons.mp nd).2 (by simpa using h1) (by simpa using h2) hk
theorem bindC_get {kindOf : Str → Option NameKind} {x : Str} {v : Value} : ∀ {P : List Str} {vs : List Value} {i : Nat} {m : Str → Option Value}, P.Nodup → P[i]? = some x → vs[i]? = some v → kindOf x ≠ some .local →
    bindC kindOf (P.zip vs) m x = some v
  | [], _, _, _, _, h, _, _ => by simp at h
  | _ :: _, [], _, _, _, _, h, _ => by simp at h
  | p :: P, w :: vs, 0, m, nd, h1, h2, hk => by
    simp at h1 h2; subst h1; subst h2
    show bindC kindOf ((p, w) :: P.zip vs) m p = _
    unfold bindC
    rw [bindC_out fun v hv => (List.nodup_cons.mp nd).1 (List.of_mem_zip hv).1, if_neg hk]
    simp
  | p :: P, w :: vs, i + 1, m, nd, h1, h2, hk => by
    show bindC kindOf ((p, w) :: P.zip vs) m x = _
    unfold bindC
    exact bindC_get (i := i) (List.nodup_cons.mp nd).2 (by simpa using h1) (by simpa using h2) hk

/-- the names' values at the entry -/
def start (N : List Str) (vs : List V) : St := vs.map some ++ List.replicate (N.length - vs.length) none

/-- the context of a def's body, at its entry; an exception leaves the frame, then lies as CX says -/
def cxOf (CX : CXT) (P : Program) (w : World) (K : PySem.W.Frag) (mg : Str → Option Value) (base : Heap) (N : List Str) (qual : Str) (scope : Scope) (f : Addr) (cd : Value) (A : Around) (outer : List Env) (s : Shared) (H : Hp) (E : XK) : Cx where
  prog := P
  w := w
  K := K
  mg := mg
  base := base
  A := A.deeper (envOfC qual scope s.heap.objs.size f cd)
  N := N
  s₀ := s
  H₀ := H
  env := envOfC qual scope s.heap.objs.size f cd
  outer := outer
  stack := envOfC qual scope s.heap.objs.size f cd :: outer
  ex := []
  calm := true
  fn := fun _ => true
  pn := []
  xe := fun e s' => wpAny (model P w) (A.deeper (envOfC qual scope s.heap.objs.size f cd)) (leaving (envOfC qual scope s.heap.objs.size f cd) e) (fun _ s'' => CX outer H s E e s'') (fun e' s'' => CX outer H s E e' s'') s'

theorem cell_has {sc : Scope} {n : Nat} {x : Str} (h : sc.names.lookup x = some .cell) : ∃ c, (cellsFrom n sc.names []).lookup x = some c := by
  have q := PySem.W.cellsFrom_some sc.names n [] (.inl h)
  exact Option.isSome_iff_exists.mp q

theorem inv_start {CX : CXT} {P : Program} {w : World} {K : PySem.W.Frag} {mg : Str → Option Value} {base : Heap} {N ps : List Str} {qual : Str} {scope : Scope} {f : Addr} {cd : Value} {A : Around} {outer : List Env} {s s1 : Shared} {H : Hp} {E : XK} {us : List Value} {vs : List V}
    (S : FnScope N ps scope) (hd : A.handled = none) (e0 : Env0 P w K mg base A outer s H) (hl : vs.length = ps.length) (r : Vals vs us)
    (x : InCallC s s.heap.objs.size (bindL (envOfC qual scope s.heap.objs.size f cd).kindOf (ps.zip us) fun _ => none) (cellsFrom (s.heap.objs.size + 1) scope.names []) (bindC (envOfC qual scope s.heap.objs.size f cd).kindOf (ps.zip us) fun _ => none) s1) :
    Inv (cxOf CX P w K mg base N qual scope f cd A outer s H E) [] (start N vs) H s1 := by
  have hpl : ps.length ≤ N.length := by have := congrArg List.length S.pre; rw [List.length_take] at this; omega
  obtain ⟨h1, tk, rfl, hk⟩ := x.done
  have noA : ∀ b : Addr, b ∉ (cxOf CX P w K mg base N qual scope f cd A outer s H E).ex := fun b z => absurd (show b ∈ ([] : List Addr) from z) (by simp)
  refine ⟨⟨e0.mod, S.kind, rfl, rfl, Nat.le_refl _, fun y z c h1 h2 => ?_, fun y hy => ?_, fun y c _ h => ?_, fun _ => hd, Around.frames_deeper e0.frames, .inr ⟨rfl, rfl⟩, fun b z => absurd z (noA b), e0.bs, e0.bsz, fun b _ _ => noA b, fun b z => absurd z (noA b), e0.funs, e0.frf⟩,
    rfl, e0.bare, Un.kept hk, ⟨_, x.toInCall.ns, fun i y v h1 h2 h3 => ?_⟩, fun y c h => ⟨_, x.cell y c h⟩, e0.hok.fresh (Nat.le_refl _), fun y c h => ?_, fun p hp => absurd (show p ∈ ([] : List (Addr × Obj)) from hp) (by simp), e0.hok.kept hk, ?_⟩
  · exact name_of_addr x.apart (PySem.mem_of_lookup h1) (PySem.mem_of_lookup h2)
  · have hy : scope.names.lookup y = some .cell ∨ scope.names.lookup y = some .free := hy
    rcases hy with hy | hy
    · exact cell_has hy
    · exact absurd rfl (S.nofree _ (PySem.mem_of_lookup hy))
  · exact Nat.le_of_lt (x.above y c (PySem.mem_of_lookup h))
  · have hi : i < vs.length := by
      unfold start at h2
      by_cases hi : i < vs.length
      · exact hi
      · rw [List.getElem?_append_right (by simpa using hi)] at h2
        rw [List.getElem?_replicate] at h2
        split at h2 <;> cases h2
    have ha : vs[i]? = some v := by
      unfold start at h2
      rw [List.getElem?_append_left (by simpa using hi), List.getElem?_map] at h2
      cases e : vs[i]? with
      | none => rw [e] at h2; cases h2
      | some a => rw [e] at h2; cases h2; rfl
    obtain ⟨u, hu, rv⟩ := r.get ha
    have hp : ps[i]? = some y := by
      rw [← S.pre, List.getElem?_take_of_lt (by omega)]; exact h1
    have ndP : ps.Nodup := by rw [← S.pre]; exact S.nd.sublist (List.take_sublist _ _)
    refine ⟨u, rv, ?_⟩
    rcases S.par y (List.mem_of_getElem? hp) with k | k
    · exact .inl ⟨k, bindL_get ndP hp hu k⟩
    · obtain ⟨c, e⟩ := cell_has (n := s.heap.objs.size + 1) k
      refine .inr ⟨.inl k, c, e, ?_⟩
      have q := x.cell y c e
      rw [bindC_get ndP hp hu (by show scope.names.lookup y ≠ _; rw [k]; decide)] at q
      exact q
  · exact e0.hok.fresh (Nat.le_of_lt (x.above y c (PySem.mem_of_lookup h)))
  · unfold start
    show _ = N.length
    rw [List.length_append, List.length_map, List.length_replicate]
    omega

/-- THE RULE: a def (or a method) of the text, by its body. The body's reading t is chosen for each entry; it is run at the parameters' values -/
theorem fn_of {CX : CXT} {P : Program} {w : World} {K : PySem.W.Frag} {mg : Str → Option Value} {base : Heap} {k : Nat} {f : Addr} {name qual : Str} {params : Arguments} {body : List Stmt} {scope : Scope} {dV kV doc pm cdv ct oc : Value} {an od : Option Addr}
    {osl : Array (Option Value)} {N ps : List Str} {sp : Sp} (lk : K.lookup f = some ⟨oc, od, .func (PySem.W.fnOf name qual params body scope dV kV doc pm an cdv ct), osl⟩) (hcd : PySem.W.codeIn K cdv qual = true) (S : FnScope N ps scope)
    (len : ∀ vs H Q E, sp vs H Q E → vs.length = ps.length)
    (hbody : ∀ (A : Around) (outer : List Env) (s : Shared) (H : Hp) (vs : List V) (Q : VK) (E : XK), Room k (A.deeper (envOfC qual scope s.heap.objs.size f cdv)) → sp vs H Q E →
      ∃ t, PSs (cxOf CX P w K mg base N qual scope f cdv A outer s H E) body t ∧ t { nx := fun _ H' => Q .non H', rt := Q } (start N vs) H) :
    FnOk P w K mg base CX (k + 1) f (PySem.W.fnOf name qual params body scope dV kV doc pm an cdv ct) ps sp := by
  refine ⟨len, fun A outer s H args us vs Q E hr e0 hb r hsp => ?_⟩
  have hl := len _ _ _ _ hsp
  have KX : K.In s.heap := e0.mod.kin.keeps fun b o e => (e0.bs b o e).1
  have lim : s.heap.NoLimit := e0.mod.nolimit.keeps fun b o e => (e0.bs b o e).1
  have hkind : ∀ y ∈ ps.zip us, scope.names.lookup y.1 = some .local ∨ (scope.names.lookup y.1 = some .cell ∧ ((cellsFrom (s.heap.objs.size + 1) scope.names []).lookup y.1).isSome = true) := fun ⟨n, v⟩ hy => by
    rcases S.par n (List.of_mem_zip hy).1 with q | q
    · exact .inl q
    · exact .inr ⟨q, PySem.W.cellsFrom_some _ _ _ (.inl q)⟩
  refine codeAny_call_function hr.depth (KX _ _ lk) rfl S.co S.gen rfl (PySem.W.codeRec_of KX hcd) (hb _ _ _ _ ?_)
  refine wpAny_newFunctionEnv_cells S.kind hkind fun env he s1 x => ?_
  subst he
  refine ⟨lim.keeps x.toInCall.keep, codeAny_func ?_⟩
  obtain ⟨t, ht, hq⟩ := hbody A outer s H vs Q E (hr.deeper _) hsp
  have I : Inv (cxOf CX P w K mg base N qual scope f cdv A outer s H E) [] (start N vs) H s1 := inv_start S hr.hd e0 hl r x
  refine wpAny_mono (ht [] s1 (start N vs) H _ I hq) (fun fl s' hs => ?_) fun e s' hs => hs
  have fin : ∀ {σ' : St} {H' : Hp} {v : V} {u : Value}, Inv (cxOf CX P w K mg base N qual scope f cdv A outer s H E) [] σ' H' s' → RelV v u → Q v H' → CE outer P w H s Q u s' :=
    fun {σ' H' v u} J rv q => ⟨v, H', J.os, J.bare, J.base, J.hok, rv, q⟩
  cases fl with
  | ret u =>
    obtain ⟨v, σ', H', J, rv, q⟩ := hs
    exact fin J rv q
  | next =>
    obtain ⟨σ', H', J, q⟩ := hs
    exact fin (v := V.non) (u := Value.none) J rfl q
  | brk =>
    obtain ⟨_, _, _, q⟩ := hs
    exact False.elim q
  | cont =>
    obtain ⟨_, _, _, q⟩ := hs
    exact False.elim q
end L2

namespace L2
open PySem PySem.Spec PyProof.Rows
section
variable {X : Cx} {x : Str} {p pos : Pos} {e : Expr} {es : List Expr} {t : TA} {id T : String} {r : List V → Hp → VK → Prop}

def tCB (r : List V → Hp → VK → Prop) (t : TA) : TE := fun σ H Q => t σ H fun vs H1 => r vs H1 Q
/-- f(e, ..), f a built-in function -/
theorem pe_callB (hc : CallR X (.builtin id) r) (hg : Gl X x) (hm : X.mg x = none) (hv : bootBuiltins x = some (.builtin id)) (ha : PA X (e :: es) t) (hn : x ≠ "__name__" := by decide) (hdb : (x == ("__debug__" : Str)) = false := by decide)
    (he : starEach (e :: es) X.env = (false, eval e X.env) :: starEach es X.env := by rfl) (hpl : (backTo pos (starEach es X.env)).any (·.1) = false := by rfl) : PE X (.Call (.Name x p) (e :: es) [] pos) (tCB r t) := by
  intro pins s σ H Q I h
  refine wpAny_Call_Name_kw (ld_blt I hg hm hv ?_ hn hdb)
  exact PyProof.Rows.callWith_builtin1 (thn (ha pos pins s σ H _ I h) fun us s1 ⟨vs, H1, I1, r1, q1⟩ => hc pins s1 σ H1 vs us Q I1 r1 q1) he hpl
/-- T(e, ..), T a built-in type -/
theorem pe_callTy (hc : CallR X (.type T) r) (hg : Gl X x) (hm : X.mg x = none) (hv : bootBuiltins x = some (.type T)) (ha : PA X (e :: es) t) (hn : x ≠ "__name__" := by decide) (hdb : (x == ("__debug__" : Str)) = false := by decide)
    (he : starEach (e :: es) X.env = (false, eval e X.env) :: starEach es X.env := by rfl) (hpl : (backTo pos (starEach es X.env)).any (·.1) = false := by rfl) : PE X (.Call (.Name x p) (e :: es) [] pos) (tCB r t) := by
  intro pins s σ H Q I h
  refine wpAny_Call_Name_kw (ld_blt I hg hm hv ?_ hn hdb)
  exact PyProof.Rows.callWith_type1 (thn (ha pos pins s σ H _ I h) fun us s1 ⟨vs, H1, I1, r1, q1⟩ => hc pins s1 σ H1 vs us Q I1 r1 q1) he hpl
end
end L2

namespace HT
open PySem PyProof.Rows

section
open PySem.SeqAt
open PySem.AutoSeq1 (wpAny_loadPart')
open PySem.MeetsSeq PySem.MeetsSeq2 PySem.MeetsSeq3

end

section
variable {prog : Program} {w : World} {A : Around} {E : Value → Shared → Prop} {s : Shared}

/-- t + u, t not empty -/
theorem cat_tup {t b : Addr} {vs ws : List Value} {Q : Value → Shared → Prop} (ht : IsTup s.heap t vs.toArray) (hb : IsTup s.heap b ws.toArray) (hv : vs ≠ [])
    (h1 : ws = [] → Q (.ref t) s) (h2 : ws ≠ [] → Q (.ref s.heap.objs.size) { s with heap := s.heap.push { cls := .type "tuple", data := .seq (vs ++ ws).toArray } })
    (hsz : vs.length + ws.length ≤ sizeLine) : wpAny (model prog w) A (binaryOp .Add (.ref t) (.ref b)) Q E s := by
  obtain ⟨⟨cls, dd, data, sl⟩, ho, hc, n, hd⟩ := id ht
  obtain ⟨⟨cls2, dd2, data2, sl2⟩, ho2, hc2, n2, hd2⟩ := id hb
  simp only at hc hd hc2 hd2
  subst hc hd hc2 hd2
  have e : vs.toArray ++ ws.toArray = (vs ++ ws).toArray := by simp
  by_cases hw : ws = []
  · exact concat_meets ⟨_, ho, rfl⟩ ⟨_, ho2, rfl⟩ noFill_tuple_add seq_tuple_add PySem.F.slot_tuple_add PySem.F.entry_tuple_add (PySem.F.args_tuple_add_2 _ _)
      (tuple_addW1 t b vs.toArray ws.toArray n n2 dd dd2 sl sl2 (by simpa using hv) (by simp [hw])) ⟨ho, ho2, h1 hw⟩
  · refine concat_meets ⟨_, ho, rfl⟩ ⟨_, ho2, rfl⟩ noFill_tuple_add seq_tuple_add PySem.F.slot_tuple_add PySem.F.entry_tuple_add (PySem.F.args_tuple_add_2 _ _)
      (tuple_addW2 t b vs.toArray ws.toArray n n2 dd dd2 sl sl2 (by simpa using hv) (by simpa using hw) (by rw [List.size_toArray, List.size_toArray]; exact hsz)) ⟨ho, ho2, ?_⟩
    rw [e]
    exact h2 hw

/-! ### t[a:b], not the whole -/
/-- a slice's bound as a place among n (d where it is left out) -/
def sIx (n d : Nat) : Option Int → Nat
  | none => d
  | some v => if v < 0 then (v + (n : Int)).toNat else min v.toNat n
theorem sIx_none (n d : Nat) : sIx n d none = d := rfl
theorem sIx_nat (n d k : Nat) : sIx n d (some (k : Int)) = min k n := by
  show (if (k : Int) < 0 then ((k : Int) + (n : Int)).toNat else min (k : Int).toNat n) = min k n
  rw [if_neg (by omega), Int.toNat_natCast]
theorem sIx_le (n d : Nat) (hd : d ≤ n) (o : Option Int) : sIx n d o ≤ n := by
  cases o with
  | none => exact hd
  | some v =>
    show (if v < 0 then (v + (n : Int)).toNat else min v.toNat n) ≤ n
    by_cases hv : v < 0
    · rw [if_pos hv]; omega
    · rw [if_neg hv]; exact Nat.min_le_right _ _
theorem clip_eq (v : Int) (n d : Nat) : (if v < 0 then max (v + (n : Int)) 0 else min v (n : Int)) = ((sIx n d (some v) : Nat) : Int) := by
  show (if v < 0 then max (v + (n : Int)) 0 else min v (n : Int)) = (((if v < 0 then (v + (n : Int)).toNat else min v.toNat n) : Nat) : Int)
  by_cases hv : v < 0
  · simp only [if_pos hv]; omega
  · simp only [if_neg hv]; omega
theorem adjust_gen (lo hi : Option Int) (n : Nat) : Builtin.Slice.sliceAdjust lo hi 1 (n : Int) = (((sIx n 0 lo : Nat) : Int), ((sIx n n hi : Nat) : Int)) := by
  have h1 : ¬ ((1 : Int) < 0) := by omega
  unfold Builtin.Slice.sliceAdjust
  simp only [h1, if_false]
  refine Prod.ext ?_ ?_
  · cases lo with
    | none => rfl
    | some v => exact clip_eq v n 0
  · cases hi with
    | none => rfl
    | some v => exact clip_eq v n n
theorem places_gen (i j : Nat) : Builtin.Slice.slicePlaces (i : Int) (j : Int) 1 = j - i := by
  unfold Builtin.Slice.slicePlaces
  have h1 : (1 : Int) > 0 := by omega
  simp only [h1, if_true, Int.ediv_one]
  split <;> omega
theorem slicePart_ {v : Value} {o : Option Int} {Q : Option Int → Shared → Prop} (p : IsPart v o) (h : Q o s) : wpAny (model prog w) A (Builtin.Slice.slicePartIndex v) Q E s := by
  cases p with
  | none => exact slicePart_none h
  | int i t => exact slicePart_int h
theorem sliceApplied_gen {sl : Addr} {vl vu : Value} {lo hi : Option Int} {n : Nat} {Q : Int × Int × Nat → Shared → Prop} (hs : s.heap.IsSliceOf sl vl vu .none) (pl : IsPart vl lo) (pu : IsPart vu hi)
    (h : Q (((sIx n 0 lo : Nat) : Int), 1, sIx n n hi - sIx n 0 lo) s) : wpAny (model prog w) A (Builtin.Slice.sliceApplied (.ref sl) (pure (n : Int))) Q E s := by
  obtain ⟨os, hos, hcs, hds⟩ := id hs
  unfold Builtin.Slice.sliceApplied Builtin.Slice.sliceFields
  refine wpAny_bind (wpAny_bind (wpAny_field hos hds (x := vl) rfl (wpAny_bind (wpAny_field hos hds (x := vu) rfl (wpAny_bind (wpAny_field hos hds (x := .none) rfl (wpAny_pure ?_)))))))
  refine wpAny_bind (slicePart_none ?_)
  show wpAny _ _ (if ((1 : Int) == 0) = true then _ else _) _ _ s
  rw [if_neg (by decide)]
  refine wpAny_bind (slicePart_ pl (wpAny_bind (slicePart_ pu (wpAny_bind (wpAny_pure ?_)))))
  show wpAny _ _ (match Builtin.Slice.sliceAdjust lo hi 1 (n : Int) with | (lo, hi) => pure (lo, (1 : Int), Builtin.Slice.slicePlaces lo hi 1)) _ _ s
  rw [adjust_gen lo hi n]
  show wpAny _ _ (pure (((sIx n 0 lo : Nat) : Int), (1 : Int), Builtin.Slice.slicePlaces ((sIx n 0 lo : Nat) : Int) ((sIx n n hi : Nat) : Int) 1)) _ _ s
  rw [places_gen]
  exact wpAny_pure h
theorem pick_gen (xs : Array Value) (i k : Nat) : ((List.range k).filterMap fun (m : Nat) => xs[((i : Int) + (m : Int) * 1).toNat]?).toArray = ((xs.toList.drop i).take k).toArray := by
  have e : (fun (m : Nat) => xs[((i : Int) + (m : Int) * 1).toNat]?) = fun m => xs[i + m]? := by
    funext m
    have : ((i : Int) + (m : Int) * 1).toNat = i + m := by omega
    rw [this]
  rw [e]
  have := pick_run xs i k
  rw [List.filterMap_map] at this
  have e2 : ((fun x => xs[x]?) ∘ fun x => i + x) = fun m => xs[i + m]? := rfl
  rw [e2] at this
  rw [this]

theorem getItem_tuple_cut {t sl : Addr} {items : Array Value} {vl vu : Value} {lo hi : Option Int} {Q : Value → Shared → Prop} (ht : IsTup s.heap t items) (hs : s.heap.IsSliceOf sl vl vu .none) (pl : IsPart vl lo) (pu : IsPart vu hi)
    (hw : ¬ (sIx items.size 0 lo = 0 ∧ sIx items.size items.size hi = items.size))
    (h : Q (.ref s.heap.objs.size) { s with heap := s.heap.push { cls := .type "tuple", data := .seq ((items.toList.drop (sIx items.size 0 lo)).take (sIx items.size items.size hi - sIx items.size 0 lo)).toArray } })
    (hsz : items.size ≤ sizeLine) : wpAny (model prog w) A (getItem (.ref t) (.ref sl)) Q E s := by
  have htake : sizeOk (.seq ((items.toList.drop (sIx items.size 0 lo)).take (sIx items.size items.size hi - sIx items.size 0 lo)).toArray) := by
    show ((items.toList.drop (sIx items.size 0 lo)).take (sIx items.size items.size hi - sIx items.size 0 lo)).toArray.size ≤ sizeLine
    rw [List.size_toArray, List.length_take, List.length_drop, Array.length_toList]
    omega
  have hj : sIx items.size items.size hi ≤ items.size := sIx_le _ _ (Nat.le_refl _) hi
  obtain ⟨os, hos, hcs, hds⟩ := id hs
  have hTs : s.TypeIs (.ref sl) "slice" := ⟨os, hos, hcs⟩
  unfold getItem
  try with_reducible refine wpAny_holding ?_
  first | refine wpAny_bind (wpAny_pure ?_) | skip
  refine wpAny_bind (wpAny_sequenceKey ht.typeIs (by decide) ?_)
  refine wpAny_bind (wpAny_callSpecial?_slot (name := Str.ofString "__getitem__") ht.typeIs PyProof.Rows.slot_tuple_getitem
    (wpAny_call_entry PyProof.Rows.slot_tuple_getitem ht.typeIs entry_tuple_getitem ?_ (args_tuple_getitem _ _)))
  show wpAny _ _ (Builtin.Tuple.tupleItemsOf (.ref t) >>= _) _ _ s
  refine wpAny_bind (tupleItemsOf_ ht ?_)
  refine wpAny_bind (wpAny_typeOf hTs ?_)
  rw [if_pos (by decide)]
  refine wpAny_bind (sliceApplied_gen hs pl pu ?_)
  have hno : ¬ ((((sIx items.size 0 lo : Nat) : Int) == 0 && (1 : Int) == 1 && (sIx items.size items.size hi - sIx items.size 0 lo) == items.size) = true) := by
    intro q
    rw [Bool.and_eq_true, Bool.and_eq_true] at q
    have q1 : ((sIx items.size 0 lo : Nat) : Int) = 0 := eq_of_beq q.1.1
    have q2 : sIx items.size items.size hi - sIx items.size 0 lo = items.size := eq_of_beq q.2
    exact hw ⟨by omega, by omega⟩
  show wpAny _ _ (if (((sIx items.size 0 lo : Nat) : Int) == 0 && (1 : Int) == 1 && (sIx items.size items.size hi - sIx items.size 0 lo) == items.size) = true then _ else _) _ _ s
  rw [if_neg hno, pick_gen]
  first
    | exact wpAny_bind (m := Builtin.Tuple.tupleExact _) (wpAny_newObj_type (wpAny_pure ⟨_, rfl, wpAny_pure h⟩) htake)
    | exact wpAny_bind (m := Builtin.Tuple.tupleExact _) (wpAny_newObj_type (wpAny_bind (wpAny_pure (wpAny_pure ⟨_, rfl, wpAny_pure h⟩))) htake)
    | exact wpAny_bind (wpAny_bind (m := Builtin.Tuple.tupleExact _) (wpAny_newObj_type (wpAny_pure (wpAny_pure ⟨_, rfl, wpAny_pure h⟩)) htake))
    | exact wpAny_bind (wpAny_bind (m := Builtin.Tuple.tupleExact _) (wpAny_newObj_type (wpAny_pure ⟨_, rfl, wpAny_pure h⟩) htake))
end
end HT

namespace L2
open PySem PySem.Spec PyProof.Rows

/-! ### the parts of a slice -/
abbrev TO := St → Hp → (Option Int → Hp → Prop) → Prop
/-- a slice's part (left out, or an int) -/
def PO (X : Cx) (e : Option Expr) (t : TO) : Prop :=
  ∀ (pins : List (Addr × Obj)) (s : Shared) (σ : St) (H : Hp) (Q : Option Int → Hp → Prop), Inv X pins σ H s → t σ H Q →
    wpAny (model X.prog X.w) X.A (evalPart e X.env) (fun u s' => ∃ o H', Inv X pins σ H' s' ∧ IsPart u o ∧ Q o H') X.xe s
def tNoPart : TO := fun _ H Q => Q none H
def tPart (t : TE) : TO := fun σ H Q => t σ H fun x H1 => ∃ i, x = .int i ∧ Q (some i) H1

section
variable {X : Cx} {e : Expr} {te : TE} {lo hi : Option Expr} {tl th : TO} {pos p2 : Pos}

theorem po_none : PO X none tNoPart := by
  intro pins s σ H Q I h
  rw [evalPart_none]
  exact wpAny_pure ⟨none, H, I, .none, h⟩
theorem po_some (h : PE X e te) : PO X (some e) (tPart te) := by
  intro pins s σ H Q I hw
  rw [evalPart_some]
  refine thn (h pins s σ H _ I hw) fun u s1 ⟨x, H1, I1, r1, q1⟩ => ?_
  obtain ⟨i, rfl, q⟩ := q1
  obtain ⟨t, rfl⟩ := r1
  exact ⟨some i, H1, I1, .int i t, q⟩

/-- what a slice of a value is, by values: the slice object stands at sl -/
def SlR (X : Cx) (r : V → Option Int → Option Int → Hp → VK → Prop) : Prop :=
  ∀ (pins : List (Addr × Obj)) (s : Shared) (σ : St) (H : Hp) (x : V) (v vl vu : Value) (lo hi : Option Int) (sl : Addr) (Q : VK), Inv X pins σ H s → RelV x v → s.heap.IsSliceOf sl vl vu .none → IsPart vl lo → IsPart vu hi → r x lo hi H Q →
    ∃ T id, typeLookup (.type T) "__getitem__" = pure (some (.builtin id)) ∧ s.TypeIs v T ∧ wpAny (model X.prog X.w) X.A (getItem v (.ref sl)) (EP X pins σ Q) X.xe s
def tSl (r : V → Option Int → Option Int → Hp → VK → Prop) (te : TE) (tl th : TO) : TE := fun σ H Q => te σ H fun x H1 => tl σ H1 fun l H2 => th σ H2 fun u H3 => r x l u H3 Q
/-- a[lo:hi], any a -/
theorem pe_slice {r : V → Option Int → Option Int → Hp → VK → Prop} (hr : SlR X r) (he : PE X e te) (hl : PO X lo tl) (hu : PO X hi th) : PE X (.Subscript e (.Slice lo hi none p2) pos) (tSl r te tl th) := by
  intro pins s σ H Q I h
  refine Subscript_ (thn (he pins s σ H _ I h) fun v s1 ⟨x, H1, I1, r1, q1⟩ => ?_)
  refine wpAny_Slice (thn (hl pins s1 σ H1 _ I1 q1) fun vl s2 ⟨l, H2, I2, pl, q2⟩ => thn (hu pins s2 σ H2 _ I2 q2) fun vu s3 ⟨u, H3, I3, pu, q3⟩ => ?_)
  rw [evalPart_none]
  refine wpAny_pure ?_
  have I4 : Inv X pins σ H3 { s3 with heap := s3.heap.push { cls := .type "slice", data := .fields #[vl, vu, .none] } } := I3.kept (t' := s3.toks) fun b ob q => Heap.get?_push_of_some _ q
  obtain ⟨T, id, hT, ht, hg⟩ := hr pins { s3 with heap := s3.heap.push { cls := .type "slice", data := .fields #[vl, vu, .none] } } σ H3 x v vl vu l u s3.heap.objs.size Q I4 r1 (Heap.IsSliceOf.new ..) pl pu q3
  show wpAny (model X.prog X.w) X.A (subscriptTail e (.Slice lo hi none p2) v (.ref s3.heap.objs.size)) (EP X pins σ Q) X.xe { s3 with heap := s3.heap.push { cls := .type "slice", data := .fields #[vl, vu, .none] } }
  exact tail_any (ops := [.ref s3.heap.objs.size, v]) ht hT hg (by with_unfolding_all rfl)

/-- the items of xs[lo:hi] -/
def cutV (xs : List V) (lo hi : Option Int) : List V := (xs.drop (HT.sIx xs.length 0 lo)).take (HT.sIx xs.length xs.length hi - HT.sIx xs.length 0 lo)
theorem cutV_length (xs : List V) (lo hi : Option Int) : (cutV xs lo hi).length ≤ xs.length := by
  unfold cutV
  rw [List.length_take, List.length_drop]
  omega
/-- t[lo:hi], not the whole of it (the whole would be t itself) -/
def rSlT (K : PySem.W.Frag) : V → Option Int → Option Int → Hp → VK → Prop := fun x lo hi H Q => ∃ a xs, x = .ref a ∧ SqT K H a xs ∧
  ¬ (HT.sIx xs.length 0 lo = 0 ∧ HT.sIx xs.length xs.length hi = xs.length) ∧ ∀ p, H p = none → Q (.ref p) (upd H p (.tup (cutV xs lo hi)))
theorem sl_tup : SlR X (rSlT X.K) := by
  intro pins s σ H x v vl vu lo hi sl Q I rx hs pl pu h
  obtain ⟨a, xs, rfl, hx, hw, q⟩ := h
  cases rx
  obtain ⟨its, r, ht, hz⟩ := I.tuple hx
  have hlen : its.toArray.size = xs.length := by rw [List.size_toArray]; exact r.length.symm
  refine ⟨"tuple", _, PyProof.Rows.slot_tuple_getitem.lookup, ht.typeIs, ?_⟩
  refine HT.getItem_tuple_cut ht hs pl pu (by rw [hlen]; exact hw) ?_ (by rw [hlen]; exact hz)
  rw [hlen]
  refine ⟨.ref s.heap.objs.size, _, I.laid (t' := s.toks) (o := .tup (cutV xs lo hi)) (fun b ob q => Heap.get?_push_of_some _ q) (Nat.le_refl _) ?_, rfl, q _ (I.hok.fresh (Nat.le_refl _))⟩
  exact ⟨Nat.le_trans (cutV_length xs lo hi) hz, _, (r.drop (HT.sIx xs.length 0 lo)).take (HT.sIx xs.length xs.length hi - HT.sIx xs.length 0 lo), IsTup.new _ _⟩

/-! ### t < u, t + u -/
/-- t + u, t not empty: u empty gives t itself -/
def rCatT (K : PySem.W.Frag) : R2 := fun x y H Q => ∃ a b xs ys, x = .ref a ∧ y = .ref b ∧ SqT K H a xs ∧ SqT K H b ys ∧ xs ≠ [] ∧ xs.length + ys.length ≤ sizeLine ∧
  (ys = [] → Q (.ref a) H) ∧ (ys ≠ [] → ∀ p, H p = none → Q (.ref p) (upd H p (.tup (xs ++ ys))))
theorem Vals.nil_iff {xs : List V} {us : List Value} (r : Vals xs us) : us = [] ↔ xs = [] := by
  cases r with
  | nil => simp
  | cons _ _ => simp
theorem op_catT : OpR X (binaryOp .Add) (rCatT X.K) := by
  intro pins s σ H x y v u Q I rx ry h
  obtain ⟨a, b, xs, ys, rfl, rfl, ha, hb, hx, hz, q1, q2⟩ := h
  cases rx
  cases ry
  obtain ⟨its, r1, p1, _⟩ := I.tuple ha
  obtain ⟨its2, r2, p2, _⟩ := I.tuple hb
  refine HT.cat_tup p1 p2 (fun z => hx (r1.nil_iff.mp z)) (fun z => ⟨.ref a, H, I, rfl, q1 (r2.nil_iff.mp z)⟩) (fun z => ?_) (by rw [← r1.length, ← r2.length]; exact hz)
  refine ⟨.ref s.heap.objs.size, _, I.laid (t' := s.toks) (o := .tup (xs ++ ys)) (fun b ob q => Heap.get?_push_of_some _ q) (Nat.le_refl _) ?_, rfl, q2 (fun w => z (r2.nil_iff.mpr w)) _ (I.hok.fresh (Nat.le_refl _))⟩
  exact ⟨by rw [List.length_append]; exact hz, _, r1.append r2, IsTup.new _ _⟩
end
end L2

namespace L2
open PySem PySem.Spec PyProof.Rows

/-! ### places -/
/-- the place that an index of any sign means -/
def ixN (n : Nat) (i : Int) : Option Nat := if 0 ≤ i then (if i < n then some i.toNat else none) else if -(n : Int) ≤ i then some (i + n).toNat else none
def atI {α : Type} (xs : List α) (i : Int) : Option α := (ixN xs.length i).bind fun j => xs[j]?
theorem ixN_seq {n : Nat} {i : Int} {j : Nat} (h : ixN n i = some j) : seqIndex? i n = some j ∧ j < n ∧ -(n : Int) ≤ i ∧ i < n := by
  unfold ixN at h
  by_cases h0 : 0 ≤ i
  · rw [if_pos h0] at h
    by_cases h1 : i < n
    · rw [if_pos h1] at h
      have e : i.toNat = j := Option.some.inj h
      exact ⟨by rw [seqIndex_of h0 h1, e], by omega, by omega, h1⟩
    · rw [if_neg h1] at h; cases h
  · rw [if_neg h0] at h
    by_cases h1 : -(n : Int) ≤ i
    · rw [if_pos h1] at h
      have e : (i + n).toNat = j := Option.some.inj h
      exact ⟨by rw [seqIndex_neg (by omega) h1, e], by omega, h1, by omega⟩
    · rw [if_neg h1] at h; cases h
theorem atI_get {α : Type} {xs : List α} {i : Int} {v : α} (h : atI xs i = some v) : ∃ j, seqIndex? i xs.length = some j ∧ xs[j]? = some v ∧ j < xs.length ∧ -(xs.length : Int) ≤ i ∧ i < xs.length := by
  unfold atI at h
  cases e : ixN xs.length i with
  | none => rw [e] at h; cases h
  | some j =>
    rw [e] at h
    obtain ⟨h1, h2, h3, h4⟩ := ixN_seq e
    exact ⟨j, h1, h, h2, h3, h4⟩
theorem atI_nat {α : Type} {xs : List α} {j : Nat} {v : α} (h : xs[j]? = some v) : atI xs (j : Int) = some v := by
  have hj : j < xs.length := (List.getElem?_eq_some_iff.mp h).1
  have e : ixN xs.length (j : Int) = some j := by
    unfold ixN
    rw [if_pos (by omega), if_pos (by omega)]; simp
  unfold atI; rw [e]; exact h
theorem atI_last {α : Type} (xs : List α) (v : α) : atI (xs ++ [v]) (-1) = some v := by
  have hl : (xs ++ [v]).length = xs.length + 1 := by simp
  have e : ixN (xs ++ [v]).length (-1) = some xs.length := by
    unfold ixN
    rw [hl, if_neg (by decide), if_pos (by omega)]
    congr 1
    omega
  unfold atI
  rw [e]
  show (xs ++ [v])[xs.length]? = some v
  simp

/-! ### what may be subscripted -/
/-- what stands as an index of a plain subscript -/
def PlainIx (b : Expr) : Prop := ∀ o i, subscripted b false o i = operate [o, i] (getItem o i)
/-- a subscript by values -/
def IxR (X : Cx) (r : R2) : Prop :=
  ∀ (value slice : Expr) (pins : List (Addr × Obj)) (s : Shared) (σ : St) (H : Hp) (x y : V) (v u : Value) (Q : VK), Inv X pins σ H s → RelV x v → RelV y u → r x y H Q →
    subscripted slice false v u = operate [v, u] (getItem v u) → wpAny (model X.prog X.w) X.A (subscriptTail value slice v u) (EP X pins σ Q) X.xe s
/-- a call of a builtin's method by values: the receiver, the arguments -/
def MtR (X : Cx) (id : String) (r : V → List V → Hp → VK → Prop) : Prop :=
  ∀ (pins : List (Addr × Obj)) (s : Shared) (σ : St) (H : Hp) (x : V) (xs : List V) (v : Value) (us : List Value) (Q : VK), Inv X pins σ H s → RelV x v → Vals xs us → r x xs H Q →
    wpAny (model X.prog X.w) X.A (call (.builtin id) (v :: us)) (EP X pins σ Q) X.xe s
section
variable {X : Cx} {a b : Expr} {ta tb : TE} {pos : Pos}
/-- a[b] -/
theorem pe_ix {r : R2} (hr : IxR X r) (ha : PE X a ta) (hb : PE X b tb) (hs : PlainIx b) : PE X (.Subscript a b pos) (tOp r ta tb) := by
  intro pins s σ H Q I h
  exact Subscript_ (binT ha hb I h fun v u s2 x y H2 I2 rx ry q => hr a b pins s2 σ H2 x y v u Q I2 rx ry q (hs _ _))

def rIxL (K : PySem.W.Frag) : R2 := fun x y H Q => ∃ p xs i v, x = .ref p ∧ y = .int i ∧ SqL K H p xs ∧ atI xs i = some v ∧ Q v H
def rIxT (K : PySem.W.Frag) : R2 := fun x y H Q => ∃ p xs i v, x = .ref p ∧ y = .int i ∧ SqT K H p xs ∧ atI xs i = some v ∧ Q v H
theorem ix_list : IxR X (rIxL X.K) := by
  intro value slice pins s σ H x y v u Q I rx ry h hs
  obtain ⟨p, xs, i, z, rfl, rfl, hq, he, q⟩ := h
  cases rx
  obtain ⟨t, rfl⟩ := ry
  obtain ⟨its, r, pl, hz⟩ := I.list hq
  obtain ⟨j, h1, h2, h3, h4, h5⟩ := atI_get he
  obtain ⟨w, ew, rw'⟩ := r.get h2
  have hl := r.length
  have hn := line63
  have fin : EP X pins σ Q w s := ⟨z, H, I, rw', q⟩
  by_cases h0 : 0 ≤ i
  · have hj : i.toNat = j := by
      rw [seqIndex_of h0 h5] at h1
      exact Option.some.inj h1
    exact item_listR pl.isList h0 (by omega) (by rw [hj]; simpa using ew) fin hs
  · have hj : (i + (its.toArray.size : Int)).toNat = j := by
      rw [seqIndex_neg (by omega) h4] at h1
      rw [List.size_toArray, ← hl]
      exact Option.some.inj h1
    exact subscriptTail_builtinR (x := w) pl.isList.typeIs slot_list_getitem.lookup
      (wpAny_getItem_list_neg (Q := fun r s' => r = w ∧ EP X pins σ Q r s') pl.isList (by omega) (by rw [List.size_toArray] <;> omega) (by omega) (by rw [hj]; simpa using ew) ⟨rfl, fin⟩) hs
theorem ix_tup : IxR X (rIxT X.K) := by
  intro value slice pins s σ H x y v u Q I rx ry h hs
  obtain ⟨p, xs, i, z, rfl, rfl, hq, he, q⟩ := h
  cases rx
  obtain ⟨t, rfl⟩ := ry
  obtain ⟨its, r, pl, hz⟩ := I.tuple hq
  obtain ⟨j, h1, h2, h3, h4, h5⟩ := atI_get he
  obtain ⟨w, ew, rw'⟩ := r.get h2
  have hl := r.length
  have hn := line63
  have fin : EP X pins σ Q w s := ⟨z, H, I, rw', q⟩
  exact subscriptTail_builtinR (x := w) pl.typeIs slot_tuple_getitem.lookup
    (getItem_tuple (j := j) (Q := fun r s' => r = w ∧ EP X pins σ Q r s') pl (by omega) (by omega) (by rw [List.size_toArray, ← hl]; exact h1) (by simpa using ew) ⟨rfl, fin⟩) hs
/-! ### xs[i] = v, any sign -/
/-! ### slices -/
theorem slice_bounds (lo hi : Option Int) (n : Nat) : (sliceBounds lo hi none n).1 = ((HT.sIx n 0 lo : Nat) : Int) ∧ (sliceBounds lo hi none n).2.1 = ((HT.sIx n n hi : Nat) : Int) ∧ (sliceBounds lo hi none n).2.2 = 1 := by
  refine ⟨?_, ?_, rfl⟩
  · cases lo with
    | none => simp [sliceBounds, HT.sIx]
    | some i =>
      simp only [sliceBounds, HT.sIx, Option.getD_none, show (1 : Int) > 0 by decide, if_true]
      by_cases h : i < 0
      · simp only [h, if_true] <;> omega
      · simp only [h, if_false] <;> omega
  · cases hi with
    | none => simp [sliceBounds, HT.sIx]
    | some i =>
      simp only [sliceBounds, HT.sIx, Option.getD_none, show (1 : Int) > 0 by decide, if_true]
      by_cases h : i < 0
      · simp only [h, if_true] <;> omega
      · simp only [h, if_false] <;> omega
theorem slicePick_cut (its : List Value) (lo hi : Option Int) : slicePick its.toArray lo hi none = ((its.drop (HT.sIx its.length 0 lo)).take (HT.sIx its.length its.length hi - HT.sIx its.length 0 lo)).toArray := by
  obtain ⟨h1, h2, h3⟩ := slice_bounds lo hi its.toArray.size
  unfold slicePick
  rw [h1, h2, h3]
  simp only [sliceRange_one, pick_run, List.size_toArray] <;> rfl
/-- xs[lo:hi] of a list: a new list -/
def rSlL (K : PySem.W.Frag) : V → Option Int → Option Int → Hp → VK → Prop := fun x lo hi H Q => ∃ a xs, x = .ref a ∧ SqL K H a xs ∧ ∀ p, H p = none → Q (.ref p) (upd H p (.lst (cutV xs lo hi)))
theorem sl_list : SlR X (rSlL X.K) := by
  intro pins s σ H x v vl vu lo hi sl Q I rx hs pl pu h
  obtain ⟨a, xs, rfl, hx, q⟩ := h
  cases rx
  obtain ⟨its, r, ht, hz⟩ := I.list hx
  have hlen := r.length
  refine ⟨"list", _, slot_list_getitem.lookup, ht.isList.typeIs, ?_⟩
  refine wpAny_getItem_list_slice ht.isList hs pl pu .none (by simp) ?_ (by rw [List.size_toArray] <;> omega)
  rw [slicePick_cut, ← hlen]
  refine ⟨.ref s.heap.objs.size, _, I.laid (t' := s.toks) (o := .lst (cutV xs lo hi)) (fun b ob q => Heap.get?_push_of_some _ q) (Nat.le_refl _) ?_, rfl, q _ (I.hok.fresh (Nat.le_refl _))⟩
  exact ⟨Nat.le_trans (cutV_length xs lo hi) hz, _, 0, (r.drop (HT.sIx xs.length 0 lo)).take (HT.sIx xs.length xs.length hi - HT.sIx xs.length 0 lo), Heap.get?_push_size _ rfl⟩

/-! ### in, not in: flat items -/
def flatV : V → Bool
  | .non => true
  | .bl _ => true
  | .int _ => true
  | .str _ => true
  | _ => false
/-- == of flat values -/
def eqV : V → V → Bool
  | .non, .non => true
  | .bl a, .bl b => a == b
  | .bl a, .int b => (if a then 1 else 0) == b
  | .int a, .bl b => a == (if b then 1 else 0)
  | .int a, .int b => a == b
  | .str a, .str b => a == b
  | _, _ => false
theorem eqAt_V {A : Around} {s : Shared} {y x : V} {u v : Value} (ry : RelV y u) (rx : RelV x v) (fy : flatV y = true) (fx : flatV x = true) : SeqAt.EqAt A s u v (eqV y x) := by
  cases y with
  | non =>
    cases ry
    cases x with
    | non => cases rx; exact SeqAt.EqAt.same _
    | bl b => cases rx; exact SeqAt.EqAt.none_bool b
    | int b => obtain ⟨t, rfl⟩ := rx; exact SeqAt.EqAt.none_int b t
    | str b => obtain ⟨t, rfl⟩ := rx; exact SeqAt.EqAt.none_str b t
    | _ => exact absurd (show false = true from fx) Bool.false_ne_true
  | bl a =>
    cases ry
    cases x with
    | non => cases rx; exact SeqAt.EqAt.bool_none a
    | bl b => cases rx; exact SeqAt.EqAt.bool_bool a b
    | int b => obtain ⟨t, rfl⟩ := rx; exact SeqAt.EqAt.bool_int a b t
    | str b => obtain ⟨t, rfl⟩ := rx; exact SeqAt.EqAt.bool_str a b t
    | _ => exact absurd (show false = true from fx) Bool.false_ne_true
  | int a =>
    obtain ⟨t', rfl⟩ := ry
    cases x with
    | non => cases rx; exact SeqAt.EqAt.int_none a t'
    | bl b => cases rx; exact SeqAt.EqAt.int_bool a t' b
    | int b => obtain ⟨t, rfl⟩ := rx; exact SeqAt.EqAt.int_int a t' b t
    | str b => obtain ⟨t, rfl⟩ := rx; exact SeqAt.EqAt.int_str a t' b t
    | _ => exact absurd (show false = true from fx) Bool.false_ne_true
  | str a =>
    obtain ⟨t', rfl⟩ := ry
    cases x with
    | non => cases rx; exact SeqAt.EqAt.str_none a t'
    | bl b => cases rx; exact SeqAt.EqAt.str_bool a t' b
    | int b => obtain ⟨t, rfl⟩ := rx; exact SeqAt.EqAt.str_int a t' b t
    | str b => obtain ⟨t, rfl⟩ := rx; exact SeqAt.EqAt.str_str a t' b t
    | _ => exact absurd (show false = true from fx) Bool.false_ne_true
  | _ => exact absurd (show false = true from fy) Bool.false_ne_true
/-- the items' answers, read off the values (a value's own answer does not lean on its token) -/
def eqU (x : V) (u : Value) : Bool := match u with
  | .none => eqV .non x
  | .bool b => eqV (.bl b) x
  | .int i _ => eqV (.int i) x
  | .str z _ => eqV (.str z) x
  | _ => false
theorem eqU_of {x y : V} {u : Value} (r : RelV y u) (f : flatV y = true) : eqU x u = eqV y x := by
  cases y with
  | non => cases r; rfl
  | bl b => cases r; rfl
  | int i => obtain ⟨t, rfl⟩ := r; rfl
  | str z => obtain ⟨t, rfl⟩ := r; rfl
  | _ => exact absurd (show false = true from f) Bool.false_ne_true
theorem any_eqU {x : V} : ∀ {xs : List V} {us : List Value}, Vals xs us → xs.all flatV = true → us.any (eqU x) = xs.any fun y => eqV y x
  | _, _, .nil, _ => rfl
  | y :: xs, u :: us, .cons r t, f => by
    rw [List.all_cons, Bool.and_eq_true] at f
    rw [List.any_cons, List.any_cons, eqU_of r f.1, any_eqU t f.2]
theorem mem_eqAt {A : Around} {s : Shared} {x : V} {v : Value} (rx : RelV x v) (fx : flatV x = true) : ∀ {xs : List V} {us : List Value}, Vals xs us → xs.all flatV = true → ∀ u ∈ us, SeqAt.EqAt A s u v (eqU x u)
  | _, _, .nil, _ => fun u hu => by cases hu
  | y :: xs, u :: us, .cons r t, f => fun u' hu => by
    rw [List.all_cons, Bool.and_eq_true] at f
    rcases List.mem_cons.mp hu with rfl | hu
    · rw [eqU_of r f.1]; exact eqAt_V r rx f.1 fx
    · exact mem_eqAt rx fx t f.2 u' hu
def inV (x : V) (xs : List V) : Bool := xs.any fun y => eqV y x
/-- x in a list or tuple of flat items -/
def rIn (K : PySem.W.Frag) (neg : Bool) : R2 := fun x y H Q => ∃ p xs, y = .ref p ∧ (SqL K H p xs ∨ SqT K H p xs) ∧ flatV x = true ∧ xs.all flatV = true ∧ Q (.bl (if neg then !inV x xs else inV x xs)) H
theorem op_notIn_seq : OpR X (compareOp .NotIn) (rIn X.K true) := by
  intro pins s σ H x y v u Q I rx ry h
  obtain ⟨p, xs, rfl, hq, fx, fs, q⟩ := h
  cases ry
  rcases hq with hq | hq
  · obtain ⟨its, r, pl, hz⟩ := I.list hq
    refine SeqAt.notIn_listAt (eqU x) pl.isList (fun w hw => mem_eqAt rx fx r fs w (by simpa using hw)) ⟨.bl _, H, I, rfl, ?_⟩
    rw [show its.toArray.any (eqU x) = its.any (eqU x) by simp, any_eqU r fs]
    exact q
  · obtain ⟨its, r, pl, hz⟩ := I.tuple hq
    refine SeqAt.notIn_tupleAt (eqU x) pl (fun w hw => mem_eqAt rx fx r fs w (by simpa using hw)) ⟨.bl _, H, I, rfl, ?_⟩
    rw [show its.toArray.any (eqU x) = its.any (eqU x) by simp, any_eqU r fs]
    exact q
/-! ### len, list(x), tuple(x) of any list or tuple that is read -/
theorem call_len_seq : CallR X (.builtin "len") (fun xs H Q => ∃ p ys, xs = [.ref p] ∧ (SqL X.K H p ys ∨ SqT X.K H p ys) ∧ Q (.int ys.length) H) := by
  intro pins s σ H xs us Q I r h
  obtain ⟨p, ys, rfl, hq, q⟩ := h
  obtain ⟨u, rfl, rx⟩ := vals1 r
  cases rx
  have hn := line63
  rcases hq with hq | hq
  · obtain ⟨its, r', pl, hz⟩ := I.list hq
    have hlen := r'.length
    exact Calls.call_len_list pl.isList (by simp only [List.size_toArray] <;> omega) ⟨.int ys.length, H, I.tok _, ⟨s.toks + 1, by rw [List.size_toArray, hlen]⟩, q⟩
  · obtain ⟨its, r', pl, hz⟩ := I.tuple hq
    have hlen := r'.length
    exact len_tuple pl (by simp only [List.size_toArray] <;> omega) ⟨.int ys.length, H, I.tok _, ⟨s.toks + 1, by rw [List.size_toArray, hlen]⟩, q⟩
theorem call_tuple_of : CallR X (.type "tuple") (fun xs H Q => ∃ p ys, xs = [.ref p] ∧ ((SqL X.K H p ys ∧ ∀ l, H l = none → Q (.ref l) (upd H l (.tup ys))) ∨ (SqT X.K H p ys ∧ Q (.ref p) H))) := by
  intro pins s σ H xs us Q I r h
  obtain ⟨p, ys, rfl, h⟩ := h
  obtain ⟨u, rfl, rx⟩ := vals1 r
  cases rx
  rcases h with ⟨hq, q⟩ | ⟨hq, q⟩
  · obtain ⟨its, r', pl, hz⟩ := I.list hq
    have hlen := r'.length
    refine call_tuple_list pl.isList (fun h' kp => ?_) (by simp only [List.size_toArray] <;> omega)
    have I1 : Inv X pins σ H { s with heap := h' } := I.kept (t' := s.toks) kp
    have I2 : Inv X pins σ (upd H h'.objs.size (.tup ys)) { s with heap := h'.push { cls := .type "tuple", data := .seq its.toArray } } :=
      I1.laid (t' := s.toks) (fun b o e => Heap.get?_push_of_some _ e) (Nat.le_refl _) (show ObjOk X.prog X.w _ _ _ (.tup ys) from ⟨hz, its, r', IsTup.new _ _⟩)
    exact ⟨.ref h'.objs.size, _, I2, rfl, q _ (I1.hok.fresh (Nat.le_refl _))⟩
  · obtain ⟨its, r', pl, hz⟩ := I.tuple hq
    exact call_tuple_same pl ⟨.ref p, H, I, rfl, q⟩

/-! ### the call of a builtin's method: o.m(..) -/
/-- the value is of that builtin type -/
def tyV (K : PySem.W.Frag) (T : String) (x : V) (H : Hp) : Prop := match x with
  | .str _ => T = "str"
  | .int _ => T = "int"
  | .ref p => (T = "list" ∧ ∃ xs, SqL K H p xs) ∨ (T = "tuple" ∧ ∃ o, K.lookup p = some o ∧ o.cls = .type "tuple" ∧ o.dict = none) ∨
      (T = "dict" ∧ ((∃ kvs, H p = some (.dK kvs)) ∨ ∃ kvs, H p = some (.dT kvs))) ∨ (T = "set" ∧ ∃ S n, H p = some (.set S n))
  | _ => False
theorem tyV_is {pins : List (Addr × Obj)} {σ : St} {H : Hp} {s : Shared} {T : String} {x : V} {v : Value} (I : Inv X pins σ H s) (r : RelV x v) (ty : tyV X.K T x H) :
    s.TypeIs v T ∧ ∀ a, v = .ref a → ∃ ob, s.heap.get? a = some ob ∧ ob.dict = none := by
  cases x with
  | str z =>
    obtain ⟨t, rfl⟩ := r
    cases (show T = "str" from ty)
    exact ⟨typeIs_str s z t, fun _ e => nomatch e⟩
  | int i =>
    obtain ⟨t, rfl⟩ := r
    cases (show T = "int" from ty)
    exact ⟨typeIs_int s i t, fun _ e => nomatch e⟩
  | ref p =>
    cases r
    rcases ty with ⟨rfl, xs, hq⟩ | ⟨rfl, o, hk, hc, hd⟩ | ⟨rfl, hk⟩ | ⟨rfl, S, n, hk⟩
    · obtain ⟨its, _, pl, _⟩ := I.list hq
      refine ⟨pl.isList.typeIs, fun a e => ?_⟩
      cases e
      obtain ⟨o, n, e, c, hd, _⟩ := pl
      exact ⟨o, e, hd⟩
    · refine ⟨⟨o, I.kIn p o hk, hc⟩, fun a e => ?_⟩
      cases e
      exact ⟨o, I.kIn _ o hk, hd⟩
    · have z : ∃ o, s.heap.get? p = some o ∧ o.ExactDict := by
        rcases hk with ⟨kvs, hk⟩ | ⟨kvs, hk⟩
        · obtain ⟨_, _, _, _, o, _, _, e, ex, _⟩ := I.hok p _ hk
          exact ⟨o, e, ex⟩
        · obtain ⟨_, _, _, _, o, _, _, e, ex, _⟩ := I.hok p _ hk
          exact ⟨o, e, ex⟩
      obtain ⟨o, e, ex⟩ := z
      refine ⟨⟨o, e, ex.1⟩, fun a e2 => ?_⟩
      cases e2
      exact ⟨o, e, ex.2.1⟩
    · obtain ⟨o, _, _, _, e, ex, _⟩ := I.hok p _ hk
      refine ⟨⟨o, e, ex.1⟩, fun a e2 => ?_⟩
      cases e2
      exact ⟨o, e, ex.2.1⟩
  | _ => exact False.elim ty
def tBM0 (K : PySem.W.Frag) (T : String) (r : V → List V → Hp → VK → Prop) (to : TE) : TE := fun σ H Q => to σ H fun x H1 => tyV K T x H1 ∧ r x [] H1 Q
def tBM (K : PySem.W.Frag) (T : String) (r : V → List V → Hp → VK → Prop) (to : TE) (t : TA) : TE := fun σ H Q => to σ H fun x H1 => tyV K T x H1 ∧ t σ H1 fun xs H2 => r x xs H2 Q
variable {o e : Expr} {es : List Expr} {to : TE} {t : TA} {name : Str} {apos cpos : Pos} {T id : String} {r : V → List V → Hp → VK → Prop}
theorem pe_bm0 (pa : PlainAttrs T) (slot : Slot T name id) (hty : typeOf (.builtin id) = pure (.type "method_descriptor")) (hm : MtR X id r) (ho : PE X o to)
    (hbase : attributeBase o name X.env (eval o X.env) = eval o X.env := by rfl) (hline : (apos.endLine == cpos.line) = true := by rfl) : PE X (.Call (.Attribute o name apos) [] [] cpos) (tBM0 X.K T r to) := by
  intro pins s σ H Q I h
  refine wpAny_Call_method0_late hbase hline (thn (ho pins s σ H _ I h) fun v s1 ⟨x, H1, I1, r1, ty, q1⟩ => ?_)
  obtain ⟨h1, h2⟩ := tyV_is I1 r1 ty
  exact ⟨T, id, pa, slot, hty, h1, h2, Calls.callWith_builtin rfl (PySem.evalArgs_none (hm pins s1 σ H1 x [] v [] Q I1 r1 .nil q1))⟩
theorem pe_bm (pa : PlainAttrs T) (slot : Slot T name id) (hty : typeOf (.builtin id) = pure (.type "method_descriptor")) (hm : MtR X id r) (ho : PE X o to) (ha : PA X (e :: es) t)
    (hbase : attributeBase o name X.env (eval o X.env) = eval o X.env := by rfl)
    (hfew : ((backTo cpos (starEach (e :: es) X.env)).all (fun x => !x.1) && (backToKw cpos (keywordEach [] X.env)).all (fun x => x.1.isSome)
      && decide ((e :: es).length + ([] : List Keyword).length + (if ([] : List Keyword).isEmpty then 0 else 1) < 30)) = true := by rfl)
    (hline : (apos.endLine == cpos.line) = true := by rfl) (hs : starEach (e :: es) X.env = (false, eval e X.env) :: starEach es X.env := by rfl) (hplain : (backTo cpos (starEach es X.env)).any (·.1) = false := by rfl) :
    PE X (.Call (.Attribute o name apos) (e :: es) [] cpos) (tBM X.K T r to t) := by
  intro pins s σ H Q I h
  refine wpAny_Call_method_late hbase hfew hline rfl (thn (ho pins s σ H _ I h) fun v s1 ⟨x, H1, I1, r1, ty, q1⟩ => ?_)
  obtain ⟨h1, h2⟩ := tyV_is I1 r1 ty
  refine ⟨T, id, pa, slot, hty, h1, h2, ?_⟩
  have hA := ha cpos pins s1 σ H1 _ I1 q1
  rw [hs] at hA ⊢
  refine Calls.callWith_builtin (by show (false || (backTo cpos (starEach es X.env)).any (·.1)) = false; rw [hplain] <;> rfl) (Calls.evalArgs_plain ?_)
  exact thn hA fun us s2 ⟨vs, H2, I2, r2, q2⟩ => hm pins s2 σ H2 x vs v us Q I2 r1 r2 q2
/- xs.append(e), list.index on a module's tuple .. are MtR facts of 06m -/
end
end L2

namespace L2
open PySem PySem.Spec PyProof.Rows

def MtM (X : Cx) (id : String) (r : V → List V → Hp → VK → Prop) : Prop :=
  ∀ (pins : List (Addr × Obj)) (s : Shared) (σ : St) (H : Hp) (x : V) (xs : List V) (v : Value) (us : List Value) (Q : VK), Inv X pins σ H s → RelV x v → Vals xs us → r x xs H Q →
    wpAny (model X.prog X.w) X.A (call (.builtin id) (v :: us)) (EP X pins σ Q) X.xe s

/-! ### lists of values -/
theorem Vals.one : ∀ {x : V} {us : List Value}, Vals [x] us → ∃ u, us = [u] ∧ RelV x u
  | _, _, .cons r .nil => ⟨_, rfl, r⟩
theorem Vals.zero : ∀ {us : List Value}, Vals [] us → us = []
  | _, .nil => rfl
theorem Vals.dropLast {xs : List V} {us : List Value} (h : Vals xs us) : Vals xs.dropLast us.dropLast := by
  induction h with
  | nil => exact .nil
  | cons r t ih =>
    cases t with
    | nil => exact .nil
    | cons q t' => exact .cons r ih
theorem erase_last {α : Type} (l : List α) : l.eraseIdx (l.length - 1) = l.dropLast := by
  induction l with
  | nil => rfl
  | cons a r ih =>
    cases r with
    | nil => rfl
    | cons b r =>
      have e : (a :: b :: r).length - 1 = ((b :: r).length - 1) + 1 := by
        have h1 : (a :: b :: r).length = r.length + 2 := rfl
        have h2 : (b :: r).length = r.length + 1 := rfl
        omega
      rw [e, List.eraseIdx_cons_succ, ih]
      all_goals rfl
section
variable {X : Cx} {pins : List (Addr × Obj)} {σ : St} {H : Hp} {s : Shared} {l b : Addr} {xs ys zs : List V}

/-! ### the two steps: a tracked list is rewritten, a new list is laid -/
theorem Inv.lset {its its' : List Value} {n : Nat} {f : Array Value → Array Value} {t' : Nat} (I : Inv X pins σ H s) (hH : H l = some (.lst xs))
    (e : s.heap.get? l = some { cls := .type "list", data := .seq its.toArray n }) (hf : f its.toArray = its'.toArray) (hv : Vals ys its') (hz : ys.length ≤ sizeLine) :
    Inv X pins σ (upd H l (.lst ys)) { s with heap := s.heap.update l (Obj.mapSeq f), toks := t' } := by
  have q := PySem.IsL.update e f
  rw [hf] at q
  refine I.write (x := l) (e := l) (by rw [hH]; exact trivial) (.inl rfl) (fun b' u hb hu => (Heap.get?_update_other s.heap (Obj.mapSeq f) (Ne.symm hb)).trans hu) ⟨_, q⟩ ?_
  exact ⟨hz, its', _, hv, q⟩
theorem Inv.lnew {its : List Value} {t' : Nat} (I : Inv X pins σ H s) (hv : Vals ys its) (hz : ys.length ≤ sizeLine) :
    Inv X pins σ (upd H s.heap.objs.size (.lst ys)) { s with heap := s.heap.push { cls := .type "list", data := .seq its.toArray }, toks := t' } :=
  I.laid (fun _ _ q => Heap.get?_push_of_some _ q) (Nat.le_refl _) ⟨hz, its, 0, hv, Heap.get?_push_size _ rfl⟩
theorem Inv.fresh (I : Inv X pins σ H s) : H s.heap.objs.size = none := I.hok.fresh (Nat.le_refl _)
theorem Inv.lstM (I : Inv X pins σ H s) (hH : H l = some (.lst xs)) : xs.length ≤ sizeLine ∧ ∃ (its : List Value) (n : Nat), Vals xs its ∧ xs.length = its.length ∧ s.heap.get? l = some { cls := .type "list", data := .seq its.toArray n } := by
  obtain ⟨z, its, n, r, e⟩ := I.hok l _ hH
  exact ⟨z, its, n, r, r.length, e⟩

end

section
variable {X : Cx}

/-! ### methods -/
def rAppend : V → List V → Hp → VK → Prop := fun x vs H Q => ∃ l xs y, x = .ref l ∧ vs = [y] ∧ H l = some (.lst xs) ∧ xs.length < sizeLine ∧ Q .non (upd H l (.lst (xs ++ [y])))
theorem mt_append : MtM X "list.append" rAppend := by
  intro pins s σ H x vs v us Q I rx rv h
  obtain ⟨l, xs, y, rfl, rfl, hH, hz, q⟩ := h
  cases rx
  obtain ⟨u, rfl, ru⟩ := rv.one
  obtain ⟨z, its, n, r, hl, e⟩ := I.lstM hH
  refine call_meets F.slot_list_append ⟨_, e, rfl⟩ F.entry_list_append (F.args_list_append_2 _ _) (PySem.list_append l its.toArray n u (by rw [List.size_toArray]; omega)) ⟨e, ?_⟩
  refine ⟨.non, _, I.lset (its' := its ++ [u]) hH e (by simp) (r.append (.cons ru .nil)) ?_, rfl, q⟩
  rw [List.length_append, List.length_singleton]
  omega

def rPop : V → List V → Hp → VK → Prop := fun x vs H Q => ∃ l xs y, x = .ref l ∧ vs = [] ∧ H l = some (.lst xs) ∧ xs[xs.length - 1]? = some y ∧ Q y (upd H l (.lst xs.dropLast))
theorem mt_pop : MtM X "list.pop" rPop := by
  intro pins s σ H x vs v us Q I rx rv h
  obtain ⟨l, xs, y, rfl, rfl, hH, hy, q⟩ := h
  cases rx
  have hus := rv.zero
  subst hus
  obtain ⟨z, its, n, r, hl, e⟩ := I.lstM hH
  obtain ⟨u, hu, ru⟩ := r.get hy
  have hy' : its.toArray[its.toArray.size - 1]? = some u := by
    show its.toArray[its.length - 1]? = some u
    rw [← Array.getElem?_toList, ← hl]
    exact hu
  refine call_meets F.slot_list_pop ⟨_, e, rfl⟩ F.entry_list_pop (F.args_list_pop_1 _) (MeetsSeq.list_pop_last l its.toArray n u hy' (by rw [List.size_toArray]; omega)) ⟨e, ?_⟩
  refine ⟨y, _, I.lset (its' := its.dropLast) hH e ?_ r.dropLast ?_, ru, q⟩
  · show its.toArray.eraseIdxIfInBounds (its.toArray.size - 1) = its.dropLast.toArray
    rw [List.size_toArray, List.eraseIdxIfInBounds_toArray, erase_last]
  · rw [List.length_dropLast]
    omega

/-! ### list + list, list += list, list * int -/
def rCat : R2 := fun x y H Q => ∃ l b xs zs, x = .ref l ∧ y = .ref b ∧ H l = some (.lst xs) ∧ H b = some (.lst zs) ∧ xs.length + zs.length ≤ sizeLine ∧ ∀ p, H p = none → Q (.ref p) (upd H p (.lst (xs ++ zs)))
theorem op_cat : OpR X (binaryOp .Add) rCat := by
  intro pins s σ H x y v u Q I rx ry h
  obtain ⟨l, b, xs, zs, rfl, rfl, hH, hB, hz, q⟩ := h
  cases rx
  cases ry
  obtain ⟨z, its, n, r, hl, e⟩ := I.lstM hH
  obtain ⟨z2, its2, n2, r2, hl2, e2⟩ := I.lstM hB
  refine PySem.P.add_list e e2 ?_ (by rw [List.size_toArray, List.size_toArray]; omega)
  have ea : its.toArray ++ its2.toArray = (its ++ its2).toArray := by simp
  rw [ea]
  exact ⟨.ref _, _, I.lnew (t' := s.toks) (r.append r2) (by rw [List.length_append]; omega), rfl, q _ I.fresh⟩
/-! ### del xs[i] -/
end

/-! ### xs[a:b] = ys -/
section
variable {prog : Program} {w : World} {A : Around} {E : Value → Shared → Prop} {s : Shared}
set_option maxRecDepth 100000 in
end

section
variable {X : Cx}
end
end L2

namespace L2
open PySem PySem.Spec PyProof.Rows

/-! ### lists of pairs as tables -/
section
variable {κ : Type} [DecidableEq κ]
def valV (kvs : List (κ × V)) (k : κ) : Option V := (kvs.find? fun kv => decide (kv.1 = k)).map (·.2)
/-- in its place, or at the end -/
def putK (kvs : List (κ × V)) (k : κ) (v : V) : List (κ × V) :=
  if (kvs.any fun kv => decide (kv.1 = k)) = true then kvs.map (fun kv => if kv.1 = k then (kv.1, v) else kv) else kvs ++ [(k, v)]
theorem valV_pos {p : κ × V} {r : List (κ × V)} {k : κ} (e : p.1 = k) : valV (p :: r) k = some p.2 := by simp [valV, List.find?_cons, e]
theorem valV_neg {p : κ × V} {r : List (κ × V)} {k : κ} (e : ¬ p.1 = k) : valV (p :: r) k = valV r k := by simp [valV, List.find?_cons, e]
theorem valV_any (k : κ) : ∀ kvs : List (κ × V), (kvs.any fun kv => decide (kv.1 = k)) = (valV kvs k).isSome
  | [] => rfl
  | p :: r => by
    rw [List.any_cons]
    by_cases e : p.1 = k
    · simp only [valV_pos e, decide_eq_true e, Bool.true_or, Option.isSome_some]
    · rw [valV_neg e, decide_eq_false e, Bool.false_or]; exact valV_any k r
theorem valV_map (k j : κ) (y : V) : ∀ kvs : List (κ × V), valV (kvs.map fun kv => if kv.1 = k then (kv.1, y) else kv) j = (valV kvs j).map fun x => if j = k then y else x
  | [] => rfl
  | p :: r => by
    have ih := valV_map k j y r
    rw [List.map_cons]
    by_cases h : p.1 = k
    · rw [if_pos h]
      by_cases e : p.1 = j
      · rw [valV_pos (p := (p.1, y)) e, valV_pos e, Option.map_some, if_pos (e.symm.trans h)]
      · rw [valV_neg (p := (p.1, y)) e, valV_neg e, ih]
    · rw [if_neg h]
      by_cases e : p.1 = j
      · rw [valV_pos (p := p) e, valV_pos e, Option.map_some, if_neg (fun z => h (e.trans z))]
      · rw [valV_neg (p := p) e, valV_neg e, ih]
theorem valV_snoc (k j : κ) (y : V) : ∀ kvs : List (κ × V), valV kvs k = none → valV (kvs ++ [(k, y)]) j = if j = k then some y else valV kvs j
  | [], _ => by
    by_cases e : k = j
    · rw [if_pos e.symm]; exact valV_pos (p := (k, y)) e
    · rw [if_neg (fun z => e z.symm)]; exact valV_neg (p := (k, y)) e
  | p :: r, hn => by
    rw [List.cons_append]
    have hk : ¬ p.1 = k := fun z => by rw [valV_pos z] at hn; cases hn
    rw [valV_neg hk] at hn
    have ih := valV_snoc k j y r hn
    by_cases e : p.1 = j
    · rw [valV_pos e, valV_pos e, if_neg (fun z => hk (e.trans z))]
    · rw [valV_neg e, valV_neg e, ih]
theorem valV_put (kvs : List (κ × V)) (k j : κ) (y : V) : valV (putK kvs k y) j = if j = k then some y else valV kvs j := by
  unfold putK
  by_cases a : (kvs.any fun kv => decide (kv.1 = k)) = true
  · rw [if_pos a, valV_map]
    rw [valV_any] at a
    by_cases e : j = k
    · obtain ⟨x, hx⟩ := Option.isSome_iff_exists.mp a
      rw [if_pos e, e, hx, Option.map_some, if_pos rfl]
    · rw [if_neg e]
      cases valV kvs j with
      | none => rfl
      | some x => rw [Option.map_some, if_neg e]
  · rw [if_neg a]
    refine valV_snoc k j y kvs ?_
    rw [valV_any] at a
    cases q : valV kvs k with
    | none => rfl
    | some x => rw [q] at a; exact (a rfl).elim
theorem length_putK (kvs : List (κ × V)) (k : κ) (v : V) : (putK kvs k v).length ≤ kvs.length + 1 := by
  unfold putK
  split
  · rw [List.length_map]; omega
  · rw [List.length_append, List.length_cons, List.length_nil]; omega
theorem RelO.isSome_eq {o : Option V} {u : Option Value} (r : RelO o u) : o.isSome = u.isSome := by
  cases o with
  | none => cases u with
    | none => rfl
    | some _ => exact (show False from r).elim
  | some _ => cases u with
    | none => exact (show False from r).elim
    | some _ => rfl
theorem RelO.getD {o : Option V} {u : Option Value} {d : V} {d' : Value} (r : RelO o u) (rd : RelV d d') : RelV (o.getD d) (u.getD d') := by
  cases o with
  | none => cases u with
    | none => exact rd
    | some _ => exact (show False from r).elim
  | some _ => cases u with
    | none => exact (show False from r).elim
    | some _ => exact r

/-- raw tables of the same keys -/
theorem KV.val {kvs : List (κ × V)} {vs : List (κ × Value)} (r : KV kvs vs) (k : κ) : RelO (valV kvs k) (valueAt vs k) := by
  unfold KV at r
  induction r with
  | nil => exact True.intro
  | @cons p q ps qs h t ih =>
    obtain ⟨h1, h2⟩ := h
    by_cases e : p.1 = k
    · have e' : q.1 = k := h1.symm.trans e
      have b : valueAt (q :: qs) k = some q.2 := by simp [valueAt, List.find?_cons, e']
      rw [valV_pos e, b]; exact h2
    · have e' : ¬ q.1 = k := fun z => e (h1.trans z)
      have b : valueAt (q :: qs) k = valueAt qs k := by simp [valueAt, List.find?_cons, e']
      rw [valV_neg e, b]; exact ih
theorem KV.any {kvs : List (κ × V)} {vs : List (κ × Value)} (r : KV kvs vs) (k : κ) : (kvs.any fun kv => decide (kv.1 = k)) = vs.any fun kv => decide (kv.1 = k) := by
  unfold KV at r
  induction r with
  | nil => rfl
  | cons h t ih => rw [List.any_cons, List.any_cons, ih, h.1]
theorem KV.repl {kvs : List (κ × V)} {vs : List (κ × Value)} (r : KV kvs vs) (k : κ) {y : V} {u : Value} (ry : RelV y u) :
    KV (kvs.map fun kv => if kv.1 = k then (kv.1, y) else kv) (vs.map fun kv => if kv.1 = k then (kv.1, u) else kv) := by
  unfold KV at r ⊢
  induction r with
  | nil => exact .nil
  | @cons p q ps qs h t ih =>
    rw [List.map_cons, List.map_cons]
    refine .cons ?_ ih
    obtain ⟨h1, h2⟩ := h
    by_cases e : p.1 = k
    · rw [if_pos e, if_pos (h1.symm.trans e)]; exact ⟨h1, ry⟩
    · rw [if_neg e, if_neg (fun z => e (h1.trans z))]; exact ⟨h1, h2⟩
theorem KV.put {kvs : List (κ × V)} {vs : List (κ × Value)} (r : KV kvs vs) (k : κ) {y : V} {u : Value} (ry : RelV y u) : KV (putK kvs k y) (stored vs k u) := by
  unfold putK stored
  rw [r.any k]
  by_cases e : (vs.any fun kv => decide (kv.1 = k)) = true
  · rw [if_pos e, if_pos e]; exact r.repl k ry
  · rw [if_neg e, if_neg e]; exact Paired.snoc r ⟨rfl, ry⟩
theorem KV.length {kvs : List (κ × V)} {vs : List (κ × Value)} (r : KV kvs vs) : kvs.length = vs.length := Paired.length r
end


/-! ### a tracked dict, its keys ints and texts or tuples of these -/
theorem kV_is {P : Program} {w : World} {k : Key} {u : Value} (r : RelV (kV k) u) : (mixKind P w).is k u = true := by
  cases k with
  | inl i => obtain ⟨t, e⟩ := (show ∃ t, u = Value.int i t from r); subst e; exact mixKind_int P w i t
  | inr x => obtain ⟨t, e⟩ := (show ∃ t, u = Value.str x t from r); subst e; exact mixKind_str P w x t
theorem items_are {P : Program} {w : World} : ∀ {ks : List Key} {us : List Value}, Vals (ks.map kV) us → ItemsAre (mixKind P w) ks us
  | [], _, r => by rw [List.map_nil] at r; cases r; exact .nil
  | k :: ks, _, r => by
    rw [List.map_cons] at r
    cases r with
    | cons h t => exact .cons (kV_is h) (items_are t)

/-- raw entries of a dict with tuple keys -/
abbrev KT (H : Hp) : List (List Key × V) → List (List Key × Addr × Value) → Prop := Paired fun p q => p.1 = q.1 ∧ H q.2.1 = some (.tup (p.1.map kV)) ∧ RelV p.2 q.2.2
theorem KT.val {H : Hp} {kvs : List (List Key × V)} {xs : List (List Key × Addr × Value)} (r : KT H kvs xs) (k : List Key) : RelO (valV kvs k) ((atKey xs k).map (·.2)) := by
  induction r with
  | nil => exact True.intro
  | @cons p q ps qs h t ih =>
    obtain ⟨h1, _, h2⟩ := h
    by_cases e : p.1 = k
    · have e' : q.1 = k := h1.symm.trans e
      have b : atKey (q :: qs) k = some q.2 := by simp [atKey, List.find?_cons, e']
      rw [valV_pos e, b]; exact h2
    · have e' : ¬ q.1 = k := fun z => e (h1.trans z)
      have b : atKey (q :: qs) k = atKey qs k := by simp [atKey, List.find?_cons, e']
      rw [valV_neg e, b]; exact ih
theorem KT.repl {H : Hp} {kvs : List (List Key × V)} {xs : List (List Key × Addr × Value)} (r : KT H kvs xs) (k : List Key) {y : V} {u : Value} (ry : RelV y u) :
    KT H (kvs.map fun kv => if kv.1 = k then (kv.1, y) else kv) (xs.map (putAt k u)) := by
  induction r with
  | nil => exact .nil
  | @cons p q ps qs h t ih =>
    rw [List.map_cons, List.map_cons]
    refine .cons ?_ ih
    obtain ⟨h1, h2, h3⟩ := h
    unfold putAt
    by_cases e : p.1 = k
    · rw [if_pos e, if_pos (h1.symm.trans e)]; exact ⟨h1, h2, ry⟩
    · rw [if_neg e, if_neg (fun z => e (h1.trans z))]; exact ⟨h1, h2, h3⟩
theorem KT.put {H : Hp} {kvs : List (List Key × V)} {xs : List (List Key × Addr × Value)} (r : KT H kvs xs) (k : List Key) {b : Addr} {y : V} {u : Value} (hb : H b = some (.tup (k.map kV))) (ry : RelV y u) :
    KT H (putK kvs k y) (storedH xs k b u) := by
  have e : (kvs.any fun kv => decide (kv.1 = k)) = (atKey xs k).isSome := by
    rw [valV_any, (r.val k).isSome_eq, Option.isSome_map]
  unfold putK storedH
  rw [e]
  by_cases q : (atKey xs k).isSome = true
  · rw [if_pos q, if_pos q]; exact r.repl k ry
  · rw [if_neg q, if_neg q]; exact Paired.snoc r ⟨rfl, hb, ry⟩
theorem KT.keeps {H H' : Hp} {kvs : List (List Key × V)} {xs : List (List Key × Addr × Value)} (r : KT H kvs xs) (ht : ∀ b ys, H b = some (.tup ys) → H' b = some (.tup ys)) : KT H' kvs xs :=
  Paired.mapP r fun _ _ z => ⟨z.1, ht _ _ z.2.1, z.2.2⟩

section
variable {P : Program} {w : World} {H : Hp} {h : Heap} {a : Addr}
theorem rd_of {u : HO} (ok : HOk P w H h) (e : Rd H a u) : ObjOk P w H h a u := e.ok ok
theorem dk_rd {kvs : List (Key × V)} (ok : HOk P w H h) (e : Rd H a (.dK kvs)) : kvs.length ≤ sizeLine ∧ (a == sysModules) = false ∧ ∃ vs, KV kvs vs ∧ h.DictOf (mixKind P w) a vs :=
  show ObjOk P w H h a (.dK kvs) from rd_of ok e
theorem dk_of {kvs : List (Key × V)} (ok : HOk P w H h) (e : H a = some (.dK kvs)) : kvs.length ≤ sizeLine ∧ (a == sysModules) = false ∧ ∃ vs, KV kvs vs ∧ h.DictOf (mixKind P w) a vs := dk_rd ok (.inl e)
/-- a tracked tuple of ints and texts is a key -/
theorem key_of {ks : List Key} (ok : HOk P w H h) (e : H a = some (.tup (ks.map kV))) : (tupleKind (mixKind P w)).is h ks a := by
  obtain ⟨_, its, r, o, h1, h2, n, h3⟩ := (show ObjOk P w H h a (.tup (ks.map kV)) from ok a _ e)
  exact ⟨o, its.toArray, n, h1, h2, h3, by simpa using items_are r⟩
theorem dt_rd {kvs : List (List Key × V)} (ok : HOk P w H h) (e : Rd H a (.dT kvs)) : kvs.length ≤ sizeLine ∧ (a == sysModules) = false ∧
    ∃ xs, KT H kvs xs ∧ h.DictOfH (tupleKind (mixKind P w)) a xs := by
  obtain ⟨z, y, xs, r, o, es, ep, h1, h2, h3, h4, h5⟩ := (show ObjOk P w H h a (.dT kvs) from rd_of ok e)
  refine ⟨z, y, xs, r, o, es, ep, h1, h2, h3, h4, fun x hx => ?_, h5⟩
  have all : ∀ {l : List (List Key × V)} {m : List (List Key × Addr × Value)}, KT H l m → ∀ x ∈ m, (tupleKind (mixKind P w)).is h x.1 x.2.1 := by
    intro l m q
    induction q with
    | nil => intro x hx; exact nomatch hx
    | @cons p q ps qs hq t ih =>
      intro x hx
      rcases List.mem_cons.mp hx with e | hx
      · subst e
        exact key_of ok (by rw [← hq.1]; exact hq.2.1)
      · exact ih x hx
  exact all r x hx
theorem dt_of {kvs : List (List Key × V)} (ok : HOk P w H h) (e : H a = some (.dT kvs)) : kvs.length ≤ sizeLine ∧ (a == sysModules) = false ∧
    ∃ xs, KT H kvs xs ∧ h.DictOfH (tupleKind (mixKind P w)) a xs := dt_rd ok (.inl e)
end

/-- what the dict at a holds at the key y -/
def DGet (H : Hp) (a : Addr) (y : V) (r : Option V) : Prop :=
  (∃ kvs k, Rd H a (.dK kvs) ∧ y = kV k ∧ r = valV kvs k) ∨ ∃ kvs k b, Rd H a (.dT kvs) ∧ y = .ref b ∧ H b = some (.tup (k.map kV)) ∧ r = valV kvs k
/-- the heap behind a[y] = v -/
def DPut (H : Hp) (a : Addr) (y v : V) (H' : Hp) : Prop :=
  (∃ kvs k, H a = some (.dK kvs) ∧ y = kV k ∧ kvs.length < sizeLine ∧ H' = upd H a (.dK (putK kvs k v))) ∨
  ∃ kvs k b, H a = some (.dT kvs) ∧ y = .ref b ∧ H b = some (.tup (k.map kV)) ∧ kvs.length < sizeLine ∧ H' = upd H a (.dT (putK kvs k v))
theorem DGet.k {H : Hp} {a : Addr} {kvs : List (Key × V)} {k : Key} (e : H a = some (.dK kvs)) : DGet H a (kV k) (valV kvs k) := .inl ⟨kvs, k, .inl e, rfl, rfl⟩
theorem DPut.k {H : Hp} {a : Addr} {kvs : List (Key × V)} {k : Key} {v : V} (e : H a = some (.dK kvs)) (hl : kvs.length < sizeLine) : DPut H a (kV k) v (upd H a (.dK (putK kvs k v))) := .inl ⟨kvs, k, e, rfl, hl, rfl⟩
section
variable {X : Cx} {pins : List (Addr × Obj)} {σ : St} {H : Hp} {s : Shared} {a : Addr} {y v : V} {u r : Value} {o : Option V} {A : Around} {E : Value → Shared → Prop}

theorem Inv.big (I : Inv X pins σ H s) : sysModules < s.heap.objs.size := by
  have h : mainGlobals < s.heap.objs.size := (I.mod.glob.keeps I.bk).lt
  exact Nat.lt_trans (by decide) h

/-- a dict's object is replaced -/
theorem d_write {h' : Heap} {t' : Nat} {ob : HO} (I : Inv X pins σ H s) (mu : Mut (H a)) (hs : Heap.SameBut a s.heap h') (he : ∃ q, h'.get? a = some q) (new : ObjOk X.prog X.w (upd H a ob) h' a ob) :
    Inv X pins σ (upd H a ob) { s with heap := h', toks := t' } :=
  I.write (x := a) (e := a) mu (.inl rfl) (fun b q hb z => (hs.2 b hb).trans z) he new
theorem dk_new {P : Program} {w : World} {H' : Hp} {h' : Heap} {kvs : List (Key × V)} {vs : List (Key × Value)} (z : kvs.length ≤ sizeLine) (hd : (a == sysModules) = false) (rel : KV kvs vs) (dd : h'.DictOf (mixKind P w) a vs) :
    ObjOk P w H' h' a (.dK kvs) := ⟨z, hd, vs, rel, dd⟩
/-- d[y] = v -/
theorem d_setItem {H' : Hp} {Q : Unit → Shared → Prop} (hu : A.units + 1 < cLine) (I : Inv X pins σ H s) (g : DPut H a y v H') (ry : RelV y u) (rv : RelV v r) (h : ∀ s', Inv X pins σ H' s' → Q () s') :
    wpAny (model X.prog X.w) A (setItem (.ref a) u r) Q E s := by
  rcases g with ⟨kvs, k, e, ey, l, eH⟩ | ⟨kvs, k, b, e, ey, eb, l, eH⟩
  · subst ey eH
    obtain ⟨z, hd, vs, rel, dd⟩ := dk_of I.hok e
    have hz : vs.length ≤ sizeLine := by rw [← rel.length]; exact z
    have hl : (putK kvs k v).length ≤ sizeLine := by have := length_putK kvs k v; omega
    refine wpAny_setItem_pairs (hsz := hz) (kV_is ry) dd fun h' dd' hs => h _ ?_
    have he : ∃ q, h'.get? a = some q := let ⟨q, _, _, hq, _⟩ := dd'; ⟨q, hq⟩
    exact d_write I (by rw [e]; exact True.intro) hs he (dk_new hl hd (rel.put k rv) dd')
  · subst ey eH
    cases (show u = Value.ref b from ry)
    obtain ⟨z, hd, xs, rel, dd⟩ := dt_of I.hok e
    have hz : xs.length ≤ sizeLine := by rw [← Paired.length rel]; exact z
    have hl : (putK kvs k v).length ≤ sizeLine := by have := length_putK kvs k v; omega
    refine wpAny_setItem_heap (hsz := hz) (tupleKind_room_in1 hu) (key_of I.hok eb) dd fun h' dd' hs => h _ ?_
    obtain ⟨q, es, ep, hq, h2, h3, h4, _, h5⟩ := dd'
    refine d_write I (by rw [e]; exact True.intro) hs ⟨q, hq⟩ ⟨hl, hd, _, (rel.put k eb rv).keeps fun c ys ec => ?_, q, es, ep, hq, h2, h3, h4, h5⟩
    rw [upd_ne (ne_of ec e (fun z => nomatch z))]
    exact ec
end

section
variable {X : Cx} {pins : List (Addr × Obj)} {σ : St} {H : Hp} {s : Shared} {a : Addr} {kvs : List (Key × V)} {k : Key} {u : Value} {A : Around} {E : Value → Shared → Prop}
end


/-! ### readings and rules -/
/-- d[y] = v -/
def sDPut (td ty tv : TE) : TS := fun D σ H => tv σ H fun v H1 => td σ H1 fun x H2 => ty σ H2 fun y H3 => ∃ a H4, x = .ref a ∧ DPut H3 a y v H4 ∧ D.nx σ H4
section
variable {X : Cx} {o i e value : Expr} {pos pos' tpos : Pos} {td ty tv : TE}
theorem ps_dput (hu : X.A.units + 1 < cLine) (ho : PE X o td) (hi : PE X i ty) (hv : PE X value tv) (hs : swapsWith value (some (.Subscript o i pos')) pos.line X.env = pure false) :
    PS X (.Assign [.Subscript o i pos'] value pos) (sDPut td ty tv) := by
  intro pins s σ H D I h
  refine wpAny_Assign_Subscript (thn (hv pins s σ H _ I h) fun r s1 ⟨v, H1, I1, rv, q1⟩ => thn (ho pins s1 σ H1 _ I1 q1) fun u s2 ⟨x, H2, I2, rx, q2⟩ => thn (hi pins s2 σ H2 _ I2 q2) fun iv s3 ⟨y, H3, I3, ry, a, H4, ex, g, q3⟩ => ?_) hs
  subst ex
  obtain rfl : u = Value.ref a := rx
  exact d_setItem hu I3 g ry rv fun s4 I4 => ⟨σ, H4, I4, q3⟩
end


/-! ### displays -/
theorem dk_empty {P : Program} {w : World} {H : Hp} (h : Heap) (hb : sysModules < h.objs.size) : ObjOk P w H (h.push { cls := .type "dict", data := .dict #[] }) h.objs.size (.dK []) :=
  ⟨Nat.zero_le _, beq_eq_false_iff_ne.mpr (Ne.symm (Nat.ne_of_lt hb)), [], .nil, Heap.DictOf.new h⟩
/-- {}, to be a dict of the kind that is wanted -/
def tDNewK : TE := fun _ H Q => ∀ p, H p = none → Q (.ref p) (upd H p (.dK []))
section
variable {X : Cx} {pos : Pos}
theorem pe_dnewK : PE X (.Dict [] [] pos) tDNewK := fun pins s σ H Q I h =>
  wpAny_Dict_empty ⟨.ref s.heap.objs.size, _, I.laid (a := s.heap.objs.size) (o := .dK []) (t' := s.toks) (fun _ _ q => Heap.get?_push_of_some _ q) (Nat.le_refl _) (dk_empty s.heap I.big), rfl, h _ (I.hok.fresh (Nat.le_refl _))⟩
end

/-! ### methods -/
structure M2 (X : Cx) (o : Expr) (m : Str) (apos : Pos) (e f : Expr) (cpos : Pos) : Prop where
  base : attributeBase o m X.env (eval o X.env) = eval o X.env
  few : ((backTo cpos (starEach [e, f] X.env)).all (fun x => !x.1) && (backToKw cpos (keywordEach [] X.env)).all (fun x => x.1.isSome)
    && decide (([e, f] : List Expr).length + ([] : List Keyword).length + (if ([] : List Keyword).isEmpty then 0 else 1) < 30)) = true
  line : (apos.endLine == cpos.line) = true
  trees : backTo cpos (starEach [e, f] X.env) = [(false, eval e X.env), (false, eval f X.env)]

/-- a is a dict, whatever its keys -/
def IsD (H : Hp) (a : Addr) : Prop := (∃ kvs, Rd H a (.dK kvs)) ∨ ∃ kvs, Rd H a (.dT kvs)
theorem isD_at {X : Cx} {pins : List (Addr × Obj)} {σ : St} {H : Hp} {s : Shared} {a : Addr} (I : Inv X pins σ H s) (d : IsD H a) :
    s.TypeIs (.ref a) "dict" ∧ (∀ b, Value.ref a = .ref b → ∃ ob, s.heap.get? b = some ob ∧ ob.dict = none) ∧ (a == sysModules) = false := by
  rcases d with ⟨kvs, e⟩ | ⟨kvs, e⟩
  · obtain ⟨_, hd, vs, _, dd⟩ := dk_rd I.hok e
    refine ⟨dd.typeIs, fun b q => ?_, hd⟩
    cases q
    obtain ⟨ob, _, _, h1, h2, _⟩ := dd
    exact ⟨ob, h1, h2.2.1⟩
  · obtain ⟨_, hd, xs, _, dd⟩ := dt_rd I.hok e
    refine ⟨dd.typeIs, fun b q => ?_, hd⟩
    cases q
    obtain ⟨ob, _, _, h1, h2, _⟩ := dd
    exact ⟨ob, h1, h2.2.1⟩

section
variable {X : Cx} {pins : List (Addr × Obj)} {σ : St} {H : Hp} {s : Shared} {a : Addr} {y d : V} {u r : Value} {o : Option V} {A : Around} {E : Value → Shared → Prop}
/-- d.get(y, x) -/
theorem d_get2 {Q : Value → Shared → Prop} (hu : A.units + 1 < cLine) (I : Inv X pins σ H s) (g : DGet H a y o) (ry : RelV y u) (rd : RelV d r) (h : ∀ w' s', Inv X pins σ H s' → RelV (o.getD d) w' → Q w' s') :
    wpAny (model X.prog X.w) A (call (.builtin "dict.get") [.ref a, u, r]) Q E s := by
  rcases g with ⟨kvs, k, e, ey, l⟩ | ⟨kvs, k, b, e, ey, eb, l⟩
  · subst ey
    obtain ⟨z, hd, vs, rel, dd⟩ := dk_rd I.hok e
    refine call_meetsIn PySem.F.slot_dict_get dd.typeIs PySem.F.entry_dict_get (PySem.F.args_dict_get_3 _ _ _) (meets_dict_get_default (mixKind X.prog X.w) a (kV_is ry) hd r) ⟨_, dd.mapOf, h _ _ (I.tok _) ?_⟩
    rw [l]
    exact (rel.val k).getD rd
  · subst ey
    cases (show u = Value.ref b from ry)
    obtain ⟨z, hd, xs, rel, dd⟩ := dt_rd I.hok e
    refine call_meetsIn PySem.F.slot_dict_get dd.typeIs PySem.F.entry_dict_get (PySem.F.args_dict_get_3 _ _ _) (meetsH_dict_get_default (tupleKind (mixKind X.prog X.w)) a b hd r) ⟨tupleKind_room_in1 hu, k, xs, key_of I.hok eb, dd, h _ _ (I.tok _) ?_⟩
    rw [l]
    exact (rel.val k).getD rd
end

def tDGet2 (td ty tx : TE) : TE := fun σ H Q => td σ H fun x H1 => ∃ a, x = .ref a ∧ IsD H1 a ∧ ty σ H1 fun y H2 => tx σ H2 fun z H3 => ∃ o, DGet H3 a y o ∧ Q (o.getD z) H3
section
variable {X : Cx} {o e f : Expr} {apos cpos : Pos} {td ty tx : TE}
theorem pe_dget2 (hu : X.A.units + 1 < cLine) (ho : PE X o td) (he : PE X e ty) (hf : PE X f tx) (m : M2 X o "get" apos e f cpos) : PE X (.Call (.Attribute o "get" apos) [e, f] [] cpos) (tDGet2 td ty tx) := by
  intro pins s σ H Q I h
  refine wpAny_Call_method m.base m.few m.line PySem.F.plainAttrs_dict PySem.F.slot_dict_get PySem.F.type_dict_get (thn (ho pins s σ H _ I h) fun u s1 ⟨x, H1, I1, rx, a, ex, d, q1⟩ => ?_)
  subst ex
  obtain rfl : u = Value.ref a := rx
  obtain ⟨t1, t2, _⟩ := isD_at I1 d
  refine ⟨t1, t2, ?_⟩
  rw [m.trees]
  refine Calls.callWith_builtin rfl (Calls.evalArgs_plain (Calls.spliced_cons (thn (he pins s1 σ H1 _ I1 q1) fun iv s2 ⟨y, H2, I2, ry, q2⟩ =>
    Calls.spliced_cons (thn (hf pins s2 σ H2 _ I2 q2) fun fv s3 ⟨z, H3, I3, rz, ov, g, q3⟩ => Calls.spliced_nil ?_))))
  exact d_get2 hu I3 g ry rz fun w' s4 I4 rw' => ⟨_, H3, I4, rw', q3⟩
end

/-! ### dict(d): a copy -/
section
variable {X : Cx} {pins : List (Addr × Obj)} {σ : St} {H : Hp} {s : Shared} {a : Addr} {kvs : List (Key × V)} {A : Around} {E : Value → Shared → Prop}
end


section
variable {X : Cx} {pins : List (Addr × Obj)} {σ : St} {H : Hp} {s : Shared} {a : Addr} {y : V} {u : Value} {A : Around} {E : Value → Shared → Prop}
end
end L2

namespace Att
open PySem PySem.W PySem.Calls PyProof.Rows

/-! ### the script -/
theorem ints_of_wellAll {P : Params} {h : Heap} : ∀ (ns : List Int) (vs : List Value), WellAll P h vs (ns.map WData.int) → IntsAre vs ns := by
  intro ns
  induction ns with
  | nil =>
    intro vs w
    rw [List.map_nil] at w
    cases w
    exact .nil
  | cons n ns ih =>
    intro vs w
    rw [List.map_cons] at w
    cases w with
    | cons a b =>
      cases a
      exact .cons _ _ (ih _ b)

theorem script_of {l : OpenLaw} {n : Nat} (hn : l.most = some n) {P : Params} {h : Heap} {args : List WData} {vals : List Value}
    (hpre : l.row.toRowW.claim.pre args = true) (hwl : WellAll P h vals args) :
    ∃ a vs ns, vals = [Value.ref a] ∧ args = [WData.list (ns.map WData.int)] ∧ h.get? a = some { cls := .type "list", data := .seq vs.toArray } ∧ IntsAre vs ns ∧ ns.length ≤ n := by
  have hsh : WShape.hasAll [] args [.list .int] = true := (pre_splitW hpre).1
  have hc : l.pre.holds [] { args := args } = true := (pre_splitW hpre).2
  obtain ⟨d, r, rfl, h1, h2⟩ := hasAllW_cons hsh
  obtain rfl := hasAllW_nil h2
  obtain ⟨xs, rfl, h3⟩ := hasW_list h1
  obtain ⟨ns, rfl⟩ := items_int h3
  have hlen : ns.length ≤ n := by
    unfold OpenLaw.pre at hc
    have h4 : (WTm.not (.lt (.lit (.int (n : Int))) (.len (.arg 0)))).holds [] { args := [.list (ns.map .int)] } = true := by
      have h4 := (holds_andW hc).1
      rw [hn] at h4
      exact h4
    have h5 := condW_of h4 (w_not (w_lt w_lit (w_len_list (w_arg rfl))))
    rw [List.length_map] at h5
    refine Nat.le_of_not_lt fun q => ?_
    have q' : (n : Int) < ((ns.length : Nat) : Int) := by omega
    first
      | (rw [decide_eq_true q'] at h5; exact absurd h5 (by decide))
      | (simp at h5; omega)
  cases hwl with
  | cons w1 w2 =>
    cases w2
    cases w1 with
    | list ho hall => exact ⟨_, _, ns, rfl, rfl, ho, ints_of_wellAll ns _ hall, hlen⟩

theorem post_true (l : OpenLaw) (args : List WData) : l.row.toRowW.claim.post args (.bool true) args = true :=
  postW_of (r := l.row.toRowW) (X := (true == true))
    (show WShape.has [] (.bool true) .bool = true by first | rfl | decide | simp [WShape.has, WShape.arms, WShape.armsAll])
    (show (WTm.eq .res (.lit (.bool true))).value [] { args := args, res := some (.bool true), after := args } = some (.bool (true == true)) from w_eq_bool (w_res rfl) w_lit) rfl

/-! ### the attachment: holds_open's last premise (the goal 'hc' behind k_head) from a wpAny of the law's body -/
/-- the same from a codeAny of the CALL (for a layer whose function contracts speak of calls) -/
theorem attach_call {l : OpenLaw} {n : Nat} {q : Program} {loose : List Str} {XP : (Str → Option Value) → Heap → Prop} {YP : World → Heap → Prop} {d : DefRec}
    (hn : l.most = some n) (hdf : d.params.defaults = [])
    (call : ∀ (w : World) (s₀ s₁ : Shared) (mg mb : Str → Option Value) (fa : Addr) (o : Obj) (pm cd doc : Value) (a : Addr) (vs : List Value) (ns : List Int),
      Ground q loose [] XP w s₀ mg mb s₁.heap → YP w s₁.heap →
      s₁.heap.get? fa = some o → o.data = .func (docDef d.name d.params d.body d.scope pm cd doc) → s₁.heap.CodeRec cd d.name → mg d.name = some (.ref fa) →
      s₁.heap.get? a = some { cls := .type "list", data := .seq vs.toArray } → IntsAre vs ns → ns.length ≤ n → s₁.gens = #[] →
      codeAny (model l.prog w) callerA (.call (.ref fa) ⟨[.ref a], []⟩) (fun r s' => r = .ok (.ret (.bool true)) ∧ OldK s₁.heap s'.heap ∧ s'.os = s₁.os ∧ AllBare s'.gens) s₁) :
    WalkO q loose XP YP l.row.toRowW d [] (fun f vs => PySem.call f vs) := by
  intro w s₀ s₁ mg mb G Y fa o pm cd doc dV kV ho hd hcd hD hmg hg args vals as hpre hlay hrd hwl hlo
  obtain rfl : dV = .none := Dflts.none hD hdf
  obtain rfl : kV = .none := Dflts.noKw hD
  obtain ⟨a, vs, ns, rfl, rfl, hobj, hints, hlen⟩ := script_of hn hpre hwl
  refine enter_call (codeAny_mono (call w s₀ s₁ mg mb fa o pm cd doc a vs ns G Y ho (fd_plain hd) hcd hmg hobj hints hlen hg) fun r s' hq => ?_)
  obtain ⟨rfl, h2, h3, h4⟩ := hq
  exact ⟨.inl ⟨.bool true, .bool true, [], rfl, fun _ => rfl, .bool true, post_true l _, fun _ => ⟨List.Pairwise.nil, fun _ hm => (nomatch hm)⟩⟩, h2, h3, h4⟩

/-! ### rules over ANY heap (no ledger) from facts about the written part K: the library's own take a ledger (News) for what they write -/
section
variable {prog : Program} {w : World} {A : Around} {E : Value → Shared → Prop} {s : Shared} {K : Frag}

/-! the whole heap as the ledger: makes every rule that writes through a ledger a rule over any heap -/
end
end Att

namespace L2
open PySem PySem.Spec PyProof.Rows

theorem vals_ints : ∀ {vs : List Value} {ns : List Int}, IntsAre vs ns → Vals (ns.map V.int) vs
  | _, _, .nil => .nil
  | _, _, .cons n t h => .cons ⟨t, rfl⟩ (vals_ints h)

/-- nothing is tracked but the script, known to the object (or it is an object of the module) -/
def Only (H : Hp) : Prop := ∀ b, H b = none ∨ ∃ o xs, H b = some (.frz o (.lst xs))

/-- THE HEAD: the law's promise, at the heap behind the top. F, the promise of the law's def, may use that base is part of the heap (so K.In base, base.Ns mainGlobals mg stand in Mod) -/
theorem law_call {P : Program} {w : World} {K : PySem.W.Frag} {mg mb : Str → Option Value} {CX : CXT} {k : Nat} {fa a : Addr} {fd : FuncData} {x : Str} {sp : Sp} {s₁ : Shared} {vs : List Value} {ns : List Int}
    (KX : K.In s₁.heap) (hns : s₁.heap.Ns mainGlobals mg) (hb : s₁.heap.Ns builtinsNs mb) (hbb : ∀ x : Str, x ≠ "__name__" → mb x = bootBuiltins x) (hlim : s₁.heap.NoLimit) (hg : s₁.gens = #[])
    (ha : s₁.heap.get? a = some { cls := .type "list", data := .seq vs.toArray }) (hi : IntsAre vs ns) (hl : ns.length ≤ sizeLine) (hr : Room k callerA)
    (F : ∀ base : Heap, K.In base → base.Ns mainGlobals mg → FnOk P w K mg base CX k fa fd [x] sp) (hbind : ∀ (s : Shared) (u : Value), BindsTo s fd ⟨[u], []⟩ [(x, u)])
    (hsp : ∀ H : Hp, Only H → SqL K H a (ns.map V.int) → sp [.ref a] H (fun v _ => v = .bl true) fun _ _ _ => False)
    (hCX : ∀ H e s', CX [] H s₁ (fun _ _ _ => False) e s' → False) :
    codeAny (model P w) callerA (.call (.ref fa) ⟨[.ref a], []⟩) (fun r s' => r = .ok (.ret (.bool true)) ∧ OldK s₁.heap s'.heap ∧ s'.os = s₁.os ∧ AllBare s'.gens) s₁ := by
  have rv := vals_ints hi
  have lenV := hi.length
  -- from an abstract heap in which nothing but the script may be tracked
  have core : ∀ H : Hp, Only H → SqL K H a (ns.map V.int) → HOk P w H s₁.heap → (∀ b, H b ≠ none → b = a) → (H a ≠ none → K.lookup a = none) →
      codeAny (model P w) callerA (.call (.ref fa) ⟨[.ref a], []⟩) (fun r s' => r = .ok (.ret (.bool true)) ∧ OldK s₁.heap s'.heap ∧ s'.os = s₁.os ∧ AllBare s'.gens) s₁ := by
    intro H hO hS hok hA hK
    have base_of : ∀ {b : Addr} {o : Obj}, s₁.heap.get? b = some o → H b = none → (hidT s₁.heap H).get? b = some o := fun e n => hidT_get e n
    have noA : ∀ {b : Addr} {o : Obj} {es : Array DictEntry} {ep : Nat}, s₁.heap.get? b = some o → o.data = .dict es ep → H b = none := fun {b o es ep} e d => by
      cases q : H b with
      | none => rfl
      | some u =>
        have e' : b = a := hA b (by rw [q]; simp)
        subst e'
        rw [ha] at e; cases e
        have d' : Data.seq vs.toArray _ = Data.dict es ep := d
        cases d'
    have nsK : ∀ {b : Addr} {m : Str → Option Value}, s₁.heap.Ns b m → (hidT s₁.heap H).Ns b m := fun {b m} ⟨o, es, ep, e, d, r⟩ => ⟨o, es, ep, base_of e (noA e d), d, r⟩
    have hKb : K.In (hidT s₁.heap H) := fun b o e => base_of (KX b o e) (by
      cases q : H b with
      | none => rfl
      | some u =>
        have e' : b = a := hA b (by rw [q]; simp)
        subst e'
        rw [hK (by rw [q]; simp)] at e; cases e)
    have hM : Mod K mg (hidT s₁.heap H) := ⟨hKb, nsK hns, ⟨mb, nsK hb, hbb⟩, let ⟨mc, h1, h2⟩ := hlim; ⟨mc, nsK h1, h2⟩⟩
    have e0 : Env0 P w K mg (hidT s₁.heap H) callerA [] s₁ H := ⟨rfl, hM, fun b o e => of_hidT e, Nat.le_of_eq (hidT_size _ _), trivial, fun b hb => absurd (show b ∈ ([] : List Addr) from hb) (by simp), hok, .of_eq hg⟩
    refine codeAny_mono ((F _ hKb (nsK hns)).run callerA [] s₁ H ⟨[.ref a], []⟩ [.ref a] [.ref a] _ _ hr e0 (hbind s₁ (.ref a)) (.cons rfl .nil) (hsp H hO hS)) fun r s' h => ?_
    cases r with
    | error e => exact (hCX H e s' h).elim
    | ok fl =>
      cases fl with
      | next => exact False.elim h
      | brk => exact False.elim h
      | cont => exact False.elim h
      | ret u =>
        obtain ⟨v, H', os, bare, un, hok', r', q⟩ := h
        have q' : v = .bl true := q
        subst q'
        obtain rfl : u = Value.bool true := r'
        refine ⟨rfl, OldK.of_keep fun b o e => ?_, os, bare⟩
        cases q : H b with
        | none => exact un.keep b o e q (by intro z; exact absurd (show b ∈ ([] : List Addr) from z) (by simp)) (by simp)
        | some u =>
          rcases hO b with z | ⟨ob, xs, z⟩
          · rw [q] at z; cases z
          · have z2 := un.frzs b ob _ z
            obtain ⟨e1, _⟩ := hok b _ z
            obtain ⟨e2, _⟩ := hok' b _ z2
            rw [e] at e1; cases e1
            exact e2
  cases hk : K.lookup a with
  | some o =>
    -- the script is one of the module's own objects
    have e := KX a o hk
    rw [ha] at e
    cases e
    refine core (fun _ => none) (fun _ => .inl rfl) (.inr ⟨_, vs.toArray, _, hk, rfl, rfl, rfl, by rw [List.size_toArray, lenV]; exact hl, by simpa using rv⟩) (fun b u z => by have z' : (none : Option HO) = some u := z; cases z') (fun b z => absurd rfl z) fun z => absurd rfl z
  | none =>
    refine core (fun b => if b = a then some (.frz { cls := .type "list", data := .seq vs.toArray } (.lst (ns.map V.int))) else none) (fun b => ?_) (.inl (.inr ⟨{ cls := .type "list", data := .seq vs.toArray }, if_pos rfl⟩)) (fun b u z => ?_) (fun b z => ?_) fun _ => hk
    · by_cases hb : b = a
      · exact .inr ⟨_, _, if_pos hb⟩
      · exact .inl (if_neg hb)
    · by_cases hb : b = a
      · have z' := (if_pos hb).symm.trans z
        cases z'
        subst hb
        exact ⟨ha, by rw [List.length_map]; exact hl, vs, _, rv, ha⟩
      · have z' := (if_neg hb).symm.trans z
        cases z'
    · by_cases hb : b = a
      · exact hb
      · exact absurd (if_neg hb) z
end L2

namespace L2
open PySem PySem.Spec PyProof.Rows

/-- the goal that k_head leaves (case hc), from the law's promise. F gives the function object fd (K's own) once, then the promise over every base -/
theorem walk_of {l : PySem.W.OpenLaw} {n k : Nat} {q : Program} {loose : List Str} {XP : (Str → Option Value) → Heap → Prop} {YP : World → Heap → Prop} {d : DefRec} {K : Params → PySem.W.Frag} {CX : World → CXT} {sp : World → Sp} {x : Str}
    (hn : l.most = some n) (hn2 : n ≤ sizeLine) (hdf : d.params.defaults = []) (hr : Room k callerA)
    (hY : ∀ (w : World) (h : Heap), YP w h → (K w.params).In h)
    (F : ∀ (w : World) (mg : Str → Option Value) (fa : Addr) (h : Heap), (K w.params).In h → h.Ns mainGlobals mg → mg d.name = some (.ref fa) →
      ∃ fd : FuncData, (∀ (s : Shared) (u : Value), BindsTo s fd ⟨[u], []⟩ [(x, u)]) ∧
        ∀ base : Heap, (K w.params).In base → base.Ns mainGlobals mg → FnOk l.prog w (K w.params) mg base (CX w) k fa fd [x] (sp w))
    (hsp : ∀ (w : World) (H : Hp) (a : Addr) (ns : List Int), ns.length ≤ n → Only H → SqL (K w.params) H a (ns.map V.int) → sp w [.ref a] H (fun v _ => v = .bl true) fun _ _ _ => False)
    (hCX : ∀ (w : World) (H : Hp) (s : Shared) (e : Value) (s' : Shared), CX w [] H s (fun _ _ _ => False) e s' → False) :
    PySem.W.WalkO q loose XP YP l.row.toRowW d [] (fun f vs => PySem.call f vs) := by
  refine Att.attach_call hn hdf fun w s₀ s₁ mg mb fa o pm cd doc a vs ns G Y ho hd hcd hmg hobj hints hlen hg => ?_
  have KX := hY w _ Y
  obtain ⟨fd, hb, hF⟩ := F w mg fa _ KX G.T.g hmg
  exact law_call KX G.T.g G.T.b G.T.builtins G.T.nolimit hg hobj hints (Nat.le_trans hlen hn2) hr hF hb (fun H hO hS => hsp w H a ns hlen hO hS) fun H e s' => hCX w H s₁ e s'
end L2

/- THE LAST THEOREM (shape; LID, My.* are yours):
   My.Adr: a structure of the addresses that your layer names (classes, functions); My.Txt K t: a structure (Prop) of the equations over K;
   My.txt_mk : {K} {implicit addresses ..} (e1 : nsIn K mainGlobals "law" = some (some (.ref f))) (e2 : K.lookup f = some ⟨oc, od, .func (fnOf "law" "law" params body scope dV kV doc pm an cdv ct), sl⟩) (e3 : codeIn K cdv "law" = true) .. : ∃ t, My.Txt K t

set_option maxRecDepth 100000 in
set_option maxHeartbeats 0 in
theorem PySem.Challenge.cw_LID_holds : PySem.Challenge.rw_LID.Holds := by
  w_on; o_law; k_head; (case hw => w_witness2)
  k_fill
  refine L2.walk_of (l := PySem.Challenge.rw_LID) (n := 63) (k := 40) (x := "script") (CX := fun w => ..) (sp := fun _ => My.sp_law) rfl (by decide) rfl ⟨rfl, by decide, by decide⟩ (fun w h Y => PySem.W.kIn_of Y) ?F ?S ?C
  case F =>
    intro w mg fa h KX G hmg
    have T : ∃ t, My.Txt (L2.KOf KX) t := by
      dsimp only [L2.KOf]                          -- K must stand as «<heap const> w.params» for k_is
      refine' My.txt_mk ?e1 ?e2 ?e3 ..
      (case e1 => PySem.W.k_is)                    -- in the order: a name -> its address -> its object -> its parts
      (case e2 => PySem.W.k_is)
      ..
    obtain ⟨t, T⟩ := T
    have e0 := hmg.symm.trans (PySem.W.mg_of KX G T.law)
    cases e0                                       -- fa is the law's own address
    exact ⟨_, fun s u => .of_eq rfl, fun base kb nb => My.law_fn T kb nb⟩     -- if «.of_eq rfl» comes too early: refine' ⟨_, ?b, fun base kb nb => My.law_fn T kb nb⟩; exact fun s u => .of_eq rfl
  case S => exact fun w H a ns hl hO hS => ..
  case C => exact ..
(the tactic k_is has no namespace: write k_is) -/

/-! SHORT WORDS over the layer: a def of the text, its body, what a loop and a test want. -/
namespace L2
open PySem PySem.Spec PyProof.Rows

/-! ### the text by places -/
/-- the j-th statement of a class's body -/
def inClass (s : Stmt) (j : Nat) : Stmt := match s with
  | .ClassDef _ _ _ body _ _ _ _ _ _ _ => body.getD j (.Pass ⟨0, 0, 0, 0⟩)
  | _ => .Pass ⟨0, 0, 0, 0⟩
def defArgs (s : Stmt) : Arguments := match s with
  | .FunctionDef _ a _ _ _ _ _ _ _ _ => a
  | _ => { posonlyargs := [], args := [], vararg := none, kwonlyargs := [], kw_defaults := [], kwarg := none, defaults := [] }
def defBody (s : Stmt) : List Stmt := match s with
  | .FunctionDef _ _ b _ _ _ _ _ _ _ => b
  | _ => []
def defScope (s : Stmt) : Scope := match s with
  | .FunctionDef _ _ _ _ _ _ sc _ _ _ => sc
  | _ => { kind := .function, names := [], isGenerator := false, isCoroutine := false }

/-! ### no exception leaves a def -/
abbrev CX0 : CXT := fun _ _ _ _ _ _ => False
abbrev E0 : XK := fun _ _ _ => False
theorem pass0 {X : Cx} : Passes CX0 X E0 := fun _ _ _ _ _ _ _ h => h.elim

/-! ### a def (or method) of the text as it stands behind the top -/
structure Fun (K : PySem.W.Frag) (x qual : Str) (st : Stmt) (f : Addr) (fd : FuncData) : Prop where
  ex : ∃ (oc : Value) (od : Option Addr) (kV doc pm : Value) (an : Option Addr) (cdv ct : Value) (osl : Array (Option Value)),
    fd = PySem.W.fnOf x qual (defArgs st) (defBody st) (defScope st) .none kV doc pm an cdv ct ∧ K.lookup f = some ⟨oc, od, .func fd, osl⟩ ∧ PySem.W.codeIn K cdv qual = true
  kp : PySem.W.keepIn K (.ref f) = true
section
variable {P : Program} {w : World} {K : PySem.W.Frag} {mg : Str → Option Value} {base : Heap}
/-- THE RULE for a def: its body as a term of rules, and the reading of that term -/
theorem Fun.ok {x qual : Str} {st : Stmt} {f : Addr} {fd : FuncData} {N ps : List Str} {k : Nat} {sp : Sp} (F : Fun K x qual st f fd) (S : FnScope N ps (defScope st)) (len : ∀ vs H Q E, sp vs H Q E → vs.length = ps.length)
    (hbody : ∀ (cdv : Value) (A : Around) (outer : List Env) (s : Shared) (H : Hp) (vs : List V) (Q : VK) (E : XK), Room k (A.deeper (envOfC qual (defScope st) s.heap.objs.size f cdv)) → sp vs H Q E →
      ∃ t, PSs (cxOf CX0 P w K mg base N qual (defScope st) f cdv A outer s H E).nox (defBody st) t ∧ t { nx := fun _ H' => Q .non H', rt := Q } (start N vs) H) : FnOk P w K mg base CX0 (k + 1) f fd ps sp := by
  obtain ⟨oc, od, kV, doc, pm, an, cdv, ct, osl, rfl, lk, hcd⟩ := F.ex
  refine fn_of lk hcd S len fun A outer s H vs Q E hr hsp => ?_
  obtain ⟨t, h, q⟩ := hbody cdv A outer s H vs Q E hr hsp
  exact ⟨t, h.nox, q⟩
/-- how its arguments bind (no defaults): h is «fun _ _ _ _ _ _ us hl => match us, hl with | [_, _], _ => rfl», one _ a parameter -/
theorem Fun.binds {x qual : Str} {st : Stmt} {f : Addr} {fd : FuncData} {ps : List Str} (F : Fun K x qual st f fd)
    (h : ∀ (kV doc pm : Value) (an : Option Addr) (cdv ct : Value) (us : List Value), us.length = ps.length → bindArgs (PySem.W.fnOf x qual (defArgs st) (defBody st) (defScope st) .none kV doc pm an cdv ct) ⟨us, []⟩ = pure (ps.zip us)) : Binds K fd ps [] := by
  obtain ⟨oc, od, kV, doc, pm, an, cdv, ct, osl, rfl, lk, hcd⟩ := F.ex
  exact .all (h kV doc pm an cdv ct)
theorem fun_mk {x qual : Str} {st : Stmt} {f : Addr} {oc : Value} {od an : Option Addr} {osl : Array (Option Value)} {kV doc pm cdv ct : Value} (l : K.lookup f = some ⟨oc, od, .func (PySem.W.fnOf x qual (defArgs st) (defBody st) (defScope st) .none kV doc pm an cdv ct), osl⟩)
    (c : PySem.W.codeIn K cdv qual = true) (k : PySem.W.keepIn K (.ref f) = true) : Fun K x qual st f (PySem.W.fnOf x qual (defArgs st) (defBody st) (defScope st) .none kV doc pm an cdv ct) := ⟨⟨oc, od, kV, doc, pm, an, cdv, ct, osl, rfl, l, c⟩, k⟩
end
theorem hu_of {A : Around} {k : Nat} (hr : Room k A) : A.units + 1 < cLine := Nat.lt_of_le_of_lt (Nat.add_le_add_left (by decide : 1 ≤ 64) _) hr.units
/-! ### expressions in short: the name that stands in the i-th slot -/
section
variable {X : Cx}
theorem pv (i : Nat) {x : Str} {pos : Pos} (hN : X.N[i]? = some x := by rfl) (hv : Vis X.env.scope x := by first | exact Or.inl rfl | exact Or.inr (Or.inl rfl) | exact Or.inr (Or.inr rfl)) (hd : (x == ("__debug__" : Str)) = false := by decide)
    (hcd : (x == ("__classdict__" : Str)) = false := by decide) : PE X (.Name x pos) (tVar i) := pe_var hN hv hd hcd
end

/-! ### tests -/
theorem iteF {A B : Prop} (h : B) : if false = true then A else B := by
  rw [if_neg Bool.false_ne_true]
  exact h
theorem iteT {A B : Prop} (h : A) : if true = true then A else B := by
  rw [if_pos rfl]
  exact h
theorem ite2 {c A B : Prop} [Decidable c] (h1 : c → A) (h2 : ¬ c → B) : if c then A else B := by
  by_cases h : c
  · rw [if_pos h]
    exact h1 h
  · rw [if_neg h]
    exact h2 h
theorem iteNS {c A B : Prop} [Decidable c] (hc : c) (h : B) : if (!decide c) = true then A else B := by
  rw [decide_eq_true hc]
  exact iteF h

/-! ### heaps -/
/-- all that was tracked is as it was -/
def Same (H H' : Hp) : Prop := ∀ b o, H b = some o → H' b = some o
theorem Same.refl (H : Hp) : Same H H := fun _ _ h => h
theorem Same.trans {H H1 H2 : Hp} (a : Same H H1) (b : Same H1 H2) : Same H H2 := fun c o h => b c o (a c o h)
theorem Same.free {H H' : Hp} (e : Same H H') {l : Addr} (h : H' l = Option.none) : H l = Option.none := by
  cases q : H l with
  | none => rfl
  | some o =>
    rw [e l o q] at h
    cases h
theorem Same.seq {K : PySem.W.Frag} {H H' : Hp} {a : Addr} {xs : List V} (e : Same H H') (h : SqL K H a xs) : SqL K H' a xs := by
  rcases h with (h | ⟨o, h⟩) | h
  · exact .inl (.inl (e _ _ h))
  · exact .inl (.inr ⟨o, e _ _ h⟩)
  · exact .inr h

/-! ### a dict's pairs: keys that differ -/
section
variable {κ : Type} [DecidableEq κ]
end
end L2


/-! MY RULES over the hand layer: isinstance, == and != of lists of ints, t + u with an empty t, products and quotients of long ints. -/
namespace L2
open PySem PySem.Spec PyProof.Rows
section
variable {X : Cx}
/-- a statement, then the rest, with a word between them -/
def tCut (t u : TS) : TS := fun D σ H => ∃ M : St → Hp → Prop, t { D with nx := M } σ H ∧ ∀ σ' H', M σ' H' → u D σ' H'
theorem pss_cut {st : Stmt} {rest : List Stmt} {t u : TS} (h1 : PS X st t) (h2 : PSs X rest u) : PSs X (st :: rest) (tCut t u) := by
  intro pins s σ H D I h
  obtain ⟨M, h, hm⟩ := h
  refine wpAny_execs_cons (thn (h1 pins s σ H { D with nx := M } I h) fun f s1 q => ?_)
  cases f with
  | next =>
    obtain ⟨σ', H', I', q⟩ := q
    exact h2 pins s1 σ' H' D I' (hm _ _ q)
  | ret v => exact q
  | brk => exact q
  | cont => exact q
/-- isinstance(x, c) -/
def rIsi (K : PySem.W.Frag) : List V → Hp → VK → Prop := fun xs H Q => ∃ x c t b, xs = [x, c] ∧ TyOf K H x t ∧ (∀ u, RelV c u → PySem.W.kitOne K t u = some b) ∧ Q (.bl b) H
theorem call_isinst : CallR X (.builtin "isinstance") (rIsi X.K) := by
  intro pins s σ H xs us Q I r h
  obtain ⟨x, c, t, b, rfl, ty, e, q⟩ := h
  obtain ⟨u, w', rfl, ru, rw'⟩ := vals2 r
  exact isinst_ok I ru ty (e w' rw') fun tk => ⟨.bl b, H, I.tok tk, rfl, q⟩
theorem isi_same {K : PySem.W.Frag} (T : String) : ∀ u, RelV (.ty T) u → PySem.W.kitOne K (.type T) u = some true := by
  intro u h
  cases (show u = Value.type T from h)
  unfold PySem.W.kitOne
  rw [if_pos (beq_self_eq_true _)]
theorem isi_by {K : PySem.W.Frag} {T U : String} {b : Bool} (h : (Value.type T == Value.type U) = false) (hm : PySem.W.kitMeta U = true) (hs : (PySem.fastBuiltinMro T).map (·.contains (Value.type U)) = some b) :
    ∀ u, RelV (.ty U) u → PySem.W.kitOne K (.type T) u = some b := by
  intro u z
  cases (show u = Value.type U from z)
  unfold PySem.W.kitOne
  rw [if_neg (by rw [h]; exact Bool.false_ne_true)]
  show (if PySem.W.kitMeta U = true then PySem.W.subIn K (.type T) (.type U) else none) = some b
  rw [if_pos hm]
  exact hs
/-- t + u, u not empty: t empty gives u itself -/
def rCatT2 (K : PySem.W.Frag) : R2 := fun x y H Q => ∃ a b xs ys, x = .ref a ∧ y = .ref b ∧ SqT K H a xs ∧ SqT K H b ys ∧ ys ≠ [] ∧ xs.length + ys.length ≤ sizeLine ∧
  (xs = [] → Q (.ref b) H) ∧ (xs ≠ [] → ∀ p, H p = none → Q (.ref p) (upd H p (.tup (xs ++ ys))))
theorem op_catT2 : OpR X (binaryOp .Add) (rCatT2 X.K) := by
  intro pins s σ H x y v u Q I rx ry h
  obtain ⟨a, b, xs, ys, rfl, rfl, ha, hb, hy, hz, q1, q2⟩ := h
  by_cases hx : xs = []
  · subst hx
    cases rx
    cases ry
    obtain ⟨its, r1, p1, _⟩ := I.tuple ha
    obtain ⟨its2, r2, p2, _⟩ := I.tuple hb
    have e1 : its = [] := r1.nil_iff.mpr rfl
    obtain ⟨⟨cls, dd, data, sl⟩, ho, hc, n, hd⟩ := id p1
    obtain ⟨⟨cls2, dd2, data2, sl2⟩, ho2, hc2, n2, hd2⟩ := id p2
    simp only at hc hd hc2 hd2
    subst hc hd hc2 hd2
    exact concat_meets ⟨_, ho, rfl⟩ ⟨_, ho2, rfl⟩ noFill_tuple_add seq_tuple_add PySem.F.slot_tuple_add PySem.F.entry_tuple_add (PySem.F.args_tuple_add_2 _ _)
      (tuple_addW0 a b its.toArray its2.toArray n n2 dd dd2 sl sl2 (by simp [e1])) ⟨ho, ho2, ⟨.ref b, H, I, rfl, q1 rfl⟩⟩
  · exact op_catT pins s σ H _ _ v u Q I rx ry ⟨a, b, xs, ys, rfl, rfl, ha, hb, hx, hz, fun z => absurd z hy, fun _ => q2 hx⟩
/-- products of long ints -/
def CBig (i j : Int) : Prop := i.natAbs < 2 ^ 4000 ∧ j.natAbs < 2 ^ 4000
theorem op_mulB : OpR X (binaryOp .Mult) (rI CBig fun i j => .int (i * j)) := opI fun _ _ _ _ _ _ _ hc q =>
  mul_int q (IntMulOk.of_le (m := 4000) (n := 4000) (intBits_le_iff.mpr hc.1) (intBits_le_iff.mpr hc.2) (by decide))
/-- // by a positive divisor below 2 ** 4000 -/
def CDivB (_ j : Int) : Prop := 0 < j ∧ j.natAbs < 2 ^ 4000
theorem op_fdivB : OpR X (binaryOp .FloorDiv) (rI CDivB fun i j => .int (i / j)) := opI fun i j _ _ _ _ _ hc q => by
  have h1 : (0 : Int) < j := hc.1
  have h2 : j.natAbs.log2 < 9000 := Nat.lt_trans ((Nat.log2_lt (by omega)).mpr hc.2) (by decide)
  exact floordiv_int (by omega) (by rw [Int.fdiv_eq_ediv_of_nonneg i (by omega)]; exact q) (.inl (PyProof.noPylong_of_log2 h2))
end
end L2

/-! MY RULES: zip over two sources of any kind that is walked (list, tuple), reversed(list) walked, tuple(reversed(list)). -/
namespace L2
open PySem PySem.Spec PyProof.Rows
section
variable {prog : Program} {w : World} {A : Around} {E : Value → Shared → Prop} {s : Shared}
theorem nextOf_tuple_item {it l : Addr} {k : Nat} {xs : Array Value} {x : Value} {Q : Value → Shared → Prop} (hi : s.heap.IsTupleIter it l k) (hl : s.heap.IsTuple l xs) (hx : xs[k]? = some x)
    (hQ : ∀ h', h'.IsTupleIter it l (k + 1) → Heap.SameBut it s.heap h' → Q x { s with heap := h' }) : wpAny (model prog w) A (Builtin.SmallTypes.nextOf (.ref it)) Q E s := by
  obtain ⟨o, ho, hc, hd⟩ := id hi
  obtain ⟨ol, hol, _, nl, hdl⟩ := hl
  unfold Builtin.SmallTypes.nextOf
  refine wpAny_bind (wpAny_callSpecial?_slot (name := Str.ofString "__next__") hi.typeIs F.slot_tuple_iterator_next (wpAny_call_entry F.slot_tuple_iterator_next hi.typeIs F.entry_tuple_iterator_next ?_ (F.args_tuple_iterator_next_1 _)))
  show wpAny _ _ (field (.ref it) 0 >>= _) _ _ s
  refine wpAny_bind (wpAny_field ho hd (x := .ref l) rfl ?_)
  show wpAny _ _ (if (Value.ref l == Value.none) = true then _ else _) _ _ s
  rw [if_neg (show ¬ ((Value.ref l == Value.none) = true) from Bool.false_ne_true)]
  show wpAny _ _ (field (.ref it) 1 >>= _) _ _ s
  refine wpAny_bind (wpAny_field ho hd (x := .int k 0) rfl ?_)
  show wpAny _ _ (seqItems? (.ref l) >>= _) _ _ s
  refine wpAny_bind (wpAny_seqItems hol hdl ?_)
  simp only [Int.toNat_natCast, hx]
  refine wpAny_bind (wpAny_setField ho hd (by simp) (wpAny_pure ⟨x, rfl, wpAny_pure (hQ _ ?_ (Heap.SameBut.update ..))⟩))
  exact ⟨_, Heap.get?_update_self _ ho (Obj.isFreed_of_fields (Obj.data_mapFields hd _)), (Obj.cls_mapFields ..).trans hc, by rw [Obj.data_mapFields hd]; simp [rawInt]⟩
theorem nextOf_tuple_end {it l : Addr} {k : Nat} {xs : Array Value} {Q : Value → Shared → Prop} (hh : A.handled = none) (hi : s.heap.IsTupleIter it l k) (hl : s.heap.IsTuple l xs) (hx : xs[k]? = none)
    (hE : ∀ h' e, Heap.ExtBut it s.heap h' → (∃ o, h'.get? e = some o ∧ o.cls = .type "StopIteration") → E (.ref e) { s with heap := h' }) : wpAny (model prog w) A (Builtin.SmallTypes.nextOf (.ref it)) Q E s := by
  obtain ⟨o, ho, hc, hd⟩ := id hi
  obtain ⟨ol, hol, _, nl, hdl⟩ := hl
  unfold Builtin.SmallTypes.nextOf
  refine wpAny_bind (wpAny_callSpecial?_slot (name := Str.ofString "__next__") hi.typeIs F.slot_tuple_iterator_next (wpAny_call_entry F.slot_tuple_iterator_next hi.typeIs F.entry_tuple_iterator_next ?_ (F.args_tuple_iterator_next_1 _)))
  show wpAny _ _ (field (.ref it) 0 >>= _) _ _ s
  refine wpAny_bind (wpAny_field ho hd (x := .ref l) rfl ?_)
  show wpAny _ _ (if (Value.ref l == Value.none) = true then _ else _) _ _ s
  rw [if_neg (show ¬ ((Value.ref l == Value.none) = true) from Bool.false_ne_true)]
  show wpAny _ _ (field (.ref it) 1 >>= _) _ _ s
  refine wpAny_bind (wpAny_field ho hd (x := .int k 0) rfl ?_)
  show wpAny _ _ (seqItems? (.ref l) >>= _) _ _ s
  refine wpAny_bind (wpAny_seqItems hol hdl ?_)
  simp only [Int.toNat_natCast, hx]
  refine wpAny_bind (wpAny_rule (wpAny_bind (wpAny_setField ho hd (by simp) ?_)))
  show wpAny _ _ (newExc (.type "StopIteration") [] >>= _) _ _ _
  refine wpAny_bind ?_
  simp only [newExc, newTuple]
  refine wpAny_bind (wpAny_newObj_type ?_ (by size_fits))
  refine wpAny_bind (m := firstArgMember _ _) (wpAny_of_eq (a := Value.none) (by first | rfl | (simp only [firstArgMember]; rfl)) ?_)
  refine wpAny_newObj_type ?_ (by size_fits)
  simp only [raiseNew]
  refine wpAny_bind (wpAny_handled ?_)
  first | rw [show A.in1.handled = none from hh] | rw [hh]
  refine wpAny_bind (wpAny_pure (wpAny_throw ?_))
  exact hE _ _ (((Heap.SameBut.update ..).extBut.push _).push _) ⟨_, Heap.get?_push_size _ rfl, rfl⟩
end
section
variable {z TI TO i1 i2 l1 l2 : Addr} {st1 st2 : Nat → Heap → Prop} {src1 src2 : Array Value → Heap → Prop} {prog : Program} {w : World} {A : Around} {E : Value → Shared → Prop} {s : Shared}
end
section
variable {X : Cx} {pins : List (Addr × Obj)} {σ : St} {H : Hp} {s : Shared} {h' : Heap}
/-- untracked records of ours (iterators) have turned, a new object is laid and tracked -/
theorem Inv.turnedNew {t' : Nat} {ts : List Addr} {a : Addr} {o : HO} (I : Inv X pins σ H s) (k : ∀ b u, b ∉ ts → s.heap.get? b = some u → h'.get? b = some u) (f : ∀ b ∈ ts, FpOk X pins H b) (hp : s.heap.objs.size ≤ a)
    (new : ObjOk X.prog X.w (upd H a o) h' a o) : Inv X pins σ (upd H a o) { s with heap := h', toks := t' } := by
  have nt : ∀ b u, H b = some u → b ∉ ts := fun b u e z => by have := (f b z).1; rw [e] at this; cases this
  have na : ∀ b u, s.heap.get? b = some u → b ≠ a := fun b u e => Nat.ne_of_lt (Nat.lt_of_lt_of_le (Heap.lt_size e) hp)
  have ha : H a = none := I.hok.fresh hp
  refine I.step (g' := s.gens) (d' := s.drawn) (ch := ts) (fun b hb => ⟨(f b hb).2.2.2.1, (f b hb).2.1, (f b hb).2.2.2.2.1, (f b hb).2.2.2.2.2⟩) (fun b u _ _ hc e _ => k b u hc e) (fun b u _ _ hc e _ => ⟨u.slots, k b u hc e⟩)
    (fun b u _ e n => by rw [upd_ne (na b u e)]; exact n) (fun b u hc e => ⟨u, k b u hc e⟩) (fun b xs e => by rw [upd_ne (ne_of_none e ha)]; exact e) (fun b u xs e => by rw [upd_ne (ne_of_none e ha)]; exact e)
    (fun b ps e => ⟨#[], by rw [upd_ne (ne_of_none e ha), e]; simp⟩) (fun m hm => ?_) (fun b u e => ?_) I.bare
  · obtain ⟨ob, es, ep, ho, r⟩ := hm
    exact ⟨ob, es, ep, k _ ob (fun z => (f _ z).2.1 rfl) ho, r⟩
  · by_cases hb : b = a
    · subst hb
      rw [upd_same] at e
      cases e
      exact new
    · rw [upd_ne hb] at e
      refine (I.hok b u e).stay (fun c v hc q => k c v ?_ q) (fun c q => by rw [upd_ne (ne_of_none q ha)]; exact q) fun c xs q => by rw [upd_ne (ne_of_none q ha)]; exact q
      rcases hc with rfl | hc
      · exact nt _ _ e
      · exact nt _ _ hc
/-- untracked records of ours have turned -/
theorem Inv.turnedL {t' : Nat} {ts : List Addr} (I : Inv X pins σ H s) (k : ∀ b u, b ∉ ts → s.heap.get? b = some u → h'.get? b = some u) (f : ∀ b ∈ ts, FpOk X pins H b) : Inv X pins σ H { s with heap := h', toks := t' } := by
  have nt : ∀ b u, H b = some u → b ∉ ts := fun b u e z => by have := (f b z).1; rw [e] at this; cases this
  refine I.step (g' := s.gens) (d' := s.drawn) (ch := ts) (fun b hb => ⟨(f b hb).2.2.2.1, (f b hb).2.1, (f b hb).2.2.2.2.1, (f b hb).2.2.2.2.2⟩) (fun b u _ _ hc e _ => k b u hc e) (fun b u _ _ hc e _ => ⟨u.slots, k b u hc e⟩)
    (fun b u _ e n => n) (fun b u hc e => ⟨u, k b u hc e⟩) (fun b xs e => e) (fun b u xs e => e) (fun b ps e => ⟨#[], by rw [e]; simp⟩) (fun m hm => ?_) (fun b u e => ?_) I.bare
  · obtain ⟨ob, es, ep, ho, r⟩ := hm
    exact ⟨ob, es, ep, k _ ob (fun z => (f _ z).2.1 rfl) ho, r⟩
  · refine (I.hok b u e).stay (fun c v hc q => k c v ?_ q) (fun c q => q) fun c xs q => q
    rcases hc with rfl | hc
    · exact nt _ _ e
    · exact nt _ _ hc
end
/-! ### zip(list, tuple) is made -/
/-! ### reversed(list) -/
def Itv (K : PySem.W.Frag) (a : Addr) (n : Nat) : It :=
  ⟨fun i H => ∃ xs x, SqL K H a xs ∧ xs.length = n ∧ i < n ∧ xs[n - 1 - i]? = some x, fun i H x H' => H' = H ∧ ∀ xs, SqL K H a xs → xs[n - 1 - i]? = some x, fun i _ => i = n⟩
theorem turn_rev {P : Program} {w : World} {K : PySem.W.Frag} {tg : Expr} (a it : Addr) (n : Nat) : Turn P w K tg (Itv K a n) [it] it (fun i h => h.IsRevIter it a ((n : Int) - 1 - (i : Int))) where
  mem := by simp
  obj := fun i h st b hb => by
    have e : b = it := by simpa using hb
    subst e
    obtain ⟨o, e, c, d⟩ := st
    exact ⟨o, e, fun v z => by rw [d] at z; cases z⟩
  keep := fun i h h' st k => st.at fun o e => k it (by simp) o e
  item := by
    intro X hP hw hK hc i pins s σ H E I hf st hg
    subst hP hw hK
    obtain ⟨xs, x, hq, hn, hi, hx⟩ := hg
    obtain ⟨its, rv, p, hz⟩ := I.list hq
    obtain ⟨u, hu, ru⟩ := rv.get hx
    obtain ⟨f0, f1, f2, f3, f4, f5⟩ := hf it (by simp)
    have e1 : (n : Int) - 1 - (i : Int) = ((n - 1 - i : Nat) : Int) := by omega
    rw [e1] at st
    refine wpAny_pyNext_rev_item st p.isList (x := u) (by simpa using hu) fun h' st' sb => ?_
    have I1 : Inv X pins σ H { s with heap := h' } := I.turned (t' := s.toks) (fun b o hb e => (sb.2 b hb).trans e) f0 f1 f3 f4 f5
    have e2 : ((n - 1 - i : Nat) : Int) - 1 = (n : Int) - 1 - ((i + 1 : Nat) : Int) := by omega
    rw [e2] at st'
    obtain ⟨o, e, c, d⟩ := id st'
    exact ⟨u, rfl, go_of (s := { s with heap := h' }) e c d (by decide) ⟨x, H, I1, ru, ⟨rfl, fun ys hy => by rw [I.list_inj hy hq]; exact hx⟩, st', fun b hb => (hf b hb).1⟩⟩
  done := by
    intro X hP hw hK hc i pins s σ H E I hf st hg
    subst hP hw hK
    have hi : i = n := hg
    subst hi
    obtain ⟨f0, f1, f2, f3, f4, f5⟩ := hf it (by simp)
    have e1 : (i : Int) - 1 - (i : Int) = -1 := by omega
    rw [e1] at st
    exact wpAny_pyNext_rev_end (I.ok.hd hc) st fun h' eb => ⟨rfl, I.turned (t' := s.toks) (fun b o hb e => eb b o hb e) f0 f1 f3 f4 f5⟩
  self := fun _ _ _ _ _ st h => wpAny_pyIter_revIter st h
def iRev (K : PySem.W.Frag) (ta : TA) : TI := fun σ H R => ta σ H fun vs H1 => ∃ a xs, vs = [.ref a] ∧ SqL K H1 a xs ∧ R (Itv K a xs.length) H1
theorem pi_rev {X : Cx} {tg : Expr} {a : Expr} {ta : TA} {p pos : Pos} (hg : Gl X "reversed") (hm : X.mg "reversed" = none) (ha : PA X [a] ta) (hs : starEach [a] X.env = [(false, eval a X.env)] := by rfl) :
    PI X tg (.Call (.Name "reversed" p) [a] [] pos) (iRev X.K ta) := by
  intro pins s σ H R I h
  refine Call_ (ld_blt I hg hm boot_reversed (PyProof.Rows.callWith_type1 (thn (ha pos pins s σ H _ I h) fun us s1 ⟨vs, H1, I1, r1, q1⟩ => ?_) hs rfl))
  obtain ⟨l, xs, e, hq, q⟩ := q1
  subst e
  obtain ⟨u, rfl, ru⟩ := vals1 r1
  cases ru
  obtain ⟨its, rv, p1, _⟩ := I1.list hq
  have en : (its.toArray.size : Int) - 1 = (xs.length : Int) - 1 - ((0 : Nat) : Int) := by rw [List.size_toArray, ← rv.length]; omega
  refine call_reversed_list p1.isList ?_
  rw [en]
  have st : (s1.heap.push (revObj l ((xs.length : Int) - 1 - ((0 : Nat) : Int)))).IsRevIter s1.heap.objs.size l ((xs.length : Int) - 1 - ((0 : Nat) : Int)) := ⟨_, Heap.get?_push_size _ rfl, rfl, rfl⟩
  refine wpAny_pyIter_revIter (s := { s1 with heap := s1.heap.push (revObj l ((xs.length : Int) - 1 - ((0 : Nat) : Int))) }) st ?_
  refine ⟨_, [s1.heap.objs.size], _, _, H1, rfl, I1.kept (t' := s1.toks) fun b o e => Heap.get?_push_of_some _ e, turn_rev l _ xs.length, st, fun b hb => ?_, q⟩
  have e : b = s1.heap.objs.size := by simpa using hb
  subst e
  exact I1.fpOk (Nat.le_refl _) (I1.hok.fresh (Nat.le_refl _))
theorem for_rev {K : PySem.W.Frag} {a : Addr} {xs : List V} {g : TG} {tb : TS} {D : Ends} {σ : St} {H : Hp} (Pv : Nat → St → Hp → Prop) (h0 : Pv 0 σ H) (hl : ∀ i σ H, Pv i σ H → SqL K H a xs)
    (hs : ∀ i x σ H, i < xs.length → xs[xs.length - 1 - i]? = some x → Pv i σ H → g x σ H fun σ2 H2 => tb { D with nx := Pv (i + 1), ct := Pv (i + 1), bk := D.nx } σ2 H2) (hd : ∀ σ H, Pv xs.length σ H → D.nx σ H) :
    ∃ W : Nat → Nat → St → Hp → Prop, (∃ m, W 0 m σ H) ∧ ∀ i m σ H, W i m σ H →
      ((Itv K a xs.length).stop i H ∧ D.nx σ H) ∨ ((Itv K a xs.length).go i H ∧ ∃ N : St → Hp → Prop, (∀ σ' H', N σ' H' → ∃ m', m' < m ∧ W (i + 1) m' σ' H') ∧ ∀ x H', (Itv K a xs.length).yld i H x H' → g x σ H' fun σ2 H2 => tb { D with nx := N, ct := N, bk := D.nx } σ2 H2) := by
  refine ⟨fun i m σ H => m = xs.length - i ∧ i ≤ xs.length ∧ Pv i σ H, ⟨xs.length, by simp, Nat.zero_le _, h0⟩, ?_⟩
  rintro i m σ H ⟨rfl, hi, p⟩
  have q := hl i σ H p
  by_cases hlt : i < xs.length
  · refine .inr ⟨⟨xs, xs[xs.length - 1 - i], q, rfl, hlt, List.getElem?_eq_getElem _⟩, Pv (i + 1), fun σ' H' p' => ⟨xs.length - (i + 1), by omega, rfl, hlt, p'⟩, fun x H' y => ?_⟩
    obtain ⟨e, y⟩ := y
    subst e
    exact hs i x σ _ hlt (y xs q) p
  · have e : i = xs.length := by omega
    subst e
    exact .inl ⟨rfl, hd σ H p⟩
end L2

/-! MY RULES: a list comprehension of one clause, with no test or one. -/
namespace L2
open PySem PySem.Spec PyProof.Rows
/-- what the comprehension's own scope and the cells that it takes over must be -/
structure ClOk (X : Cx) (scope : Scope) (cl : List (Str × Addr)) : Prop where
  eq : closureFor scope X.env = pure cl
  sub : ∀ x c, cl.lookup x = some c → X.env.cells.lookup x = some c
  has : ∀ x, ((relabel scope X.env).names.lookup x = some .cell ∨ (relabel scope X.env).names.lookup x = some .free) → ∃ c, cl.lookup x = some c
  kind : scope.kind = .function
  ncell : ∀ y ∈ scope.names, y.2 ≠ .cell
  names : ∀ y ∈ scope.names, y.2 = .local → scope.names.lookup y.1 = some .local
/-- the block's context: its names, its own dict at C, the state at its entry, the iterator that it walks -/
def blk (X : Cx) (N' : List Str) (scope : Scope) (cl : List (Str × Addr)) (C : Addr) (s₀ : Shared) (H₀ : Hp) (fp : List Addr) : Cx :=
  { X with N := N', s₀ := s₀, H₀ := H₀, env := compEnvC scope cl C X.env, outer := X.stack, ex := fp, fn := fun _ => false, pn := [], xe := fun _ _ => False }
/-- the names' values at the block's entry: those that are taken over -/
def blkSt (ix : List (Option Nat)) (σ : St) : St := ix.map fun o => o.bind fun j => (σ[j]?).bind id
section
variable {X : Cx} {pins : List (Addr × Obj)} {σ : St} {H : Hp} {s : Shared} {N' : List Str} {scope : Scope} {cl : List (Str × Addr)} {fp : List Addr} {ix : List (Option Nat)}
/-- which outer slots stand for the names that are taken over -/
def IxOk (X : Cx) (N' : List Str) (scope : Scope) (ix : List (Option Nat)) : Prop :=
  ix.length = N'.length ∧ ∀ i j : Nat, ix[i]? = some (some j) → ∃ x, N'[i]? = some x ∧ X.N[j]? = some x ∧ (X.env.scope.names.lookup x = some .cell ∨ X.env.scope.names.lookup x = some .free) ∧
    ((relabel scope X.env).names.lookup x = some .cell ∨ (relabel scope X.env).names.lookup x = some .free)
theorem blk_ok (I : Inv X pins σ H s) (ck : ClOk X scope cl) (f : ∀ b ∈ fp, FpOk X pins H b) (hlt : ∀ b ∈ fp, b < s.heap.objs.size) : (blk X N' scope cl s.heap.objs.size s H fp).Ok where
  mod := I.ok.mod
  kind := ck.kind
  glob := I.ok.glob
  blt := I.ok.blt
  above := Nat.le_refl _
  inj := fun x y c h1 h2 => I.ok.inj x y c (ck.sub x c h1) (ck.sub y c h2)
  has := fun x h => ck.has x h
  cab := fun x c h => by cases h
  hd := I.ok.hd
  frames := I.ok.frames
  stk := .inl rfl
  exf := fun b hb => ⟨Nat.ne_of_lt (hlt b hb), fun x c h => (f b hb).2.2.2.2.1 x c (ck.sub x c h)⟩
  bs := I.bs
  bsz := Nat.le_trans I.ok.bsz I.sz
  noex := fun b o e hb => by
    rcases (f b hb).2.2.2.1 with z | z
    · exact I.ok.noex b o e z
    · exact absurd (Nat.lt_of_lt_of_le (Heap.lt_size (I.ok.bs b o e).1) z) (Nat.lt_irrefl _)
  exfs := fun b hb hs => by
    rcases List.mem_cons.mp (I.stkSub b hs) with z | z
    · exact (f b hb).2.1 z
    · exact (f b hb).2.2.1 z
  funs := I.stack
  frf := I.stkFree
theorem blk_start (I : Inv X pins σ H s) (ck : ClOk X scope cl) (io : IxOk X N' scope ix) (f : ∀ b ∈ fp, FpOk X pins H b) (hlt : ∀ b ∈ fp, b < s.heap.objs.size) {h' : Heap} {m : Str → Option Value} {t' : Nat}
    (hn : h'.Ns s.heap.objs.size m) (k : ∀ b o, s.heap.get? b = some o → h'.get? b = some o) : Inv (blk X N' scope cl s.heap.objs.size s H fp) [] (blkSt ix σ) H { s with heap := h', toks := t' } := by
  have cl' : ∀ x c, cl.lookup x = some c → ∃ v, s.heap.IsCell c v := fun x c h => I.cell x c (ck.sub x c h)
  refine ⟨blk_ok I ck f hlt, rfl, I.bare, Un.kept k, ⟨m, hn, fun i x v e1 e2 e3 => ?_⟩, fun x c e => ?_, I.hok.fresh (Nat.le_refl _), fun x c e => I.freeC x c (ck.sub x c e), (fun p hp => by cases hp), I.hok.kept k, ?_⟩
  · unfold blkSt at e2
    rw [List.getElem?_map] at e2
    cases hi : ix[i]? with
    | none => rw [hi] at e2; cases e2
    | some o =>
      rw [hi] at e2
      cases o with
      | none => cases Option.some.inj e2
      | some j =>
        have e2' : (σ[j]?).bind id = some v := Option.some.inj e2
        obtain ⟨x', n1, n2, k1, k2⟩ := io.2 i j hi
        have ex : x' = x := Option.some.inj (n1.symm.trans e1)
        subst ex
        have es : σ[j]? = some (some v) := by
          cases q : σ[j]? with
          | none => rw [q] at e2'; cases e2'
          | some w =>
            rw [q] at e2'
            exact congrArg some e2'
        obtain ⟨m0, _, hl⟩ := I.loc
        obtain ⟨u, ru, lo⟩ := hl j x' v n2 es (k1.elim (fun z => .inr (.inl z)) fun z => .inr (.inr z))
        refine ⟨u, ru, .inr ⟨k2, ?_⟩⟩
        obtain ⟨c, hc⟩ := ck.has x' k2
        refine ⟨c, hc, ?_⟩
        rcases lo with ⟨z, _⟩ | ⟨_, c', hc', ic⟩
        · exfalso
          have z' : X.env.scope.names.lookup x' = some .local := z
          rcases k1 with k1 | k1 <;> (rw [z'] at k1; cases k1)
        · have ec : c' = c := Option.some.inj (hc'.symm.trans (ck.sub x' c hc))
          subst ec
          obtain ⟨o, ho, hd⟩ := ic
          exact ⟨o, k _ _ ho, hd⟩
  · obtain ⟨v, o, ho, hd⟩ := cl' x c e
    exact ⟨v, o, k _ _ ho, hd⟩
  · unfold blkSt
    rw [List.length_map]
    exact io.1
/-- behind the block: the frame's own words stand again -/
theorem blk_end (I : Inv X pins σ H s) (f : ∀ b ∈ fp, FpOk X pins H b) {σ' : St} {H' : Hp} {s' : Shared} {pl : List (Addr × Obj)} (J : Inv (blk X N' scope cl s.heap.objs.size s H fp) pl σ' H' s') {h' : Heap} (sb : Heap.SameBut s.heap.objs.size s'.heap h') :
    Inv X pins σ H' { s' with heap := h' } := by
  have nC : ∀ b o, s.heap.get? b = some o → b ≠ s.heap.objs.size := fun b o e => Nat.ne_of_lt (Heap.lt_size e)
  have hC : H' s.heap.objs.size = none := J.free
  have u : Un (frs X.stack) fp H H' s.heap s'.heap := J.base
  refine I.call' (ch := fp) (s' := { s' with heap := h' }) J.os ⟨fun b o e n hb hx => (sb.2 b (nC b o e)).trans (u.keep b o e n hb hx), fun b o e n hb hx => ?_, u.free, fun b o e hx => ?_, u.tups, u.frzs, u.tbls⟩ (fun b o e => ?_) J.bare
    (fun b hb => ⟨(f b hb).2.2.2.1, (f b hb).2.1, (f b hb).2.2.2.2.1, (f b hb).2.2.2.2.2⟩)
  · obtain ⟨sl, q⟩ := u.slot b o e n hb hx
    exact ⟨sl, (sb.2 b (nC b o e)).trans q⟩
  · obtain ⟨o', q⟩ := u.there b o e hx
    exact ⟨o', (sb.2 b (nC b o e)).trans q⟩
  · refine (J.hok b o e).stay (fun c v hc q => (sb.2 c ?_).trans q) (fun c q => q) fun c xs q => q
    rcases hc with rfl | hc
    · exact ne_of_none e hC
    · exact ne_of_none hc hC
end
/-- what the one knows the other one knows too -/
def StKeep : St → St → Prop
  | [], _ => True
  | none :: r, _ :: r' => StKeep r r'
  | none :: r, [] => StKeep r []
  | some v :: r, w :: r' => w = some v ∧ StKeep r r'
  | some _ :: _, [] => False
theorem StKeep.get : ∀ {a b : St}, StKeep a b → ∀ (j : Nat) v, a[j]? = some (some v) → b[j]? = some (some v)
  | [], _, _, _, _, e => by simp at e
  | none :: r, _ :: r', h, 0, v, e => by simp at e
  | none :: r, _ :: r', h, j + 1, v, e => by simpa using StKeep.get (a := r) (b := r') h j v (by simpa using e)
  | none :: r, [], h, 0, v, e => by simp at e
  | none :: r, [], h, j + 1, v, e => by have := StKeep.get (a := r) (b := []) h j v (by simpa using e); simp at this
  | some w :: r, _ :: r', h, 0, v, e => by
    have e' : w = v := by simpa using e
    subst e'
    simpa using h.1
  | some _ :: r, _ :: r', h, j + 1, v, e => by simpa using StKeep.get (a := r) (b := r') h.2 j v (by simpa using e)
section
variable {X : Cx}
/-- [elt for tg in iter]: D the list that grows -/
def tComp (ix : List (Option Nat)) (wi : TI) (g : TG) (te : TE) : TE := fun σ H Q => wi σ H fun J H1 => ∀ D, H1 D = none → ∃ W : Nat → Nat → Hp → Prop, (∃ m, W 0 m (upd H1 D (.lst []))) ∧ ∀ i m H2, W i m H2 →
  (J.stop i H2 ∧ Q (.ref D) H2) ∨ (J.go i H2 ∧ ∃ N : VK, (∀ y H5, N y H5 → ∃ xs, H5 D = some (.lst xs) ∧ xs.length < sizeLine ∧ ∃ m', m' < m ∧ W (i + 1) m' (upd H5 D (.lst (xs ++ [y])))) ∧ ∀ x H3, J.yld i H2 x H3 → g x (blkSt ix σ) H3 fun σ4 H4 => StKeep (blkSt ix σ) σ4 ∧ te σ4 H4 N)
theorem pe_comp {elt iter tg : Expr} {scope : Scope} {pos : Pos} {N' : List Str} {ix : List (Option Nat)} {cl : List (Str × Addr)} {wi : TI} {g : TG} {te : TE} (hc : X.calm = true) (ck : ClOk X scope cl) (io : IxOk X N' scope ix) (hi : PI X tg iter wi)
    (hg : ∀ C s₀ H₀ fp, PG (blk X N' scope cl C s₀ H₀ fp) tg g) (he : ∀ C s₀ H₀ fp, PE (blk X N' scope cl C s₀ H₀ fp) elt te) (hs : ∀ x, foldedSetIterable iter X.env x = pure x := by intro _; rfl) :
    PE X (.ListComp elt [⟨tg, iter, [], 0⟩] scope pos) (tComp ix wi g te) := by
  intro pins s σ H Q I h
  rw [eval_ListComp]
  refine wpAny_comprehension_free (use := none) rfl hs ck.eq ck.kind ck.names (thn (hi pins s σ H _ I h) fun xv s1 h1 => thn h1 fun itv s2 h2 => ?_)
  obtain ⟨it, fp, tn, J, H1, rfl, I1, T, st1, f1, R⟩ := h2
  -- the list
  refine wpAny_newObj_type ?_
  have hD : H1 s2.heap.objs.size = none := I1.hok.fresh (Nat.le_refl _)
  obtain ⟨W, ⟨m0, w0⟩, turn⟩ := R _ hD
  have hfD : ∀ b ∈ fp, b < s2.heap.objs.size := fun b hb => let ⟨o, e, _⟩ := T.obj _ _ st1 b hb; Heap.lt_size e
  have I2 : Inv X pins σ (upd H1 s2.heap.objs.size (.lst [])) { s2 with heap := s2.heap.push { cls := .type "list", data := .seq ([] : List Value).toArray }, toks := s2.toks } := I1.lnew (its := []) .nil (Nat.zero_le _)
  have f2 : ∀ b ∈ fp, FpOk X pins (upd H1 s2.heap.objs.size (.lst [])) b := fun b hb => ⟨by rw [upd_ne (Nat.ne_of_lt (hfD b hb))]; exact (f1 b hb).1, (f1 b hb).2⟩
  have lt2 : ∀ b ∈ fp, b < (s2.heap.push { cls := .type "list", data := .seq ([] : List Value).toArray }).objs.size := fun b hb => by rw [Heap.size_push]; exact Nat.lt_succ_of_lt (hfD b hb)
  -- the block's own dict
  refine wpAny_newFunctionEnv ck.ncell (by intro y hy; simp at hy) (fun h3 hns sb3 => ?_) ck.kind
  dsimp only at hns sb3 ⊢
  have k3 : ∀ b o, (s2.heap.push { cls := .type "list", data := .seq ([] : List Value).toArray }).get? b = some o → h3.get? b = some o := fun b o e => (sb3.2 b (Nat.ne_of_lt (Heap.lt_size e))).trans (Heap.get?_push_of_some _ e)
  generalize hs2 : ({ s2 with heap := s2.heap.push { cls := .type "list", data := .seq ([] : List Value).toArray }, toks := s2.toks } : Shared) = s3 at I2
  have e3 : s2.heap.push { cls := .type "list", data := .seq ([] : List Value).toArray } = s3.heap := by rw [← hs2]
  rw [e3] at hns k3 lt2
  have I3 := blk_start (N' := N') (ix := ix) I2 ck io f2 lt2 (h' := h3) (t' := s2.toks + ([] : List (Str × Value)).length) hns k3
  have e4 : ({ s3 with heap := h3, toks := s2.toks + ([] : List (Str × Value)).length } : Shared) = { s2 with heap := h3, toks := s2.toks + ([] : List (Str × Value)).length } := by rw [← hs2]
  rw [e4] at I3
  have st3 : tn 0 h3 := T.keep _ _ _ st1 fun b hb o e => k3 b o (by rw [← e3]; exact Heap.get?_push_of_some _ e)
  have loop : ∀ s4 : Shared, s4 = { s2 with heap := h3, toks := s2.toks + ([] : List (Str × Value)).length } →
      codeAny (model X.prog X.w) X.A (.compLoop (.ListComp elt [⟨tg, iter, [], 0⟩] scope pos) 0 (.ref it) (.ref s2.heap.objs.size) (compEnvC scope cl s3.heap.objs.size X.env))
        (compPost (model X.prog X.w) X.A X.xe none (EP X pins σ Q) (.ref s2.heap.objs.size) s3.heap.objs.size) s4 := by
    rintro s4 rfl
    have stat : ∀ {H' : Hp}, (∀ b ∈ fp, H' b = none) → ∀ b ∈ fp, FpOk (blk X N' scope cl s3.heap.objs.size s3 (upd H1 s2.heap.objs.size (.lst [])) fp) [] H' b := fun hn b hb =>
      ⟨hn b hb, Nat.ne_of_lt (lt2 b hb), fun hs => I3.ok.exfs b hb hs, .inl hb, fun x c e => (f2 b hb).2.2.2.2.1 x c (ck.sub x c e), (fun p hp => by cases hp)⟩
    refine codeAny_loop rfl (fun n s' => ∃ i σ' H', Inv (blk X N' scope cl s3.heap.objs.size s3 (upd H1 s2.heap.objs.size (.lst [])) fp) [] σ' H' s' ∧ (∀ (j : Nat) v, (blkSt ix σ)[j]? = some (some v) → σ'[j]? = some (some v)) ∧ tn i s'.heap ∧ (∀ b ∈ fp, H' b = none) ∧ W i n H')
      (fun n s' hI => ?_) m0 ⟨0, _, _, I3, fun _ _ z => z, st3, fun b hb => (f2 b hb).1, w0⟩
    obtain ⟨i, σ5, H5, I5, wk, st5, fr5, w5⟩ := hI
    show wpAny _ _ ((compTurn (.ListComp elt [⟨tg, iter, [], 0⟩] scope pos) 0 (.ref it) (.ref s2.heap.objs.size) (compEnvC scope cl s3.heap.objs.size X.env)).onRaise (fun x => do noteFrame x (compEnvC scope cl s3.heap.objs.size X.env); theTreesLotGoes x)) _ _ s'
    refine wpAny_noted ?_
    rw [compTurn_list1]
    refine wpAny_bind (wpAny_standAt ?_)
    rcases turn i n H5 w5 with ⟨stop, qn⟩ | ⟨go, NN, hNN, step⟩
    · refine wpAny_bind (wpAny_mono (T.done (blk X N' scope cl s3.heap.objs.size s3 (upd H1 s2.heap.objs.size (.lst [])) fp) rfl rfl rfl hc i [] s' σ5 H5 (fun _ _ => False) I5 (stat fr5) st5 stop) (fun r s6 h6 => ?_) fun _ _ z => z.elim)
      obtain ⟨rfl, I6⟩ := h6
      refine wpAny_pure ?_
      obtain ⟨mm, hm, _⟩ := id I6.loc
      exact ⟨mm, hm, fun h' sb => ⟨.ref s2.heap.objs.size, H5, blk_end I2 f2 I6 sb, rfl, qn⟩⟩
    · refine wpAny_bind (wpAny_mono (T.item (blk X N' scope cl s3.heap.objs.size s3 (upd H1 s2.heap.objs.size (.lst [])) fp) rfl rfl rfl hc i [] s' σ5 H5 (fun _ _ => False) I5 (stat fr5) st5 go) (fun r s6 h6 => ?_) fun _ _ z => z.elim)
      obtain ⟨u, rfl, h6⟩ := h6
      refine wpAny_bind (wpAny_mono h6 (fun _ s7 h7 => ?_) fun _ _ z => z.elim)
      obtain ⟨x, H7, I7, r7, y7, st7, fr7⟩ := h7
      have I7w : Inv (blk X N' scope cl s3.heap.objs.size s3 (upd H1 s2.heap.objs.size (.lst [])) fp) [] (blkSt ix σ) H7 s7 := I7.weak (by rw [I7.len]; unfold blkSt; rw [List.length_map]; exact io.1) wk
      have I7p := I7w.pinned (stat fr7) (T.obj _ _ st7)
      refine wpAny_bind (wpAny_mono (hg _ _ _ _ _ s7 _ H7 x u _ I7p r7 (step x H7 y7)) (fun _ s8 h8 => ?_) fun _ _ z => z.elim)
      obtain ⟨σ8, H8, I8, kp8, q8⟩ := h8
      refine wpAny_bind (wpAny_bind (wpAny_mono (he _ _ _ _ _ s8 σ8 H8 _ I8 q8) (fun yv s9 h9 => ?_) fun _ _ z => z.elim))
      obtain ⟨y, H9, I9, r9, n9⟩ := h9
      obtain ⟨xs, hx9, hz9, m', hm', w9⟩ := hNN _ _ n9
      refine wpAny_bind (wpAny_mono (mt_append (X := blk X N' scope cl s3.heap.objs.size s3 (upd H1 s2.heap.objs.size (.lst [])) fp) _ s9 σ8 H9 (.ref s2.heap.objs.size) [y] (.ref s2.heap.objs.size) [yv] (fun _ H' => W (i + 1) m' H') I9 rfl (.cons r9 .nil) ⟨_, xs, y, rfl, rfl, hx9, hz9, w9⟩) (fun _ s10 h10 => ?_) fun _ _ z => z.elim)
      obtain ⟨_, H10, I10, _, w10⟩ := h10
      refine wpAny_pure (wpAny_pure ⟨rfl, m', hm', i + 1, σ8, H10, I10.unpinned, ?_, T.keep _ _ _ st7 fun b hb o e => (I10.pin (b, o) (List.mem_append_right _ (List.mem_append_right _ (mem_pinsAt hb e)))).1, fun b hb => ?_, w10⟩)
      · exact kp8.get
      · obtain ⟨o, e, d⟩ := T.obj _ _ st7 b hb
        exact (I10.pin (b, o) (List.mem_append_right _ (List.mem_append_right _ (mem_pinsAt hb e)))).2.1
  have e5 : s3.heap.objs.size = (s2.heap.push { cls := .type "list", data := .seq ([] : List Value).toArray }).objs.size := by rw [e3]
  rw [e5] at loop
  exact codeAny_compStart_list (loop _ rfl) (T.self X.A 0 _ _ _ st3 (loop _ rfl))
end
end L2

/-! MY RULES: a method by the object's own class; data (ints, texts, tuples, lists within one another) and their ==; texts; comprehensions over lists and tuples. -/
namespace L2
open PySem PySem.Spec PyProof.Rows
/-! ### o.m(..), the class and the method found where the object stands -/
section
variable {X : Cx} {m : Str} {pos apos : Pos} {e o : Expr} {es : List Expr} {ta : TE} {t : TA}
end
/-! ### data -/
mutual
inductive Rep (H : Hp) : V → PyData → Prop
  | non : Rep H .non .none
  | bl (b : Bool) : Rep H (.bl b) (.bool b)
  | int (i : Int) : Rep H (.int i) (.int i)
  | str (x : Str) : Rep H (.str x) (.str x)
  | lst {p : Addr} {xs : List V} {ds : List PyData} : H p = some (.lst xs) → Reps H xs ds → Rep H (.ref p) (.list ds)
  | tup {p : Addr} {xs : List V} {ds : List PyData} : H p = some (.tup xs) → Reps H xs ds → Rep H (.ref p) (.tuple ds)
inductive Reps (H : Hp) : List V → List PyData → Prop
  | nil : Reps H [] []
  | cons {v : V} {vs : List V} {d : PyData} {ds : List PyData} : Rep H v d → Reps H vs ds → Reps H (v :: vs) (d :: ds)
end
mutual
theorem Rep.imp {H H' : Hp} (f : ∀ p o, H p = some o → H' p = some o) : ∀ {v : V} {d : PyData}, Rep H v d → Rep H' v d
  | _, _, .non => .non
  | _, _, .bl b => .bl b
  | _, _, .int i => .int i
  | _, _, .str x => .str x
  | _, _, .lst e r => .lst (f _ _ e) (Reps.imp f r)
  | _, _, .tup e r => .tup (f _ _ e) (Reps.imp f r)
theorem Reps.imp {H H' : Hp} (f : ∀ p o, H p = some o → H' p = some o) : ∀ {vs : List V} {ds : List PyData}, Reps H vs ds → Reps H' vs ds
  | _, _, .nil => .nil
  | _, _, .cons a r => .cons (Rep.imp f a) (Reps.imp f r)
end
theorem Rep.same {H H' : Hp} {v : V} {d : PyData} (h : Rep H v d) (s : Same H H') : Rep H' v d := h.imp s
theorem Reps.same {H H' : Hp} {v : List V} {d : List PyData} (h : Reps H v d) (s : Same H H') : Reps H' v d := h.imp s
theorem Reps.len {H : Hp} : ∀ {vs : List V} {ds : List PyData}, Reps H vs ds → vs.length = ds.length
  | _, _, .nil => rfl
  | _, _, .cons _ r => by rw [List.length_cons, List.length_cons, Reps.len r]
theorem Reps.snoc {H : Hp} {v : V} {d : PyData} (a : Rep H v d) : ∀ {vs : List V} {ds : List PyData}, Reps H vs ds → Reps H (vs ++ [v]) (ds ++ [d])
  | _, _, .nil => .cons a .nil
  | _, _, .cons b r => .cons b (Reps.snoc a r)
section
variable {X : Cx} {pins : List (Addr × Obj)} {σ : St} {H : Hp} {s : Shared}
mutual
theorem rep_reads (I : Inv X pins σ H s) : ∀ {v : V} {d : PyData} {u : Value}, Rep H v d → RelV v u → ∃ as, Reads s.heap u d as
  | _, _, u, .non, r => by cases (show u = Value.none from r); exact ⟨_, .none⟩
  | _, _, u, .bl b, r => by cases (show u = Value.bool b from r); exact ⟨_, .bool b⟩
  | _, _, u, .int i, r => by obtain ⟨t, q⟩ := (show ∃ t, u = Value.int i t from r); cases q; exact ⟨_, .int i t⟩
  | _, _, u, .str x, r => by obtain ⟨t, q⟩ := (show ∃ t, u = Value.str x t from r); cases q; exact ⟨_, .str x t⟩
  | _, _, u, @Rep.lst _ p xs ds e q, r => by
    cases (show u = Value.ref p from r)
    obtain ⟨_, its, n, rv, ho⟩ := (show ObjOk X.prog X.w H s.heap p (.lst xs) from I.hok p _ e)
    obtain ⟨as, z⟩ := reps_reads I q rv
    exact ⟨_, Reads.list ho rfl rfl (by simpa using z)⟩
  | _, _, u, @Rep.tup _ p xs ds e q, r => by
    cases (show u = Value.ref p from r)
    obtain ⟨_, its, rv, o, ho, hc, n, hd⟩ := (show ObjOk X.prog X.w H s.heap p (.tup xs) from I.hok p _ e)
    obtain ⟨as, z⟩ := reps_reads I q rv
    exact ⟨_, Reads.tuple ho hc hd (by simpa using z)⟩
theorem reps_reads (I : Inv X pins σ H s) : ∀ {vs : List V} {ds : List PyData} {us : List Value}, Reps H vs ds → Vals vs us → ∃ as, ReadsAll s.heap us ds as
  | _, _, _, .nil, .nil => ⟨_, .nil⟩
  | _, _, _, .cons a r, .cons q rv => by
    obtain ⟨as, z⟩ := rep_reads I a q
    obtain ⟨bs, y⟩ := reps_reads I r rv
    exact ⟨_, .cons z y⟩
end
end
/-- == and != of data -/
def rEqD (neg : Bool) : R2 := fun x y H Q => ∃ d e, Rep H x d ∧ Rep H y e ∧ SeqAt.shaped d = true ∧ SeqAt.shaped e = true ∧ Q (.bl (if neg then !PyData.eqv d e else PyData.eqv d e)) H
section
variable {X : Cx}
theorem op_eqD (hu : X.A.units + 64 < cLine) : OpR X (compareOp .Eq) (rEqD false) := by
  intro pins s σ H x y v u Q I rx ry h
  obtain ⟨d, e, h1, h2, s1, s2, q⟩ := h
  obtain ⟨as, r1⟩ := rep_reads I h1 rx
  obtain ⟨bs, r2⟩ := rep_reads I h2 ry
  exact eq_dataH r1 r2 s1 s2 hu ⟨.bl (PyData.eqv d e), H, I, rfl, q⟩
theorem op_neD (hu : X.A.units + 64 < cLine) : OpR X (compareOp .NotEq) (rEqD true) := by
  intro pins s σ H x y v u Q I rx ry h
  obtain ⟨d, e, h1, h2, s1, s2, q⟩ := h
  obtain ⟨as, r1⟩ := rep_reads I h1 rx
  obtain ⟨bs, r2⟩ := rep_reads I h2 ry
  exact ne_dataH r1 r2 s1 s2 hu ⟨.bl (!PyData.eqv d e), H, I, rfl, q⟩
/-! ### texts -/
end
/-! ### comprehensions -/
theorem clok_none {X : Cx} {scope : Scope} (hk : scope.kind = .function) (hn : ∀ y ∈ scope.names, y.2 ≠ .free ∧ y.2 ≠ .cell) (hl : ∀ y ∈ scope.names, y.2 = .local → scope.names.lookup y.1 = some .local) : ClOk X scope [] where
  eq := closureFor_none fun y hy => (hn y hy).1
  sub := fun x c h => by cases h
  has := fun x h => by
    exfalso
    have e : (relabel scope X.env).names = scope.names := map_eq_self fun y hy => by
      obtain ⟨n, k⟩ := y
      have z := (hn _ hy).1
      have z' : (k == NameKind.free) = false := by simpa using z
      simp [z']
    rw [e] at h
    have mem : ∀ {k : NameKind}, scope.names.lookup x = some k → (x, k) ∈ scope.names := fun {k} q => by
      generalize scope.names = l at q
      induction l with
      | nil => cases q
      | cons a r ih =>
        obtain ⟨n, k'⟩ := a
        rw [List.lookup_cons] at q
        split at q
        · rename_i hb
          have hb' : x = n := by simpa using hb
          cases q
          subst hb'
          exact .head _
        · exact .tail _ (ih q)
    rcases h with h | h
    · exact (hn _ (mem h)).2 rfl
    · exact (hn _ (mem h)).1 rfl
  kind := hk
  ncell := fun y hy => (hn y hy).2
  names := hl
theorem ixok_none {X : Cx} {N' : List Str} {scope : Scope} {n : Nat} (h : n = N'.length) : IxOk X N' scope (List.replicate n none) := ⟨by rw [List.length_replicate]; exact h, fun i j e => by
  rw [List.getElem?_replicate] at e
  split at e <;> cases e⟩
section
variable {K : PySem.W.Frag} {a D : Addr} {xs : List V} {g : TG} {te : TE} {Q : VK} {σ₀ : St} {H : Hp}
theorem comp_tup (Pv : Nat → List V → Hp → Prop) (h0 : Pv 0 [] (upd H D (.lst []))) (hl : ∀ i ys H, Pv i ys H → SqT K H a xs)
    (hs : ∀ i x ys H, xs[i]? = some x → Pv i ys H → g x σ₀ H fun σ4 H4 => StKeep σ₀ σ4 ∧ te σ4 H4 fun y H5 => H5 D = some (.lst ys) ∧ ys.length < sizeLine ∧ Pv (i + 1) (ys ++ [y]) (upd H5 D (.lst (ys ++ [y])))) (hd : ∀ ys H, Pv xs.length ys H → Q (.ref D) H) :
    ∃ W : Nat → Nat → Hp → Prop, (∃ m, W 0 m (upd H D (.lst []))) ∧ ∀ i m H2, W i m H2 →
      ((Itt K a).stop i H2 ∧ Q (.ref D) H2) ∨ ((Itt K a).go i H2 ∧ ∃ N : VK, (∀ y H5, N y H5 → ∃ xs, H5 D = some (.lst xs) ∧ xs.length < sizeLine ∧ ∃ m', m' < m ∧ W (i + 1) m' (upd H5 D (.lst (xs ++ [y])))) ∧
        ∀ x H3, (Itt K a).yld i H2 x H3 → g x σ₀ H3 fun σ4 H4 => StKeep σ₀ σ4 ∧ te σ4 H4 N) := by
  refine ⟨fun i m H => m = xs.length - i ∧ i ≤ xs.length ∧ ∃ ys, Pv i ys H, ⟨xs.length, by simp, Nat.zero_le _, [], h0⟩, ?_⟩
  rintro i m H2 ⟨rfl, hi, ys, p⟩
  have q := hl i ys H2 p
  by_cases hlt : i < xs.length
  · refine .inr ⟨⟨xs, xs[i], q, by simp [hlt]⟩, fun y H5 => H5 D = some (.lst ys) ∧ ys.length < sizeLine ∧ Pv (i + 1) (ys ++ [y]) (upd H5 D (.lst (ys ++ [y]))), fun y H5 n => ⟨ys, n.1, n.2.1, xs.length - (i + 1), by omega, rfl, hlt, _, n.2.2⟩, fun x H3 z => ?_⟩
    obtain ⟨e, z⟩ := z
    subst e
    exact hs i x ys _ (z xs q) p
  · have e : i = xs.length := by omega
    subst e
    exact .inl ⟨⟨xs, q, Nat.le_refl _⟩, hd ys H2 p⟩
end
end L2

/-! MY RULES: a comprehension that takes one name over; range(a, b, c). -/
namespace L2
open PySem PySem.Spec PyProof.Rows
theorem lookup_mem {x : Str} {k : NameKind} : ∀ {l : List (Str × NameKind)}, l.lookup x = some k → (x, k) ∈ l
  | [], q => by cases q
  | (n, k') :: r, q => by
    rw [List.lookup_cons] at q
    split at q
    · rename_i hb
      have hb' : x = n := by simpa using hb
      cases q
      subst hb'
      exact .head _
    · exact .tail _ (lookup_mem q)
theorem clok_one {X : Cx} {scope : Scope} {x : Str} {c : Addr} (he : closureFor scope X.env = pure [(x, c)]) (hc : X.env.cells.lookup x = some c) (hk : scope.kind = .function) (hn : ∀ y ∈ scope.names, y.2 ≠ .cell ∧ (y.2 = .free → y.1 = x))
    (hl : ∀ y ∈ scope.names, y.2 = .local → scope.names.lookup y.1 = some .local) : ClOk X scope [(x, c)] where
  eq := he
  sub := fun y d h => by
    rw [List.lookup_cons] at h
    split at h
    · rename_i hb
      have hb' : y = x := by simpa using hb
      cases h
      subst hb'
      exact hc
    · cases h
  has := fun y h => by
    have key : y = x := by
      have m : ∃ k, (y, k) ∈ (relabel scope X.env).names ∧ (k = .cell ∨ k = .free) := h.elim (fun z => ⟨_, lookup_mem z, .inl rfl⟩) fun z => ⟨_, lookup_mem z, .inr rfl⟩
      obtain ⟨k, hm, hk⟩ := m
      obtain ⟨⟨n, k0⟩, h0, e⟩ := List.mem_map.mp hm
      dsimp only at e
      by_cases hf : k0 = .free
      · have en : n = y := by
          split at e
          · exact congrArg Prod.fst e
          · exact congrArg Prod.fst e
        rw [← en]
        exact (hn _ h0).2 hf
      · have hb : (k0 == NameKind.free) = false := by simpa using hf
        simp only [hb, Bool.false_and, Bool.false_eq_true, if_false] at e
        have e2 : k0 = k := congrArg Prod.snd e
        subst e2
        rcases hk with hk | hk
        · exact absurd hk (hn _ h0).1
        · exact absurd hk hf
    subst key
    exact ⟨c, by simp [List.lookup_cons]⟩
  kind := hk
  ncell := fun y hy => (hn y hy).1
  names := hl
theorem ixok_last {X : Cx} {N0 : List Str} {x : Str} {scope : Scope} {j : Nat} (hN : X.N[j]? = some x) (h1 : X.env.scope.names.lookup x = some .cell ∨ X.env.scope.names.lookup x = some .free)
    (h2 : (relabel scope X.env).names.lookup x = some .cell ∨ (relabel scope X.env).names.lookup x = some .free) : IxOk X (N0 ++ [x]) scope (List.replicate N0.length none ++ [some j]) := by
  refine ⟨by simp, fun i k e => ?_⟩
  by_cases hi : i < N0.length
  · rw [List.getElem?_append_left (by simpa using hi), List.getElem?_replicate] at e
    split at e <;> cases e
  · have hi' : i = N0.length := by
      have := (List.getElem?_eq_some_iff.mp e).1
      simp at this
      omega
    subst hi'
    rw [List.getElem?_append_right (by simp)] at e
    have ek : j = k := by simpa using e
    subst ek
    exact ⟨x, by simp, hN, h1, h2⟩
/-! ### range(a, b, c) -/
end L2

/-! MY RULES: a part of the heap; data in a part; lookups of attributes; what is walked may be a list or a tuple. -/
set_option linter.all false
namespace L2
open PySem PySem.Spec PyProof.Rows
/-! ### heaps -/
theorem same_fresh {H H' : Hp} {l : Addr} {o : HO} (s : Same H H') (hl : H l = none) : Same H (upd H' l o) := fun b u e => by
  rw [upd_ne (ne_of_none e hl)]
  exact s b u e
theorem same_new {H : Hp} {l : Addr} {o : HO} (hl : H l = none) : Same H (upd H l o) := same_fresh (Same.refl H) hl
theorem line_le {n : Nat} (h : n ≤ 1000000) : n ≤ sizeLine := by rw [sizeLine_eq]; omega
theorem line_lt {n : Nat} (h : n ≤ 1000000) : n < sizeLine := by rw [sizeLine_eq]; omega
/-! ### data -/
section
variable {G : Hp} {v : V} {vs : List V} {d : PyData} {ds : List PyData}
end
theorem Reps.get2 {H : Hp} : ∀ {vs : List V} {ds : List PyData} {i : Nat} {v : V}, Reps H vs ds → vs[i]? = some v → ∃ d, ds[i]? = some d ∧ Rep H v d
  | _, _, _, _, .nil, e => by simp at e
  | _, _, 0, _, .cons a _, e => by simp at e; subst e; exact ⟨_, rfl, a⟩
  | _, _, i + 1, v, .cons _ r, e => by
    obtain ⟨d, h1, h2⟩ := Reps.get2 (i := i) (v := v) r (by simpa using e)
    exact ⟨d, by simpa using h1, h2⟩
/-! ### attributes -/
/-! ### a test that is known -/
theorem iteNo {c A B : Prop} [Decidable c] (hc : ¬ c) (h : B) : if decide c = true then A else B := by
  rw [decide_eq_false hc]
  exact iteF h
theorem iteYes {c A B : Prop} [Decidable c] (hc : c) (h : A) : if decide c = true then A else B := by
  rw [decide_eq_true hc]
  exact iteT h
theorem iteD {c A B : Prop} [Decidable c] (h1 : c → A) (h2 : ¬ c → B) : if decide c = true then A else B :=
  ite2 (fun h => h1 (of_decide_eq_true h)) (fun h => h2 fun hc => h (decide_eq_true hc))
theorem iteND {c A B : Prop} [Decidable c] (h1 : ¬ c → A) (h2 : c → B) : if (!decide c) = true then A else B :=
  ite2 (fun h => h1 fun hc => by rw [decide_eq_true hc] at h; cases h) (fun h => h2 (by
    by_cases hc : c
    · exact hc
    · rw [decide_eq_false hc] at h; exact absurd rfl h))
/-! ### a list or a tuple is walked -/
section
variable {X : Cx}
end
/-! ### atI -/
theorem atI_ok {α : Type} {xs : List α} {i : Int} (h0 : 0 ≤ i) (h1 : i < xs.length) : ∃ v, xs[i.toNat]? = some v ∧ atI xs i = some v := by
  obtain ⟨n, rfl⟩ := Int.eq_ofNat_of_zero_le h0
  have hn : n < xs.length := by omega
  exact ⟨xs[n], by simp [hn], atI_nat (by simp [hn])⟩
theorem at_mapV {α : Type} {f : α → V} {xs : List α} {i : Int} (h0 : 0 ≤ i) (h1 : i < xs.length) : ∃ x, xs[i.toNat]? = some x ∧ atI (xs.map f) i = some (f x) := by
  obtain ⟨n, rfl⟩ := Int.eq_ofNat_of_zero_le h0
  have hn : n < xs.length := by omega
  exact ⟨xs[n], by simp [hn], atI_nat (by simp [hn])⟩
theorem atI_neg1 {α : Type} {xs : List α} (h : 0 < xs.length) : ∃ v, xs[xs.length - 1]? = some v ∧ atI xs (-1) = some v := by
  have hl : xs.length - 1 < xs.length := by omega
  refine ⟨xs[xs.length - 1], by simp [hl], ?_⟩
  have e : ixN xs.length (-1) = some (xs.length - 1) := by
    unfold ixN
    rw [if_neg (by decide), if_pos (by omega)]
    congr 1
    omega
  unfold atI
  rw [e]
  simp [hl]
theorem atI_neg {α : Type} {xs : List α} {j : Nat} (h : j < xs.length) : ∃ v, xs[xs.length - 1 - j]? = some v ∧ atI xs (-1 - (j : Int)) = some v := by
  have hl : xs.length - 1 - j < xs.length := by omega
  refine ⟨xs[xs.length - 1 - j], by simp [hl], ?_⟩
  have e : ixN xs.length (-1 - (j : Int)) = some (xs.length - 1 - j) := by
    unfold ixN
    rw [if_neg (by omega), if_pos (by omega)]
    congr 1
    omega
  unfold atI
  rw [e]
  simp [hl]
/-! ### comprehensions: the end is said of the heap alone -/
section
variable {K : PySem.W.Frag} {a D : Addr} {xs : List V} {g : TG} {te : TE} {QD : Hp → Prop} {σ₀ : St} {H : Hp}
theorem comp_tupQ (Pv : Nat → List V → Hp → Prop) (h0 : Pv 0 [] (upd H D (.lst []))) (hl : ∀ i ys H, Pv i ys H → SqT K H a xs)
    (hs : ∀ i x ys H, xs[i]? = some x → Pv i ys H → g x σ₀ H fun σ4 H4 => StKeep σ₀ σ4 ∧ te σ4 H4 fun y H5 => H5 D = some (.lst ys) ∧ ys.length < sizeLine ∧ Pv (i + 1) (ys ++ [y]) (upd H5 D (.lst (ys ++ [y])))) (hd : ∀ ys H, Pv xs.length ys H → QD H) :
    ∃ W : Nat → Nat → Hp → Prop, (∃ m, W 0 m (upd H D (.lst []))) ∧ ∀ i m H2, W i m H2 →
      ((Itt K a).stop i H2 ∧ QD H2) ∨ ((Itt K a).go i H2 ∧ ∃ N : VK, (∀ y H5, N y H5 → ∃ xs, H5 D = some (.lst xs) ∧ xs.length < sizeLine ∧ ∃ m', m' < m ∧ W (i + 1) m' (upd H5 D (.lst (xs ++ [y])))) ∧
        ∀ x H3, (Itt K a).yld i H2 x H3 → g x σ₀ H3 fun σ4 H4 => StKeep σ₀ σ4 ∧ te σ4 H4 N) := comp_tup (Q := fun _ H => QD H) Pv h0 hl hs hd
end
/-! ### isinstance of an own class -/
theorem kit_false {K : PySem.W.Frag} {C D : Addr} (h0 : (Value.ref C == Value.ref D) = false) (h1 : PySem.W.isClsIn K D = true) (h2 : PySem.W.typeIn K (.ref D) = some (.type "type")) (h3 : PySem.W.mroIn K C (.ref D) = some false) : PySem.W.kitOne K (.ref C) (.ref D) = some false := by
  unfold PySem.W.kitOne
  rw [if_neg (by rw [h0]; exact Bool.false_ne_true)]
  show (if ((PySem.W.clsIn K D).isSome && PySem.W.typeIn K (.ref D) == some (.type "type")) = true then PySem.W.subIn K (.ref C) (.ref D) else none) = some false
  have h1' : (PySem.W.clsIn K D).isSome = true := h1
  rw [if_pos (by rw [h1', h2]; rfl)]
  exact h3
end L2

/-! MY RULES: a list comprehension with one test. -/
set_option linter.all false
namespace L2
open PySem PySem.Spec PyProof.Rows
section
variable {X : Cx}
/-- [elt for tg in iter if c] -/
def tCompIf (ix : List (Option Nat)) (wi : TI) (g : TG) (tc : TT) (te : TE) : TE := fun σ H Q => wi σ H fun J H1 => ∀ D, H1 D = none → ∃ W : Nat → Nat → Hp → Prop, (∃ m, W 0 m (upd H1 D (.lst []))) ∧ ∀ i m H2, W i m H2 →
  (J.stop i H2 ∧ Q (.ref D) H2) ∨ (J.go i H2 ∧ ∃ (N : VK) (M : Hp → Prop), (∀ y H5, N y H5 → ∃ xs, H5 D = some (.lst xs) ∧ xs.length < sizeLine ∧ ∃ m', m' < m ∧ W (i + 1) m' (upd H5 D (.lst (xs ++ [y])))) ∧ (∀ H5, M H5 → ∃ m', m' < m ∧ W (i + 1) m' H5) ∧ ∀ x H3, J.yld i H2 x H3 → g x (blkSt ix σ) H3 fun σ4 H4 => StKeep (blkSt ix σ) σ4 ∧ tc σ4 H4 fun b H5 => if b = true then te σ4 H5 N else M H5)
theorem pe_compIf {elt iter tg c : Expr} {scope : Scope} {pos : Pos} {N' : List Str} {ix : List (Option Nat)} {cl : List (Str × Addr)} {wi : TI} {g : TG} {tc : TT} {te : TE} (hc : X.calm = true) (ck : ClOk X scope cl) (io : IxOk X N' scope ix) (hi : PI X tg iter wi)
    (hg : ∀ C s₀ H₀ fp, PG (blk X N' scope cl C s₀ H₀ fp) tg g) (ht : ∀ C s₀ H₀ fp, PT (blk X N' scope cl C s₀ H₀ fp) c tc) (he : ∀ C s₀ H₀ fp, PE (blk X N' scope cl C s₀ H₀ fp) elt te) (hs : ∀ x, foldedSetIterable iter X.env x = pure x := by intro _; rfl) :
    PE X (.ListComp elt [⟨tg, iter, [c], 0⟩] scope pos) (tCompIf ix wi g tc te) := by
  intro pins s σ H Q I h
  rw [eval_ListComp]
  refine wpAny_comprehension_free (use := none) rfl hs ck.eq ck.kind ck.names (thn (hi pins s σ H _ I h) fun xv s1 h1 => thn h1 fun itv s2 h2 => ?_)
  obtain ⟨it, fp, tn, J, H1, rfl, I1, T, st1, f1, R⟩ := h2
  -- the list
  refine wpAny_newObj_type ?_
  have hD : H1 s2.heap.objs.size = none := I1.hok.fresh (Nat.le_refl _)
  obtain ⟨W, ⟨m0, w0⟩, turn⟩ := R _ hD
  have hfD : ∀ b ∈ fp, b < s2.heap.objs.size := fun b hb => let ⟨o, e, _⟩ := T.obj _ _ st1 b hb; Heap.lt_size e
  have I2 : Inv X pins σ (upd H1 s2.heap.objs.size (.lst [])) { s2 with heap := s2.heap.push { cls := .type "list", data := .seq ([] : List Value).toArray }, toks := s2.toks } := I1.lnew (its := []) .nil (Nat.zero_le _)
  have f2 : ∀ b ∈ fp, FpOk X pins (upd H1 s2.heap.objs.size (.lst [])) b := fun b hb => ⟨by rw [upd_ne (Nat.ne_of_lt (hfD b hb))]; exact (f1 b hb).1, (f1 b hb).2⟩
  have lt2 : ∀ b ∈ fp, b < (s2.heap.push { cls := .type "list", data := .seq ([] : List Value).toArray }).objs.size := fun b hb => by rw [Heap.size_push]; exact Nat.lt_succ_of_lt (hfD b hb)
  -- the block's own dict
  refine wpAny_newFunctionEnv ck.ncell (by intro y hy; simp at hy) (fun h3 hns sb3 => ?_) ck.kind
  dsimp only at hns sb3 ⊢
  have k3 : ∀ b o, (s2.heap.push { cls := .type "list", data := .seq ([] : List Value).toArray }).get? b = some o → h3.get? b = some o := fun b o e => (sb3.2 b (Nat.ne_of_lt (Heap.lt_size e))).trans (Heap.get?_push_of_some _ e)
  generalize hs2 : ({ s2 with heap := s2.heap.push { cls := .type "list", data := .seq ([] : List Value).toArray }, toks := s2.toks } : Shared) = s3 at I2
  have e3 : s2.heap.push { cls := .type "list", data := .seq ([] : List Value).toArray } = s3.heap := by rw [← hs2]
  rw [e3] at hns k3 lt2
  have I3 := blk_start (N' := N') (ix := ix) I2 ck io f2 lt2 (h' := h3) (t' := s2.toks + ([] : List (Str × Value)).length) hns k3
  have e4 : ({ s3 with heap := h3, toks := s2.toks + ([] : List (Str × Value)).length } : Shared) = { s2 with heap := h3, toks := s2.toks + ([] : List (Str × Value)).length } := by rw [← hs2]
  rw [e4] at I3
  have st3 : tn 0 h3 := T.keep _ _ _ st1 fun b hb o e => k3 b o (by rw [← e3]; exact Heap.get?_push_of_some _ e)
  have loop : ∀ s4 : Shared, s4 = { s2 with heap := h3, toks := s2.toks + ([] : List (Str × Value)).length } →
      codeAny (model X.prog X.w) X.A (.compLoop (.ListComp elt [⟨tg, iter, [c], 0⟩] scope pos) 0 (.ref it) (.ref s2.heap.objs.size) (compEnvC scope cl s3.heap.objs.size X.env))
        (compPost (model X.prog X.w) X.A X.xe none (EP X pins σ Q) (.ref s2.heap.objs.size) s3.heap.objs.size) s4 := by
    rintro s4 rfl
    have stat : ∀ {H' : Hp}, (∀ b ∈ fp, H' b = none) → ∀ b ∈ fp, FpOk (blk X N' scope cl s3.heap.objs.size s3 (upd H1 s2.heap.objs.size (.lst [])) fp) [] H' b := fun hn b hb =>
      ⟨hn b hb, Nat.ne_of_lt (lt2 b hb), fun hs => I3.ok.exfs b hb hs, .inl hb, fun x c e => (f2 b hb).2.2.2.2.1 x c (ck.sub x c e), (fun p hp => by cases hp)⟩
    refine codeAny_loop rfl (fun n s' => ∃ i σ' H', Inv (blk X N' scope cl s3.heap.objs.size s3 (upd H1 s2.heap.objs.size (.lst [])) fp) [] σ' H' s' ∧ (∀ (j : Nat) v, (blkSt ix σ)[j]? = some (some v) → σ'[j]? = some (some v)) ∧ tn i s'.heap ∧ (∀ b ∈ fp, H' b = none) ∧ W i n H')
      (fun n s' hI => ?_) m0 ⟨0, _, _, I3, fun _ _ z => z, st3, fun b hb => (f2 b hb).1, w0⟩
    obtain ⟨i, σ5, H5, I5, wk, st5, fr5, w5⟩ := hI
    show wpAny _ _ ((compTurn (.ListComp elt [⟨tg, iter, [c], 0⟩] scope pos) 0 (.ref it) (.ref s2.heap.objs.size) (compEnvC scope cl s3.heap.objs.size X.env)).onRaise (fun x => do noteFrame x (compEnvC scope cl s3.heap.objs.size X.env); theTreesLotGoes x)) _ _ s'
    refine wpAny_noted ?_
    rw [compTurn_list]
    refine wpAny_bind (wpAny_standAt ?_)
    rcases turn i n H5 w5 with ⟨stop, qn⟩ | ⟨go, NN, MM, hNN, hMM, step⟩
    · refine wpAny_bind (wpAny_mono (T.done (blk X N' scope cl s3.heap.objs.size s3 (upd H1 s2.heap.objs.size (.lst [])) fp) rfl rfl rfl hc i [] s' σ5 H5 (fun _ _ => False) I5 (stat fr5) st5 stop) (fun r s6 h6 => ?_) fun _ _ z => z.elim)
      obtain ⟨rfl, I6⟩ := h6
      refine wpAny_pure ?_
      obtain ⟨mm, hm, _⟩ := id I6.loc
      exact ⟨mm, hm, fun h' sb => ⟨.ref s2.heap.objs.size, H5, blk_end I2 f2 I6 sb, rfl, qn⟩⟩
    · refine wpAny_bind (wpAny_mono (T.item (blk X N' scope cl s3.heap.objs.size s3 (upd H1 s2.heap.objs.size (.lst [])) fp) rfl rfl rfl hc i [] s' σ5 H5 (fun _ _ => False) I5 (stat fr5) st5 go) (fun r s6 h6 => ?_) fun _ _ z => z.elim)
      obtain ⟨u, rfl, h6⟩ := h6
      refine wpAny_bind (wpAny_mono h6 (fun _ s7 h7 => ?_) fun _ _ z => z.elim)
      obtain ⟨x, H7, I7, r7, y7, st7, fr7⟩ := h7
      have I7w : Inv (blk X N' scope cl s3.heap.objs.size s3 (upd H1 s2.heap.objs.size (.lst [])) fp) [] (blkSt ix σ) H7 s7 := I7.weak (by rw [I7.len]; unfold blkSt; rw [List.length_map]; exact io.1) wk
      have I7p := I7w.pinned (stat fr7) (T.obj _ _ st7)
      refine wpAny_bind (wpAny_mono (hg _ _ _ _ _ s7 _ H7 x u _ I7p r7 (step x H7 y7)) (fun _ s8 h8 => ?_) fun _ _ z => z.elim)
      obtain ⟨σ8, H8, I8, kp8, q8⟩ := h8
      have back : ∀ {s10 : Shared} {σ10 : St} {H10 : Hp} {m' : Nat}, Inv (blk X N' scope cl s3.heap.objs.size s3 (upd H1 s2.heap.objs.size (.lst [])) fp) ([] ++ pinsAt fp s7.heap) σ10 H10 s10 → (∀ (j : Nat) v, (blkSt ix σ)[j]? = some (some v) → σ10[j]? = some (some v)) → W (i + 1) m' H10 →
          ∃ i σ' H', Inv (blk X N' scope cl s3.heap.objs.size s3 (upd H1 s2.heap.objs.size (.lst [])) fp) [] σ' H' s10 ∧ (∀ (j : Nat) v, (blkSt ix σ)[j]? = some (some v) → σ'[j]? = some (some v)) ∧ tn i s10.heap ∧ (∀ b ∈ fp, H' b = none) ∧ W i m' H' := by
        intro s10 σ10 H10 m' I10 kk w10
        refine ⟨i + 1, σ10, H10, I10.unpinned, kk, T.keep _ _ _ st7 fun b hb o e => (I10.pin (b, o) (List.mem_append_right _ (List.mem_append_right _ (mem_pinsAt hb e)))).1, fun b hb => ?_, w10⟩
        obtain ⟨o, e, d⟩ := T.obj _ _ st7 b hb
        exact (I10.pin (b, o) (List.mem_append_right _ (List.mem_append_right _ (mem_pinsAt hb e)))).2.1
      refine wpAny_bind (wpAny_mono (wpAny_tests_one (ht _ _ _ _ _ s8 σ8 H8 _ I8 q8)) (fun ok s9' h9' => ?_) fun _ _ z => z.elim)
      obtain ⟨H9', I9', q9'⟩ := h9'
      cases ok with
      | false =>
        have q9'' : MM H9' := by simpa using q9'
        obtain ⟨m', hm', w9⟩ := hMM _ q9''
        exact wpAny_bind (wpAny_pure (wpAny_pure ⟨rfl, m', hm', back I9' kp8.get w9⟩))
      | true =>
        have q9'' : te σ8 H9' NN := by simpa using q9'
        refine wpAny_bind (wpAny_bind (wpAny_mono (he _ _ _ _ _ s9' σ8 H9' _ I9' q9'') (fun yv s9 h9 => ?_) fun _ _ z => z.elim))
        obtain ⟨y, H9, I9, r9, n9⟩ := h9
        obtain ⟨xs, hx9, hz9, m', hm', w9⟩ := hNN _ _ n9
        refine wpAny_bind (wpAny_mono (mt_append (X := blk X N' scope cl s3.heap.objs.size s3 (upd H1 s2.heap.objs.size (.lst [])) fp) _ s9 σ8 H9 (.ref s2.heap.objs.size) [y] (.ref s2.heap.objs.size) [yv] (fun _ H' => W (i + 1) m' H') I9 rfl (.cons r9 .nil) ⟨_, xs, y, rfl, rfl, hx9, hz9, w9⟩) (fun _ s10 h10 => ?_) fun _ _ z => z.elim)
        obtain ⟨_, H10, I10, _, w10⟩ := h10
        exact wpAny_pure (wpAny_pure ⟨rfl, m', hm', back I10 kp8.get w10⟩)
  have e5 : s3.heap.objs.size = (s2.heap.push { cls := .type "list", data := .seq ([] : List Value).toArray }).objs.size := by rw [e3]
  rw [e5] at loop
  exact codeAny_compStart_list (loop _ rfl) (T.self X.A 0 _ _ _ st3 (loop _ rfl))
end
section
variable {K : PySem.W.Frag} {a D : Addr} {xs : List V} {g : TG} {tc : TT} {te : TE} {QD : Hp → Prop} {σ₀ : St} {H : Hp}
theorem compIf_list (Pv : Nat → List V → Hp → Prop) (h0 : Pv 0 [] (upd H D (.lst []))) (hl : ∀ i ys H, Pv i ys H → SqL K H a xs)
    (hs : ∀ i x ys H, xs[i]? = some x → Pv i ys H → g x σ₀ H fun σ4 H4 => StKeep σ₀ σ4 ∧ tc σ4 H4 fun b H5 => if b = true then te σ4 H5 (fun y H5 => H5 D = some (.lst ys) ∧ ys.length < sizeLine ∧ Pv (i + 1) (ys ++ [y]) (upd H5 D (.lst (ys ++ [y])))) else Pv (i + 1) ys H5) (hd : ∀ ys H, Pv xs.length ys H → QD H) :
    ∃ W : Nat → Nat → Hp → Prop, (∃ m, W 0 m (upd H D (.lst []))) ∧ ∀ i m H2, W i m H2 →
      ((Itl K a).stop i H2 ∧ QD H2) ∨ ((Itl K a).go i H2 ∧ ∃ (N : VK) (M : Hp → Prop), (∀ y H5, N y H5 → ∃ xs, H5 D = some (.lst xs) ∧ xs.length < sizeLine ∧ ∃ m', m' < m ∧ W (i + 1) m' (upd H5 D (.lst (xs ++ [y])))) ∧ (∀ H5, M H5 → ∃ m', m' < m ∧ W (i + 1) m' H5) ∧
        ∀ x H3, (Itl K a).yld i H2 x H3 → g x σ₀ H3 fun σ4 H4 => StKeep σ₀ σ4 ∧ tc σ4 H4 fun b H5 => if b = true then te σ4 H5 N else M H5) := by
  refine ⟨fun i m H => m = xs.length - i ∧ i ≤ xs.length ∧ ∃ ys, Pv i ys H, ⟨xs.length, by simp, Nat.zero_le _, [], h0⟩, ?_⟩
  rintro i m H2 ⟨rfl, hi, ys, p⟩
  have q := hl i ys H2 p
  by_cases hlt : i < xs.length
  · refine .inr ⟨⟨xs, xs[i], q, by simp [hlt]⟩, fun y H5 => H5 D = some (.lst ys) ∧ ys.length < sizeLine ∧ Pv (i + 1) (ys ++ [y]) (upd H5 D (.lst (ys ++ [y]))), fun H5 => Pv (i + 1) ys H5, fun y H5 n => ⟨ys, n.1, n.2.1, xs.length - (i + 1), by omega, rfl, hlt, _, n.2.2⟩, fun H5 n => ⟨xs.length - (i + 1), by omega, rfl, hlt, _, n⟩, fun x H3 z => ?_⟩
    obtain ⟨e, z⟩ := z
    subst e
    exact hs i x ys _ (z xs q) p
  · have e : i = xs.length := by omega
    subst e
    exact .inl ⟨⟨xs, q, Nat.le_refl _⟩, hd ys H2 p⟩
end
end L2

/-! MY RULES: a comprehension that takes several names over, dict(list of pairs), == and != of dicts that hold the same data. -/
set_option linter.all false
set_option maxRecDepth 100000
namespace L2
open PySem PySem.Spec PyProof.Rows
section
variable {prog : Program} {w : World} {K : Type} [DecidableEq K] {knd : KeyKind prog w K} {A : Around} {R : Result → Shared → Prop} {I l d : Addr} {items : Array Value} {rs : List (K × Value)} {h₀ : Heap} {g : Array GenState} {dr : Drawn} {os : OsState}
end
end L2
namespace L2
open PySem PySem.Spec PyProof.Rows
/-! ### a comprehension that takes several names over -/
def CellsIn (env : Env) : List (Str × Addr) → Prop
  | [] => True
  | p :: r => env.cells.lookup p.1 = some p.2 ∧ CellsIn env r
theorem CellsIn.get {env : Env} : ∀ {cl : List (Str × Addr)}, CellsIn env cl → ∀ {x : Str} {c : Addr}, cl.lookup x = some c → env.cells.lookup x = some c
  | [], _, _, _, h => by cases h
  | (y, d) :: r, h, x, c, e => by
    rw [List.lookup_cons] at e
    split at e
    · rename_i hb
      have hb' : x = y := by simpa using hb
      cases e
      subst hb'
      exact h.1
    · exact CellsIn.get h.2 e
theorem lookup_of_mem {x : Str} : ∀ {cl : List (Str × Addr)}, x ∈ cl.map (·.1) → ∃ c, cl.lookup x = some c
  | [], h => by cases h
  | (y, d) :: r, h => by
    rw [List.lookup_cons]
    cases hb : (x == y) with
    | true => exact ⟨d, rfl⟩
    | false =>
      have hne : x ≠ y := by simpa using hb
      rcases List.mem_cons.mp h with e | e
      · exact absurd e hne
      · exact lookup_of_mem e
theorem clok_many {X : Cx} {scope : Scope} {cl : List (Str × Addr)} {xs : List Str} (he : closureFor scope X.env = pure cl) (hc : CellsIn X.env cl) (hx : cl.map (·.1) = xs) (hk : scope.kind = .function) (hn : ∀ y ∈ scope.names, y.2 ≠ .cell ∧ (y.2 = .free → y.1 ∈ xs))
    (hl : ∀ y ∈ scope.names, y.2 = .local → scope.names.lookup y.1 = some .local) : ClOk X scope cl where
  eq := he
  sub := fun y d h => hc.get h
  has := fun y h => by
    have key : y ∈ xs := by
      have m : ∃ k, (y, k) ∈ (relabel scope X.env).names ∧ (k = .cell ∨ k = .free) := h.elim (fun z => ⟨_, lookup_mem z, .inl rfl⟩) fun z => ⟨_, lookup_mem z, .inr rfl⟩
      obtain ⟨k, hm, hk⟩ := m
      obtain ⟨⟨n, k0⟩, h0, e⟩ := List.mem_map.mp hm
      dsimp only at e
      by_cases hf : k0 = .free
      · have en : n = y := by
          split at e
          · exact congrArg Prod.fst e
          · exact congrArg Prod.fst e
        rw [← en]
        exact (hn _ h0).2 hf
      · have hb : (k0 == NameKind.free) = false := by simpa using hf
        simp only [hb, Bool.false_and, Bool.false_eq_true, if_false] at e
        have e2 : k0 = k := congrArg Prod.snd e
        subst e2
        rcases hk with hk | hk
        · exact absurd hk (hn _ h0).1
        · exact absurd hk hf
    rw [← hx] at key
    exact lookup_of_mem key
  kind := hk
  ncell := fun y hy => (hn y hy).1
  names := hl
def FreeOk (X : Cx) (scope : Scope) : List Str → List Nat → Prop
  | [], [] => True
  | x :: xs, j :: js => (X.N[j]? = some x ∧ (X.env.scope.names.lookup x = some .cell ∨ X.env.scope.names.lookup x = some .free) ∧ ((relabel scope X.env).names.lookup x = some .cell ∨ (relabel scope X.env).names.lookup x = some .free)) ∧ FreeOk X scope xs js
  | _, _ => False
theorem FreeOk.get {X : Cx} {scope : Scope} : ∀ {xs : List Str} {js : List Nat}, FreeOk X scope xs js → xs.length = js.length ∧ ∀ (i j : Nat), js[i]? = some j → ∃ x, xs[i]? = some x ∧ X.N[j]? = some x ∧ (X.env.scope.names.lookup x = some .cell ∨ X.env.scope.names.lookup x = some .free) ∧ ((relabel scope X.env).names.lookup x = some .cell ∨ (relabel scope X.env).names.lookup x = some .free)
  | [], [], _ => ⟨rfl, fun i j e => by simp at e⟩
  | x :: xs, j :: js, h => by
    obtain ⟨e, f⟩ := FreeOk.get h.2
    refine ⟨by simp [e], fun i k ek => ?_⟩
    cases i with
    | zero => simp at ek; subst ek; exact ⟨x, rfl, h.1⟩
    | succ i => exact f i k (by simpa using ek)
  | [], _ :: _, h => h.elim
  | _ :: _, [], h => h.elim
theorem ixok_many {X : Cx} {N0 xs : List Str} {js : List Nat} {scope : Scope} (h : FreeOk X scope xs js) : IxOk X (N0 ++ xs) scope (List.replicate N0.length none ++ js.map some) := by
  obtain ⟨hl, hf⟩ := h.get
  refine ⟨by simp [hl], fun i k e => ?_⟩
  by_cases hi : i < N0.length
  · rw [List.getElem?_append_left (by simpa using hi), List.getElem?_replicate] at e
    split at e <;> cases e
  · rw [List.getElem?_append_right (by simpa using hi), List.length_replicate, List.getElem?_map] at e
    obtain ⟨j, ej, ek⟩ := Option.map_eq_some_iff.mp e
    cases ek
    obtain ⟨x, h1, h2, h3, h4⟩ := hf _ _ ej
    exact ⟨x, by rw [List.getElem?_append_right (by omega)]; exact h1, h2, h3, h4⟩
/-! ### dict(l), l a list of pairs -/
section
variable {X : Cx}
/-! ### two dicts that hold the same data -/
end
end L2

/-! MY RULES: zip(list, list), a comprehension over anything, promises joined, dicts laid pair by pair. -/
set_option linter.all false
set_option maxRecDepth 100000
namespace L2
open PySem PySem.Spec PyProof.Rows
/-! ### zip(list, tuple) is made -/
/-! ### a comprehension over anything -/
section
variable {D : Addr} {g : TG} {te : TE} {QD : Hp → Prop} {σ₀ : St} {H : Hp}
theorem comp_genQ {J : It} (n : Nat) (Pv : Nat → List V → Hp → Prop) (h0 : Pv 0 [] (upd H D (.lst []))) (hgo : ∀ i ys H, i < n → Pv i ys H → J.go i H) (hst : ∀ ys H, Pv n ys H → J.stop n H)
    (hs : ∀ i ys H, i < n → Pv i ys H → ∀ x H3, J.yld i H x H3 → g x σ₀ H3 fun σ4 H4 => StKeep σ₀ σ4 ∧ te σ4 H4 fun y H5 => H5 D = some (.lst ys) ∧ ys.length < sizeLine ∧ Pv (i + 1) (ys ++ [y]) (upd H5 D (.lst (ys ++ [y])))) (hd : ∀ ys H, Pv n ys H → QD H) :
    ∃ W : Nat → Nat → Hp → Prop, (∃ m, W 0 m (upd H D (.lst []))) ∧ ∀ i m H2, W i m H2 →
      (J.stop i H2 ∧ QD H2) ∨ (J.go i H2 ∧ ∃ N : VK, (∀ y H5, N y H5 → ∃ xs, H5 D = some (.lst xs) ∧ xs.length < sizeLine ∧ ∃ m', m' < m ∧ W (i + 1) m' (upd H5 D (.lst (xs ++ [y])))) ∧
        ∀ x H3, J.yld i H2 x H3 → g x σ₀ H3 fun σ4 H4 => StKeep σ₀ σ4 ∧ te σ4 H4 N) := by
  refine ⟨fun i m H => m = n - i ∧ i ≤ n ∧ ∃ ys, Pv i ys H, ⟨n, by simp, Nat.zero_le _, [], h0⟩, ?_⟩
  rintro i m H2 ⟨rfl, hi, ys, p⟩
  by_cases hlt : i < n
  · exact .inr ⟨hgo i ys H2 hlt p, fun y H5 => H5 D = some (.lst ys) ∧ ys.length < sizeLine ∧ Pv (i + 1) (ys ++ [y]) (upd H5 D (.lst (ys ++ [y]))), fun y H5 z => ⟨ys, z.1, z.2.1, n - (i + 1), by omega, rfl, hlt, _, z.2.2⟩, fun x H3 z => hs i ys H2 hlt p x H3 z⟩
  · have e : i = n := by omega
    subst e
    exact .inl ⟨hst ys H2 p, hd ys H2 p⟩
end
/-! ### within a comprehension: the rules by the text's own K -/
theorem ix_listK {X : Cx} {K : PySem.W.Frag} (h : X.K = K) : IxR X (rIxL K) := h ▸ ix_list
theorem ix_tupK {X : Cx} {K : PySem.W.Frag} (h : X.K = K) : IxR X (rIxT K) := h ▸ ix_tup
/-! ### own classes and built-in ones; promises joined -/
theorem isi_bt {K : PySem.W.Frag} {C : Addr} {U : String} {b : Bool} (h : PySem.W.mroIn K C (.type U) = some b) (hm : PySem.W.kitMeta U = true) : ∀ u, RelV (.ty U) u → PySem.W.kitOne K (.ref C) u = some b := by
  intro u z
  cases (show u = Value.type U from z)
  unfold PySem.W.kitOne
  rw [if_neg (show ¬ (Value.ref C == Value.type U) = true from Bool.false_ne_true)]
  show (if PySem.W.kitMeta U = true then PySem.W.subIn K (.ref C) (.type U) else none) = some b
  rw [if_pos hm]
  exact h
/-! ### dicts laid pair by pair -/
end L2

/-! MY RULES: name = [..], where the store is exchanged with the letting go of the comprehension's own names. -/
set_option linter.all false
set_option maxRecDepth 100000
namespace L2
open PySem PySem.Spec PyProof.Rows
section
variable {X : Cx}
theorem ps_setC {i₀ : Nat} {x₀ : Str} {pos₀ spos : Pos} {elt iter tg : Expr} {scope : Scope} {pos : Pos} {N' : List Str} {ix : List (Option Nat)} {cl : List (Str × Addr)} {wi : TI} {g : TG} {te : TE} (hN₀ : X.N.Nodup) (hi₀ : X.N[i₀]? = some x₀) (hx₀ : Loc X.env.scope x₀) (hc : X.calm = true) (ck : ClOk X scope cl) (io : IxOk X N' scope ix) (hi : PI X tg iter wi)
    (hg : ∀ C s₀ H₀ fp, PG (blk X N' scope cl C s₀ H₀ fp) tg g) (he : ∀ C s₀ H₀ fp, PE (blk X N' scope cl C s₀ H₀ fp) elt te) (hs : ∀ x, foldedSetIterable iter X.env x = pure x := by intro _; rfl)
    (hsw : swapsWith (.ListComp elt [⟨tg, iter, [], 0⟩] scope pos) (some (.Name x₀ pos₀)) spos.line X.env = pure true := by rfl) (hf₀ : X.fn x₀ = true ∨ X.env.scope.names.lookup x₀ = some .local := by first | exact .inl rfl | exact .inr rfl | assumption) :
    PS X (.Assign [.Name x₀ pos₀] (.ListComp elt [⟨tg, iter, [], 0⟩] scope pos) spos) (tAsg (tComp ix wi g te) (gName i₀)) := by
  intro pins s σ H D₀ I h
  rw [exec_Assign_Name_used _ _ _ _ hsw]
  refine wpAny_bind (wpAny_standAt (wpAny_bind ?_))
  show wpAny _ X.A (do let _ ← comprehension (.ListComp elt [⟨tg, iter, [], 0⟩] scope pos) scope X.env _ (newList []) false (eval iter X.env) (some (assign (.Name x₀ pos₀) X.env))) _ _ s
  refine wpAny_bind (wpAny_mono (wpAny_comprehension_free (use := some (assign (.Name x₀ pos₀) X.env)) (Q := fun _ s' => ∃ σ' H', Inv X pins σ' H' s' ∧ D₀.nx σ' H') rfl hs ck.eq ck.kind ck.names (thn (hi pins s σ H _ I h) fun xv s1 h1 => thn h1 fun itv s2 h2 => ?_)) (fun _ s' hq => wpAny_pure (wpAny_pure hq)) fun _ _ e => e)
  obtain ⟨it, fp, tn, J, H1, rfl, I1, T, st1, f1, R⟩ := h2
  -- the list
  refine wpAny_newObj_type ?_
  have hD : H1 s2.heap.objs.size = none := I1.hok.fresh (Nat.le_refl _)
  obtain ⟨W, ⟨m0, w0⟩, turn⟩ := R _ hD
  have hfD : ∀ b ∈ fp, b < s2.heap.objs.size := fun b hb => let ⟨o, e, _⟩ := T.obj _ _ st1 b hb; Heap.lt_size e
  have I2 : Inv X pins σ (upd H1 s2.heap.objs.size (.lst [])) { s2 with heap := s2.heap.push { cls := .type "list", data := .seq ([] : List Value).toArray }, toks := s2.toks } := I1.lnew (its := []) .nil (Nat.zero_le _)
  have f2 : ∀ b ∈ fp, FpOk X pins (upd H1 s2.heap.objs.size (.lst [])) b := fun b hb => ⟨by rw [upd_ne (Nat.ne_of_lt (hfD b hb))]; exact (f1 b hb).1, (f1 b hb).2⟩
  have lt2 : ∀ b ∈ fp, b < (s2.heap.push { cls := .type "list", data := .seq ([] : List Value).toArray }).objs.size := fun b hb => by rw [Heap.size_push]; exact Nat.lt_succ_of_lt (hfD b hb)
  -- the block's own dict
  refine wpAny_newFunctionEnv ck.ncell (by intro y hy; simp at hy) (fun h3 hns sb3 => ?_) ck.kind
  dsimp only at hns sb3 ⊢
  have k3 : ∀ b o, (s2.heap.push { cls := .type "list", data := .seq ([] : List Value).toArray }).get? b = some o → h3.get? b = some o := fun b o e => (sb3.2 b (Nat.ne_of_lt (Heap.lt_size e))).trans (Heap.get?_push_of_some _ e)
  generalize hs2 : ({ s2 with heap := s2.heap.push { cls := .type "list", data := .seq ([] : List Value).toArray }, toks := s2.toks } : Shared) = s3 at I2
  have e3 : s2.heap.push { cls := .type "list", data := .seq ([] : List Value).toArray } = s3.heap := by rw [← hs2]
  rw [e3] at hns k3 lt2
  have I3 := blk_start (N' := N') (ix := ix) I2 ck io f2 lt2 (h' := h3) (t' := s2.toks + ([] : List (Str × Value)).length) hns k3
  have e4 : ({ s3 with heap := h3, toks := s2.toks + ([] : List (Str × Value)).length } : Shared) = { s2 with heap := h3, toks := s2.toks + ([] : List (Str × Value)).length } := by rw [← hs2]
  rw [e4] at I3
  have st3 : tn 0 h3 := T.keep _ _ _ st1 fun b hb o e => k3 b o (by rw [← e3]; exact Heap.get?_push_of_some _ e)
  have loop : ∀ s4 : Shared, s4 = { s2 with heap := h3, toks := s2.toks + ([] : List (Str × Value)).length } →
      codeAny (model X.prog X.w) X.A (.compLoop (.ListComp elt [⟨tg, iter, [], 0⟩] scope pos) 0 (.ref it) (.ref s2.heap.objs.size) (compEnvC scope cl s3.heap.objs.size X.env))
        (compPost (model X.prog X.w) X.A X.xe (some (assign (.Name x₀ pos₀) X.env)) (fun _ s' => ∃ σ' H', Inv X pins σ' H' s' ∧ D₀.nx σ' H') (.ref s2.heap.objs.size) s3.heap.objs.size) s4 := by
    rintro s4 rfl
    have stat : ∀ {H' : Hp}, (∀ b ∈ fp, H' b = none) → ∀ b ∈ fp, FpOk (blk X N' scope cl s3.heap.objs.size s3 (upd H1 s2.heap.objs.size (.lst [])) fp) [] H' b := fun hn b hb =>
      ⟨hn b hb, Nat.ne_of_lt (lt2 b hb), fun hs => I3.ok.exfs b hb hs, .inl hb, fun x c e => (f2 b hb).2.2.2.2.1 x c (ck.sub x c e), (fun p hp => by cases hp)⟩
    refine codeAny_loop rfl (fun n s' => ∃ i σ' H', Inv (blk X N' scope cl s3.heap.objs.size s3 (upd H1 s2.heap.objs.size (.lst [])) fp) [] σ' H' s' ∧ (∀ (j : Nat) v, (blkSt ix σ)[j]? = some (some v) → σ'[j]? = some (some v)) ∧ tn i s'.heap ∧ (∀ b ∈ fp, H' b = none) ∧ W i n H')
      (fun n s' hI => ?_) m0 ⟨0, _, _, I3, fun _ _ z => z, st3, fun b hb => (f2 b hb).1, w0⟩
    obtain ⟨i, σ5, H5, I5, wk, st5, fr5, w5⟩ := hI
    show wpAny _ _ ((compTurn (.ListComp elt [⟨tg, iter, [], 0⟩] scope pos) 0 (.ref it) (.ref s2.heap.objs.size) (compEnvC scope cl s3.heap.objs.size X.env)).onRaise (fun x => do noteFrame x (compEnvC scope cl s3.heap.objs.size X.env); theTreesLotGoes x)) _ _ s'
    refine wpAny_noted ?_
    rw [compTurn_list1]
    refine wpAny_bind (wpAny_standAt ?_)
    rcases turn i n H5 w5 with ⟨stop, qn⟩ | ⟨go, NN, hNN, step⟩
    · refine wpAny_bind (wpAny_mono (T.done (blk X N' scope cl s3.heap.objs.size s3 (upd H1 s2.heap.objs.size (.lst [])) fp) rfl rfl rfl hc i [] s' σ5 H5 (fun _ _ => False) I5 (stat fr5) st5 stop) (fun r s6 h6 => ?_) fun _ _ z => z.elim)
      obtain ⟨rfl, I6⟩ := h6
      refine wpAny_pure ?_
      obtain ⟨mm, hm, _⟩ := id I6.loc
      have fC : FpOk X pins H5 s3.heap.objs.size := I2.fpOk (Nat.le_refl _) I6.free
      have Io : Inv X pins σ H5 s6 := blk_end I2 f2 I6 (Heap.SameBut.refl _ _)
      show wpAny _ X.A (assign (.Name x₀ pos₀) X.env (.ref s2.heap.objs.size)) _ _ s6
      refine wpAny_assign_Name (store_ok2 Io hN₀ hi₀ hx₀ (v := .ref s2.heap.objs.size) rfl (fun s7 I7 sb7 => ?_) hf₀)
      obtain ⟨a, sb, ha⟩ := sb7
      have ca : s3.heap.objs.size ≠ a := by
        rcases ha with ha | ha
        · rw [ha]; exact fC.2.1
        · exact fun z => fC.2.2.2.2.1 _ _ ha z.symm
      obtain ⟨oC, es, ep, ho, r⟩ := hm
      exact ⟨mm, ⟨oC, es, ep, (sb.2 _ ca).trans ho, r⟩, fun h' sb' => ⟨_, H5, I7.turned (t' := s7.toks) (fun b o hb e => (sb'.2 b hb).trans e) fC.1 fC.2.1 fC.2.2.2.1 fC.2.2.2.2.1 fC.2.2.2.2.2, qn⟩⟩
    · refine wpAny_bind (wpAny_mono (T.item (blk X N' scope cl s3.heap.objs.size s3 (upd H1 s2.heap.objs.size (.lst [])) fp) rfl rfl rfl hc i [] s' σ5 H5 (fun _ _ => False) I5 (stat fr5) st5 go) (fun r s6 h6 => ?_) fun _ _ z => z.elim)
      obtain ⟨u, rfl, h6⟩ := h6
      refine wpAny_bind (wpAny_mono h6 (fun _ s7 h7 => ?_) fun _ _ z => z.elim)
      obtain ⟨x, H7, I7, r7, y7, st7, fr7⟩ := h7
      have I7w : Inv (blk X N' scope cl s3.heap.objs.size s3 (upd H1 s2.heap.objs.size (.lst [])) fp) [] (blkSt ix σ) H7 s7 := I7.weak (by rw [I7.len]; unfold blkSt; rw [List.length_map]; exact io.1) wk
      have I7p := I7w.pinned (stat fr7) (T.obj _ _ st7)
      refine wpAny_bind (wpAny_mono (hg _ _ _ _ _ s7 _ H7 x u _ I7p r7 (step x H7 y7)) (fun _ s8 h8 => ?_) fun _ _ z => z.elim)
      obtain ⟨σ8, H8, I8, kp8, q8⟩ := h8
      refine wpAny_bind (wpAny_bind (wpAny_mono (he _ _ _ _ _ s8 σ8 H8 _ I8 q8) (fun yv s9 h9 => ?_) fun _ _ z => z.elim))
      obtain ⟨y, H9, I9, r9, n9⟩ := h9
      obtain ⟨xs, hx9, hz9, m', hm', w9⟩ := hNN _ _ n9
      refine wpAny_bind (wpAny_mono (mt_append (X := blk X N' scope cl s3.heap.objs.size s3 (upd H1 s2.heap.objs.size (.lst [])) fp) _ s9 σ8 H9 (.ref s2.heap.objs.size) [y] (.ref s2.heap.objs.size) [yv] (fun _ H' => W (i + 1) m' H') I9 rfl (.cons r9 .nil) ⟨_, xs, y, rfl, rfl, hx9, hz9, w9⟩) (fun _ s10 h10 => ?_) fun _ _ z => z.elim)
      obtain ⟨_, H10, I10, _, w10⟩ := h10
      refine wpAny_pure (wpAny_pure ⟨rfl, m', hm', i + 1, σ8, H10, I10.unpinned, ?_, T.keep _ _ _ st7 fun b hb o e => (I10.pin (b, o) (List.mem_append_right _ (List.mem_append_right _ (mem_pinsAt hb e)))).1, fun b hb => ?_, w10⟩)
      · exact kp8.get
      · obtain ⟨o, e, d⟩ := T.obj _ _ st7 b hb
        exact (I10.pin (b, o) (List.mem_append_right _ (List.mem_append_right _ (mem_pinsAt hb e)))).2.1
  have e5 : s3.heap.objs.size = (s2.heap.push { cls := .type "list", data := .seq ([] : List Value).toArray }).objs.size := by rw [e3]
  rw [e5] at loop
  exact codeAny_compStart_list (loop _ rfl) (T.self X.A 0 _ _ _ st3 (loop _ rfl))
theorem ps_setCIf {i₀ : Nat} {x₀ : Str} {pos₀ spos : Pos} {elt iter tg c : Expr} {scope : Scope} {pos : Pos} {N' : List Str} {ix : List (Option Nat)} {cl : List (Str × Addr)} {wi : TI} {g : TG} {tc : TT} {te : TE} (hN₀ : X.N.Nodup) (hi₀ : X.N[i₀]? = some x₀) (hx₀ : Loc X.env.scope x₀) (hc : X.calm = true) (ck : ClOk X scope cl) (io : IxOk X N' scope ix) (hi : PI X tg iter wi)
    (hg : ∀ C s₀ H₀ fp, PG (blk X N' scope cl C s₀ H₀ fp) tg g) (ht : ∀ C s₀ H₀ fp, PT (blk X N' scope cl C s₀ H₀ fp) c tc) (he : ∀ C s₀ H₀ fp, PE (blk X N' scope cl C s₀ H₀ fp) elt te) (hs : ∀ x, foldedSetIterable iter X.env x = pure x := by intro _; rfl)
    (hsw : swapsWith (.ListComp elt [⟨tg, iter, [c], 0⟩] scope pos) (some (.Name x₀ pos₀)) spos.line X.env = pure true := by rfl) (hf₀ : X.fn x₀ = true ∨ X.env.scope.names.lookup x₀ = some .local := by first | exact .inl rfl | exact .inr rfl | assumption) :
    PS X (.Assign [.Name x₀ pos₀] (.ListComp elt [⟨tg, iter, [c], 0⟩] scope pos) spos) (tAsg (tCompIf ix wi g tc te) (gName i₀)) := by
  intro pins s σ H D₀ I h
  rw [exec_Assign_Name_used _ _ _ _ hsw]
  refine wpAny_bind (wpAny_standAt (wpAny_bind ?_))
  show wpAny _ X.A (do let _ ← comprehension (.ListComp elt [⟨tg, iter, [c], 0⟩] scope pos) scope X.env _ (newList []) false (eval iter X.env) (some (assign (.Name x₀ pos₀) X.env))) _ _ s
  refine wpAny_bind (wpAny_mono (wpAny_comprehension_free (use := some (assign (.Name x₀ pos₀) X.env)) (Q := fun _ s' => ∃ σ' H', Inv X pins σ' H' s' ∧ D₀.nx σ' H') rfl hs ck.eq ck.kind ck.names (thn (hi pins s σ H _ I h) fun xv s1 h1 => thn h1 fun itv s2 h2 => ?_)) (fun _ s' hq => wpAny_pure (wpAny_pure hq)) fun _ _ e => e)
  obtain ⟨it, fp, tn, J, H1, rfl, I1, T, st1, f1, R⟩ := h2
  -- the list
  refine wpAny_newObj_type ?_
  have hD : H1 s2.heap.objs.size = none := I1.hok.fresh (Nat.le_refl _)
  obtain ⟨W, ⟨m0, w0⟩, turn⟩ := R _ hD
  have hfD : ∀ b ∈ fp, b < s2.heap.objs.size := fun b hb => let ⟨o, e, _⟩ := T.obj _ _ st1 b hb; Heap.lt_size e
  have I2 : Inv X pins σ (upd H1 s2.heap.objs.size (.lst [])) { s2 with heap := s2.heap.push { cls := .type "list", data := .seq ([] : List Value).toArray }, toks := s2.toks } := I1.lnew (its := []) .nil (Nat.zero_le _)
  have f2 : ∀ b ∈ fp, FpOk X pins (upd H1 s2.heap.objs.size (.lst [])) b := fun b hb => ⟨by rw [upd_ne (Nat.ne_of_lt (hfD b hb))]; exact (f1 b hb).1, (f1 b hb).2⟩
  have lt2 : ∀ b ∈ fp, b < (s2.heap.push { cls := .type "list", data := .seq ([] : List Value).toArray }).objs.size := fun b hb => by rw [Heap.size_push]; exact Nat.lt_succ_of_lt (hfD b hb)
  -- the block's own dict
  refine wpAny_newFunctionEnv ck.ncell (by intro y hy; simp at hy) (fun h3 hns sb3 => ?_) ck.kind
  dsimp only at hns sb3 ⊢
  have k3 : ∀ b o, (s2.heap.push { cls := .type "list", data := .seq ([] : List Value).toArray }).get? b = some o → h3.get? b = some o := fun b o e => (sb3.2 b (Nat.ne_of_lt (Heap.lt_size e))).trans (Heap.get?_push_of_some _ e)
  generalize hs2 : ({ s2 with heap := s2.heap.push { cls := .type "list", data := .seq ([] : List Value).toArray }, toks := s2.toks } : Shared) = s3 at I2
  have e3 : s2.heap.push { cls := .type "list", data := .seq ([] : List Value).toArray } = s3.heap := by rw [← hs2]
  rw [e3] at hns k3 lt2
  have I3 := blk_start (N' := N') (ix := ix) I2 ck io f2 lt2 (h' := h3) (t' := s2.toks + ([] : List (Str × Value)).length) hns k3
  have e4 : ({ s3 with heap := h3, toks := s2.toks + ([] : List (Str × Value)).length } : Shared) = { s2 with heap := h3, toks := s2.toks + ([] : List (Str × Value)).length } := by rw [← hs2]
  rw [e4] at I3
  have st3 : tn 0 h3 := T.keep _ _ _ st1 fun b hb o e => k3 b o (by rw [← e3]; exact Heap.get?_push_of_some _ e)
  have loop : ∀ s4 : Shared, s4 = { s2 with heap := h3, toks := s2.toks + ([] : List (Str × Value)).length } →
      codeAny (model X.prog X.w) X.A (.compLoop (.ListComp elt [⟨tg, iter, [c], 0⟩] scope pos) 0 (.ref it) (.ref s2.heap.objs.size) (compEnvC scope cl s3.heap.objs.size X.env))
        (compPost (model X.prog X.w) X.A X.xe (some (assign (.Name x₀ pos₀) X.env)) (fun _ s' => ∃ σ' H', Inv X pins σ' H' s' ∧ D₀.nx σ' H') (.ref s2.heap.objs.size) s3.heap.objs.size) s4 := by
    rintro s4 rfl
    have stat : ∀ {H' : Hp}, (∀ b ∈ fp, H' b = none) → ∀ b ∈ fp, FpOk (blk X N' scope cl s3.heap.objs.size s3 (upd H1 s2.heap.objs.size (.lst [])) fp) [] H' b := fun hn b hb =>
      ⟨hn b hb, Nat.ne_of_lt (lt2 b hb), fun hs => I3.ok.exfs b hb hs, .inl hb, fun x c e => (f2 b hb).2.2.2.2.1 x c (ck.sub x c e), (fun p hp => by cases hp)⟩
    refine codeAny_loop rfl (fun n s' => ∃ i σ' H', Inv (blk X N' scope cl s3.heap.objs.size s3 (upd H1 s2.heap.objs.size (.lst [])) fp) [] σ' H' s' ∧ (∀ (j : Nat) v, (blkSt ix σ)[j]? = some (some v) → σ'[j]? = some (some v)) ∧ tn i s'.heap ∧ (∀ b ∈ fp, H' b = none) ∧ W i n H')
      (fun n s' hI => ?_) m0 ⟨0, _, _, I3, fun _ _ z => z, st3, fun b hb => (f2 b hb).1, w0⟩
    obtain ⟨i, σ5, H5, I5, wk, st5, fr5, w5⟩ := hI
    show wpAny _ _ ((compTurn (.ListComp elt [⟨tg, iter, [c], 0⟩] scope pos) 0 (.ref it) (.ref s2.heap.objs.size) (compEnvC scope cl s3.heap.objs.size X.env)).onRaise (fun x => do noteFrame x (compEnvC scope cl s3.heap.objs.size X.env); theTreesLotGoes x)) _ _ s'
    refine wpAny_noted ?_
    rw [compTurn_list]
    refine wpAny_bind (wpAny_standAt ?_)
    rcases turn i n H5 w5 with ⟨stop, qn⟩ | ⟨go, NN, MM, hNN, hMM, step⟩
    · refine wpAny_bind (wpAny_mono (T.done (blk X N' scope cl s3.heap.objs.size s3 (upd H1 s2.heap.objs.size (.lst [])) fp) rfl rfl rfl hc i [] s' σ5 H5 (fun _ _ => False) I5 (stat fr5) st5 stop) (fun r s6 h6 => ?_) fun _ _ z => z.elim)
      obtain ⟨rfl, I6⟩ := h6
      refine wpAny_pure ?_
      obtain ⟨mm, hm, _⟩ := id I6.loc
      have fC : FpOk X pins H5 s3.heap.objs.size := I2.fpOk (Nat.le_refl _) I6.free
      have Io : Inv X pins σ H5 s6 := blk_end I2 f2 I6 (Heap.SameBut.refl _ _)
      show wpAny _ X.A (assign (.Name x₀ pos₀) X.env (.ref s2.heap.objs.size)) _ _ s6
      refine wpAny_assign_Name (store_ok2 Io hN₀ hi₀ hx₀ (v := .ref s2.heap.objs.size) rfl (fun s7 I7 sb7 => ?_) hf₀)
      obtain ⟨a, sb, ha⟩ := sb7
      have ca : s3.heap.objs.size ≠ a := by
        rcases ha with ha | ha
        · rw [ha]; exact fC.2.1
        · exact fun z => fC.2.2.2.2.1 _ _ ha z.symm
      obtain ⟨oC, es, ep, ho, r⟩ := hm
      exact ⟨mm, ⟨oC, es, ep, (sb.2 _ ca).trans ho, r⟩, fun h' sb' => ⟨_, H5, I7.turned (t' := s7.toks) (fun b o hb e => (sb'.2 b hb).trans e) fC.1 fC.2.1 fC.2.2.2.1 fC.2.2.2.2.1 fC.2.2.2.2.2, qn⟩⟩
    · refine wpAny_bind (wpAny_mono (T.item (blk X N' scope cl s3.heap.objs.size s3 (upd H1 s2.heap.objs.size (.lst [])) fp) rfl rfl rfl hc i [] s' σ5 H5 (fun _ _ => False) I5 (stat fr5) st5 go) (fun r s6 h6 => ?_) fun _ _ z => z.elim)
      obtain ⟨u, rfl, h6⟩ := h6
      refine wpAny_bind (wpAny_mono h6 (fun _ s7 h7 => ?_) fun _ _ z => z.elim)
      obtain ⟨x, H7, I7, r7, y7, st7, fr7⟩ := h7
      have I7w : Inv (blk X N' scope cl s3.heap.objs.size s3 (upd H1 s2.heap.objs.size (.lst [])) fp) [] (blkSt ix σ) H7 s7 := I7.weak (by rw [I7.len]; unfold blkSt; rw [List.length_map]; exact io.1) wk
      have I7p := I7w.pinned (stat fr7) (T.obj _ _ st7)
      refine wpAny_bind (wpAny_mono (hg _ _ _ _ _ s7 _ H7 x u _ I7p r7 (step x H7 y7)) (fun _ s8 h8 => ?_) fun _ _ z => z.elim)
      obtain ⟨σ8, H8, I8, kp8, q8⟩ := h8
      have back : ∀ {s10 : Shared} {σ10 : St} {H10 : Hp} {m' : Nat}, Inv (blk X N' scope cl s3.heap.objs.size s3 (upd H1 s2.heap.objs.size (.lst [])) fp) ([] ++ pinsAt fp s7.heap) σ10 H10 s10 → (∀ (j : Nat) v, (blkSt ix σ)[j]? = some (some v) → σ10[j]? = some (some v)) → W (i + 1) m' H10 →
          ∃ i σ' H', Inv (blk X N' scope cl s3.heap.objs.size s3 (upd H1 s2.heap.objs.size (.lst [])) fp) [] σ' H' s10 ∧ (∀ (j : Nat) v, (blkSt ix σ)[j]? = some (some v) → σ'[j]? = some (some v)) ∧ tn i s10.heap ∧ (∀ b ∈ fp, H' b = none) ∧ W i m' H' := by
        intro s10 σ10 H10 m' I10 kk w10
        refine ⟨i + 1, σ10, H10, I10.unpinned, kk, T.keep _ _ _ st7 fun b hb o e => (I10.pin (b, o) (List.mem_append_right _ (List.mem_append_right _ (mem_pinsAt hb e)))).1, fun b hb => ?_, w10⟩
        obtain ⟨o, e, d⟩ := T.obj _ _ st7 b hb
        exact (I10.pin (b, o) (List.mem_append_right _ (List.mem_append_right _ (mem_pinsAt hb e)))).2.1
      refine wpAny_bind (wpAny_mono (wpAny_tests_one (ht _ _ _ _ _ s8 σ8 H8 _ I8 q8)) (fun ok s9' h9' => ?_) fun _ _ z => z.elim)
      obtain ⟨H9', I9', q9'⟩ := h9'
      cases ok with
      | false =>
        have q9'' : MM H9' := by simpa using q9'
        obtain ⟨m', hm', w9⟩ := hMM _ q9''
        exact wpAny_bind (wpAny_pure (wpAny_pure ⟨rfl, m', hm', back I9' kp8.get w9⟩))
      | true =>
        have q9'' : te σ8 H9' NN := by simpa using q9'
        refine wpAny_bind (wpAny_bind (wpAny_mono (he _ _ _ _ _ s9' σ8 H9' _ I9' q9'') (fun yv s9 h9 => ?_) fun _ _ z => z.elim))
        obtain ⟨y, H9, I9, r9, n9⟩ := h9
        obtain ⟨xs, hx9, hz9, m', hm', w9⟩ := hNN _ _ n9
        refine wpAny_bind (wpAny_mono (mt_append (X := blk X N' scope cl s3.heap.objs.size s3 (upd H1 s2.heap.objs.size (.lst [])) fp) _ s9 σ8 H9 (.ref s2.heap.objs.size) [y] (.ref s2.heap.objs.size) [yv] (fun _ H' => W (i + 1) m' H') I9 rfl (.cons r9 .nil) ⟨_, xs, y, rfl, rfl, hx9, hz9, w9⟩) (fun _ s10 h10 => ?_) fun _ _ z => z.elim)
        obtain ⟨_, H10, I10, _, w10⟩ := h10
        exact wpAny_pure (wpAny_pure ⟨rfl, m', hm', back I10 kp8.get w10⟩)
  have e5 : s3.heap.objs.size = (s2.heap.push { cls := .type "list", data := .seq ([] : List Value).toArray }).objs.size := by rw [e3]
  rw [e5] at loop
  exact codeAny_compStart_list (loop _ rfl) (T.self X.A 0 _ _ _ st3 (loop _ rfl))
end
end L2

/-! MY RULES: a[lo::k], sum(list of ints), len within a comprehension. -/
set_option linter.all false
set_option maxRecDepth 100000
namespace L2
open PySem PySem.Spec PyProof.Rows
theorem call_len_seqK {X : Cx} {K : PySem.W.Frag} (h : X.K = K) : CallR X (.builtin "len") (fun xs H Q => ∃ p ys, xs = [.ref p] ∧ (SqL K H p ys ∨ SqT K H p ys) ∧ Q (.int ys.length) H) := h ▸ call_len_seq
section
variable {X : Cx}
end
end L2

/-! MY RULES: an exception of one's own class without fields: raised, through the defs that it leaves. -/
set_option linter.all false
set_option maxRecDepth 100000
namespace L2
open PySem PySem.Spec PyProof.Rows

/-! ### an exception behind a call: where it flies, what it leaves as it was -/
theorem ObjOk.at18 {P : Program} {w : World} {H : Hp} {h : Heap} {a : Addr} {o : HO} (x : ObjOk P w H h a o) : ∃ u, h.get? a = some u := by
  cases o with
  | lst xs => obtain ⟨_, _, _, _, e⟩ := x; exact ⟨_, e⟩
  | tup xs => obtain ⟨_, _, _, o, e, _⟩ := x; exact ⟨_, e⟩
  | dK kvs => obtain ⟨_, _, _, _, o, _, _, e, _⟩ := x; exact ⟨_, e⟩
  | dT kvs => obtain ⟨_, _, _, _, o, _, _, e, _⟩ := x; exact ⟨_, e⟩
  | set S n => obtain ⟨o, _, _, _, e, _⟩ := x; exact ⟨_, e⟩
  | ins C dx fs => obtain ⟨_, _, _, e, _⟩ := x; exact ⟨_, e⟩
  | own y => obtain ⟨_, e⟩ := x; exact ⟨_, e⟩
  | xd fs => obtain ⟨_, ⟨_, _, _, e, _⟩, _⟩ := x; exact ⟨_, e⟩
  | rng lo hi => obtain ⟨_, _, _, e⟩ := x; exact ⟨_, e⟩
  | frz ob u => obtain ⟨e, _⟩ := x; exact ⟨_, e⟩
  | tbl ps => exact ⟨_, (show h.get? a = some _ from x)⟩
  | met f y => exact ⟨_, (show h.get? a = some _ from x)⟩
  | ext φ => obtain ⟨_, ⟨_, e⟩, _⟩ := x; exact ⟨_, e⟩

section
variable {X : Cx} {pins : List (Addr × Obj)} {σ : St} {H1 H' : Hp} {s1 : Shared} {B h1 h' : Heap}
/-- the notes that an exception writes into the frames: nothing else is changed (seen from the entry of the def) -/
theorem fly_un (I : Inv X pins σ H1 s1) (hx : X.ex = []) (u : Un (frs X.stack) [] H1 H' s1.heap h1) (hb1 : ∀ b o, s1.heap.get? b = some o → b ∉ frs X.stack → ∃ o', B.get? b = some o') (hst : B.StaysIn h1) (hst' : B.StaysIn h') (up : h1.UpToSlots h') :
    Un X.fs [] X.H₀ H' X.s₀.heap h' ∧ ∀ b o, X.s₀.heap.get? b = some o → b ∉ X.fs → ∃ o', B.get? b = some o' := by
  have a : Un X.fs [] X.H₀ H1 X.s₀.heap s1.heap := by
    have z := I.base
    rw [hx] at z
    exact z
  have no : ∀ b : Addr, b ∉ ([] : List Addr) := fun b => by simp
  have nst : ∀ b o, X.s₀.heap.get? b = some o → b ∉ X.fs → b ∉ frs X.stack := fun b o e hb m =>
    (List.mem_cons.mp (I.stkSub b m)).elim (Nat.ne_of_lt (Nat.lt_of_lt_of_le (Heap.lt_size e) I.ok.above)) hb
  have B1 : ∀ b o, X.s₀.heap.get? b = some o → b ∉ X.fs → ∃ o', B.get? b = some o' := fun b o e hb => by
    obtain ⟨o1, e1⟩ := a.there b o e (no b)
    exact hb1 b o1 e1 (nst b o e hb)
  have slot : ∀ b o, X.s₀.heap.get? b = some o → X.H₀ b = none → b ∈ X.fs → ∃ sl, h'.get? b = some { o with slots := sl } := fun b o e n hb => by
    obtain ⟨sl, e1⟩ := a.slot b o e n hb (no b)
    obtain ⟨sl2, e2⟩ := u.any e1 (a.free b o e n (no b)) (no b)
    obtain ⟨_, of, ho, hd⟩ := I.ok.funs.mem hb
    rw [e] at ho
    cases ho
    obtain ⟨sl3, e3⟩ := up b _ e2 hd
    exact ⟨sl3, e3⟩
  refine ⟨⟨fun b o e n hb _ => ?_, fun b o e n hb _ => slot b o e n hb, fun b o e n _ => ?_, fun b o e _ => ?_, fun b xs e => u.tups b xs (a.tups b xs e), fun b o v e => u.frzs b o v (a.frzs b o v e), fun b ps e => ?_⟩, B1⟩
  · have e2 := u.keep b o (a.keep b o e n hb (no b)) (a.free b o e n (no b)) (nst b o e hb) (no b)
    obtain ⟨o', eB⟩ := B1 b o e hb
    have e3 := hst b o' eB
    rw [e2] at e3
    cases e3
    exact hst' b o eB
  · obtain ⟨o1, e1⟩ := a.there b o e (no b)
    exact u.free b o1 e1 (a.free b o e n (no b)) (no b)
  · by_cases hb : b ∈ X.fs
    · obtain ⟨sl, q⟩ := slot b o e (I.ok.frf b hb) hb
      exact ⟨_, q⟩
    · obtain ⟨o', eB⟩ := B1 b o e hb
      exact ⟨o', hst' b o' eB⟩
  · obtain ⟨m1, e1⟩ := a.tbls b ps e
    obtain ⟨m2, e2⟩ := u.tbls b _ e1
    exact ⟨m1 ++ m2, by rw [e2, Array.append_assoc]⟩
theorem fly_ok {P : Program} {w : World} (ok : HOk P w H' h1) (b2 : ∀ b o, H' b = some o → ∃ o', B.get? b = some o') (hst : B.StaysIn h1) (hst' : B.StaysIn h') : HOk P w H' h' := fun a o e =>
  (ok a o e).stay (fun b u hb q => by
    have : ∃ o', B.get? b = some o' := by
      rcases hb with rfl | hb
      · exact b2 _ _ e
      · exact b2 _ _ hb
    obtain ⟨o', eB⟩ := this
    have z := hst b o' eB
    rw [q] at z
    cases z
    exact hst' b u eB) (fun _ q => q) fun _ _ q => q
end

/-! ### out of a def -/
section
variable {P : Program} {w : World} {K : PySem.W.Frag} {mg : Str → Option Value} {base : Heap} {N : List Str} {qual : Str} {scope : Scope} {f : Addr} {cd : Value} {A : Around} {outer : List Env} {s : Shared} {H : Hp} {E : XK}
end

/-! ### the class -/
/-! ### raise C(..) -/
abbrev bmVE : List Value := [.type "ValueError", .type "Exception", .type "BaseException", .type "object"]
end L2

/-! MY RULES: try: .. except C as e: .. around one call. -/
set_option linter.all false
set_option maxRecDepth 100000
namespace L2
open PySem PySem.Spec PyProof.Rows

/-! ### within an except suite -/
abbrev Cx.held (X : Cx) (ea : Addr) : Cx := { X with A := X.A.mark (some (.ref ea)), calm := false, xe := fun _ _ => False }
theorem Cx.Ok.held {X : Cx} (ok : X.Ok) (ea : Addr) : (X.held ea).Ok :=
  ⟨ok.mod, ok.kind, ok.glob, ok.blt, ok.above, ok.inj, ok.has, ok.cab, fun z => (by cases z), ok.frames, ok.stk, ok.exf, ok.bs, ok.bsz, ok.noex, ok.exfs, ok.funs, ok.frf⟩
section
variable {X : Cx} {pins : List (Addr × Obj)} {σ : St} {H H1 : Hp} {s s1 : Shared} {ea C : Addr} {a0 : Value} {B : Heap}
theorem Inv.held (I : Inv X pins σ H s) (ea : Addr) : Inv (X.held ea) pins σ H s := ⟨I.ok.held ea, I.os, I.bare, I.base, I.loc, I.cell, I.free, I.freeC, I.pin, I.hok, I.len⟩
theorem Inv.unheld (I : Inv (X.held ea) pins σ H s) (ok : X.Ok) : Inv X pins σ H s := ⟨ok, I.os, I.bare, I.base, I.loc, I.cell, I.free, I.freeC, I.pin, I.hok, I.len⟩

/-! ### the name that the clause bound goes -/
theorem unbind_ok {M : Model} {A : Around} {E : Value → Shared → Prop} {i : Nat} {x : Str} {pos : Pos} {Q : Unit → Shared → Prop} (I : Inv X pins σ H s) (hN : X.N.Nodup) (hi : X.N[i]? = some x) (hx : X.env.scope.names.lookup x = some .local)
    (h : ∀ s', Inv X pins (σ.set i none) H s' → Q () s') : wpAny M A (do bindName X.env x .none; unbindBehindTheSuite X.env x pos) Q E s := by
  refine wpAny_bind (wpAny_bindName (store_ok (v := .non) (u := .none) I hN hi (.inl hx) rfl (fun s1 I1 => ?_) (.inr hx)))
  unfold unbindBehindTheSuite
  refine wpAny_onRaise ?_
  obtain ⟨m, hn, hl⟩ := id I1.loc
  have hcls : (X.env.scope.kind == .class || (X.env.scope.kind == .module && X.env.locals != X.env.globals)) = false := by rw [I1.ok.kind]; rfl
  have hiσ : i < σ.length := by rw [I.len]; exact (List.getElem?_eq_some_iff.mp hi).1
  have cne := I1.cne
  have hk : X.env.kindOf x = some .local := hx
  obtain ⟨u, ru, hu⟩ := hl i x .non hi (List.getElem?_set_self hiσ) (.inl hx)
  have hm : m x = some u := by
    rcases hu with ⟨_, e⟩ | ⟨k, _⟩
    · exact e
    · rw [hk] at k
      rcases k with k | k <;> cases k
  refine wpAny_unbindName_local hk hn hm hcls fun h' v hn' hs => ?_
  obtain ⟨oL, _, _, hoL, _⟩ := id hn
  refine h _ ⟨I1.ok, I1.os, I1.bare, ⟨fun b o e n hb hx => ?_, fun b o e n hb hx => ?_, I1.base.free, fun b o e hx => ?_, I1.base.tups, I1.base.frzs, I1.base.tbls⟩, ⟨_, hn', fun j y v' e1 e2 e3 => ?_⟩, fun y c e => ?_, I1.free, I1.freeC, fun p hp => ?_, fun b ob e => ?_, by simpa using I.len⟩
  · exact (hs.2 b (Nat.ne_of_lt (Nat.lt_of_lt_of_le (Heap.lt_size e) I1.ok.above))).trans (I1.base.keep b o e n hb hx)
  · obtain ⟨sl, e1⟩ := I1.base.slot b o e n hb hx
    exact ⟨sl, (hs.2 b (Nat.ne_of_lt (Nat.lt_of_lt_of_le (Heap.lt_size e) I1.ok.above))).trans e1⟩
  · obtain ⟨o', e1⟩ := I1.base.there b o e hx
    exact ⟨o', (hs.2 b (Nat.ne_of_lt (Nat.lt_of_lt_of_le (Heap.lt_size e) I1.ok.above))).trans e1⟩
  · by_cases hj : j = i
    · subst hj
      rw [List.getElem?_set_self hiσ] at e2
      cases e2
    · rw [List.getElem?_set_ne (Ne.symm hj)] at e2
      obtain ⟨u', r', q⟩ := hl j y v' e1 (by rw [List.getElem?_set_ne (Ne.symm hj)]; exact e2) e3
      refine ⟨u', r', ?_⟩
      rcases q with ⟨k, e⟩ | ⟨k, c, e, z⟩
      · refine .inl ⟨k, ?_⟩
        have : y ≠ x := fun e => hj (nodup_ix hN e1 (e ▸ hi))
        simp [this, e]
      · exact .inr ⟨k, c, e, z.sameBut hs (cne y c e)⟩
  · obtain ⟨w', z⟩ := I1.cell y c e
    exact ⟨w', z.sameBut hs (cne y c e)⟩
  · obtain ⟨e, n, ne, nf, d⟩ := I1.pin p hp
    exact ⟨(hs.2 p.1 ne).trans e, n, ne, nf, d⟩
  · refine (I1.hok b ob e).stay (fun c w' hc q => (hs.2 c ?_).trans q) (fun _ q => q) fun _ _ q => q
    rintro rfl
    rcases hc with rfl | hc
    · rw [I1.free] at e; cases e
    · rw [I1.free] at hc; cases hc

/-! ### the exception that was caught, tracked -/
def xcF (ea C : Addr) : Heap → Prop := fun h => ∃ o vs, h.get? ea = some o ∧ o.cls = .ref C ∧ o.data = .fields vs
/-! ### the flight, seen from the frame that catches -/
structure Flown (X : Cx) (pins : List (Addr × Obj)) (σ : St) (H1 : Hp) (s1 : Shared) (H : Hp) (B : Heap) (ea C : Addr) (a0 : Value) (s : Shared) : Prop where
  i1 : Inv X pins σ H1 s1
  os : s.os = s1.os
  bare : AllBare s.gens
  un : Un (frs X.stack) [] H1 H s1.heap s.heap
  hok : HOk X.prog X.w H s.heap
  b1 : ∀ b o, s1.heap.get? b = some o → b ∉ frs X.stack → ∃ o', B.get? b = some o'
  b2 : ∀ b o, H b = some o → ∃ o', B.get? b = some o'
  fl : Heap.FlyingW B X.stack ea (.ref C) a0 s.heap
theorem Flown.new (F : Flown X pins σ H1 s1 H B ea C a0 s) : s1.heap.get? ea = none := by
  cases q : s1.heap.get? ea with
  | none => rfl
  | some o =>
    by_cases hb : ea ∈ frs X.stack
    · obtain ⟨sl, e1⟩ := F.un.slot ea o q (F.i1.stkFree ea hb) hb (by simp)
      obtain ⟨_, of, ho, hd⟩ := F.i1.stack.mem hb
      rw [q] at ho
      cases ho
      obtain ⟨oe, vs, e2, _, e3, _⟩ := F.fl.first
      rw [e1] at e2
      cases e2
      exact absurd e3 (hd vs)
    · obtain ⟨o', eB⟩ := F.b1 ea o q hb
      rw [F.fl.2.1] at eB
      cases eB
theorem Flown.no (F : Flown X pins σ H1 s1 H B ea C a0 s) : H ea = none := by
  cases q : H ea with
  | none => rfl
  | some o =>
    obtain ⟨o', eB⟩ := F.b2 ea o q
    rw [F.fl.2.1] at eB
    cases eB
end

/-! ### the clauses -/
section
variable {X : Cx} {C C' : Addr} {y n : Str} {yp hpos : Pos} {b₀ : Stmt} {suite : List Stmt} {rest : List ExceptHandler} {th : Addr → TS} {i : Nat}
theorem exm_at {M : Model} {K : PySem.W.Frag} {h : Heap} {ea : Addr} {c : Value} {b : Bool} (X : K.In h) (hx : xcF ea C h) (e : PySem.W.exmOne K (.ref C) c = some b) : PySem.W.Looks M h (excMatches (.ref ea) c) b := by
  obtain ⟨o, vs, ho, hc, _⟩ := hx
  have LT : PySem.W.Looks M h (typeOf (.ref ea)) (.ref C) := by
    have z : PySem.W.Looks M h (typeOf (.ref ea)) o.cls := (PySem.W.Looks.ld ho).andThen .now
    rw [hc] at z
    exact z
  exact PySem.W.exm_one X LT e
end

/-! ### a call that may throw -/
abbrev TX := St → Hp → VK → XK → Prop
def tCallX (sp : Sp) (t : TA) : TX := fun σ H Q E => t σ H fun vs H1 => sp vs H1 Q E
section
variable {X : Cx} {k : Nat} {f : Addr} {fd : FuncData} {ps : List Str} {sp : Sp} {x : Str} {p pos : Pos} {e : Expr} {es : List Expr} {t : TA}
end

/-! ### try -/
section
variable {X : Cx} {hs : List ExceptHandler} {h₀ : ExceptHandler} {e : Expr} {tx : TX} {pos epos npos : Pos} {i : Nat} {n : Str}
end

/-! ### a def whose exceptions may leave -/
section
variable {P : Program} {w : World} {K : PySem.W.Frag} {mg : Str → Option Value} {base : Heap}
end

/-! ### names of the top that are no defs and no classes -/
theorem pe_globE {X : Cx} {x : Str} {v : V} {pos : Pos} (h : ∃ u, X.mg x = some u ∧ RelV v u) (hg : Gl X x) (hd : (x == ("__debug__" : Str)) = false := by decide) : PE X (.Name x pos) (tC v) := by
  obtain ⟨u, hm, r⟩ := h
  exact fun _ _ _ H _ I q => ld_glob I hg hm ⟨v, H, I, r, q⟩ hd
/-- a clause of the class D, an exception of the class C -/
theorem exm_of {K : PySem.W.Frag} {C D : Addr} {b : Bool} (hb : PySem.W.mroIn K D (.type "BaseException") = some true) (h1 : PySem.W.isClsIn K D = true) (h2 : PySem.W.typeIn K (.ref D) = some (.type "type")) (h3 : PySem.W.mroIn K C (.ref D) = some b) :
    PySem.W.exmOne K (.ref C) (.ref D) = some b := by
  unfold PySem.W.exmOne
  have e : PySem.W.subIn K (.ref D) (.type "BaseException") = some true := hb
  have h1' : (PySem.W.clsIn K D).isSome = true := h1
  rw [if_pos (by rw [e]; rfl)]
  show (if ((PySem.W.clsIn K D).isSome && PySem.W.typeIn K (.ref D) == some (.type "type")) = true then PySem.W.subIn K (.ref C) (.ref D) else none) = some b
  rw [if_pos (by rw [h1', h2]; rfl)]
  exact h3
end L2

/-! MY RULES: attributes of an exception of one's own class, and isinstance of it. -/
set_option linter.all false
set_option maxRecDepth 100000
namespace PySem.W
open PySem PySem.Spec PySem.Calls PyProof.Rows PySem.Builtin.ObjectAttr

/-- what is asked of a class of exceptions: BaseException's reading of attributes, object's __class__ -/
structure XcIn (K : Frag) (C : Addr) : Prop where
  ga : findIn K (.ref C) "__getattribute__" = some (some (.builtin "BaseException.__getattribute__"))
  gt : findIn K (.ref C) "__getattr__" = some none
  mB : mroIn K C (.type "BaseException") = some true
  mO : mroIn K C (.type "object") = some true
  cl : findIn K (.ref C) "__class__" = some (some (.builtin "object.__class__"))
  sp : specialIn K (.builtin "object.__class__") "__get__" = some (some (.builtin "getset_descriptor.__get__"))
  tk : takesIn K (.builtin "object.__class__") = some true
/-- an object of that class lies there -/
def KitE (a C : Addr) (h : Heap) : Prop := ∃ o, h.get? a = some o ∧ o.cls = .ref C

section
variable {prog : Program} {w : World} {A : Around} {E : Value → Shared → Prop} {h : Heap} {g : Array GenState} {d : Drawn} {t : Nat} {os : OsState} {a C : Addr} {o : Obj} {K : Frag} {name : Str}
theorem XcIn.cls (c : XcIn K C) : ∃ cd, clsIn K C = some cd := by
  obtain ⟨cd, h, _⟩ := Option.bind_eq_some_iff.mp c.mB
  exact ⟨cd, h⟩
theorem KitE.type {M : Model} (p : KitE a C h) : Looks M h (typeOf (.ref a)) (.ref C) := by
  obtain ⟨o, ho, hc⟩ := p
  have z : Looks M h (typeOf (.ref a)) o.cls := (Looks.ld ho).andThen .now
  rwa [hc] at z

/-- the call of BaseException's __getattribute__ is let by -/
theorem xc_check {M : Model} {nv : Value} {Q : Unit → Shared → Prop} (X : K.In h) (c : XcIn K C) (ho : h.get? a = some o) (ok : o.cls = .ref C) (hq : Q () ⟨h, g, d, t, os⟩) :
    wpAny M A (checkBuiltinCall "BaseException.__getattribute__" ⟨[.ref a, nv], []⟩) Q E ⟨h, g, d, t, os⟩ := by
  have sub := looks_mroIn (M := M) X c.mB
  have ar := F.args_bexc_ga (.ref a) nv
  simp only [checkBuiltinCall, (by decide +kernel : builtinKind "BaseException.__getattribute__" = some .slot), (by decide +kernel : splitId "BaseException.__getattribute__" = some ("BaseException", "__getattribute__"))]
  refine wpAny_bind ?_
  unfold isInstance
  repeat (first | (with_reducible refine wpAny_loadPart_at ho ?_; rw [ok]) | (with_reducible refine sub.at ?_) | wp_step)
  exact hq

/-! ### e.__class__ -/
theorem xc_find {M : Model} (X : K.In h) (c : XcIn K C) : Looks M h (find (.ref a) (.ref C) "__class__") (.bind (.builtin "getset_descriptor.__get__") (.builtin "object.__class__")) :=
  (looks_findIn X c.cl).andThen ((show Looks M h (getOf (some (.builtin "object.__class__"))) (some (.builtin "getset_descriptor.__get__")) from looks_specialIn X c.sp).andThen
    ((show Looks M h (dataDescriptor? (some (.builtin "object.__class__")) (some (.builtin "getset_descriptor.__get__"))) (some (.builtin "getset_descriptor.__get__", .builtin "object.__class__")) from (looks_takesIn X c.tk).andThen .now).andThen (Looks.tag .now)))
theorem xc_get {R : Result → Shared → Prop} (X : K.In h) (c : XcIn K C) (ho : h.get? a = some o) (ok : o.cls = .ref C) (hq : R (.ok (.ret (.ref C))) ⟨h, g, d, t, os⟩) :
    codeAny (model prog w) A (.call (.builtin "getset_descriptor.__get__") ⟨[.builtin "object.__class__", .ref a, .ref C], []⟩) R ⟨h, g, d, t, os⟩ := by
  have ty : (⟨h, g, d, t, os⟩ : Shared).TypeIs (.builtin "object.__class__") "getset_descriptor" := F.typeOf_object_class
  have sub : Looks (model prog w) h (isSubtype (.ref C) (.type (".".intercalate ("object.__class__".cutAt '.').dropLast))) true := by
    rw [F.owner_object_class]
    exact looks_mroIn X c.mO
  refine codeAny_call_builtin F.slot_gs_get.plain F.entry_gs_get (F.slot_gs_get.check _ _ _ _ _ _ _ _ ty (F.args_gs_get _ _ _) ?_)
  repeat (any_goals (first | assumption | (with_reducible refine wpAny_loadPart_at ho ?_; rw [ok]) | (with_reducible refine sub.at ?_) | wp_step))
  refine ⟨Code.quiet_builtin _ (by decide +kernel), codeAny_builtin F.entry_object_class ?_⟩
  repeat (any_goals (first | assumption | (with_reducible refine wpAny_loadPart_at ho ?_; rw [ok]) | wp_step))
theorem xc_entry {tk : Tok} {Q : Fin → Shared → Prop} (X : K.In h) (c : XcIn K C) (ho : h.get? a = some o) (ok : o.cls = .ref C) (hq : Q (.done (.ret (.ref C))) ⟨h, g, d, t, os⟩) :
    wpAny (model prog w) A (Builtin.«object.__getattribute__» ⟨[.ref a, .str "__class__" tk], []⟩) Q E ⟨h, g, d, t, os⟩ := by
  have L := xc_find (M := model prog w) (a := a) X c
  unfold Builtin.«object.__getattribute__»
  repeat (any_goals (first | assumption | (with_reducible refine L.at ?_) | (with_reducible refine wpAny_loadPart_at ho ?_; rw [ok]) | wp_step))
  refine xc_get X c ho ok ?_
  repeat (any_goals (first | assumption | wp_step))

/-! ### any attribute, by what the call of __getattribute__ gives -/
theorem xc_by {tk : Tok} {fill expr : Bool} {v : Value} {Q : Value → Shared → Prop} (X : K.In h) (c : XcIn K C) (ho : h.get? a = some o) (ok : o.cls = .ref C)
    (hq : ∀ (A : Around) (R : Result → Shared → Prop), R (.ok (.ret v)) ⟨h, g, d, t, os⟩ → codeAny (model prog w) A (.call (.builtin "BaseException.__getattribute__") ⟨[.ref a, .str name tk], []⟩) R ⟨h, g, d, t, os⟩) (hh : handedIn v = true) (hQ : Q v ⟨h, g, d, t, os⟩) :
    wpAny (model prog w) A (getAttrBy (.ref a) (.str name tk) fill expr) Q E ⟨h, g, d, t, os⟩ := by
  have b := F.attr_ValueError.ga.bind (.ref a)
  have L1 := looks_findIn (M := model prog w) X c.ga
  have L2 := looks_findIn (M := model prog w) X c.gt
  have n1 : (Value.builtin "BaseException.__getattribute__" == Value.builtin "object.__getattribute__") = false := by decide +kernel
  have n2 : (onTheHeap (Value.ref C) && Value.builtin "BaseException.__getattribute__" == Value.builtin "object.__getattribute__") = false := by simp [n1]
  have n3 : (expr && onTheHeap (Value.builtin "BaseException.__getattribute__")) = false := Bool.and_eq_false_iff.mpr (.inr rfl)
  repeat (any_goals (first | assumption | (with_reducible refine wpAny_loadPart_at ho ?_; rw [ok]) | (with_reducible refine L1.at ?_) | (with_reducible refine L2.at ?_) | wp_step))
  refine hq _ _ ?_
  repeat (any_goals (first | assumption | wp_step))
  show wpAny _ _ (handedOut v) _ _ _
  rw [handedOut_of hh]
  exact wpAny_pure hQ
theorem xc_class {Q : Option Value → Shared → Prop} {s : Shared} (X : K.In s.heap) (c : XcIn K C) (p : KitE a C s.heap) (hq : Q (some (.ref C)) { s with toks := s.toks + 1 }) : wpAny (model prog w) A (getAttr? (.ref a) "__class__") Q E s := by
  obtain ⟨o, ho, ok⟩ := p
  obtain ⟨h, g, d, t, os⟩ := s
  unfold getAttr? getAttrBy?
  have B : ∀ {A : Around} {E : Value → Shared → Prop} {Q : Value → Shared → Prop}, Q (.ref C) ⟨h, g, d, t + 1, os⟩ → wpAny (model prog w) A (getAttrBy (.ref a) (.str "__class__" t) false) Q E ⟨h, g, d, t + 1, os⟩ := fun {A E Q} hQ =>
    xc_by X c ho ok (fun A R hR => codeAny_call_builtin F.attr_ValueError.ga.plain F.entry_bexc_ga (xc_check X c ho ok (xc_entry X c ho ok hR))) rfl hQ
  repeat (any_goals (first | assumption | with_reducible apply B | wp_step))

/-! ### isinstance -/
theorem kitx_exc (c : XcIn K C) : KitX K (.ref a) (.ref C) (KitE a C) where
  ty := fun _ _ _ p => p.type
  it := fun _ _ X _ => by
    obtain ⟨cd, e⟩ := c.cls
    intro A Q E s k q
    unfold clsIn at e
    split at e
    case h_1 there => exact wpAny_bind (wpAny_loadPart (k _ _ (X _ _ there)) (wpAny_pure q))
    case h_2 => cases e
  ne := fun h tp dd its n sl X htp => by
    obtain ⟨cd, e⟩ := c.cls
    rw [Bool.eq_false_iff]
    intro q
    cases beq_iff_eq.mp q
    unfold clsIn at e
    split at e
    case h_1 there => cases (X _ _ there).symm.trans htp
    case h_2 => cases e
  ca := fun X p k => xc_class X c p k
end
end PySem.W

namespace L2
open PySem PySem.Spec PyProof.Rows
section
variable {X : Cx}
end
end L2

/-! MY RULES: reversed(tuple), walked by for and by a comprehension. -/
set_option linter.all false
set_option maxRecDepth 100000
set_option maxHeartbeats 2000000
namespace L2
open PySem PySem.Spec PyProof.Rows
theorem called_reversed : TypeCalled "reversed" "reversed.__new__" "object.__init__" :=
  ⟨by decide +kernel, by decide +kernel, ⟨_, _, PySem.F.mro_reversed⟩, PySem.F.made_reversed, by decide +kernel, by rw [isSubtype_type]; kernel_rfl,
   .of (owner := "object") (n := "__init__") (by rw [typeLookup_type, builtinLookup_eq_fast]; kernel_rfl) (by decide +kernel) (by decide +kernel) (by decide +kernel) (by first | exact .inl (by decide +kernel) | exact .inr (by decide +kernel)) (by rw [isSubtype_type]; kernel_rfl)⟩
theorem tup_no_rev : typeLookup (.type "tuple") (Str.ofString "__reversed__") = pure none := by rw [typeLookup_type, builtinLookup_eq_fast]; kernel_rfl
theorem tup_item : typeLookup (.type "tuple") (Str.ofString "__getitem__") = pure (some (.builtin "tuple.__getitem__")) := by rw [typeLookup_type, builtinLookup_eq_fast]; kernel_rfl
theorem tup_no_dict : isSubtype (.type "tuple") (.type "dict") = pure false := by rw [isSubtype_type]; kernel_rfl
theorem owner_rvd : Manifest.owners.lookup (String.ofList ['d', 'e', 's', 'r', 'e', 'v', 'e', 'r'].reverse) = some Manifest.sig_reversed := by kernel_rfl
theorem slot_rvd_next : Slot "reversed" "__next__" "reversed.__next__" :=
  .of (owner := "reversed") (n := "__next__") (by rw [typeLookup_type, builtinLookup_eq_fast]; kernel_rfl) (by decide +kernel) (by decide +kernel) (by decide +kernel)
    (by first | exact .inl (by decide +kernel) | exact .inr (by decide +kernel)) (by rw [isSubtype_type]; kernel_rfl)
theorem entry_rvd_next : entryFor table "reversed.__next__" = some Builtin.«reversed.__next__» := entryFor_of_tree (by kernel_rfl)
theorem args_rvd_next_1 (a : Value) : argsOk "reversed.__next__" ⟨[a], []⟩ := by
  unfold argsOk; rw [signature?_of (id := "reversed.__next__") (n := ['_', '_', 't', 'x', 'e', 'n', '_', '_']) (o := ['d', 'e', 's', 'r', 'e', 'v', 'e', 'r']) (by kernel_rfl) owner_rvd]; kernel_rfl
theorem slot_rvd_iter : Slot "reversed" "__iter__" "reversed.__iter__" :=
  .of (owner := "reversed") (n := "__iter__") (by rw [typeLookup_type, builtinLookup_eq_fast]; kernel_rfl) (by decide +kernel) (by decide +kernel) (by decide +kernel)
    (by first | exact .inl (by decide +kernel) | exact .inr (by decide +kernel)) (by rw [isSubtype_type]; kernel_rfl)
theorem args_rvd_iter_1 (a : Value) : argsOk "reversed.__iter__" ⟨[a], []⟩ := by
  unfold argsOk; rw [signature?_of (id := "reversed.__iter__") (n := ['_', '_', 'r', 'e', 't', 'i', '_', '_']) (o := ['d', 'e', 's', 'r', 'e', 'v', 'e', 'r']) (by kernel_rfl) owner_rvd]; kernel_rfl
theorem entry_rvd_iter : entryFor table "reversed.__iter__" = some Builtin.«dict_keyiterator.__iter__» :=
  entryFor_alias (id' := "dict_keyiterator.__iter__") (by kernel_rfl) (by first | rfl | decide +kernel | (unfold String.splitOn; simp +decide [String.splitOnAux])) (by decide +kernel) (by kernel_rfl)
def rvtObj (t : Addr) (i : Int) : Obj := { cls := .type "reversed", data := .fields #[.ref t, rawInt i] }
def IsRevT (h : Heap) (a t : Addr) (i : Int) : Prop := ∃ o, h.get? a = some o ∧ o.cls = .type "reversed" ∧ o.data = .fields #[.ref t, rawInt i]
theorem IsRevT.typeIs {s : Shared} {a t : Addr} {i : Int} (x : IsRevT s.heap a t i) : s.TypeIs (.ref a) "reversed" := let ⟨o, ho, hc, _⟩ := x; ⟨o, ho, hc⟩
theorem IsRevT.at {h h' : Heap} {a t : Addr} {i : Int} (x : IsRevT h a t i) (e : ∀ o, h.get? a = some o → h'.get? a = some o) : IsRevT h' a t i := let ⟨o, ho, r⟩ := x; ⟨o, e _ ho, r⟩
theorem meets_rev_tup (t : Addr) (items : Array Value) (hfit : (items.size : Int) < 2 ^ 63) : Meets (Builtin.«reversed.__new__» ⟨[.type "reversed", .ref t], []⟩)
    (fun _ R s => IsTup s.heap t items ∧ ∀ tk, R (.ok (.ret (.ref s.heap.objs.size))) { s with heap := s.heap.push (rvtObj t ((items.size : Int) - 1)), toks := tk }) :=
  .of_wp fun prog w A R s h => by
    obtain ⟨ht, h⟩ := h
    have hT : s.TypeIs (.ref t) "tuple" := let ⟨o, e, c, _⟩ := ht; ⟨o, e, c⟩
    unfold Builtin.«reversed.__new__»
    refine wpAny_bind (wpAny_of_eq (newClass_reversed _) ?_)
    try dsimp only
    refine wpAny_bind (wpAny_of_eq (a := ()) (by first | rfl | kernel_rfl) ?_)
    refine wpAny_bind (wpAny_of_eq (a := ()) (by first | rfl | kernel_rfl) ?_)
    try dsimp only
    refine wpAny_bind (wpAny_specialOf hT tup_no_rev ?_)
    try dsimp only
    have f1 := tup_no_dict
    have f2 := tup_item
    have hl2 : ∀ (Q : Value → Shared → Prop) (E : Value → Shared → Prop), Q (Value.int (items.size : Int) (s.toks + 1)) { s with toks := s.toks + 1 + 1 } → wpAny (model prog w) A.in1 (call (.builtin "len") [.ref t]) Q E s := fun Q E h => len_tuple ht hfit h
    wp_walk using wpAny_isInstance (T := "tuple") (b := false) hT tup_no_dict, wpAny_specialOf hT tup_item, hl2 _ _
    exact ⟨_, rfl, h _⟩
section
variable {prog : Program} {w : World} {A : Around} {E : Value → Shared → Prop} {s : Shared}
theorem call_reversed_tup {t : Addr} {items : Array Value} {Q : Value → Shared → Prop} (ht : IsTup s.heap t items) (hfit : (items.size : Int) < 2 ^ 63)
    (h : ∀ tk, Q (.ref s.heap.objs.size) { s with heap := s.heap.push (rvtObj t ((items.size : Int) - 1)), toks := tk }) : wpAny (model prog w) A (call (.type "reversed") [.ref t]) Q E s := by
  refine callType_new called_reversed (by decide) (F.typeCall_reversed_1 _) (F.newCall_reversed_1 _) (fun obj => F.args_object_init_2 obj _) F.entry_reversed_new (meets_rev_tup t items hfit) ⟨ht, fun tk => ⟨⟨_, Heap.get?_push_size _ rfl, rfl⟩, h tk⟩⟩
theorem wpAny_pyNext_rvt_item {it t : Addr} {i : Nat} {items : Array Value} {x : Value} {Q : Option Value → Shared → Prop} (hit : IsRevT s.heap it t (i : Int)) (ht : IsTup s.heap t items) (hfit : (items.size : Int) < 2 ^ 63) (hx : items[i]? = some x)
    (hQ : ∀ h' tk, IsRevT h' it t ((i : Int) - 1) → Heap.SameBut it s.heap h' → Q (some x) { s with heap := h', toks := tk }) : wpAny (model prog w) A (pyNext (.ref it)) Q E s := by
  obtain ⟨o, ho, hc, hd⟩ := id hit
  have hT : s.TypeIs (.ref t) "tuple" := let ⟨o, e, c, _⟩ := ht; ⟨o, e, c⟩
  have hlt : i < items.size := (Array.getElem?_eq_some_iff.mp hx).1
  unfold pyNext
  refine wpAny_bind (wpAny_attempt (wpAny_callSpecial?_slot (name := Str.ofString "__next__") hit.typeIs slot_rvd_next
    (wpAny_call_entry slot_rvd_next hit.typeIs entry_rvd_next ?_ (args_rvd_next_1 _))))
  unfold Builtin.«reversed.__next__»
  refine wpAny_bind (wpAny_of_eq (a := (Value.ref it, [])) rfl ?_)
  try dsimp only
  refine wpAny_bind (wpAny_field ho hd (x := .ref t) rfl ?_)
  refine wpAny_bind (wpAny_field ho hd (x := rawInt (i : Int)) rfl ?_)
  show wpAny _ _ (if (i : Int) < 0 then _ else _) _ _ s
  rw [if_neg (by omega)]
  refine wpAny_bind (wpAny_specialOf hT tup_item ?_)
  show wpAny _ _ (if (some (Value.builtin "tuple.__getitem__")).isNone = true then _ else _) _ _ s
  rw [if_neg (by decide)]
  refine wpAny_bind (wpAny_mkInt ?_)
  refine wpAny_bind (wpAny_attempt ?_)
  have hj : seqIndex? (i : Int) items.size = some i := by
    unfold seqIndex?
    simp
    omega
  refine getItem_tuple (show IsTup _ t items from ht) (by omega) (by omega) hj hx ?_
  show wpAny _ _ (field (.ref it) 1 >>= _) _ _ _
  refine wpAny_bind (wpAny_field ho hd (x := rawInt (i : Int)) rfl ?_)
  show wpAny _ _ (setField (.ref it) 1 (rawInt ((i : Int) - 1)) >>= _) _ _ _
  refine wpAny_bind (wpAny_setField ho hd (by simp) ?_)
  refine wpAny_pure ⟨x, rfl, wpAny_pure (hQ _ _ ?_ (Heap.SameBut.update ..))⟩
  exact ⟨_, Heap.get?_update_self _ ho (Obj.isFreed_of_fields (Obj.data_mapFields hd _)), (Obj.cls_mapFields ..).trans hc, by
    rw [Obj.data_mapFields hd]; simp⟩
theorem wpAny_pyNext_rvt_end {it t : Addr} {Q : Option Value → Shared → Prop} (hh : A.handled = none) (hit : IsRevT s.heap it t (-1))
    (hQ : ∀ h', Heap.ExtBut it s.heap h' → Q none { s with heap := h' }) : wpAny (model prog w) A (pyNext (.ref it)) Q E s := by
  obtain ⟨o, ho, hc, hd⟩ := id hit
  unfold pyNext
  refine wpAny_bind (wpAny_attempt (wpAny_callSpecial?_slot (name := Str.ofString "__next__") hit.typeIs slot_rvd_next
    (wpAny_call_entry slot_rvd_next hit.typeIs entry_rvd_next ?_ (args_rvd_next_1 _))))
  unfold Builtin.«reversed.__next__»
  refine wpAny_bind (wpAny_of_eq (a := (Value.ref it, [])) rfl ?_)
  try dsimp only
  refine wpAny_bind (wpAny_field ho hd (x := .ref t) rfl ?_)
  refine wpAny_bind (wpAny_field ho hd (x := rawInt (-1)) rfl ?_)
  show wpAny _ _ (if (-1 : Int) < 0 then _ else _) _ _ s
  rw [if_pos (by decide)]
  refine wpAny_bind (wpAny_rule ?_)
  refine wpAny_bind ?_
  refine wpAny_bind (wpAny_setField ho hd (by simp) ?_)
  refine wpAny_setField (Heap.get?_update_self _ ho (Obj.isFreed_of_fields (Obj.data_mapFields hd _))) (Obj.data_mapFields hd _) (by simp) ?_
  refine wpAny_bind ?_
  first
  | show wpAny _ _ (newExc (.type "StopIteration") [] >>= _) _ _ _
  | (refine wpAny_bind ?_; show wpAny _ _ (newExc (.type "StopIteration") [] >>= _) _ _ _)
  refine wpAny_bind ?_
  simp only [newExc, newTuple]
  refine wpAny_bind (wpAny_newObj_type ?_ (by size_fits))
  refine wpAny_bind (m := firstArgMember _ _) (wpAny_of_eq (a := Value.none) (by first | rfl | (simp only [firstArgMember]; rfl)) ?_)
  refine wpAny_newObj_type ?_ (by size_fits)
  simp only [raiseNew]
  refine wpAny_bind (wpAny_handled ?_)
  first | rw [show A.in1.handled = none from hh] | rw [hh]
  refine wpAny_bind (wpAny_pure (wpAny_throw ?_))
  refine wpAny_bind (wpAny_isInstance (T := "StopIteration") (b := true) ⟨_, Heap.get?_push_size _ rfl, rfl⟩ isSubtype_stop ?_)
  exact wpAny_pure (hQ _ ((((Heap.SameBut.update ..).extBut.trans (Heap.SameBut.update ..).extBut).push _).push _))
theorem wpAny_pyIter_rvt {it t : Addr} {i : Int} {Q : Value → Shared → Prop} (hit : IsRevT s.heap it t i) (h : Q (.ref it) s) : wpAny (model prog w) A (pyIter (.ref it)) Q E s := by
  refine wpAny_pyIter_slot hit.typeIs slot_rvd_iter (wpAny_call_entry slot_rvd_iter hit.typeIs entry_rvd_iter ?_ (args_rvd_iter_1 _))
  show wpAny _ _ (ret (.ref it)) _ _ s
  exact wpAny_pure ⟨_, rfl, "reversed", _, hit.typeIs, slot_rvd_next.lookup, h⟩
end
def Itw (K : PySem.W.Frag) (a : Addr) (n : Nat) : It :=
  ⟨fun i H => ∃ xs x, SqT K H a xs ∧ xs.length = n ∧ i < n ∧ xs[n - 1 - i]? = some x, fun i H x H' => H' = H ∧ ∀ xs, SqT K H a xs → xs[n - 1 - i]? = some x, fun i _ => i = n⟩
theorem turn_rvt {P : Program} {w : World} {K : PySem.W.Frag} {tg : Expr} (a it : Addr) (n : Nat) : Turn P w K tg (Itw K a n) [it] it (fun i h => IsRevT h it a ((n : Int) - 1 - (i : Int))) where
  mem := by simp
  obj := fun i h st b hb => by
    have e : b = it := by simpa using hb
    subst e
    obtain ⟨o, e, c, d⟩ := st
    exact ⟨o, e, fun v z => by rw [d] at z; cases z⟩
  keep := fun i h h' st k => st.at fun o e => k it (by simp) o e
  item := by
    intro X hP hw hK hc i pins s σ H E I hf st hg
    subst hP hw hK
    obtain ⟨xs, x, hq, hn, hi, hx⟩ := hg
    obtain ⟨its, rv, p, hz⟩ := I.tuple hq
    obtain ⟨u, hu, ru⟩ := rv.get hx
    obtain ⟨f0, f1, f2, f3, f4, f5⟩ := hf it (by simp)
    have e1 : (n : Int) - 1 - (i : Int) = ((n - 1 - i : Nat) : Int) := by omega
    rw [e1] at st
    refine wpAny_pyNext_rvt_item st p (by rw [List.size_toArray, ← rv.length]; have := sizeLine_eq; omega) (x := u) (by simpa using hu) fun h' tk st' sb => ?_
    have I1 : Inv X pins σ H { s with heap := h', toks := tk } := I.turned (t' := tk) (fun b o hb e => (sb.2 b hb).trans e) f0 f1 f3 f4 f5
    have e2 : ((n - 1 - i : Nat) : Int) - 1 = (n : Int) - 1 - ((i + 1 : Nat) : Int) := by omega
    rw [e2] at st'
    obtain ⟨o, e, c, d⟩ := id st'
    exact ⟨u, rfl, go_of (s := { s with heap := h', toks := tk }) e c d (by decide) ⟨x, H, I1, ru, ⟨rfl, fun ys hy => by rw [I.tuple_inj hy hq]; exact hx⟩, st', fun b hb => (hf b hb).1⟩⟩
  done := by
    intro X hP hw hK hc i pins s σ H E I hf st hg
    subst hP hw hK
    have hi : i = n := hg
    subst hi
    obtain ⟨f0, f1, f2, f3, f4, f5⟩ := hf it (by simp)
    have e1 : (i : Int) - 1 - (i : Int) = -1 := by omega
    rw [e1] at st
    exact wpAny_pyNext_rvt_end (I.ok.hd hc) st fun h' eb => ⟨rfl, I.turned (t' := s.toks) (fun b o hb e => eb b o hb e) f0 f1 f3 f4 f5⟩
  self := fun _ _ _ _ _ st h => wpAny_pyIter_rvt st h
def iRevT (K : PySem.W.Frag) (ta : TA) : TI := fun σ H R => ta σ H fun vs H1 => ∃ a xs, vs = [.ref a] ∧ SqT K H1 a xs ∧ R (Itw K a xs.length) H1
theorem pi_rvt {X : Cx} {tg : Expr} {a : Expr} {ta : TA} {p pos : Pos} (hg : Gl X "reversed") (hm : X.mg "reversed" = none) (ha : PA X [a] ta) (hs : starEach [a] X.env = [(false, eval a X.env)] := by rfl) :
    PI X tg (.Call (.Name "reversed" p) [a] [] pos) (iRevT X.K ta) := by
  intro pins s σ H R I h
  refine Call_ (ld_blt I hg hm boot_reversed (PyProof.Rows.callWith_type1 (thn (ha pos pins s σ H _ I h) fun us s1 ⟨vs, H1, I1, r1, q1⟩ => ?_) hs rfl))
  obtain ⟨l, xs, e, hq, q⟩ := q1
  subst e
  obtain ⟨u, rfl, ru⟩ := vals1 r1
  cases ru
  obtain ⟨its, rv, p1, hz⟩ := I1.tuple hq
  have en : (its.toArray.size : Int) - 1 = (xs.length : Int) - 1 - ((0 : Nat) : Int) := by rw [List.size_toArray, ← rv.length]; omega
  refine call_reversed_tup p1 (by rw [List.size_toArray, ← rv.length]; have := sizeLine_eq; omega) fun tk => ?_
  rw [en]
  have st : IsRevT (s1.heap.push (rvtObj l ((xs.length : Int) - 1 - ((0 : Nat) : Int)))) s1.heap.objs.size l ((xs.length : Int) - 1 - ((0 : Nat) : Int)) := ⟨_, Heap.get?_push_size _ rfl, rfl, rfl⟩
  refine wpAny_pyIter_rvt (s := { s1 with heap := s1.heap.push (rvtObj l ((xs.length : Int) - 1 - ((0 : Nat) : Int))), toks := tk }) st ?_
  refine ⟨_, [s1.heap.objs.size], _, _, H1, rfl, I1.kept (t' := tk) fun b o e => Heap.get?_push_of_some _ e, turn_rvt l _ xs.length, st, fun b hb => ?_, q⟩
  have e : b = s1.heap.objs.size := by simpa using hb
  subst e
  exact I1.fpOk (Nat.le_refl _) (I1.hok.fresh (Nat.le_refl _))
theorem for_rvt {K : PySem.W.Frag} {a : Addr} {xs : List V} {g : TG} {tb : TS} {D : Ends} {σ : St} {H : Hp} (Pv : Nat → St → Hp → Prop) (h0 : Pv 0 σ H) (hl : ∀ i σ H, Pv i σ H → SqT K H a xs)
    (hs : ∀ i x σ H, i < xs.length → xs[xs.length - 1 - i]? = some x → Pv i σ H → g x σ H fun σ2 H2 => tb { D with nx := Pv (i + 1), ct := Pv (i + 1), bk := D.nx } σ2 H2) (hd : ∀ σ H, Pv xs.length σ H → D.nx σ H) :
    ∃ W : Nat → Nat → St → Hp → Prop, (∃ m, W 0 m σ H) ∧ ∀ i m σ H, W i m σ H →
      ((Itw K a xs.length).stop i H ∧ D.nx σ H) ∨ ((Itw K a xs.length).go i H ∧ ∃ N : St → Hp → Prop, (∀ σ' H', N σ' H' → ∃ m', m' < m ∧ W (i + 1) m' σ' H') ∧ ∀ x H', (Itw K a xs.length).yld i H x H' → g x σ H' fun σ2 H2 => tb { D with nx := N, ct := N, bk := D.nx } σ2 H2) := by
  refine ⟨fun i m σ H => m = xs.length - i ∧ i ≤ xs.length ∧ Pv i σ H, ⟨xs.length, by simp, Nat.zero_le _, h0⟩, ?_⟩
  rintro i m σ H ⟨rfl, hi, p⟩
  have q := hl i σ H p
  by_cases hlt : i < xs.length
  · refine .inr ⟨⟨xs, xs[xs.length - 1 - i], q, rfl, hlt, List.getElem?_eq_getElem _⟩, Pv (i + 1), fun σ' H' p' => ⟨xs.length - (i + 1), by omega, rfl, hlt, p'⟩, fun x H' y => ?_⟩
    obtain ⟨e, y⟩ := y
    subst e
    exact hs i x σ _ hlt (y xs q) p
  · have e : i = xs.length := by omega
    subst e
    exact .inl ⟨rfl, hd σ H p⟩
end L2

/-! MY RULES: t + u of tuples, either may be empty. -/
set_option linter.all false
set_option maxRecDepth 100000
set_option maxHeartbeats 2000000
namespace L2
open PySem PySem.Spec PyProof.Rows
section
variable {X : Cx}
def rCatT3 (K : PySem.W.Frag) : R2 := fun x y H Q => ∃ a b xs ys, x = .ref a ∧ y = .ref b ∧ SqT K H a xs ∧ SqT K H b ys ∧ xs.length + ys.length ≤ sizeLine ∧
  (xs = [] → Q (.ref b) H) ∧ (xs ≠ [] → ys = [] → Q (.ref a) H) ∧ (xs ≠ [] → ys ≠ [] → ∀ p, H p = none → Q (.ref p) (upd H p (.tup (xs ++ ys))))
theorem op_catT3 : OpR X (binaryOp .Add) (rCatT3 X.K) := by
  intro pins s σ H x y v u Q I rx ry h
  obtain ⟨a, b, xs, ys, rfl, rfl, ha, hb, hz, q1, q2, q3⟩ := h
  by_cases hx : xs = []
  · subst hx
    cases rx
    cases ry
    obtain ⟨its, r1, p1, _⟩ := I.tuple ha
    obtain ⟨its2, r2, p2, _⟩ := I.tuple hb
    have e1 : its = [] := r1.nil_iff.mpr rfl
    obtain ⟨⟨cls, dd, data, sl⟩, ho, hc, n, hd⟩ := id p1
    obtain ⟨⟨cls2, dd2, data2, sl2⟩, ho2, hc2, n2, hd2⟩ := id p2
    simp only at hc hd hc2 hd2
    subst hc hd hc2 hd2
    exact concat_meets ⟨_, ho, rfl⟩ ⟨_, ho2, rfl⟩ noFill_tuple_add seq_tuple_add PySem.F.slot_tuple_add PySem.F.entry_tuple_add (PySem.F.args_tuple_add_2 _ _)
      (tuple_addW0 a b its.toArray its2.toArray n n2 dd dd2 sl sl2 (by simp [e1])) ⟨ho, ho2, ⟨.ref b, H, I, rfl, q1 rfl⟩⟩
  · exact op_catT pins s σ H _ _ v u Q I rx ry ⟨a, b, xs, ys, rfl, rfl, ha, hb, hx, hz, fun z => q2 hx z, fun z => q3 hx z⟩
/-- the same, told in one word -/
def rCatT4 : R2 := fun x y H Q => ∃ a b xs ys, x = .ref a ∧ y = .ref b ∧ H a = some (.tup xs) ∧ H b = some (.tup ys) ∧ xs.length + ys.length ≤ sizeLine ∧ ∀ q H', Same H H' → H' q = some (.tup (xs ++ ys)) → Q (.ref q) H'
theorem op_catT4 : OpR X (binaryOp .Add) rCatT4 := fun pins s σ H x y v u Q I rx ry h => by
  obtain ⟨a, b, xs, ys, e1, e2, ha, hb, hz, q⟩ := h
  refine op_catT3 pins s σ H x y v u Q I rx ry ⟨a, b, xs, ys, e1, e2, SqT.of ha, SqT.of hb, hz, fun z => ?_, fun _ z => ?_, fun _ _ p hp => ?_⟩
  · subst z; exact q b H (Same.refl _) hb
  · subst z; exact q a H (Same.refl _) (by rw [List.append_nil]; exact ha)
  · exact q p _ (same_new hp) upd_same
end
end L2

/-! MY RULES: for k, x in enumerate(tuple); try round a call that throws nothing. -/
set_option linter.all false
set_option maxRecDepth 100000
set_option maxHeartbeats 2000000
namespace L2
open PySem PySem.Spec PyProof.Rows
open AutoSeq1 (wpAny_loadPart')
theorem draws_tuple {prog : Program} {w : World} {A : Around} (hh : A.handled = none) (it l : Addr) (hne : l ≠ it) (items : Array Value) :
    Draws prog w A it [it, l] items.size (fun i v => items[i]? = some v) (fun i h => h.IsTupleIter it l i ∧ h.IsTuple l items) where
  live := fun _ _ st => let ⟨o, ho, _⟩ := st.1; ⟨o, ho⟩
  frame := fun _ _ _ st hk => ⟨st.1.at fun o e => hk it (by simp) o e, st.2.at fun o e => hk l (by simp) o e⟩
  item := fun i s Q E hi st hQ => by
    refine nextOf_tuple_item st.1 st.2 (x := items[i]) (by simp [hi]) fun h' hit' hs' => ?_
    exact hQ _ h' s.toks (by simp [hi]) ⟨hit', st.2.extBut hs'.extBut hne⟩ hs'
  done := fun s Q E st hE => nextOf_tuple_end hh st.1 st.2 (by simp) hE
theorem meets_enumerate_newT (l : Addr) (items : Array Value) (n : Nat) (dct : Option Addr) (sl : Array (Option Value)) :
    Meets (Builtin.«enumerate.__new__» ⟨[.type "enumerate", .ref l], []⟩) (fun _ R s => s.heap.get? l = some { cls := .type "tuple", dict := dct, data := .seq items n, slots := sl } ∧
      R (.ok (.ret (.ref (s.heap.push { cls := .type "tuple_iterator", data := .fields #[.ref l, .int 0 0] }).objs.size)))
        { s with heap := (s.heap.push { cls := .type "tuple_iterator", data := .fields #[.ref l, .int 0 0] }).push { cls := .type "enumerate", data := .fields #[.none, .bool false, .ref s.heap.objs.size, rawInt 0, .none, .none] } }) :=
  .of_wp fun prog w A R s h => by
    obtain ⟨hp, g, d, tk, os⟩ := s; obtain ⟨hl, h⟩ := h
    have hsub := sub_enumerate
    have hL : Heap.IsTuple (Shared.heap ⟨hp, g, d, tk, os⟩) l items := ⟨_, hl, rfl, n, rfl⟩
    wp_walk using wpAny_loadPart' hl
    refine wpAny_stack_any fun st => wpAny_pure ?_
    split
    · rename_i c _ _ _ _ _
      cases (c == Value.type "enumerate")
      · wp_walk using wpAny_loadPart' hl, wpAny_pyIter_tuple hL
        exact ⟨_, rfl, h⟩
      · wp_walk using wpAny_loadPart' hl, wpAny_pyIter_tuple hL
        exact ⟨_, rfl, h⟩
    · wp_walk using wpAny_loadPart' hl, wpAny_pyIter_tuple hL
      exact ⟨_, rfl, h⟩
theorem call_enumerate_tuple {prog : Program} {w : World} {A : Around} {E : Value → Shared → Prop} {s : Shared} {l : Addr} {items : Array Value} {Q : Value → Shared → Prop} (hL : s.heap.IsTuple l items)
    (h : ∀ h', IsEnum h' (s.heap.objs.size + 1) s.heap.objs.size 0 .none → h'.IsTupleIter s.heap.objs.size l 0 → h'.objs.size = s.heap.objs.size + 2 →
      (∀ b o, s.heap.get? b = some o → h'.get? b = some o) → Q (.ref (s.heap.objs.size + 1)) { s with heap := h' }) :
    wpAny (model prog w) A (call (.type "enumerate") [.ref l]) Q E s := by
  obtain ⟨⟨c, dct, dt, sl⟩, hl, hc, n, hd⟩ := hL
  replace hc : c = .type "tuple" := hc
  replace hd : dt = .seq items n := hd
  subst hc hd
  refine callType_new F.called_enumerate (by decide) (F.typeCall_enumerate_1 _) (F.newCall_enumerate_1 _) (fun obj => F.args_object_init_2 obj _) F.entry_enumerate_new
    (meets_enumerate_newT l items n dct sl) ⟨hl, ?_⟩
  have hz : (s.heap.push { cls := .type "tuple_iterator", data := .fields #[.ref l, .int 0 0] }).objs.size = s.heap.objs.size + 1 := Heap.size_push ..
  show _ ∧ _
  rw [hz]
  have he : IsEnum ((s.heap.push { cls := .type "tuple_iterator", data := .fields #[.ref l, .int 0 0] }).push
      { cls := .type "enumerate", data := .fields #[.none, .bool false, .ref s.heap.objs.size, rawInt 0, .none, .none] }) (s.heap.objs.size + 1) s.heap.objs.size 0 .none := by
    have := Heap.get?_push_size (s.heap.push { cls := .type "tuple_iterator", data := .fields #[.ref l, .int 0 0] })
      (o := { cls := .type "enumerate", data := .fields #[.none, .bool false, .ref s.heap.objs.size, rawInt 0, .none, .none] }) rfl
    rw [hz] at this; exact this
  refine ⟨⟨_, he, rfl⟩, h _ he ⟨_, Heap.get?_push_of_some _ (Heap.get?_push_size _ rfl), rfl, rfl⟩ (by rw [Heap.size_push, hz]) fun b o x => Heap.get?_push_of_some _ (Heap.get?_push_of_some _ x)⟩
/-- enumerate over a tuple: the i-th pair is a new tuple -/
def ItEnT (K : PySem.W.Frag) (a : Addr) : It :=
  ⟨fun i H => ∃ xs x, SqT K H a xs ∧ xs[i]? = some x,
   fun i H v H' => ∃ p, H p = none ∧ v = .ref p ∧ ∃ x, (∀ xs, SqT K H a xs → xs[i]? = some x) ∧ H' = upd H p (.tup [.int (i : Nat), x]),
   fun i H => ∃ xs, SqT K H a xs ∧ xs.length = i⟩
def EnStT (e it a : Addr) (i : Nat) (h : Heap) : Prop := (∃ old, IsEnum h e it (i : Nat) old) ∧ h.IsTupleIter it a i
theorem turn_enumT {P : Program} {w : World} {K : PySem.W.Frag} {elts : List Expr} {kk : Nat} {pos : Pos} {e it a : Addr} (ne : e ≠ it) (na : a ≠ it) (nea : e ≠ a) : Turn P w K (.Tuple elts kk pos) (ItEnT K a) [e, it] e (EnStT e it a) where
  mem := by simp
  obj := fun i h st c hc => by
    obtain ⟨⟨old, h1⟩, h2⟩ := st
    simp only [List.mem_cons, List.not_mem_nil, or_false] at hc
    rcases hc with rfl | rfl
    · exact ⟨_, h1, fun v z => by cases (show Data.fields _ = Data.cell v from z)⟩
    · obtain ⟨o, ho, _, hd⟩ := h2
      exact ⟨o, ho, fun v z => by rw [hd] at z; cases z⟩
  keep := fun i h h' st k => by
    obtain ⟨⟨old, h1⟩, h2⟩ := st
    exact ⟨⟨old, k e (by simp) _ h1⟩, h2.at fun o z => k it (by simp) o z⟩
  item := by
    intro X hP hw hK hc i pins s σ H E I hf st hg
    subst hP hw hK
    obtain ⟨xs, x, hq, hx⟩ := hg
    obtain ⟨its, rv, p1, _⟩ := I.tuple hq
    obtain ⟨u, hu, ru⟩ := rv.get hx
    obtain ⟨⟨old, h1⟩, h2⟩ := st
    have hi : i < its.toArray.size := by simpa using (List.getElem?_eq_some_iff.mp hu).1
    refine wpAny_pyNext_enum_itemD (draws_tuple (by simpa using I.ok.hd hc) it a na its.toArray) h1 ⟨h2, p1⟩ hi ne (by simp [ne, nea]) fun y h' tk py z1 z2 z3 z4 kp => ?_
    have ey : u = y := by
      have h3 : its.toArray[i]? = some u := by simpa using hu
      rw [h3] at py
      exact Option.some.inj py
    subst ey
    refine ⟨_, rfl, wpAny_letOwnedTupleGo_enum (s := { s with heap := h', toks := tk + 1 }) z1 fun g zg sb => ?_⟩
    have nz : s.heap.objs.size ≠ e := Nat.ne_of_gt (Heap.lt_size h1)
    have n2 : it < s.heap.objs.size := let ⟨_, q, _⟩ := h2; Heap.lt_size q
    have tq : g.get? s.heap.objs.size = some { cls := .type "tuple", data := .seq #[.int i tk, u] } := sb.extBut _ _ nz z3
    have I1 : Inv X pins σ (upd H s.heap.objs.size (.tup [.int (i : Nat), x])) { s with heap := g, toks := tk + 1 } := I.turnedNew (ts := [e, it]) (fun c o hc q => by
      simp only [List.mem_cons, List.not_mem_nil, or_false, not_or] at hc
      exact sb.extBut _ _ hc.1 (kp c o hc.1 hc.2 q)) hf (Nat.le_refl _) ⟨by show 2 ≤ sizeLine; decide, [.int i tk, u], .cons ⟨_, rfl⟩ (.cons ru .nil), ⟨_, tq, rfl, _, rfl⟩⟩
    refine ⟨.ref s.heap.objs.size, _, I1, rfl, ⟨_, I.hok.fresh (Nat.le_refl _), rfl, x, fun zs hz => by rw [I.tuple_inj hz hq]; exact hx, rfl⟩, ⟨⟨_, zg⟩, z2.1.at fun o q => sb.extBut _ _ ne.symm q⟩, fun c hc => ?_⟩
    have hcn : c ≠ s.heap.objs.size := by
      simp only [List.mem_cons, List.not_mem_nil, or_false] at hc
      rcases hc with rfl | rfl
      · exact nz.symm
      · exact Nat.ne_of_lt n2
    rw [upd_ne hcn]
    exact (hf c hc).1
  done := by
    intro X hP hw hK hc i pins s σ H E I hf st hg
    subst hP hw hK
    obtain ⟨xs, hq, hx⟩ := hg
    obtain ⟨its, rv, p1, _⟩ := I.tuple hq
    have e1 := rv.length
    obtain ⟨⟨old, h1⟩, h2⟩ := st
    have ei : its.toArray.size = i := by simp; omega
    subst ei
    refine wpAny_pyNext_enum_endD (draws_tuple (by simpa using I.ok.hd hc) it a na its.toArray) h1 ⟨h2, p1⟩ fun h' kp => ⟨rfl, ?_⟩
    exact I.turnedL (t' := s.toks) (ts := [e, it]) (fun c o hc q => by
      simp only [List.mem_cons, List.not_mem_nil, or_false, not_or] at hc
      exact kp c o hc.2 q) hf
  self := fun _ _ _ _ _ st h => by
    obtain ⟨⟨old, h1⟩, _⟩ := st
    exact wpAny_pyIter_enum h1 h
def iEnumT (K : PySem.W.Frag) (ta : TA) : TI := fun σ H R => ta σ H fun vs H1 => ∃ a xs, vs = [.ref a] ∧ SqT K H1 a xs ∧ R (ItEnT K a) H1
theorem pi_enumT {X : Cx} {elts : List Expr} {kk : Nat} {tpos : Pos} {a : Expr} {ta : TA} {p pos : Pos} (hg : Gl X "enumerate") (hm : X.mg "enumerate" = none) (ha : PA X [a] ta) (hs : starEach [a] X.env = [(false, eval a X.env)] := by rfl) :
    PI X (.Tuple elts kk tpos) (.Call (.Name "enumerate" p) [a] [] pos) (iEnumT X.K ta) := by
  intro pins s σ H R I h
  refine Call_ (ld_blt I hg hm boot_enumerate (PyProof.Rows.callWith_type1 (thn (ha pos pins s σ H _ I h) fun us s1 ⟨vs, H1, I1, r1, q1⟩ => ?_) (by rw [hs]; rfl) (by rfl)))
  obtain ⟨l, xs, e, hq, q⟩ := q1
  subst e
  obtain ⟨u, rfl, ru⟩ := vals1 r1
  cases ru
  obtain ⟨its, rv, p1, _⟩ := I1.tuple hq
  have ll : l < s1.heap.objs.size := let ⟨_, q, _⟩ := p1; Heap.lt_size q
  refine call_enumerate_tuple p1 fun h' z1 z2 z3 kp => wpAny_pyIter_enum z1 ?_
  have I2 : Inv X pins σ H1 { s1 with heap := h' } := I1.kept (t' := s1.toks) kp
  refine ⟨_, [s1.heap.objs.size + 1, s1.heap.objs.size], _, _, H1, rfl, I2, turn_enumT (Nat.ne_of_gt (Nat.lt_succ_self _)) (Nat.ne_of_lt ll) (Nat.ne_of_gt (Nat.lt_succ_of_lt ll)), ⟨⟨_, z1⟩, z2⟩, fun c hc => ?_, q⟩
  have hle : s1.heap.objs.size ≤ c := by
    simp only [List.mem_cons, List.not_mem_nil, or_false] at hc
    rcases hc with rfl | rfl
    · exact Nat.le_succ _
    · exact Nat.le_refl _
  exact I1.fpOk hle (I1.hok.fresh hle)
/-- over a tuple -/
theorem for_enumT {K : PySem.W.Frag} {a : Addr} {xs : List V} {g : TG} {tb : TS} {D : Ends} {σ : St} {H : Hp} (Pv : Nat → St → Hp → Prop) (h0 : Pv 0 σ H) (hl : ∀ i σ H, Pv i σ H → SqT K H a xs)
    (hs : ∀ i x σ H p, xs[i]? = some x → Pv i σ H → H p = none → g (.ref p) σ (upd H p (.tup [.int (i : Nat), x])) fun σ2 H2 => tb { D with nx := Pv (i + 1), ct := Pv (i + 1), bk := D.nx } σ2 H2) (hd : ∀ σ H, Pv xs.length σ H → D.nx σ H) :
    ∃ W : Nat → Nat → St → Hp → Prop, (∃ m, W 0 m σ H) ∧ ∀ i m σ H, W i m σ H →
      ((ItEnT K a).stop i H ∧ D.nx σ H) ∨ ((ItEnT K a).go i H ∧ ∃ N : St → Hp → Prop, (∀ σ' H', N σ' H' → ∃ m', m' < m ∧ W (i + 1) m' σ' H') ∧ ∀ x H', (ItEnT K a).yld i H x H' → g x σ H' fun σ2 H2 => tb { D with nx := N, ct := N, bk := D.nx } σ2 H2) := by
  refine ⟨fun i m σ H => m = xs.length - i ∧ i ≤ xs.length ∧ Pv i σ H, ⟨xs.length, by simp, Nat.zero_le _, h0⟩, ?_⟩
  rintro i m σ H ⟨rfl, hi, p⟩
  have q := hl i σ H p
  by_cases hlt : i < xs.length
  · refine .inr ⟨⟨xs, _, q, List.getElem?_eq_getElem hlt⟩, Pv (i + 1), fun σ' H' p' => ⟨xs.length - (i + 1), by omega, rfl, hlt, p'⟩, fun v H' y => ?_⟩
    obtain ⟨c, hc, rfl, x, f, rfl⟩ := y
    exact hs i x σ H c (f xs q) p hc
  · have e : i = xs.length := by omega
    subst e
    exact .inl ⟨⟨xs, q, rfl⟩, hd σ H p⟩
/-! ### a call that throws nothing, as the body of a try -/
section
variable {X : Cx} {k : Nat} {f : Addr} {fd : FuncData} {ps : List Str} {sp : Sp} {x : Str} {p pos : Pos} {e : Expr} {es : List Expr} {t : TA}
end
end L2

/-! MY RULES: a call of an own class of exceptions that has its own __init__, own classes above it. -/
set_option linter.all false
set_option maxRecDepth 100000
set_option maxHeartbeats 2000000
namespace L2
open PySem PySem.Spec PyProof.Rows
section
variable {prog : Program} {w : World} {A : Around} {E : Value → Shared → Prop} {h : Heap} {g : Array GenState} {d : Drawn} {t : Nat} {os : OsState}
variable {nm q : Str} {C N : Addr} {bs bm bmB : List Value} {hdct : Bool} {sn : List Str} {sub : List Value} {ab : Bool} {col : Option Bool} {dd : Option Addr} {k0 k1 k2 k3 k5 : Option Value} {B Bn newId nid initId inN : String} {bmN : List Value}
theorem type_call_exc_initU (Fn : ExcBaseFacts Bn newId inN bmN) (hBn : bmB.contains (.type Bn) = true) (F : ExcBaseFacts B nid initId bmB) (T : OwnTail h bmB bm) {mN : Str → Option Value} {rest : List Value} {fI : Addr} {oI : Obj} {Q : Fin → Shared → Prop}
    (hC : h.get? C = some (excClassObj nm q C N bs bm hdct sn sub ab col dd k0 k1 k2 k3 k5 newId)) (hn : h.Ns N mN) (hi : mN "__init__" = some (.ref fI))
    (hfI : h.get? fI = some oI) (hfc : oI.cls = .type "function")
    (hq : ∀ h' e, Heap.MadeExcOf h h' e (.ref C) rest →
      wpAny (model prog w) A (call (.ref fI) (.ref e :: rest)) (fun r s' => r = .none ∧ Q (.done (.ret (.ref e))) s') E ⟨h', g, d, t, os⟩) (hrest : rest.length ≤ sizeLine) :
    wpAny (model prog w) A (Builtin.«type.__call__» ⟨.ref C :: rest, []⟩) Q E ⟨h, g, d, t, os⟩ := by
  repeat (first | with_reducible refine wpAny_loadPart_at hC ?_ | with_reducible refine wpAny_madeBy_exc hC ?_ | wp_step)
  refine codeAny_call_builtin_code (Code.quiet_builtin _ Fn.quiet) (wpAny_check_new_subU Fn hBn T hC ?_)
  refine codeAny_exc_new_subU Fn hBn F T hC ?_ hrest
  show wpAny _ _ _ _ _ _
  have hC₁ := Heap.get?_push_of_some { cls := .ref C, data := .fields #[.ref h.objs.size, .none, .none, .none, .bool false, .none] }
    (Heap.get?_push_of_some { cls := .type "tuple", data := .seq rest.toArray } hC)
  have hfI₁ := Heap.get?_push_of_some { cls := .ref C, data := .fields #[.ref h.objs.size, .none, .none, .none, .bool false, .none] }
    (Heap.get?_push_of_some { cls := .type "tuple", data := .seq rest.toArray } hfI)
  have hn₁ : ((h.push { cls := .type "tuple", data := .seq rest.toArray }).push { cls := .ref C, data := .fields #[.ref h.objs.size, .none, .none, .none, .bool false, .none] }).Ns N mN :=
    let ⟨o, es, ep, e, r⟩ := hn; ⟨o, es, ep, Heap.get?_push_of_some _ (Heap.get?_push_of_some _ e), r⟩
  have hget : ((h.push { cls := .type "tuple", data := .seq rest.toArray }).push
      { cls := .ref C, data := .fields #[.ref h.objs.size, .none, .none, .none, .bool false, .none] }).get? (h.objs.size + 1) = some
      { cls := .ref C, data := .fields #[.ref h.objs.size, .none, .none, .none, .bool false, .none] } := by heap_get
  have hcC : (Value.ref C :: bm).contains (.ref C) = true := by simp
  have T₁ := T.keeps (h' := (h.push { cls := .type "tuple", data := .seq rest.toArray }).push { cls := .ref C, data := .fields #[.ref h.objs.size, .none, .none, .none, .bool false, .none] })
    fun b o e => Heap.get?_push_of_some _ (Heap.get?_push_of_some _ e)
  unfold isInstance
  repeat (first | with_reducible refine wpAny_loadPart_at hget ?_ | (with_reducible refine wpAny_isSubtype_exc hC₁ ?_; rw [hcC]) | wp_step)
  show wpAny _ _ (typeLookup (.ref C) _) _ _ _
  refine wpAny_typeLookup_tail hC₁ hn₁ T₁ F.mroIs F.init.lookup ?_
  rw [hi]
  refine wpAny_holding (wpAny_bind ?_)
  unfold bindSpecial
  refine wpAny_bind (wpAny_typeOf (T := "function") ⟨_, hfI₁, hfc⟩ ?_)
  rw [if_pos (by decide)]
  refine wpAny_pure (wpAny_bind (wpAny_mono (hq _ (h.objs.size + 1) ⟨fun b o hb => Heap.get?_push_of_some _ (Heap.get?_push_of_some _ hb), Heap.get?_none_of_le (Nat.le_succ _), h.objs.size, hget, Heap.get?_none_of_le (Nat.le_refl _), ?_⟩) (fun r s' hr => ?_) fun _ _ x => x))
  · exact Heap.get?_push_of_some _ (Heap.get?_push_at rfl rfl)
  · obtain ⟨rfl, hQ⟩ := hr
    wp_walk
    exact hQ
theorem call_exc_initU (Fn : ExcBaseFacts Bn newId inN bmN) (hBn : bmB.contains (.type Bn) = true) (F : ExcBaseFacts B nid initId bmB) (T : OwnTail h bmB bm) {mN : Str → Option Value} {rest : List Value} {fI : Addr} {oI : Obj} {Q : Value → Shared → Prop}
    (hC : h.get? C = some (excClassObj nm q C N bs bm hdct sn sub ab col dd k0 k1 k2 k3 k5 newId)) (hn : h.Ns N mN) (hi : mN "__init__" = some (.ref fI))
    (hfI : h.get? fI = some oI) (hfc : oI.cls = .type "function")
    (hq : ∀ h' e, Heap.MadeExcOf h h' e (.ref C) rest →
      wpAny (model prog w) (A.under (.builtin "type.__call__" ⟨.ref C :: rest, []⟩)) (call (.ref fI) (.ref e :: rest)) (fun r s' => r = .none ∧ Q (.ref e) s') E ⟨h', g, d, t, os⟩) (hrest : rest.length ≤ sizeLine) :
    wpAny (model prog w) A (call (.ref C) rest) Q E ⟨h, g, d, t, os⟩ := by
  have f1 := tc_lookup
  have f2 := tc_bind (.ref C)
  have hT : (⟨h, g, d, t, os⟩ : Shared).TypeIs (.ref C) "type" := ⟨_, hC, rfl⟩
  refine wpAny_call (codeAny_of_tree ?_)
  show wpAny _ _ (callAny (.ref C) _) _ _ _
  repeat (any_goals (first | assumption | with_reducible refine wpAny_loadPart_at hC ?_ | wp_step))
  refine ⟨rfl, ?_⟩
  refine codeAny_call_builtin_at (Code.quiet_builtin _ (by decide +kernel)) entry_typeCall (wpAny_check_type_call_sub hC (type_call_exc_initU (hrest := hrest) Fn hBn F T hC hn hi hfI hfc fun h' e hm => ?_))
  exact hq h' e hm
end
end L2

/-! MY RULES: self.f = v where self is a new exception of an own class. -/
set_option linter.all false
set_option maxRecDepth 100000
set_option maxHeartbeats 2000000
namespace PySem.W
open PySem PySem.Spec PySem.Calls PyProof.Rows PySem.Builtin.ObjectAttr PySem.Builtin
/-- own classes, then ValueError and what is above it -/
def excTail : List Value → Bool
  | [.type a, .type b, .type c, .type d] => a == "ValueError" && b == "Exception" && c == "BaseException" && d == "object"
  | .ref _ :: r => excTail r
  | _ => false
theorem refuse_exc (self : Value) : ∀ {l : List Value}, excTail l = true → refuseLoop self "__setattr__" l = pure ()
  | [.type a, .type b, .type c, .type d], e => by
    simp only [excTail, Bool.and_eq_true, beq_iff_eq] at e
    obtain ⟨⟨⟨rfl, rfl⟩, rfl⟩, rfl⟩ := e
    exact PySem.F.store_ValueError.passes self
  | .ref c :: r, e => by rw [refuseLoop_ref]; exact refuse_exc self (show excTail r = true from e)
theorem exc_has : ∀ {l : List Value}, excTail l = true → l.contains (.type "object") = true
  | [.type a, .type b, .type c, .type d], e => by
    simp only [excTail, Bool.and_eq_true, beq_iff_eq] at e
    obtain ⟨⟨⟨rfl, rfl⟩, rfl⟩, rfl⟩ := e
    decide
  | .ref c :: r, e => by rw [List.contains_cons, exc_has (l := r) (show excTail r = true from e), Bool.or_true]
def excOver (K : Frag) (C : Addr) : Bool := (clsIn K C).any fun cd => excTail cd.mro
section
variable {prog : Program} {w : World} {A : Around} {R : Result → Shared → Prop} {s : Shared} {K : Frag} {x C : Addr}
theorem osa_openX {ox : Obj} {od : Option Obj} {name : Str} {tk : Tok} {v : Value} (X : K.In s.heap) (I : InstAt s.heap x ox C od) (hp : excOver K C = true) (ht : takerIn K C name = some none)
    (h : ∀ b, wpAny (model prog w) A.in1 (storeInOwnDict (.ref x) (.ref C) (.str name tk) name v b)
      (fun fin s' => match fin with | .done f => R (.ok f) s' | .again c' => c'.quiet = true ∧ codeAny (model prog w) A c' R s') (fun e s' => R (.error e) s') s) :
    codeAny (model prog w) A (.call (.builtin "object.__setattr__") ⟨[.ref x, .str name tk, v], []⟩) R s := by
  have SF := PySem.F.store_object
  obtain ⟨cd, hc, ho⟩ := any_some hp
  have ne : cd.mro.isEmpty = false := by cases q : cd.mro with | nil => rw [q] at ho; cases ho | cons _ _ => rfl
  have sub : Looks (model prog w) s.heap (isInstance (.ref x) (.type "object")) true := I.type.andThen (looks_mroIn X (by unfold mroIn; rw [hc, Option.bind_some, if_neg (by rw [ne]; decide), exc_has ho]))
  refine codeAny_call_builtin SF.slot.plain SF.entry (@check_slot (model prog w) _ _ s "object.__setattr__" "object" "__setattr__" (.ref x) [.str name tk, v] [] _ SF.kind SF.split sub (SF.args (.ref x) (.str name tk) v) ?_)
  obtain ⟨attr, ha, hr⟩ := Option.bind_eq_some_iff.mp ht
  have hm : Looks (model prog w) s.heap (mroOf (.ref C)) cd.mro := (looks_clsIn X hc).andThen .now
  have L3 : Looks (model prog w) s.heap (storeTaker? attr) none := by
    cases attr with
    | none => cases hr; exact .now
    | some a =>
      obtain ⟨b, hb, e⟩ := Option.map_eq_some_iff.mp hr
      cases b with
      | true => cases e
      | false => exact (looks_takesIn X hb).andThen .now
  rw [osa_eq, refuse_eq]
  refine wpAny_bind (wpAny_bind (I.type.here (wpAny_bind (hm.here ?_))))
  rw [refuse_exc _ ho]
  refine wpAny_pure (wpAny_bind (I.type.here (wpAny_bind ((looks_findIn X ha).here (wpAny_bind (L3.here ?_))))))
  exact h _
theorem exc_setattr {E : Value → Shared → Prop} {ox : Obj} {vs : Array Value} {name : Str} {v : Value} {Q : Unit → Shared → Prop} (X : K.In s.heap) (hx : s.heap.get? x = some ox) (hcl : ox.cls = .ref C) (hdn : ox.dict = none) (hdt : ox.data = .fields vs)
    (hs : findIn K (.ref C) "__setattr__" = some (some (.builtin "object.__setattr__"))) (hp : excOver K C = true) (ht : takerIn K C name = some none) (hh : (clsIn K C).any (·.hasDict) = true)
    (h : ∀ h' tk, h'.get? x = some { ox with dict := some s.heap.objs.size } → h'.Ns1 s.heap.objs.size (fun y => if y = name then some v else none) → (∀ b o, b ≠ x → s.heap.get? b = some o → h'.get? b = some o) → Q () { s with heap := h', toks := tk }) :
    wpAny (model prog w) A (setAttr (.ref x) name v) Q E s := by
  obtain ⟨hp0, g, d, t, os⟩ := s
  dsimp only at X hx h
  have I : InstAt hp0 x ox C none := ⟨hx, hcl, by obtain ⟨_, _, d, _⟩ := ox; cases hdt; rfl, by rw [hdn]; exact True.intro⟩
  refine set_plain X I hs (osa_openX (s := ⟨hp0, g, d, t + 1, os⟩) X I hp ht fun b => ?_)
  obtain ⟨cd, hc, hd'⟩ := any_some hh
  obtain ⟨oc, odi, oda, osl⟩ := ox
  dsimp only at hcl hdn hdt
  subst hcl hdn hdt
  have L := looks_clsIn (M := model prog w) X hc
  refine wpAny_bind (wpAny_pure (wpAny_bind (wpAny_bind (wpAny_loadPart hx (wpAny_bind (Looks.here (s := ⟨hp0, g, d, t + 1, os⟩) L ?_))))))
  rw [hd']
  have hx₁ : (hp0.push { cls := .type "dict", data := .dict #[] }).get? x = some { cls := .ref C, data := .fields vs, slots := osl } := Heap.get?_push_of_some _ hx
  have hxs : x ≠ hp0.objs.size := Nat.ne_of_lt (Heap.lt_size hx)
  show wpAny _ _ (if (!true || !typeHasDict (.ref C)) = true then pure none else (alloc { cls := Value.type "dict", data := Data.dict #[] } >>= fun d => update x (fun o => { cls := o.cls, dict := some d, data := o.data, slots := o.slots }) >>= fun _ => dictMade (.ref C) x d)) _ _ _
  rw [if_neg (by simp [typeHasDict])]
  refine wpAny_bind (wpAny_alloc' ?_)
  refine wpAny_bind (wpAny_update' hx₁ ?_)
  refine wpAny_pure ?_
  have hgd : ((hp0.push { cls := .type "dict", data := .dict #[] }).update x fun o => { cls := o.cls, dict := some hp0.objs.size, data := o.data, slots := o.slots }).get? hp0.objs.size
      = some { cls := .type "dict", data := .dict #[] } :=
    (Heap.get?_update_ne _ _ _ _ hxs.symm).trans (Heap.get?_push_at rfl rfl)
  have hnd : ((hp0.push { cls := .type "dict", data := .dict #[] }).update x fun o => { cls := o.cls, dict := some hp0.objs.size, data := o.data, slots := o.slots }).Ns hp0.objs.size (fun _ => none) :=
    ⟨_, #[], _, hgd, rfl, fun e he => absurd he (by simp), fun _ => rfl⟩
  show wpAny _ _ (storeInDict hp0.objs.size (.str name t) name v) _ _ _
  unfold storeInDict newKeyGuard
  refine wpAny_bind (wpAny_pure (wpAny_bind (wpAny_nsSet1 (Heap.Ns1.of_empty hnd) fun h' hn' hs => ?_)))
  obtain ⟨oD, esD, epD, hoD, hdD, hcD⟩ := hn'.count (Within.cons name v Within.nil)
  refine wpAny_bind (wpAny_lookBehind hoD (by rw [hdD]; exact pastItsLine_dict (Nat.le_trans hcD (by rw [List.length_cons, List.length_nil, sizeLine_eq]; omega))) ?_)
  refine wpAny_pure ?_
  refine h h' _ ((hs.2 x hxs).trans (Heap.get?_update_self _ hx₁ rfl)) hn' fun b o hb e => ?_
  exact (hs.2 b (Nat.ne_of_lt (Heap.lt_size e))).trans ((Heap.get?_update_ne _ _ _ _ hb).trans (Heap.get?_push_of_some _ e))
end
end PySem.W

/-! MY RULES: a new exception, tracked (xcN: no field yet; xcD: its dict stands at dx, an .xd), self.f = v of it (ps_fldX). -/
set_option linter.all false
set_option maxRecDepth 100000
set_option maxHeartbeats 2000000
namespace L2
open PySem PySem.Spec PyProof.Rows
section
variable {X : Cx} {pins : List (Addr × Obj)} {σ : St} {H H1 : Hp} {s s1 : Shared} {a : Addr} {o : HO}
/-- what came to be since s1 is tracked -/
theorem Inv.trackO (I1 : Inv X pins σ H1 s1) (I : Inv X pins σ H s) (hn : s1.heap.get? a = none) (hH : H a = none) (new : ObjOk X.prog X.w (upd H a o) s.heap a o) : Inv X pins σ (upd H a o) s := by
  have ne1 : ∀ b o, s1.heap.get? b = some o → b ≠ a := fun b o e z => by
    rw [z, hn] at e
    cases e
  have up : ∀ b u, H b = some u → upd H a o b = some u := fun b u e => by
    rw [upd_ne (ne_of_none e hH)]
    exact e
  refine ⟨I.ok, I.os, I.bare, ⟨I.base.keep, I.base.slot, fun b o e n hb => ?_, I.base.there, fun b xs e => up _ _ (I.base.tups b xs e), fun b o u e => up _ _ (I.base.frzs b o u e), fun b ps e => ?_⟩, I.loc, I.cell, ?_, fun x c e => ?_, fun p hp => ?_, fun b u e => ?_, I.len⟩
  · obtain ⟨o1, e1⟩ := I1.base.there b o e hb
    rw [upd_ne (ne1 b o1 e1)]
    exact I.base.free b o e n hb
  · obtain ⟨m, q⟩ := I.base.tbls b ps e
    exact ⟨m, up _ _ q⟩
  · obtain ⟨m, ⟨o, _, _, ho, _⟩, _⟩ := I1.loc
    rw [upd_ne (ne1 _ o ho)]
    exact I.free
  · obtain ⟨v, o, ho, _⟩ := I1.cell x c e
    rw [upd_ne (ne1 _ o ho)]
    exact I.freeC x c e
  · obtain ⟨e, n, r⟩ := I.pin p hp
    have e1 := (I1.pin p hp).1
    exact ⟨e, by rw [upd_ne (ne1 _ _ e1)]; exact n, r⟩
  · by_cases hb : b = a
    · subst hb
      rw [upd_same] at e
      cases e
      exact new
    · rw [upd_ne hb] at e
      exact (I.hok b u e).stay (fun _ _ _ q => q) (fun c q => up _ _ q) fun c xs q => up _ _ q
end
/-- a new exception of the class at C, its arguments at t: without a dict, with its dict at dx -/
def xcObj (C t : Addr) (d : Option Addr) : Obj := { cls := .ref C, dict := d, data := .fields #[.ref t, .none, .none, .none, .bool false, .none] }
def xcN (e C t : Addr) : HO := .ext fun h => h.get? e = some (xcObj C t none)
def xcD (e C t dx : Addr) : HO := .ext fun h => h.get? e = some (xcObj C t (some dx))
theorem xcN_ok {P : Program} {w : World} {H : Hp} {h : Heap} {e C t : Addr} (q : h.get? e = some (xcObj C t none)) : ObjOk P w H h e (xcN e C t) := ⟨q, ⟨_, q⟩, fun h1 h2 p k => k _ p⟩
theorem xcD_ok {P : Program} {w : World} {H : Hp} {h : Heap} {e C t dx : Addr} (q : h.get? e = some (xcObj C t (some dx))) : ObjOk P w H h e (xcD e C t dx) := ⟨q, ⟨_, q⟩, fun h1 h2 p k => k _ p⟩
/-- what is asked of the class -/
structure XStore (K : PySem.W.Frag) (C : Addr) (f : Str) : Prop where
  sa : PySem.W.findIn K (.ref C) "__setattr__" = some (some (.builtin "object.__setattr__"))
  ov : PySem.W.excOver K C = true
  hd : (PySem.W.clsIn K C).any (·.hasDict) = true
  no : NoAttr K C f
def sFldX (K : PySem.W.Frag) (ta tv : TE) (f : Str) : TS := fun D σ H => tv σ H fun y H1 => ta σ H1 fun x H2 => ∃ e C t, x = .ref e ∧ H2 e = some (xcN e C t) ∧ XStore K C f ∧
  ∀ dx, H2 dx = none → D.nx σ (upd (upd H2 e (xcD e C t dx)) dx (.xd [(f, y)]))
theorem ps_fldX {X : Cx} {o value : Expr} {f : Str} {pos pos' : Pos} {ta tv : TE} (ha : PE X o ta) (hv : PE X value tv) (hs : swapsWith value (some (.Attribute o f pos')) pos.line X.env = pure false) : PS X (.Assign [.Attribute o f pos'] value pos) (sFldX X.K ta tv f) := by
  intro pins s σ H D I h
  refine plainObj_wpAny_Assign_Attribute (thn (hv pins s σ H _ I h) fun u s1 ⟨y, H1, I1, ry, q⟩ => thn (ha pins s1 σ H1 _ I1 q) fun ov s2 ⟨x, H2, I2, rx, e, C, t, ex, ee, xs, q2⟩ => ?_) hs
  subst ex
  obtain rfl : ov = Value.ref e := rx
  obtain ⟨he, _, _⟩ := (show ObjOk X.prog X.w H2 s2.heap e (xcN e C t) from I2.hok e _ ee)
  refine PySem.W.exc_setattr I2.kIn he rfl rfl rfl xs.sa xs.ov xs.no.taker xs.hd fun h' tk q1 q3 q4 => ?_
  have hn : H2 s2.heap.objs.size = none := I2.hok.fresh (Nat.le_refl _)
  have ne : s2.heap.objs.size ≠ e := (ne_of_none ee hn).symm
  have Ia := I2.write (x := e) (e := e) (o := xcD e C t s2.heap.objs.size) (h' := h') (t' := tk) (by rw [ee]; exact True.intro) (.inl rfl) (fun b u hb z => q4 b u hb z) ⟨_, q1⟩ (xcD_ok q1)
  have Ib := I2.trackO (a := s2.heap.objs.size) (o := .xd [(f, y)]) Ia (Heap.get?_none_of_le (Nat.le_refl _)) (by rw [upd_ne ne]; exact hn) ⟨_, q3, fun g => by
    by_cases z : g = f
    · subst z
      rw [if_pos rfl]
      show RelO (([(g, y)] : List (Str × V)).lookup g) (some u)
      simp [List.lookup]
      exact ry
    · rw [if_neg z]
      show RelO (([(f, y)] : List (Str × V)).lookup g) none
      have : (([(f, y)] : List (Str × V)).lookup g) = none := by simp [List.lookup, beq_eq_false_iff_ne.mpr z]
      rw [this]
      exact True.intro⟩
  exact ⟨σ, _, Ib, q2 _ hn⟩
end L2

/-! MY RULES: an own class of exceptions with __init__: what the fragment tells of it (excInI), a call of it (run_makeX). -/
set_option linter.all false
set_option maxRecDepth 100000
set_option maxHeartbeats 2000000
namespace PySem.W
open PySem PySem.Spec PySem.Calls PyProof.Rows
/-- as excIn, but with an __init__ of its own at f -/
def excInI (K : Frag) (C f : Addr) (bmB : List Value) (newId : String) : Bool := match K.lookup C with
  | some ⟨.type "type", _, .cls cd, sl⟩ => (match cd.mro, sl.toList with
    | .ref C' :: bm, [_, _, _, _, some (.builtin n), _] => C' == C && n == newId && !cd.hasDel && tailIn K bmB bm && nsOkIn K cd.ns && nsIn K cd.ns "__init__" == some (some (.ref f)) && isFn K (.ref f)
    | _, _ => false)
  | _ => false
end PySem.W
namespace L2
open PySem PySem.Spec PyProof.Rows
/-- a name of a namespace that the fragment holds -/
theorem ns_at {K : PySem.W.Frag} {h : Heap} {N : Addr} {m : Str → Option Value} {x : Str} {v : Value} (X : K.In h) (G : h.Ns N m) (e : PySem.W.nsIn K N x = some (some v)) : m x = some v := by
  obtain ⟨ob, row, _, at1, dict1, _, same⟩ := G
  unfold PySem.W.nsIn at e
  split at e
  case h_2 => cases e
  case h_1 _ _ row' _ _ lk =>
    have two := X _ _ lk
    rw [at1] at two
    cases two
    cases dict1
    split at e
    case h_2 => split at e <;> cases e
    case h_1 en found =>
      cases e
      rw [← same]
      unfold nsFind findBy
      rw [← Array.find?_toList, found]
      rfl
theorem fn_at {K : PySem.W.Frag} {h : Heap} {f : Addr} (X : K.In h) (q : PySem.W.isFn K (.ref f) = true) : ∃ o, h.get? f = some o ∧ o.cls = .type "function" := by
  have z : PySem.W.typeIn K (.ref f) = some (.type "function") := beq_iff_eq.mp q
  cases lk : K.lookup f with
  | none => simp [PySem.W.typeIn, lk] at z
  | some o => exact ⟨o, X _ _ lk, by simpa [PySem.W.typeIn, lk] using z⟩
theorem exc_objI {K : PySem.W.Frag} {h : Heap} {C f : Addr} {bmB : List Value} {newId : String} (X : K.In h) (q : PySem.W.excInI K C f bmB newId = true) :
    ∃ (nm qn : Str) (N : Addr) (bs bm : List Value) (hdct : Bool) (sn : List Str) (sub : List Value) (ab : Bool) (col : Option Bool) (dd : Option Addr) (k0 k1 k2 k3 k5 : Option Value) (mN : Str → Option Value),
      h.get? C = some (excClassObj nm qn C N bs bm hdct sn sub ab col dd k0 k1 k2 k3 k5 newId) ∧ h.Ns N mN ∧ mN "__init__" = some (.ref f) ∧ OwnTail h bmB bm ∧ PySem.W.isFn K (.ref f) = true := by
  cases lk : K.lookup C with
  | none => simp [PySem.W.excInI, lk] at q
  | some ob =>
    have there := X _ _ lk
    unfold PySem.W.excInI at q
    rw [lk] at q
    split at q
    case h_2 => cases q
    case h_1 dct cls parts same =>
      injection same with same
      subst same
      split at q
      case h_2 => cases q
      case h_1 own tl p0 p1 p2 p3 made p5 along row =>
        repeat rw [Bool.and_eq_true] at q
        have w1 : own = C := beq_iff_eq.mp q.1.1.1.1.1.1
        have w2 : made = newId := beq_iff_eq.mp q.1.1.1.1.1.2
        have w3 : cls.hasDel = false := by simpa using q.1.1.1.1.2
        have w4 := beq_iff_eq.mp q.1.2
        subst w1 w2
        have sl : parts = #[p0, p1, p2, p3, some (.builtin made), p5] := Array.toList_inj.mp row
        rw [sl] at there
        cases cls
        dsimp only at along w3 w4 q
        rw [along, w3] at there
        have hN := Heap.Ns.of_isNs (PySem.W.isNs_of_in X q.1.1.2)
        refine ⟨_, _, _, _, tl, _, _, _, _, _, dct, p0, p1, p2, p3, p5, _, there, hN, ?_, PySem.W.tail_of_in X q.1.1.1.2, q.2⟩
        exact ns_at X hN w4
section
variable {X : Cx} {CX : CXT} {k : Nat} {f C : Addr} {fd : FuncData} {ps : List Str} {ds : List Value} {dvs : List V} {sp : Sp} {E : XK}
/-- C(us): a new exception, its __init__ done -/
theorem run_makeX {pins : List (Addr × Obj)} {σ : St} {H : Hp} {s : Shared} {Q : Addr → Addr → Hp → Prop} {us : List Value} {vs : List V} (q : PySem.W.excInI X.K C f bmVE "ValueError.__new__" = true)
    (F : FnOk X.prog X.w X.K X.mg X.base CX k f fd ps sp) (hr : Room (k + 1) X.A) (hb : Binds X.K fd ps ds) (hd : Vals dvs ds) (hx : Passes CX X E) (I : Inv X pins σ H s) (r : Vals vs us) (hz : us.length ≤ sizeLine)
    (h : ∀ ea ta, H ea = none → sp (.ref ea :: (vs ++ dvs)) (upd H ea (xcN ea C ta)) (fun v H2 => v = .non ∧ Q ea ta H2) E) :
    wpAny (model X.prog X.w) X.A (call (.ref C) us) (fun v s' => ∃ ea ta H2, v = .ref ea ∧ Inv X pins σ H2 s' ∧ s.heap.get? ea = none ∧ Q ea ta H2) X.xe s := by
  obtain ⟨nm, qn, N, bs, bm, hdct, sn, sub, ab, col, dd, k0, k1, k2, k3, k5, mN, hC, hN, hi, T, fn⟩ := exc_objI I.mod.kin q
  obtain ⟨oI, hoI, hcI⟩ := fn_at I.kIn fn
  obtain ⟨hp, g, d, t, os⟩ := s
  refine call_exc_initU PySem.F.excBase_ValueError (by decide +kernel) PySem.F.excBase_ValueError (T.keeps I.bk) (I.bk _ _ hC) (hN.keeps I.bk) hi hoI hcI (fun h' e hm => ?_) hz
  obtain ⟨ta, he, _, _⟩ := hm.there
  have hH : H e = none := by
    cases z : H e with
    | none => rfl
    | some u =>
      obtain ⟨o, ho⟩ := (I.hok e u z).at18
      have := hm.new
      rw [show hp.get? e = some o from ho] at this
      cases this
  have I1 : Inv X pins σ H ⟨h', g, d, t, os⟩ := I.kept (t' := t) (fun b o z => hm.keeps b o z)
  have I2 := I.trackO (a := e) (o := xcN e C ta) I1 hm.new hH (xcN_ok he)
  have hq := h e ta hH
  have r2 : Vals (V.ref e :: (vs ++ dvs)) (Value.ref e :: (us ++ ds)) := .cons rfl (r.append hd)
  have hl : (Value.ref e :: us ++ ds).length = ps.length := by
    have z := r2.length
    rw [F.len _ _ _ _ hq] at z
    exact z.symm
  refine wpAny_call (codeAny_mono (F.run _ X.stack _ _ ⟨Value.ref e :: us, []⟩ (Value.ref e :: (us ++ ds)) _ _ E (hr.make C us []) (I2.env0.make C us []) (hb _ (Value.ref e :: us) I2.kIn hl) r2 hq) fun r s' hq' => ?_)
  cases r with
  | error e' => exact hx pins σ _ _ e' s' I2 hq'
  | ok fl =>
    cases fl with
    | ret u =>
      obtain ⟨v, H', I3, rv, ev, q3⟩ := I2.after hq'
      subst ev
      exact ⟨rv, e, ta, H', rfl, I3, hm.new, q3⟩
    | next => exact False.elim hq'
    | brk => exact False.elim hq'
    | cont => exact False.elim hq'
end
end L2

/-! MY RULES: raise C(..) where C is an own class of exceptions with __init__ (ps_raiseI, throwI). -/
set_option linter.all false
set_option maxRecDepth 100000
set_option maxHeartbeats 2000000
namespace L2
open PySem PySem.Spec PyProof.Rows
def dropH (H : Hp) (a : Addr) : Hp := fun b => if b = a then none else H b
theorem dropH_ne {H : Hp} {a b : Addr} (h : b ≠ a) : dropH H a b = H b := by unfold dropH; rw [if_neg h]
theorem dropH_some {H : Hp} {a b : Addr} {o : HO} (h : dropH H a b = some o) : b ≠ a ∧ H b = some o := by
  unfold dropH at h
  by_cases z : b = a
  · rw [if_pos z] at h; cases h
  · rw [if_neg z] at h; exact ⟨z, h⟩
theorem dropH_none {H : Hp} {a b : Addr} (h : H b = none) : dropH H a b = none := by
  unfold dropH
  split
  · rfl
  · exact h
section
variable {X : Cx} {pins : List (Addr × Obj)} {σ : St} {H : Hp} {s : Shared} {a : Addr} {φ : Heap → Prop}
/-- a thing told by ext is forgotten -/
theorem Inv.drop (I : Inv X pins σ H s) (e : H a = some (.ext φ)) : Inv X pins σ (dropH H a) s := by
  have up : ∀ b o, H b = some o → o ≠ .ext φ → dropH H a b = some o := fun b o q n => by
    rw [dropH_ne (ne_of q e n)]
    exact q
  refine ⟨I.ok, I.os, I.bare, ⟨I.base.keep, I.base.slot, fun b o q n hb => dropH_none (I.base.free b o q n hb), I.base.there, fun b xs q => up _ _ (I.base.tups b xs q) (fun z => nomatch z), fun b o u q => up _ _ (I.base.frzs b o u q) (fun z => nomatch z), fun b ps q => ?_⟩, I.loc, I.cell, dropH_none I.free, fun x c q => dropH_none (I.freeC x c q), fun p hp => ?_, fun b o q => ?_, I.len⟩
  · obtain ⟨m, z⟩ := I.base.tbls b ps q
    exact ⟨m, up _ _ z (fun z => nomatch z)⟩
  · obtain ⟨q, n, r⟩ := I.pin p hp
    exact ⟨q, dropH_none n, r⟩
  · obtain ⟨_, z⟩ := dropH_some q
    exact (I.hok b o z).stay (fun _ _ _ q => q) (fun c q => up _ _ q (fun z => nomatch z)) fun c xs q => up _ _ q (fun z => nomatch z)
theorem fly_unX {B h' : Heap} (I : Inv X pins σ H s) (hx : X.ex = []) (B1 : ∀ b o, X.s₀.heap.get? b = some o → b ∉ X.fs → ∃ o', B.get? b = some o') (hst : B.StaysIn s.heap) (hst' : B.StaysIn h') (up : s.heap.UpToSlots h') : Un X.fs [] X.H₀ H X.s₀.heap h' := by
  have a : Un X.fs [] X.H₀ H X.s₀.heap s.heap := by
    have z := I.base
    rw [hx] at z
    exact z
  have no : ∀ b : Addr, b ∉ ([] : List Addr) := fun b => by simp
  have slot : ∀ b o, X.s₀.heap.get? b = some o → X.H₀ b = none → b ∈ X.fs → ∃ sl, h'.get? b = some { o with slots := sl } := fun b o e n hb => by
    obtain ⟨sl, e1⟩ := a.slot b o e n hb (no b)
    obtain ⟨_, of, ho, hd⟩ := I.ok.funs.mem hb
    rw [e] at ho
    cases ho
    obtain ⟨sl3, e3⟩ := up b _ e1 hd
    exact ⟨sl3, e3⟩
  refine ⟨fun b o e n hb _ => ?_, fun b o e n hb _ => slot b o e n hb, fun b o e n _ => a.free b o e n (no b), fun b o e _ => ?_, fun b xs e => a.tups b xs e, fun b o v e => a.frzs b o v e, fun b ps e => a.tbls b ps e⟩
  · have e2 := a.keep b o e n hb (no b)
    obtain ⟨o', eB⟩ := B1 b o e hb
    have e3 := hst b o' eB
    rw [e2] at e3
    cases e3
    exact hst' b o eB
  · by_cases hb : b ∈ X.fs
    · obtain ⟨sl, q⟩ := slot b o e (I.ok.frf b hb) hb
      exact ⟨_, q⟩
    · obtain ⟨o', eB⟩ := B1 b o e hb
      exact ⟨o', hst' b o' eB⟩
end
section
variable {P : Program} {w : World} {K : PySem.W.Frag} {mg : Str → Option Value} {base : Heap} {N : List Str} {qual : Str} {scope : Scope} {f : Addr} {cd : Value} {A : Around} {outer : List Env} {s : Shared} {H : Hp} {E : XK}
end
end L2

/-! MY RULES: raise C(..), C with __init__: ps_raiseI. -/
set_option linter.all false
set_option maxRecDepth 100000
set_option maxHeartbeats 2000000
namespace L2
open PySem PySem.Spec PyProof.Rows
section
variable {M : Model} {A : Around} {E : Value → Shared → Prop} {env : Env} {nm q : Str} {C N : Addr} {bs bm : List Value} {hdct : Bool} {sn : List Str} {sub : List Value} {ab : Bool} {col : Option Bool} {dd : Option Addr} {k0 k1 k2 k3 k5 : Option Value} {newId : String}
theorem raiseStmt_madeI {s : Shared} {x : Sem Value} {Q : Flow → Shared → Prop} (hbase : bm.contains (.type "BaseException") = true) (hh : A.handled = none)
    (h : wpAny M A x (fun v s₁ => ∃ e t dx, v = .ref e ∧ s₁.heap.get? C = some (excClassObj nm q C N bs bm hdct sn sub ab col dd k0 k1 k2 k3 k5 newId) ∧ s₁.heap.get? e = some (xcObj C t dx) ∧ E (.ref e) s₁) E s) :
    wpAny M A (raiseStmt env (some x) none) Q E s := by
  have hcB : (Value.ref C :: bm).contains (.type "BaseException") = true := by rw [List.contains_cons, hbase, Bool.or_true]
  unfold raiseStmt
  refine wpAny_bind (wpAny_mono h (fun v s₁ h₁ => ?_) fun _ _ x => x)
  obtain ⟨e, t, dx, rfl, hC, he, hE⟩ := h₁
  obtain ⟨hp, g, d, tk, os⟩ := s₁
  unfold xcObj at he
  repeat (first | with_reducible refine wpAny_loadPart_at he ?_ | with_reducible refine wpAny_loadPart_at hC ?_ | (with_reducible refine wpAny_isSubtype_exc hC ?_; rw [hcB]) | wp_step)
  exact wpAny_raiseNew_none hh hE
end
/-- what a class of exceptions with __init__ at f has -/
structure MkX (K : PySem.W.Frag) (C f : Addr) : Prop where
  xe : PySem.W.excInI K C f bmVE "ValueError.__new__" = true
  kp : PySem.W.keepIn K (.ref C) = true
section
variable {X : Cx} {CX : CXT} {k : Nat} {f C : Addr} {fd : FuncData} {ps : List Str} {ds : List Value} {dvs : List V} {sp : Sp} {E E' : XK}
end
end L2

/-! MY RULES: exceptions whose own dict is told behind the flight: KD (classes and dicts stay), ExcAt (an exception, noted already or not), noteD, landD, leaveD; CXD (as CXF, and XK's second argument is the exception's dict), passD, throwD, throwDI, Fun.okD. -/
set_option linter.all false
set_option maxRecDepth 100000
set_option maxHeartbeats 1000000
namespace L2
open PySem PySem.Spec PyProof.Rows
/-- all that was there has its class and its dict still -/
def KD (h h' : Heap) : Prop := ∀ b o, h.get? b = some o → ∃ o', h'.get? b = some o' ∧ o'.cls = o.cls ∧ o'.dict = o.dict
theorem KD.refl (h : Heap) : KD h h := fun b o e => ⟨o, e, rfl, rfl⟩
theorem KD.trans {h1 h2 h3 : Heap} (a : KD h1 h2) (b : KD h2 h3) : KD h1 h3 := fun x o e => by
  obtain ⟨o1, e1, c1, d1⟩ := a x o e
  obtain ⟨o2, e2, c2, d2⟩ := b x o1 e1
  exact ⟨o2, e2, c2.trans c1, d2.trans d1⟩
theorem KD.field {h : Heap} {T : Addr} {o : Obj} {ts : Array Value} (hT : h.get? T = some o) (hd : o.data = .fields ts) (f : Array Value → Array Value) : KD h (h.update T (Obj.mapFields f)) := fun b u e => by
  by_cases z : b = T
  · subst z
    rw [hT] at e
    cases e
    exact ⟨_, Heap.get?_update_self _ hT (Obj.isFreed_of_fields (Obj.data_mapFields hd _)), Obj.cls_mapFields _ _, by obtain ⟨_, _, dd, _⟩ := o; cases hd; rfl⟩
  · exact ⟨u, (Heap.get?_update_other _ _ (Ne.symm z)).trans e, rfl, rfl⟩
/-- an exception lies at e: made just now, or noted by some frames -/
def ExcAt (h B : Heap) (e : Addr) (cls a0 : Value) : Prop := (∃ oe vs, h.get? e = some oe ∧ (oe.cls = cls ∧ vs[0]? = some a0) ∧ oe.data = .fields vs ∧ vs[1]? = some .none) ∨ ∃ fl, h.TracedAtW B e cls a0 fl
section
variable {M : Model} {A : Around} {E : Value → Shared → Prop} {s : Shared} {B : Heap} {env : Env} {outer : List Env} {L e : Addr} {cls a0 : Value} {Q : Unit → Shared → Prop}
theorem entryD {oe : Obj} {vs : Array Value} {hd : Value} {nx : Bool} (hfr : A.frames = some (env :: outer)) (ff : s.heap.FunFrames B (env :: outer)) (hf : env.frame = some L) (he : s.heap.get? e = some oe) (st : B.StaysIn s.heap) (hn : B.get? e = none) (hv : oe.data = .fields vs) (hz : 1 < vs.size) (h0 : vs[0]? = some a0)
    (h : ∀ h', Heap.NotedW B (env :: outer) e oe.cls a0 (rawInt L) s.heap h' → KD s.heap h' → Q () { s with heap := h' }) :
    wpAny M A (do let a ← frameOf env; let pl ← entryPlaceOf L nx; let b ← EntryCells.newEntry hd a .none (rawInt L) .none pl; setField (.ref e) 1 b) Q E s := by
  have nf : e ∉ (env :: outer).filterMap (·.frame) := fun m => by
    obtain ⟨_, o, ho, hnf⟩ := ff.mem m; rw [he] at ho; cases ho; exact hnf vs hv
  refine wpAny_bind (wpAny_frameOf_fun hfr ff hf fun g sg => wpAny_bind (wpAny_entryPlaceOf fun pl hpl => ?_))
  unfold EntryCells.newEntry newFields; refine wpAny_bind (wpAny_newObj_type ?_ (hpl.sizeOk5 _ _ _ _ _))
  have he1 : g.get? e = some oe := (sg.2.1 e nf).trans he
  have st1 : B.StaysIn g := fun b o hb => (sg.2.1 b fun m => by rw [(ff.mem m).1] at hb; cases hb).trans (st b o hb)
  generalize hob : ({ cls := .type "traceback", dict := none, data := .fields ([hd, .ref L, .none, rawInt L, .none] ++ (if pl.isEmpty then List.replicate 6 Value.none else pl)).toArray } : Obj) = ob
  have he2 := Heap.get?_push_of_some (h := g) ob he1
  have eb : ({ cls := Value.type "traceback", data := .fields ([hd, .ref L, .none, rawInt L, .none] ++ (if pl.isEmpty then List.replicate 6 Value.none else pl)).toArray } : Obj) = ob := hob
  refine wpAny_setField (by first | exact he2 | (rw [eb]; exact he2)) hv hz ?_
  try rw [eb]
  have nTe : g.objs.size ≠ e := Nat.ne_of_gt (Heap.lt_size he1)
  have dm := Obj.data_mapFields hv (·.setIfInBounds 1 (Value.ref g.objs.size))
  have he3 := Heap.get?_update_self (Obj.mapFields (·.setIfInBounds 1 (Value.ref g.objs.size))) he2 (Obj.isFreed_of_fields dm)
  have hT3 : ((g.push ob).update e (Obj.mapFields (·.setIfInBounds 1 (Value.ref g.objs.size)))).get? g.objs.size = some ob := (Heap.get?_update_other _ _ (Ne.symm nTe)).trans (Heap.get?_push_size g (by rw [← hob]; rfl))
  have kp : ∀ b o, b ≠ e → g.get? b = some o → ((g.push ob).update e (Obj.mapFields (·.setIfInBounds 1 (Value.ref g.objs.size)))).get? b = some o := fun b o ne hb => (Heap.get?_update_other _ _ (Ne.symm ne)).trans (Heap.get?_push_of_some _ hb)
  have nr : ∀ b o, s.heap.get? b = some o → (∀ vs, o.data ≠ .fields vs) → b ≠ e := fun b o hb hnf z => by
    rw [z, he] at hb; cases hb; exact hnf vs hv
  refine h _ ⟨fun b o hb => kp b o (fun z => by rw [z, hn] at hb; cases hb) (st1 b o hb), ff.of_keeps fun b o hb hnf => ?_, ?_, fun b o hb hnf => ?_⟩ fun b o hb => ?_
  · obtain ⟨sl, hs⟩ := sg.2.2 b o hb; exact ⟨_, kp b _ (nr b o hb hnf) hs, rfl⟩
  · refine ⟨_, _, g.objs.size, ob, _, he3, ⟨Obj.cls_mapFields _ _, ?_⟩, dm, by simp [hz], st1.fresh, nTe, hT3, by rw [← hob], ?_⟩
    · rw [Array.getElem?_setIfInBounds_ne (by decide)]; exact h0
    · rcases hpl with rfl | ⟨_, _, _, _, _, _, _, rfl⟩ <;> simp
  · obtain ⟨sl, hs⟩ := sg.2.2 b o hb; exact ⟨sl, kp b _ (nr b o hb hnf) hs⟩
  · by_cases z : b = e
    · subst z
      rw [he] at hb; cases hb
      exact ⟨_, he3, Obj.cls_mapFields _ _, by obtain ⟨_, _, dd, _⟩ := oe; cases hv; rfl⟩
    · obtain ⟨sl, hs⟩ := sg.2.2 b o hb; exact ⟨_, kp b _ z hs, rfl, rfl⟩
theorem noteD (hfr : A.frames = some (env :: outer)) (hf : env.frame = some L) (st : B.StaysIn s.heap) (hn : B.get? e = none) (ff : s.heap.FunFrames B (env :: outer)) (ht : ExcAt s.heap B e cls a0)
    (hQ : ∀ h', Heap.HeldW B (env :: outer) e cls a0 L h' → s.heap.UpToSlots h' → KD s.heap h' → Q () { s with heap := h' }) : wpAny M A (noteFrame (.ref e) env) Q E s := by
  rcases ht with ⟨oe, vs, he, ⟨hc, h0⟩, hv, h1⟩ | ⟨fl, ht⟩
  · subst hc
    unfold noteFrame
    simp only [hf]
    refine wpAny_bind (wpAny_field he hv h1 ?_)
    rw [if_neg (show ¬ ((Value.none != Value.none) = true) by simp)]
    exact entryD hfr ff hf he st hn hv (Array.getElem?_eq_some_iff.mp h1).1 h0 fun h' N kd => hQ h' ⟨N.1, hn, N.2.1, N.2.2.1⟩ N.2.2.2 kd
  · by_cases hfl : (fl == rawInt L) = true
    · have e1 : fl = rawInt L := beq_iff_eq.mp hfl
      subst e1
      exact wpAny_noteFrame_againW hf ht (hQ s.heap ⟨st, hn, ff, ht⟩ (Heap.UpToSlots.refl _) (KD.refl _))
    · obtain ⟨oe, vs, T, oT, ts, he, ⟨hcls, h0⟩, hd, h1, hnT, hTe, hT, hdT, h3⟩ := id ht
      subst hcls
      unfold noteFrame
      simp only [hf]
      refine wpAny_bind (wpAny_field he hd h1 ?_)
      rw [if_pos (show (Value.ref T != Value.none) = true by simp)]
      refine wpAny_bind (wpAny_field hT hdT h3 ?_)
      rw [if_neg hfl]
      refine wpAny_bind (wpAny_setField hT hdT (Array.getElem?_eq_some_iff.mp h3).1 ?_)
      have oth : ∀ b, b ≠ T → (s.heap.update T (Obj.mapFields (·.setIfInBounds 3 Value.none))).get? b = s.heap.get? b := fun b hb => Heap.get?_update_other _ _ (Ne.symm hb)
      have nr : ∀ b o, s.heap.get? b = some o → (∀ vs, o.data ≠ .fields vs) → b ≠ T := fun b o hb hnf q => by
        rw [q, hT] at hb; cases hb; exact hnf ts hdT
      exact entryD hfr (ff.of_keeps fun b o hb hnf => ⟨o, (oth b (nr b o hb hnf)).trans hb, rfl⟩) hf ((oth e (Ne.symm hTe)).trans he) (fun b o hbo => (oth b fun q => by rw [q, hnT] at hbo; cases hbo).trans (st b o hbo)) hn hd (Array.getElem?_eq_some_iff.mp h1).1 h0
        fun h' N kd => hQ h' ⟨N.1, hn, N.2.1, N.2.2.1⟩ (fun b o hb hnf => N.2.2.2 b o ((oth b (nr b o hb hnf)).trans hb) hnf) ((KD.field hT hdT _).trans kd)
theorem landD {l : List Env} {fl : Value} {fr : Option Addr} (st : B.StaysIn s.heap) (ff : s.heap.FunFrames B l) (ht : s.heap.TracedAtW B e cls a0 fl)
    (hQ : ∀ h', B.StaysIn h' → h'.FunFrames B l → h'.TracedAtW B e cls a0 (fr.elim .none fun f => rawInt f) → s.heap.UpToSlots h' → KD s.heap h' → Q () { s with heap := h' }) : wpAny M A (setFlight (.ref e) fr) Q E s := by
  obtain ⟨oe, vs, T, oT, ts, he, hcls, hd, h1, hnT, hTe, hT, hdT, h3⟩ := ht
  have z3 : 3 < ts.size := (Array.getElem?_eq_some_iff.mp h3).1
  have oth : ∀ b, b ≠ T → (s.heap.update T (Obj.mapFields (·.setIfInBounds 3 (fr.elim Value.none fun f => rawInt f)))).get? b = s.heap.get? b := fun b hb => Heap.get?_update_other _ _ (Ne.symm hb)
  have nr : ∀ b o, s.heap.get? b = some o → (∀ vs, o.data ≠ .fields vs) → b ≠ T := fun b o hb hnf q => by
    rw [q, hT] at hb; cases hb; exact hnf ts hdT
  unfold setFlight
  refine wpAny_bind (wpAny_field he hd h1 ?_)
  rw [if_pos (show (Value.ref T != Value.none) = true by simp)]
  refine wpAny_setField hT hdT z3 (hQ _ (fun b o hbo => (oth b fun q => by rw [q, hnT] at hbo; cases hbo).trans (st b o hbo)) (ff.of_keeps fun b o hb hnf => ⟨o, (oth b (nr b o hb hnf)).trans hb, rfl⟩) ?_ (fun b o hb hnf => ⟨o.slots, (oth b (nr b o hb hnf)).trans hb⟩) (KD.field hT hdT _))
  exact ⟨oe, vs, T, _, _, (oth e (Ne.symm hTe)).trans he, hcls, hd, h1, hnT, hTe, Heap.get?_update_self _ hT (Obj.isFreed_of_fields (Obj.data_mapFields hdT _)), Obj.data_mapFields hdT _, by simp [z3]⟩
theorem leaveD (hfr : A.frames = some (env :: outer)) (hf : env.frame = some L) (st : B.StaysIn s.heap) (hn : B.get? e = none) (ff : s.heap.FunFrames B (env :: outer)) (ht : ExcAt s.heap B e cls a0)
    (hQ : ∀ h', Heap.FlyingW B outer e cls a0 h' → s.heap.UpToSlots h' → KD s.heap h' → Q () { s with heap := h' }) : wpAny M A (leaving env (.ref e)) Q E s := by
  unfold leaving
  refine wpAny_bind (noteD hfr hf st hn ff ht fun h1 held u1 k1 => landD (s := { s with heap := h1 }) held.1 held.2.2.1 held.2.2.2 fun h2 s2 f2 t2 u2 k2 => ?_)
  exact hQ h2 ⟨s2, hn, f2.2.2, t2⟩ (u1.trans u2) (k1.trans k2)
end
theorem FlyingW.exc {B h : Heap} {l : List Env} {e : Addr} {cls a0 : Value} (f : Heap.FlyingW B l e cls a0 h) : ExcAt h B e cls a0 := .inr ⟨.none, f.2.2.2⟩
/-- the dict of what lies at e -/
def DictAt (h : Heap) (e : Addr) (od : Option Addr) : Prop := ∃ o, h.get? e = some o ∧ o.dict = od
theorem DictAt.kd {h h' : Heap} {e : Addr} {od : Option Addr} (d : DictAt h e od) (k : KD h h') : DictAt h' e od := by
  obtain ⟨o, e1, e2⟩ := d
  obtain ⟨o', e3, _, e4⟩ := k _ o e1
  exact ⟨o', e3, e4.trans e2⟩
/-- an exception behind a call, with its dict -/
def CXD (P : Program) (w : World) : CXT := fun outer H s E e s' =>
  ∃ (ea C : Addr) (a0 : Value) (od : Option Addr) (H' : Hp) (B : Heap), e = .ref ea ∧ s'.os = s.os ∧ AllBare s'.gens ∧ Un (frs outer) [] H H' s.heap s'.heap ∧ HOk P w H' s'.heap ∧
    (∀ b o, s.heap.get? b = some o → b ∉ frs outer → ∃ o', B.get? b = some o') ∧ (∀ b o, H' b = some o → ∃ o', B.get? b = some o') ∧
    Heap.FlyingW B outer ea (.ref C) a0 s'.heap ∧ DictAt s'.heap ea od ∧ E (.ref C) od H'
section
variable {P : Program} {w : World} {K : PySem.W.Frag} {mg : Str → Option Value} {base : Heap} {N : List Str} {qual : Str} {scope : Scope} {f : Addr} {cd : Value} {A : Around} {outer : List Env} {s : Shared} {H : Hp} {E : XK}
theorem passD : Passes (CXD P w) (cxOf (CXD P w) P w K mg base N qual scope f cd A outer s H E) E := by
  intro pins σ H1 s1 e s' I hcx
  obtain ⟨ea, C, a0, od, H', B, rfl, os, bare, un, hok, b1, b2, fl, dd, q⟩ := hcx
  refine leaveD I.ok.frames rfl fl.1 fl.2.1 fl.2.2.1 (FlyingW.exc fl) fun h' fl' up kd => ?_
  obtain ⟨un', b1'⟩ := fly_un I rfl un b1 fl.1 fl'.1 up
  exact ⟨ea, C, a0, od, H', B, rfl, os.trans I.os, bare, un', fly_ok hok b2 fl.1 fl'.1, b1', b2, fl', dd.kd kd, q⟩
/-- a made exception of the class at C flies from here, with its dict -/
def ThrowsD (X : Cx) (C : Addr) (E : XK) : Prop := ∀ (pins : List (Addr × Obj)) (σ : St) (H : Hp) (s : Shared) (ea ta : Addr) (d : Option Addr), Inv X pins σ H s → H ea = some (.ext fun h => h.get? ea = some (xcObj C ta d)) → X.s₀.heap.get? ea = none →
  E (.ref C) d (dropH H ea) → X.xe (.ref ea) s
theorem throwDI {C : Addr} : ThrowsD (cxOf (CXD P w) P w K mg base N qual scope f cd A outer s H E) C E := by
  intro pins σ H2 s1 ea ta d I he h0 q
  obtain ⟨hobj, _, _⟩ := (show ObjOk _ _ H2 s1.heap ea (.ext fun h => h.get? ea = some (xcObj C ta d)) from I.hok ea _ he)
  have I' := I.drop he
  have kB : ∀ b o, s1.heap.get? b = some o → b ≠ ea → b ∉ frs (envOfC qual scope s.heap.objs.size f cd :: outer) → (PySem.W.hideAll s1.heap (ea :: frs (envOfC qual scope s.heap.objs.size f cd :: outer))).get? b = some o := fun b o e ne hb =>
    PySem.W.hideAll_get _ e (fun m => (List.mem_cons.mp m).elim ne hb)
  have b2 : ∀ b o, dropH H2 ea b = some o → ∃ o', (PySem.W.hideAll s1.heap (ea :: frs (envOfC qual scope s.heap.objs.size f cd :: outer))).get? b = some o' := fun b o z => by
    obtain ⟨ne, z'⟩ := dropH_some z
    obtain ⟨u, hu⟩ := (I.hok b o z').at18
    refine ⟨u, kB b u hu ne fun m => ?_⟩
    have := I.stkFree b m
    rw [z'] at this
    cases this
  have nst : ∀ b o, s.heap.get? b = some o → b ∉ frs outer → b ∉ frs (envOfC qual scope s.heap.objs.size f cd :: outer) := fun b o e hb m => by
    rcases List.mem_cons.mp m with z | z
    · exact absurd (Heap.lt_size e) (by rw [z]; exact Nat.lt_irrefl _)
    · exact hb z
  have b1 : ∀ b o, s.heap.get? b = some o → b ∉ frs outer → ∃ o', (PySem.W.hideAll s1.heap (ea :: frs (envOfC qual scope s.heap.objs.size f cd :: outer))).get? b = some o' := fun b o e hb => by
    obtain ⟨o1, e1⟩ := I.base.there b o e (by show b ∉ ([] : List Addr); simp)
    refine ⟨o1, kB b o1 e1 (fun z => ?_) (nst b o e hb)⟩
    rw [z] at e
    rw [show s.heap.get? ea = none from h0] at e
    cases e
  have st1 : (PySem.W.hideAll s1.heap (ea :: frs (envOfC qual scope s.heap.objs.size f cd :: outer))).StaysIn s1.heap := fun b o z => PySem.W.of_hideAll _ z
  refine leaveD (B := PySem.W.hideAll s1.heap (ea :: frs (envOfC qual scope s.heap.objs.size f cd :: outer))) (cls := .ref C) (a0 := .ref ta) I.ok.frames rfl st1 (PySem.W.hideAll_none _ List.mem_cons_self)
    (PySem.W.funFrames_hide I.stack fun env he b hb => List.mem_cons_of_mem _ (List.mem_filterMap.mpr ⟨env, he, hb⟩)) (.inl ⟨_, _, hobj, ⟨rfl, rfl⟩, rfl, rfl⟩) fun h' fl up kd => ?_
  exact ⟨ea, C, .ref ta, d, dropH H2 ea, _, rfl, I.os, I.bare, fly_unX I' rfl b1 st1 fl.1 up, fly_ok I'.hok b2 st1 fl.1, b1, b2, fl, DictAt.kd (h := s1.heap) ⟨_, hobj, rfl⟩ kd, q⟩
theorem Fun.okD {x qual : Str} {st : Stmt} {f : Addr} {fd : FuncData} {N ps : List Str} {k : Nat} {sp : Sp} (F : Fun K x qual st f fd) (S : FnScope N ps (defScope st)) (len : ∀ vs H Q E, sp vs H Q E → vs.length = ps.length)
    (hbody : ∀ (cdv : Value) (A : Around) (outer : List Env) (s : Shared) (H : Hp) (vs : List V) (Q : VK) (E : XK), Room k (A.deeper (envOfC qual (defScope st) s.heap.objs.size f cdv)) → sp vs H Q E →
      ∃ t, PSs (cxOf (CXD P w) P w K mg base N qual (defScope st) f cdv A outer s H E) (defBody st) t ∧ t { nx := fun _ H' => Q .non H', rt := Q } (start N vs) H) : FnOk P w K mg base (CXD P w) (k + 1) f fd ps sp := by
  obtain ⟨oc, od, kV, doc, pm, an, cdv, ct, osl, rfl, lk, hcd⟩ := F.ex
  exact fn_of lk hcd S len fun A outer s H vs Q E hr hsp => hbody cdv A outer s H vs Q E hr hsp
end
theorem passND {P : Program} {w : World} {X : Cx} : Passes (CXD P w) X (fun _ _ _ => False) := by
  intro pins σ H s e s' I h
  obtain ⟨_, _, _, _, _, _, _, _, _, _, _, _, _, _, _, q⟩ := h
  exact q.elim
end L2

/-! MY RULES: try .. except C as e: .. where the exception's dict is told: FlownD, PHD, ph_missD, ph_hitD, ph_hit0D, px_callD, ps_tryAD, ps_tryED (round one call), ps_tryR with psx_raise, psx_ifR (the body itself raises). -/
set_option linter.all false
set_option maxRecDepth 100000
set_option maxHeartbeats 1000000
namespace L2
open PySem PySem.Spec PyProof.Rows
/-- a caught exception with its dict -/
def xcG (ea C : Addr) (od : Option Addr) : Heap → Prop := fun h => ∃ o vs, h.get? ea = some o ∧ o.cls = .ref C ∧ o.dict = od ∧ o.data = .fields vs
section
variable {X : Cx} {pins : List (Addr × Obj)} {σ : St} {H H1 : Hp} {s s1 : Shared} {ea C : Addr} {a0 : Value} {B : Heap} {od : Option Addr}
theorem xcG_ok {P : Program} {w : World} {H : Hp} {h : Heap} (q : xcG ea C od h) : ObjOk P w H h ea (.ext (xcG ea C od)) := by
  obtain ⟨o, vs, r⟩ := id q
  exact ⟨q, ⟨o, r.1⟩, fun h1 h2 ⟨o, vs, q1, q2⟩ k => ⟨o, vs, k o q1, q2⟩⟩
/-- an exception that a try of this frame has caught -/
structure CaughtD (X : Cx) (pins : List (Addr × Obj)) (σ : St) (H : Hp) (B : Heap) (ea C : Addr) (a0 : Value) (od : Option Addr) (s : Shared) : Prop where
  inv : Inv X pins σ H s
  fl : Heap.FlyingW B X.stack ea (.ref C) a0 s.heap
  d : DictAt s.heap ea od
  no : H ea = none
  go : ∀ h', B.StaysIn h' → s.heap.UpToSlots h' → xcG ea C od h' → Inv X pins σ H { s with heap := h' } ∧ Inv X pins σ (upd H ea (.ext (xcG ea C od))) { s with heap := h' }
theorem xcG_of (fl : Heap.FlyingW B X.stack ea (.ref C) a0 s.heap) (d : DictAt s.heap ea od) : xcG ea C od s.heap := by
  obtain ⟨oe, vs, e, c, dt, _⟩ := fl.first
  obtain ⟨o, e2, d2⟩ := d
  rw [e] at e2
  cases e2
  exact ⟨oe, vs, e, c, d2, dt⟩
theorem CaughtD.cls (F : CaughtD X pins σ H B ea C a0 od s) : xcF ea C s.heap := by
  obtain ⟨oe, vs, e, c, d, _⟩ := F.fl.first
  exact ⟨oe, vs, e, c, d⟩
end
/-- the clauses hs take an exception of the class at C -/
def PHD (X : Cx) (hs : List ExceptHandler) (C : Addr) (th : Option Addr → Addr → TS) : Prop :=
  ∀ (pins : List (Addr × Obj)) (σ : St) (H : Hp) (B : Heap) (ea : Addr) (a0 : Value) (od : Option Addr) (s : Shared) (D : Ends), CaughtD X pins σ H B ea C a0 od s → th od ea D σ H → wpAny (model X.prog X.w) X.A (handleBy (.ref ea) X.env hs) (SP X pins D) X.xe s
section
variable {M : Model} {A : Around} {E : Value → Shared → Prop} {s : Shared} {B : Heap} {l : List Env} {e : Addr} {cls a0 : Value} {Q : Unit → Shared → Prop}
theorem lands_againD (f : Heap.FlyingW B l e cls a0 s.heap) (hQ : ∀ h', Heap.FlyingW B l e cls a0 h' → s.heap.UpToSlots h' → KD s.heap h' → Q () { s with heap := h' }) : wpAny M A (setFlight (.ref e) none) Q E s :=
  landD f.1 f.2.2.1 f.2.2.2 fun h' s2 f2 t2 u2 k2 => hQ h' ⟨s2, f.2.1, f2, t2⟩ u2 k2
end
section
variable {X : Cx} {C C' : Addr} {y n : Str} {yp hpos : Pos} {b₀ : Stmt} {suite : List Stmt} {rest : List ExceptHandler} {i : Nat}
def tHitD (i : Nat) (C : Addr) (ts : TS) : Option Addr → Addr → TS := fun od ea D σ H => ts { nx := fun σ' H' => D.nx (σ'.set i none) H', rt := D.rt, bk := fun σ' H' => D.bk (σ'.set i none) H', ct := fun σ' H' => D.ct (σ'.set i none) H' } (σ.set i (some (.ref ea))) (upd H ea (.ext (xcG ea C od)))
theorem ph_hitD {ts : TS} (hg : Gl X y) (hm : X.mg y = some (.ref C')) (q : PySem.W.exmOne X.K (.ref C) (.ref C') = some true) (hN : X.N.Nodup) (hi : X.N[i]? = some n) (hx : X.env.scope.names.lookup n = some .local)
    (hs : ∀ ea, PSs (X.held ea) (b₀ :: suite) ts) (hd : (y == ("__debug__" : Str)) = false := by decide) :
    PHD X (.ExceptHandler (some (.Name y yp)) (some n) (b₀ :: suite) hpos :: rest) C (tHitD i C ts) := by
  intro pins σ H B ea a0 od s D F h
  refine wpAny_handleBy_cons (codeAny_handlers_test ?_) (by intro q; cases q)
  refine ld_glob (X := X.held ea) (F.inv.held ea) hg hm ?_ hd
  refine (exm_at F.inv.kIn F.cls q).here (codeAny_handlers_suite_as ?_)
  refine lands_againD F.fl fun h' fl' up kd => ?_
  have F' := (F.go h' fl'.1 up (xcG_of (s := { s with heap := h' }) fl' (F.d.kd kd))).2
  refine store_ok (X := X.held ea) (v := .ref ea) (F'.held ea) hN hi (.inl hx) rfl (fun s2 I2 => ?_) (.inr hx)
  refine wpAny_mono (hs ea pins s2 _ _ _ I2 h) (fun f s3 hf => ?_) fun _ _ z => False.elim z
  dsimp only
  cases f with
  | next =>
    obtain ⟨σ', H', I', r⟩ := hf
    exact unbind_ok (I'.unheld F.inv.ok) hN hi hx fun s4 I4 => ⟨_, H', I4, r⟩
  | brk =>
    obtain ⟨σ', H', I', r⟩ := hf
    exact unbind_ok (I'.unheld F.inv.ok) hN hi hx fun s4 I4 => ⟨_, H', I4, r⟩
  | cont =>
    obtain ⟨σ', H', I', r⟩ := hf
    exact unbind_ok (I'.unheld F.inv.ok) hN hi hx fun s4 I4 => ⟨_, H', I4, r⟩
  | ret u =>
    obtain ⟨v, σ', H', I', rv, r⟩ := hf
    exact unbind_ok (I'.unheld F.inv.ok) hN hi hx fun s4 I4 => ⟨v, _, H', I4, rv, r⟩
end
/-- raised within a frame, not yet noted by it: what is wanted of it is E -/
def Rsd (X : Cx) (pins : List (Addr × Obj)) (σ : St) (E : XK) (e : Value) (s' : Shared) : Prop := ∃ (ea C : Addr) (a0 : Value) (od : Option Addr) (H' : Hp) (B : Heap), e = .ref ea ∧ B.StaysIn s'.heap ∧ B.get? ea = none ∧ s'.heap.FunFrames B X.stack ∧ ExcAt s'.heap B ea (.ref C) a0 ∧ DictAt s'.heap ea od ∧ H' ea = none ∧ X.A.frames = some X.stack ∧
  (∀ h', B.StaysIn h' → s'.heap.UpToSlots h' → xcG ea C od h' → Inv X pins σ H' { s' with heap := h' } ∧ Inv X pins σ (upd H' ea (.ext (xcG ea C od))) { s' with heap := h' }) ∧ E (.ref C) od H'
/-- what is wanted of an exception of the body: the clauses take it, and go on as they are read -/
def xTryD (X : Cx) (hs : List ExceptHandler) (D : Ends) (σ : St) : XK := fun c od H2 => ∃ (C : Addr) (th : Option Addr → Addr → TS), c = .ref C ∧ PHD X hs C th ∧ ∀ ea, H2 ea = none → th od ea D σ H2
section
variable {X : Cx} {hs : List ExceptHandler} {h₀ : ExceptHandler} {e : Expr} {pos epos npos : Pos} {i : Nat} {n : Str}
theorem try_caughtD {pins : List (Addr × Obj)} {σ : St} {D : Ends} {s' : Shared} {ev : Value} (hst : X.stack = X.env :: X.outer ∧ X.env.frame = some X.env.locals) (hc : Rsd X pins σ (xTryD X (h₀ :: hs) D σ) ev s') :
    wpAny (model X.prog X.w) X.A (noteFrame ev X.env) (fun _ s₂ => wpAny (model X.prog X.w) X.A (setFlight ev none) (fun _ s₃ => wpAny (model X.prog X.w) X.A (handleBy ev X.env (h₀ :: hs)) (SP X pins D) X.xe s₃) X.xe s₂) X.xe s' := by
  obtain ⟨ea, C, a0, od, H', B, rfl, st, en, ff, ex, dd, hno, hfr0, go, q⟩ := hc
  obtain ⟨C', th, hC, hP, q⟩ := q
  cases hC
  have hfr : X.A.frames = some (X.env :: X.outer) := by rw [← hst.1]; exact hfr0
  refine noteD hfr hst.2 st en (by rw [← hst.1]; exact ff) ex fun h4 held up4 kd4 => ?_
  refine landD (s := { s' with heap := h4 }) held.1 held.2.2.1 held.2.2.2 fun h5 st5 ff5 t5 up5 kd5 => ?_
  have fl5 : Heap.FlyingW B X.stack ea (.ref C) a0 h5 := ⟨st5, en, by rw [hst.1]; exact ff5, t5⟩
  have d5 := (dd.kd kd4).kd kd5
  have up := up4.trans up5
  have x5 : xcG ea C od h5 := xcG_of (X := X) (s := { s' with heap := h5 }) fl5 d5
  exact hP pins σ H' B ea a0 od _ D ⟨(go h5 st5 up x5).1, fl5, d5, hno, fun h' s2 u2 x2 => go h' s2 (up.trans u2) x2⟩ (q ea hno)
/-! ### round one call -/
def PXD (X : Cx) (e : Expr) (t : TX) : Prop :=
  ∀ (pins : List (Addr × Obj)) (s : Shared) (σ : St) (H : Hp) (Q : VK) (E : XK), Inv X pins σ H s → t σ H Q E → wpAny (model X.prog X.w) X.A (eval e X.env) (EP X pins σ Q) (Rsd X pins σ E) s
theorem Rsd.of_call {pins : List (Addr × Obj)} {σ : St} {H1 : Hp} {s1 s' : Shared} {E : XK} {ev : Value} (I1 : Inv X pins σ H1 s1) (h : CXD X.prog X.w X.stack H1 s1 E ev s') : Rsd X pins σ E ev s' := by
  obtain ⟨ea, C, a0, od, H', B, rfl, os, bare, un, hok, b1, b2, fl, dd, q⟩ := h
  have F : Flown X pins σ H1 s1 H' B ea C a0 s' := ⟨I1, os, bare, un, hok, b1, b2, fl⟩
  have no : ∀ b : Addr, b ∉ ([] : List Addr) := fun b => by simp
  refine ⟨ea, C, a0, od, H', B, rfl, fl.1, fl.2.1, fl.2.2.1, FlyingW.exc fl, dd, F.no, I1.ok.frames, fun h5 st5 up x5 => ?_, q⟩
  have slot : ∀ b o, s1.heap.get? b = some o → H1 b = none → b ∈ frs X.stack → ∃ sl, h5.get? b = some { o with slots := sl } := fun b o e n hb => by
    obtain ⟨sl, e1⟩ := un.slot b o e n hb (no b)
    obtain ⟨_, of, ho, hd⟩ := I1.stack.mem hb
    rw [e] at ho
    cases ho
    obtain ⟨sl3, e3⟩ := up b _ e1 hd
    exact ⟨sl3, e3⟩
  have u5 : Un (frs X.stack) [] H1 H' s1.heap h5 := by
    refine ⟨fun b o e n hb _ => ?_, fun b o e n hb _ => slot b o e n hb, un.free, fun b o e _ => ?_, un.tups, un.frzs, un.tbls⟩
    · have e2 := un.keep b o e n hb (no b)
      obtain ⟨o', eB⟩ := b1 b o e hb
      have e3 := fl.1 b o' eB
      rw [e2] at e3
      cases e3
      exact st5 b o eB
    · by_cases hb : b ∈ frs X.stack
      · obtain ⟨sl, q⟩ := slot b o e (I1.stkFree b hb) hb
        exact ⟨_, q⟩
      · obtain ⟨o', eB⟩ := b1 b o e hb
        exact ⟨o', st5 b o' eB⟩
  have I5 : Inv X pins σ H' { s' with heap := h5 } := I1.call' (s' := { s' with heap := h5 }) os u5 (fly_ok hok b2 fl.1 st5) bare (ch := []) (fun b z => absurd z (by simp))
  exact ⟨I5, I1.trackO I5 F.new F.no (xcG_ok x5)⟩
theorem px_callD {k : Nat} {f : Addr} {fd : FuncData} {ps : List Str} {sp : Sp} {x : Str} {p pos : Pos} {e : Expr} {es : List Expr} {t : TA} (F : FnOk X.prog X.w X.K X.mg X.base (CXD X.prog X.w) k f fd ps sp) (hr : Room k X.A) (hg : Gl X x) (hm : X.mg x = some (.ref f)) (hk : PySem.W.keepIn X.K (.ref f) = true) (hb : Binds X.K fd ps [])
    (ha : PA X.nox (e :: es) t) (hdb : (x == ("__debug__" : Str)) = false := by decide) (he : starEach (e :: es) X.env = (false, eval e X.env) :: starEach es X.env := by rfl) (hpl : (backTo pos (starEach es X.env)).any (·.1) = false := by rfl) :
    PXD X (.Call (.Name x p) (e :: es) [] pos) (tCallX sp t) := by
  intro pins s σ H Q E I h
  refine wpAny_Call_Name_kw (ld_glob I hg hm ?_ hdb)
  have hA : wpAny (model X.prog X.w) X.A (spliced (backTo pos (starEach (e :: es) X.env))) (AP X pins σ fun vs H1 => sp vs H1 Q E) (Rsd X pins σ E) s :=
    wpAny_mono (ha pos pins s σ H _ (I.wish _) h) (fun us s1 ⟨vs, H1, I1, r, q⟩ => ⟨vs, H1, I1.unwish, r, q⟩) fun _ _ z => False.elim z
  refine PySem.W.callWith_K (h₀ := X.base) I.ok.mod.kin hk (thn hA fun us s1 ⟨vs, H1, I1, r, q⟩ => ⟨I1.kIn, ?_⟩) he hpl
  have hl : us.length = ps.length := by rw [← r.length]; exact F.len _ _ _ _ q
  have hb' := hb s1 us I1.kIn (by simpa using hl)
  rw [List.append_nil] at hb'
  refine wpAny_call (codeAny_mono (F.run X.A X.stack s1 H1 ⟨us, []⟩ us vs Q E hr I1.env0 hb' r q) fun r s' hq => ?_)
  cases r with
  | error e => exact Rsd.of_call I1 hq
  | ok fl =>
    cases fl with
    | ret u => exact I1.after hq
    | next => exact False.elim hq
    | brk => exact False.elim hq
    | cont => exact False.elim hq
def tTryED (X : Cx) (hs : List ExceptHandler) (tx : TX) : TS := fun D σ H => tx σ H (fun _ H1 => D.nx σ H1) (xTryD X hs D σ)
theorem ps_tryED {tx : TX} (hst : X.stack = X.env :: X.outer ∧ X.env.frame = some X.env.locals) (he : PXD X e tx) (hs' : swapsWith e none epos.line X.env = pure false := by rfl) :
    PS X (.Try [.Expr e epos] (h₀ :: hs) [] [] pos) (tTryED X (h₀ :: hs) tx) := by
  intro pins s σ H D I h
  refine wpAny_Try_except (wpAny_mono (Q := fun f s1 => f = .next ∧ ∃ σ' H', Inv X pins σ' H' s1 ∧ D.nx σ' H') (E := Rsd X pins σ (xTryD X (h₀ :: hs) D σ)) ?_ (fun f s1 q => ?_) fun ev s1 hc => try_caughtD hst hc)
  · exact wpAny_execs_cons (wpAny_Expr_any (thn (he pins s σ H _ _ I h) fun v s1 ⟨y, H1, I1, r1, q1⟩ => wpAny_execs_nil ⟨rfl, σ, H1, I1, q1⟩) I.quiet hs')
  · obtain ⟨rfl, q⟩ := q
    exact wpAny_execs_nil q
/-! ### the body itself raises -/
end
end L2

/-! MY RULES: raise C(..) with its dict told (ps_raiseD; psx_raise within a try's own body), the second field and more of a new exception (ps_fldX2), e.f of a caught exception (pe_fldG), isinstance of it (call_isiG). -/
set_option linter.all false
set_option maxRecDepth 100000
set_option maxHeartbeats 2000000
namespace PySem.W
open PySem PySem.Spec PySem.Calls PyProof.Rows PySem.Builtin.ObjectAttr PySem.Builtin
section
variable {prog : Program} {w : World} {A : Around} {s : Shared} {K : Frag} {x C : Addr}
/-- the dict of an exception, read -/
theorem exc_own {M : Model} {h : Heap} {ox : Obj} {dx : Addr} {cd : ClassData} {m : Str → Option Value} {name : Str} (X : K.In h) (hx : h.get? x = some ox) (hcl : ox.cls = .ref C) (hdn : ox.dict = some dx) (no : notCls ox = true) (hc : clsIn K C = some cd) (hh : cd.hasDict = true) (hn : h.Ns dx m) :
    Looks M h (inOwnDict name (.ref x)) (m name) := by
  obtain ⟨o, es, ep, ho, hd, hr, same⟩ := hn
  have e : ownOf cd (some o) name = some (m name) := by
    unfold ownOf
    rw [hh, if_pos rfl]
    unfold lookIn
    dsimp only
    rw [hd]
    dsimp only
    rw [← same name]
    unfold nsFind findBy
    rw [← Array.find?_toList]
    cases q : es.toList.find? (fun e => e.key.isStr name) with
    | some en => rfl
    | none =>
      have : es.toList.any (·.refKey) = false := by
        rw [List.any_eq_false]
        intro en hen
        obtain ⟨n, t, ek⟩ := hr en (Array.mem_toList_iff.mp hen)
        simp [DictEntry.refKey, ek]
      rw [this]; rfl
  exact looks_own X ⟨hx, hcl, no, by rw [hdn]; exact ho⟩ hc e
theorem exc_get {E : Value → Shared → Prop} {ox : Obj} {dx : Addr} {vs : Array Value} {m : Str → Option Value} {name : Str} {v : Value} {b : Bool} {Q : Value → Shared → Prop} (X : K.In s.heap) (c : XcIn K C) (hx : s.heap.get? x = some ox) (hcl : ox.cls = .ref C) (hdn : ox.dict = some dx) (hdt : ox.data = .fields vs)
    (hh : (clsIn K C).any (·.hasDict) = true) (na : findIn K (.ref C) name = some none) (hn : s.heap.Ns dx m) (hm : m name = some v) (hv : handedIn v = true) (h : Q v { s with toks := s.toks + 1 }) :
    wpAny (model prog w) A (getAttr (.ref x) name b) Q E s := by
  obtain ⟨h0, g, d, t, os⟩ := s
  dsimp only at X hx hn
  obtain ⟨cd, hc, hd'⟩ := any_some hh
  have no : notCls ox = true := by obtain ⟨_, _, d, _⟩ := ox; cases hdt; rfl
  have Lo := exc_own (M := model prog w) (name := name) X hx hcl hdn no hc hd' hn
  rw [hm] at Lo
  have Lf : Looks (model prog w) h0 (find (.ref x) (.ref C) name) (.value v) := (looks_findIn X na).andThen ((show Looks (model prog w) h0 (getOf none) none from .now).andThen ((show Looks (model prog w) h0 (dataDescriptor? none none) none from .now).andThen (Lo.andThen (Looks.tag .now))))
  unfold getAttr
  refine wpAny_bind (wpAny_mkText ?_)
  refine xc_by X c hx hcl (fun A R hR => codeAny_call_builtin F.attr_ValueError.ga.plain F.entry_bexc_ga (xc_check X c hx hcl ?_)) hv h
  unfold Builtin.«object.__getattribute__»
  repeat (any_goals (first | assumption | (with_reducible refine Lf.at ?_) | (with_reducible refine wpAny_loadPart_at hx ?_; rw [hcl]) | wp_step))
end
end PySem.W
namespace L2
open PySem PySem.Spec PyProof.Rows
/-! ### fields -/
section
variable {X : Cx} {pins : List (Addr × Obj)} {σ : St} {H : Hp} {s : Shared} {dx : Addr} {fs fs' : List (Str × V)} {h' : Heap} {t' : Nat}
end
/-- e.f of an exception that was caught -/
structure XGet (K : PySem.W.Frag) (C : Addr) (f : Str) : Prop where
  c : PySem.W.XcIn K C
  hd : (PySem.W.clsIn K C).any (·.hasDict) = true
  no : PySem.W.findIn K (.ref C) f = some none
def tFldG (K : PySem.W.Frag) (ta : TE) (f : Str) : TE := fun σ H Q => ta σ H fun x H1 => ∃ ea C dx fs v, x = .ref ea ∧ H1 ea = some (.ext (xcG ea C (some dx))) ∧ H1 dx = some (.xd fs) ∧ fs.lookup f = some v ∧ XGet K C f ∧ Q v H1
theorem pe_fldG {X : Cx} {K : PySem.W.Frag} {e : Expr} {f : Str} {pos : Pos} {ta : TE} (hK : X.K = K) (he : PE X e ta) (hb : attributeBase e f X.env (eval e X.env) = eval e X.env) : PE X (.Attribute e f pos) (tFldG K ta f) := by
  intro pins s σ H Q I h
  refine attr_of hb (thn (he pins s σ H _ I h) fun u s1 ⟨x, H1, I1, rx, ea, C, dx, fs, v, ex, ee, ed, l, g, q⟩ => ?_)
  subst ex hK
  obtain rfl : u = Value.ref ea := rx
  obtain ⟨⟨o, vs, ho, hc, hd, hv⟩, _, _⟩ := (show ObjOk X.prog X.w H1 s1.heap ea (.ext (xcG ea C (some dx))) from I1.hok ea _ ee)
  obtain ⟨mA, n1, r⟩ := (show ObjOk X.prog X.w H1 s1.heap dx (.xd fs) from I1.hok dx _ ed)
  obtain ⟨u, hu, ru⟩ := RelO.some_of (v := v) (o := mA f) (by rw [← l]; exact r f)
  exact PySem.W.exc_get I1.kIn g.c ho hc hd hv g.hd g.no n1.ns hu (handed_of ru) ⟨v, H1, I1.tok _, ru, q⟩
/-! ### isinstance -/
theorem xcG.kit {ea C : Addr} {od : Option Addr} {h : Heap} (p : xcG ea C od h) : PySem.W.KitE ea C h := by
  obtain ⟨o, vs, ho, hc, _⟩ := p
  exact ⟨o, ho, hc⟩
def rIsiG (K : PySem.W.Frag) : List V → Hp → VK → Prop := fun xs H Q => ∃ ea C od c b, xs = [.ref ea, c] ∧ H ea = some (.ext (xcG ea C od)) ∧ PySem.W.XcIn K C ∧ (∀ u, RelV c u → PySem.W.kitOne K (.ref C) u = some b) ∧ Q (.bl b) H
theorem call_isiG {X : Cx} {K : PySem.W.Frag} (hK : X.K = K) : CallR X (.builtin "isinstance") (rIsiG K) := by
  subst hK
  intro pins s σ H xs us Q I r h
  obtain ⟨ea, C, od, c, b, rfl, he, xc, k, q⟩ := h
  obtain ⟨u, w', rfl, ru, rw'⟩ := vals2 r
  cases ru
  exact PySem.W.kia_one (PySem.W.kitx_exc xc) I.kIn (xcG.kit (I.hok ea _ he).1) (k w' rw') (fun z => nomatch z) fun tk => ⟨.bl b, H, I.tok tk, rfl, q⟩
end L2

/-! MY RULES: raise C(..), C with __init__, its dict told: ps_raiseD; within a try's own body: psx_raise. -/
set_option linter.all false
set_option maxRecDepth 100000
set_option maxHeartbeats 2000000
namespace L2
open PySem PySem.Spec PyProof.Rows
def tRaiseD (C : Addr) (sp : Sp) (dvs : List V) (E E' : XK) (t : TA) : TS := fun _ σ H => t σ H fun vs H1 => vs.length ≤ sizeLine ∧
  ∀ ea ta, H1 ea = none → sp (.ref ea :: (vs ++ dvs)) (upd H1 ea (xcN ea C ta)) (fun v H2 => v = .non ∧ ∃ d, H2 ea = some (.ext fun h => h.get? ea = some (xcObj C ta d)) ∧ E (.ref C) d (dropH H2 ea)) E'
section
variable {X : Cx} {CX : CXT} {k : Nat} {f C : Addr} {fd : FuncData} {ps : List Str} {ds : List Value} {dvs : List V} {sp : Sp} {E E' : XK}
theorem ps_raiseD {x : Str} {np cpos pos : Pos} {e : Expr} {es : List Expr} {t : TA} (hT : ThrowsD X C E) (M : MkX X.K C f) (F : FnOk X.prog X.w X.K X.mg X.base CX k f fd ps sp) (hr : Room (k + 1) X.A) (hg : Gl X x) (hm : X.mg x = some (.ref C)) (hb : Binds X.K fd ps ds) (hd : Vals dvs ds) (hx : Passes CX X E') (hc : X.calm = true)
    (hex : X.ex = []) (ha : PA X (e :: es) t) (hdb : (x == ("__debug__" : Str)) = false := by decide) (he : starEach (e :: es) X.env = (false, eval e X.env) :: starEach es X.env := by rfl) (hpl : (backTo cpos (starEach es X.env)).any (·.1) = false := by rfl) :
    PS X (.Raise (some (.Call (.Name x np) (e :: es) [] cpos)) none pos) (tRaiseD C sp dvs E E' t) := by
  intro pins s σ H D I h
  obtain ⟨nm, qn, N, bs, bm, hdct, sn, sub, ab, col, dd, k0, k1, k2, k3, k5, mN, hC, hN, hi, T, fn⟩ := exc_objI I.mod.kin M.xe
  have call : wpAny (model X.prog X.w) X.A (eval (.Call (.Name x np) (e :: es) [] cpos) X.env) (fun v s₁ => ∃ e t dx, v = .ref e ∧ s₁.heap.get? C = some (excClassObj nm qn C N bs bm hdct sn sub ab col dd k0 k1 k2 k3 k5 "ValueError.__new__") ∧ s₁.heap.get? e = some (xcObj C t dx) ∧ X.xe (.ref e) s₁) X.xe s := by
    refine wpAny_Call_Name_kw (ld_glob I hg hm ?_ hdb)
    refine PySem.W.callWith_K (h₀ := X.base) I.ok.mod.kin M.kp (thn (ha cpos pins s σ H _ I h) fun us s1 ⟨vs, H1, I1, r, hl, q⟩ => ⟨I1.kIn, ?_⟩) he hpl
    refine thn (run_makeX (Q := fun ea ta H2 => ∃ d, H2 ea = some (.ext fun h => h.get? ea = some (xcObj C ta d)) ∧ E (.ref C) d (dropH H2 ea)) M.xe F hr hb hd hx I1 r (r.length ▸ hl) q) fun v s2 ⟨ea, ta, H2, ev, I2, hn, d, hea, hE⟩ => ?_
    obtain ⟨hobj, _, _⟩ := (show ObjOk X.prog X.w H2 s2.heap ea (.ext fun h => h.get? ea = some (xcObj C ta d)) from I2.hok ea _ hea)
    have h0 : X.s₀.heap.get? ea = none := by
      cases z : X.s₀.heap.get? ea with
      | none => rfl
      | some o =>
        obtain ⟨o1, e1⟩ := I1.base.there ea o z (by rw [hex]; simp)
        rw [hn] at e1
        cases e1
    exact ⟨ea, ta, d, ev, I2.bk _ _ hC, hobj, hT pins σ H2 s2 ea ta d I2 hea h0 hE⟩
  rw [arm_exec_Raise]
  first
    | exact wpAny_bind (wpAny_standAt (raiseStmt_madeI (C := C) (nm := nm) (q := qn) (N := N) (bs := bs) (bm := bm) (hdct := hdct) (sn := sn) (sub := sub) (ab := ab) (col := col) (dd := dd) (k0 := k0) (k1 := k1) (k2 := k2) (k3 := k3) (k5 := k5) (newId := "ValueError.__new__") (T.hasType (by decide +kernel)) (I.ok.hd hc) (wpAny_bind (wpAny_mono call (fun v s₃ h₃ => wpAny_bind (wpAny_standAt (wpAny_pure h₃))) fun _ _ x => x))))
    | (simp only [evalOpt, Option.map]; exact wpAny_bind (wpAny_standAt (raiseStmt_madeI (C := C) (nm := nm) (q := qn) (N := N) (bs := bs) (bm := bm) (hdct := hdct) (sn := sn) (sub := sub) (ab := ab) (col := col) (dd := dd) (k0 := k0) (k1 := k1) (k2 := k2) (k3 := k3) (k5 := k5) (newId := "ValueError.__new__") (T.hasType (by decide +kernel)) (I.ok.hd hc) (wpAny_bind (wpAny_mono call (fun v s₃ h₃ => wpAny_bind (wpAny_standAt (wpAny_pure h₃))) fun _ _ x => x)))))
end
section
variable {X : Cx} {CX : CXT} {k : Nat} {f C : Addr} {fd : FuncData} {ps : List Str} {sp : Sp}
end
end L2

/-! MY RULES: a def that may be called anywhere, within an except suite too: RoomH (Room without its word on the handled one), cxH (the context of such a def's body, not calm), FnOkH, Fun.okH, pe_callH. -/
set_option linter.all false
set_option maxRecDepth 100000
set_option maxHeartbeats 1000000
namespace L2
open PySem PySem.Spec PyProof.Rows
abbrev unheldA (A : Around) : Around := { A with handled := none }
def RoomH (k : Nat) (A : Around) : Prop := Room k (unheldA A)
theorem RoomH.deeper {k : Nat} {A : Around} (r : RoomH (k + 1) A) (env : Env) : RoomH k (A.deeper env) := Room.deeper r env
theorem RoomH.depth {k : Nat} {A : Around} (r : RoomH k A) : A.depth < recursionLimit := Room.depth (A := unheldA A) r
theorem Room.anyH {k : Nat} {A : Around} (r : Room k A) : RoomH k A := ⟨rfl, r.dp, r.un⟩
theorem Room.held {k : Nat} {A : Around} (r : Room k A) (h : Option Value) : RoomH k (A.mark h) := ⟨rfl, r.dp, r.un⟩
/-- the context of a def's body that may run within an except suite -/
abbrev cxH (CX : CXT) (P : Program) (w : World) (K : PySem.W.Frag) (mg : Str → Option Value) (base : Heap) (N : List Str) (qual : Str) (scope : Scope) (f : Addr) (cd : Value) (A : Around) (outer : List Env) (s : Shared) (H : Hp) (E : XK) : Cx :=
  { cxOf CX P w K mg base N qual scope f cd A outer s H E with calm := false }
structure FnOkH (P : Program) (w : World) (K : PySem.W.Frag) (mg : Str → Option Value) (base : Heap) (CX : CXT) (k : Nat) (f : Addr) (fd : FuncData) (ps : List Str) (sp : Sp) : Prop where
  len : ∀ vs H Q E, sp vs H Q E → vs.length = ps.length
  run : ∀ (A : Around) (outer : List Env) (s : Shared) (H : Hp) (args : Args) (us : List Value) (vs : List V) (Q : VK) (E : XK), RoomH k A → Env0 P w K mg base A outer s H → BindsTo s fd args (ps.zip us) → Vals vs us → sp vs H Q E →
    codeAny (model P w) A (.call (.ref f) args) (CR CX outer P w H s Q E) s
theorem FnOkH.ok {P : Program} {w : World} {K : PySem.W.Frag} {mg : Str → Option Value} {base : Heap} {CX : CXT} {k : Nat} {f : Addr} {fd : FuncData} {ps : List Str} {sp : Sp} (F : FnOkH P w K mg base CX k f fd ps sp) : FnOk P w K mg base CX k f fd ps sp :=
  ⟨F.len, fun A outer s H args us vs Q E hr => F.run A outer s H args us vs Q E hr.anyH⟩
theorem inv_startH {CX : CXT} {P : Program} {w : World} {K : PySem.W.Frag} {mg : Str → Option Value} {base : Heap} {N ps : List Str} {qual : Str} {scope : Scope} {f : Addr} {cd : Value} {A : Around} {outer : List Env} {s s1 : Shared} {H : Hp} {E : XK} {us : List Value} {vs : List V}
    (S : FnScope N ps scope) (e0 : Env0 P w K mg base A outer s H) (hl : vs.length = ps.length) (r : Vals vs us)
    (x : InCallC s s.heap.objs.size (bindL (envOfC qual scope s.heap.objs.size f cd).kindOf (ps.zip us) fun _ => none) (cellsFrom (s.heap.objs.size + 1) scope.names []) (bindC (envOfC qual scope s.heap.objs.size f cd).kindOf (ps.zip us) fun _ => none) s1) :
    Inv (cxH CX P w K mg base N qual scope f cd A outer s H E) [] (start N vs) H s1 := by
  have e1 : Env0 P w K mg base (unheldA A) outer s H := ⟨e0.frames, e0.mod, e0.bs, e0.bsz, e0.funs, e0.frf, e0.hok, e0.bare⟩
  have I := inv_start (CX := CX) (E := E) S rfl e1 hl r x
  have ok := I.ok
  exact ⟨⟨ok.mod, ok.kind, ok.glob, ok.blt, ok.above, ok.inj, ok.has, ok.cab, (fun z => nomatch z), Around.frames_deeper e0.frames, ok.stk, ok.exf, ok.bs, ok.bsz, ok.noex, ok.exfs, ok.funs, ok.frf⟩,
    I.os, I.bare, I.base, I.loc, I.cell, I.free, I.freeC, I.pin, I.hok, I.len⟩
section
variable {P : Program} {w : World} {K : PySem.W.Frag} {mg : Str → Option Value} {base : Heap}
/-- a def by its body, anywhere -/
theorem Fun.okH {x qual : Str} {st : Stmt} {f : Addr} {fd : FuncData} {N ps : List Str} {k : Nat} {sp : Sp} (F : Fun K x qual st f fd) (S : FnScope N ps (defScope st)) (len : ∀ vs H Q E, sp vs H Q E → vs.length = ps.length)
    (hbody : ∀ (cdv : Value) (A : Around) (outer : List Env) (s : Shared) (H : Hp) (vs : List V) (Q : VK) (E : XK), RoomH k (A.deeper (envOfC qual (defScope st) s.heap.objs.size f cdv)) → sp vs H Q E →
      ∃ t, PSs (cxH CX0 P w K mg base N qual (defScope st) f cdv A outer s H E).nox (defBody st) t ∧ t { nx := fun _ H' => Q .non H', rt := Q } (start N vs) H) : FnOkH P w K mg base CX0 (k + 1) f fd ps sp := by
  obtain ⟨oc, od, kV, doc, pm, an, cdv, ct, osl, rfl, lk, hcd⟩ := F.ex
  refine ⟨len, fun A outer s H args us vs Q E hr e0 hb r hsp => ?_⟩
  have stay : ∀ b o, base.get? b = some o → s.heap.get? b = some o := fun b o e => (e0.bs b o e).1
  have kin := e0.mod.kin.keeps stay
  have nl := e0.mod.nolimit.keeps stay
  have hl : vs.length = ps.length := len _ _ _ _ hsp
  have kinds : ∀ y ∈ ps.zip us, (defScope st).names.lookup y.1 = some .local ∨ ((defScope st).names.lookup y.1 = some .cell ∧ ((cellsFrom (s.heap.objs.size + 1) (defScope st).names []).lookup y.1).isSome = true) := by
    rintro ⟨n, v⟩ hy
    exact (S.par n (List.of_mem_zip hy).1).imp id fun q => ⟨q, PySem.W.cellsFrom_some _ _ _ (.inl q)⟩
  refine codeAny_call_function (RoomH.depth hr) (kin _ _ lk) rfl S.co S.gen rfl
    (PySem.W.codeRec_of kin hcd) (hb _ _ _ _ (wpAny_newFunctionEnv_cells S.kind kinds fun env he s1 x => ?_))
  cases he
  refine ⟨nl.keeps x.toInCall.keep, codeAny_func ?_⟩
  obtain ⟨t, ht, hq⟩ := hbody cdv A outer s H vs Q E (hr.deeper _) hsp
  have ht := PSs.nox ht
  have I := inv_startH (CX := CX0) (E := E) S e0 hl r x
  refine wpAny_mono (ht [] s1 (start N vs) H _ I hq) (fun fl s' hs => ?_) fun e s' hs => hs
  cases fl with
  | ret u =>
    obtain ⟨v, σ', H', J, rv, q⟩ := hs
    exact ⟨v, H', J.os, J.bare, J.base, J.hok, rv, q⟩
  | next =>
    obtain ⟨σ', H', J, q⟩ := hs
    exact ⟨.non, H', J.os, J.bare, J.base, J.hok, rfl, q⟩
  | brk =>
    obtain ⟨_, _, _, q⟩ := hs
    exact False.elim q
  | cont =>
    obtain ⟨_, _, _, q⟩ := hs
    exact False.elim q
end
section
variable {X : Cx} {CX : CXT} {k : Nat} {f : Addr} {fd : FuncData} {ps : List Str} {sp : Sp} {dvs : List V} {ds : List Value} {E : XK} {x : Str} {p pos : Pos} {e : Expr} {es : List Expr} {t : TA}
theorem run_fnH {pins : List (Addr × Obj)} {σ : St} {H : Hp} {s : Shared} {Q : VK} {us : List Value} {vs : List V} (F : FnOkH X.prog X.w X.K X.mg X.base CX k f fd ps sp) (hr : RoomH k X.A) (hb : Binds X.K fd ps ds) (hd : Vals dvs ds) (hx : Passes CX X E)
    (I : Inv X pins σ H s) (r : Vals vs us) (h : sp (vs ++ dvs) H Q E) : wpAny (model X.prog X.w) X.A (call (.ref f) us) (EP X pins σ Q) X.xe s := by
  have r2 := r.append hd
  have hl : (us ++ ds).length = ps.length := by rw [← r2.length]; exact F.len _ _ _ _ h
  refine wpAny_call (codeAny_mono (F.run X.A X.stack s H ⟨us, []⟩ (us ++ ds) (vs ++ dvs) Q E hr I.env0 (hb s us I.kIn hl) r2 h) fun r s' hq => ?_)
  rcases r with e | fl
  · exact hx pins σ H s e s' I hq
  · cases fl with
    | ret u => exact I.after hq
    | _ => exact False.elim hq
/-- f(e, ..) anywhere -/
theorem pe_callH (F : FnOkH X.prog X.w X.K X.mg X.base CX k f fd ps sp) (hr : RoomH k X.A) (hg : Gl X x) (hm : X.mg x = some (.ref f)) (hk : PySem.W.keepIn X.K (.ref f) = true) (hb : Binds X.K fd ps ds) (hd : Vals dvs ds) (hx : Passes CX X E)
    (ha : PA X (e :: es) t) (hdb : (x == ("__debug__" : Str)) = false := by decide) (he : starEach (e :: es) X.env = (false, eval e X.env) :: starEach es X.env := by rfl) (hpl : (backTo pos (starEach es X.env)).any (·.1) = false := by rfl) :
    PE X (.Call (.Name x p) (e :: es) [] pos) (tCall sp dvs E t) := by
  intro pins s σ H Q I h
  refine wpAny_Call_Name_kw (ld_glob I hg hm ?_ hdb)
  exact PySem.W.callWith_K (h₀ := X.base) I.ok.mod.kin hk (thn (ha pos pins s σ H _ I h) fun us s1 ⟨vs, H1, I1, r, q⟩ => ⟨I1.kIn, run_fnH F hr hb hd hx I1 r q⟩) he hpl
end
end L2

/-! rows.index(row): a thing that is itself in a list of data -/
set_option Elab.async false
set_option linter.all false
set_option maxRecDepth 100000
set_option maxHeartbeats 4000000
namespace L2
open PySem PySem.W PyProof.Rows
theorem hu70 {A : Around} {k : Nat} (hr : Room k A) : A.units + 70 < cLine := by have := hr.un; omega
def rIndexD : V → List V → Hp → VK → Prop := fun x vs H Q => ∃ l xs b, x = .ref l ∧ vs = [.ref b] ∧ H l = some (.lst xs) ∧ (∀ v ∈ xs, ∃ d, Rep H v d ∧ SeqAt.shaped d = true) ∧ V.ref b ∈ xs ∧ xs.length ≤ 1000 ∧ ∀ i : Nat, i < xs.length → Q (.int i) H
section
variable {X : Cx}
theorem vals_mem {xs : List V} {us : List Value} (h : Vals xs us) : ∀ u ∈ us, ∃ v ∈ xs, RelV v u := by
  induction h with
  | nil => intro u hu; cases hu
  | cons r _ ih =>
    intro u hu
    rcases List.mem_cons.mp hu with e | hu
    · subst e; exact ⟨_, .head _, r⟩
    · obtain ⟨v, hv, rv⟩ := ih u hu
      exact ⟨v, .tail _ hv, rv⟩
theorem op_notIn_seqK {K : PySem.W.Frag} (h : X.K = K) : OpR X (compareOp .NotIn) (rIn K true) := by subst h; exact op_notIn_seq
theorem mt_indexD (hu : X.A.units + 70 < cLine) : MtM X "list.index" rIndexD := by
  intro pins s σ H x vs v us Q I rx rv h
  obtain ⟨l, xs, b, rfl, rfl, hH, hd, hb, hl1, q⟩ := h
  cases rx
  obtain ⟨u, rfl, ru⟩ := rv.one
  cases ru
  obtain ⟨z, its, n, r, hl, e⟩ := I.lstM hH
  have rd : ∀ y ∈ its, ∃ d as, Reads s.heap y d as ∧ SeqAt.shaped d = true := fun y hy => by
    obtain ⟨v, hv, rv⟩ := vals_mem r y hy
    obtain ⟨d, h1, h2⟩ := hd v hv
    obtain ⟨as, h3⟩ := rep_reads I h1 rv
    exact ⟨d, as, h3, h2⟩
  have hbi : Value.ref b ∈ its := by
    obtain ⟨i, hi⟩ := List.mem_iff_getElem?.mp hb
    obtain ⟨u, hu', ru⟩ := r.get hi
    cases ru
    exact List.mem_of_getElem? hu'
  obtain ⟨dx, ax, hx1, hx2⟩ := rd _ hbi
  classical
  let f : Value → Bool := fun y => if y = Value.ref b then true else if h : ∃ d as, Reads s.heap y d as ∧ SeqAt.shaped d = true then PyData.eqv h.choose dx else false
  have hf : ∀ y ∈ its.toArray, SeqAt.EqAt X.A.in1 s y (.ref b) (f y) := fun y hy => by
    have hy : y ∈ its := by simpa using hy
    by_cases e1 : y = Value.ref b
    · have : f y = true := if_pos e1
      rw [this, e1]
      exact SeqAt.EqAt.same _
    · have h := rd y hy
      have : f y = PyData.eqv h.choose dx := by
        show (if y = Value.ref b then true else _) = _
        rw [if_neg e1, dif_pos h]
      rw [this]
      obtain ⟨as, h1, h2⟩ := h.choose_spec
      exact keq_at h1 hx1 h2 hx2 (by show X.A.units + 1 + 64 < cLine; omega)
  have hj : its.findIdx f < its.length := List.findIdx_lt_length_of_exists ⟨_, hbi, if_pos rfl⟩
  have fy : f (its[its.findIdx f]'hj) = true := List.findIdx_getElem (w := hj)
  have hmin : ∀ m (hm : m < its.findIdx f), f (its[m]'(by omega)) = false := fun m hm => by simpa using List.not_of_lt_findIdx hm
  have ⟨j, hj, fy, hmin⟩ : ∃ j, ∃ hj : j < its.length, f (its[j]'hj) = true ∧ ∀ m (hm : m < j), f (its[m]'(by omega)) = false := ⟨_, hj, fy, hmin⟩
  have sz : its.toArray.size = its.length := List.size_toArray
  refine call_meets F.slot_list_index ⟨_, e, rfl⟩ F.entry_list_index (F.args_list_index_2 _ _)
    (SeqAt.list_indexAt l its.toArray n none #[] (.ref b) f j (by omega) (by omega) ?_ ?_) ⟨e, hf, ?_⟩
  · simpa using fy
  · intro m hm hlt
    simpa using hmin m hlt
  · exact ⟨.int j, H, I.tok _, ⟨_, rfl⟩, q j (by omega)⟩
end
end L2

set_option Elab.async false
set_option linter.all false
set_option maxRecDepth 100000
set_option maxHeartbeats 4000000
namespace My
open PySem L2
/-! ### the data of k07 -/
/-! ### equal data are equal trees -/
/-! ### shape -/
/-! ### texts -/
/-! ### trees with their weight and depth -/
/-! ### good texts -/
/-! ### indexes -/
/-! ### how many pairs -/
/-! ### what a tree's tuple holds -/
section
variable {G : Hp} {v : V}
end
end My

set_option Elab.async false
set_option linter.all false
namespace My
end My
namespace My
open PySem L2
/-! ### the cells by their places -/
/-! ### the order -/
end My
namespace My
open PySem L2
end My

set_option Elab.async false
set_option linter.all false
namespace My
open PySem L2
/-! ### nests as trees: loops with a width and an outer, deeds -/
inductive Nd where
  | loop (n sz wd out : Int) (bd : List Nd)
  | deed (n k : Int) (w : Str) (cs us : List Int)
def ins (o w y : Int) : Int := if y = o then w else y
mutual
def renN (o w : Int) : Nd → Nd
  | .deed n k x cs us => .deed n k x (cs.map (ins o w)) (us.map (ins o w))
  | .loop n sz wd out bd => .loop n sz wd (ins o w out) (renL o w bd)
def renL (o w : Int) : List Nd → List Nd
  | [] => []
  | x :: r => renN o w x :: renL o w r
end
theorem renL_map (o w : Int) : ∀ l : List Nd, renL o w l = l.map (renN o w)
  | [] => rfl
  | x :: r => by rw [renL, renL_map o w r, List.map_cons]
mutual
def nmN : Nd → List Int
  | .deed .. => []
  | .loop n _ _ _ bd => n :: nmL bd
def nmL : List Nd → List Int
  | [] => []
  | x :: r => nmN x ++ nmL r
end
theorem nmL_app : ∀ (a b : List Nd), nmL (a ++ b) = nmL a ++ nmL b
  | [], b => by simp [nmL]
  | x :: r, b => by rw [List.cons_append, nmL, nmL, nmL_app r b, List.append_assoc]
/-- what stands round a node: loops by their numbers and sizes -/
abbrev Rd := List (Int × Int)
theorem ins_ne {o w y : Int} (h : y ≠ o) : ins o w y = y := if_neg h
theorem ins_eq {o w : Int} : ins o w o = w := if_pos rfl
/-! ### tiles -/
/-- a loop cut in tiles -/
def cutN (T w : Int) : Nd → Nd
  | .loop n sz wd out bd => .loop n ((sz + T - 1) / T) wd out [.loop w sz T n (renL n w bd)]
  | x => x
/-! ### depth, outers -/
mutual
def dpN : Nd → Nat
  | .deed .. => 0
  | .loop _ _ _ _ bd => dpL bd + 1
def dpL : List Nd → Nat
  | [] => 0
  | x :: r => max (dpN x) (dpL r)
end
theorem dpL_app : ∀ (a b : List Nd), dpL (a ++ b) = max (dpL a) (dpL b)
  | [], b => by simp [dpL]
  | x :: r, b => by rw [List.cons_append, dpL, dpL, dpL_app r b, Nat.max_assoc]
mutual
theorem dp_renN (o w : Int) : ∀ x : Nd, dpN (renN o w x) = dpN x
  | .deed .. => by simp [renN, dpN]
  | .loop n sz wd out bd => by rw [renN, dpN, dpN, dp_renL o w bd]
theorem dp_renL (o w : Int) : ∀ l : List Nd, dpL (renL o w l) = dpL l
  | [] => by simp [renL, dpL]
  | x :: r => by rw [renL, dpL, dpL, dp_renN o w x, dp_renL o w r]
end
/-! ### places -/
def PathAt : List Nat → List Nd → Nd → Prop
  | [], _, _ => False
  | [p], l, x => l[p]? = some x
  | p :: q :: r, l, x => ∃ n sz wd out bd, l[p]? = some (.loop n sz wd out bd) ∧ PathAt (q :: r) bd x
theorem cut_at {l : List Nd} {p : Nat} {x : Nd} (h : l[p]? = some x) : l = l.take p ++ x :: l.drop (p + 1) := by
  obtain ⟨hl, rfl⟩ := List.getElem?_eq_some_iff.mp h
  rw [← List.drop_eq_getElem_cons hl, List.take_append_drop]
theorem nmL_mid (a b : List Nd) (x : Nd) : nmL (a ++ x :: b) = nmL a ++ (nmN x ++ nmL b) := by rw [nmL_app, nmL]
theorem dpL_mid (a b : List Nd) (x : Nd) : dpL (a ++ x :: b) = max (dpL a) (max (dpN x) (dpL b)) := by rw [dpL_app, dpL]
/-! ### the first nest -/
end My

set_option Elab.async false
set_option linter.all false
namespace My
open PySem L2
/-! ### Mathematics of moves (k55): swap, cut and join keep the steps, each as often -/
/-! ### one move at a place -/
inductive Mv where
  | swap (N : Int) | cut (N T : Int) | join (N : Int)
def Mv.num : Mv → Int
  | .swap N => N | .cut N _ => N | .join N => N
def Mv.took : Mv → Int
  | .cut .. => 1 | _ => 0
def swp : Nd → Option Nd
  | .loop n sz wd out [.loop m szm wdm outm bd] => if outm = n then none else some (.loop m szm wdm outm [.loop n sz wd out bd])
  | _ => none
def cutO (T w : Int) : Nd → Option Nd
  | .loop n sz wd out bd => if out = -1 ∧ 1 ≤ T then some (cutN T w (.loop n sz wd out bd)) else none
  | _ => none
def jnd : Nd → List Nd → Option Nd
  | .loop n sz wd out bd, .loop m szm wdm outm bdm :: _ => if sz = szm ∧ wd = wdm ∧ out = outm then some (.loop n sz wd out (bd ++ renL m n bdm)) else none
  | _, _ => none
/-- the node x at a place, behind it r: what comes in their stead -/
def mvO (mv : Mv) (w : Int) (x : Nd) (r : List Nd) : Option (List Nd) := match mv with
  | .swap _ => (swp x).map fun y => y :: r
  | .cut _ T => (cutO T w x).map fun y => y :: r
  | .join _ => (jnd x r).map fun y => y :: r.drop 1
def mvP (mv : Mv) (w : Int) : List Nat → List Nd → Option (List Nd)
  | [], _ => none
  | [p], l => match l[p]? with
    | some x => (mvO mv w x (l.drop (p + 1))).map fun t => l.take p ++ t
    | none => none
  | p :: q :: r, l => match l[p]? with
    | some (.loop n sz wd out bd) => (mvP mv w (q :: r) bd).map fun bd' => l.take p ++ .loop n sz wd out bd' :: l.drop (p + 1)
    | _ => none
end My

set_option Elab.async false
set_option linter.all false
namespace My
open PySem L2
/-! ### Mathematics of nests written as rows (k51 to k54): each node with the number of the loop about it, a loop ahead of what it holds -/
inductive Hd where
  | loop (n sz wd out : Int)
  | deed (n k : Int) (w : Str) (cs us : List Int)
def Hd.num : Hd → Int
  | .loop n .. => n | .deed n .. => n
abbrev Ro := Int × Hd
def Hd.lp : Hd → List Int
  | .loop n .. => [n] | .deed .. => []
/-- the loops' numbers -/
def lps (rs : List Ro) : List Int := rs.flatMap fun r => r.2.lp
theorem lps_app (a b : List Ro) : lps (a ++ b) = lps a ++ lps b := List.flatMap_append
theorem lps_cons (r : Ro) (b : List Ro) : lps (r :: b) = r.2.lp ++ lps b := List.flatMap_cons
mutual
def rwN (a : Int) : Nd → List Ro
  | .deed n k w cs us => [(a, .deed n k w cs us)]
  | .loop n sz wd out bd => (a, .loop n sz wd out) :: rwL n bd
def rwL (a : Int) : List Nd → List Ro
  | [] => []
  | x :: r => rwN a x ++ rwL a r
end
theorem rwL_app (a : Int) : ∀ l m : List Nd, rwL a (l ++ m) = rwL a l ++ rwL a m
  | [], m => by simp [rwL]
  | x :: r, m => by rw [List.cons_append, rwL, rwL, rwL_app a r m, List.append_assoc]
mutual
theorem lps_N : ∀ (x : Nd) (a : Int), lps (rwN a x) = nmN x
  | .deed .., a => by simp [rwN, nmN, lps, Hd.lp]
  | .loop n sz wd out bd, a => by rw [rwN, lps_cons, nmN, lps_L bd n]; rfl
theorem lps_L : ∀ (l : List Nd) (a : Int), lps (rwL a l) = nmL l
  | [], a => by simp [rwL, nmL, lps]
  | x :: r, a => by rw [rwL, lps_app, lps_N x a, lps_L r a, nmL]
end
mutual
/-- what stands about a row -/
theorem ab_N : ∀ (x : Nd) (a : Int), ∀ z ∈ rwN a x, z.1 = a ∨ z.1 ∈ nmN x
  | .deed .., a, z, h => by
    rw [rwN, List.mem_singleton] at h
    subst h
    exact .inl rfl
  | .loop n sz wd out bd, a, z, h => by
    rw [rwN] at h
    rcases List.mem_cons.mp h with h | h
    · subst h; exact .inl rfl
    · rw [nmN]
      exact .inr ((ab_L bd n z h).elim (fun e => by rw [e]; exact .head _) fun e => .tail _ e)
theorem ab_L : ∀ (l : List Nd) (a : Int), ∀ z ∈ rwL a l, z.1 = a ∨ z.1 ∈ nmL l
  | [], a, z, h => by rw [rwL] at h; cases h
  | x :: r, a, z, h => by
    rw [rwL] at h
    rw [nmL]
    rcases List.mem_append.mp h with h | h
    · exact (ab_N x a z h).imp id fun e => List.mem_append_left _ e
    · exact (ab_L r a z h).imp id fun e => List.mem_append_right _ e
end
/-- no row of l stands within N -/
theorem ab_out {l : List Nd} {a N : Int} (h : N ∉ nmL l) (ha : a ≠ N) : ∀ z ∈ rwL a l, z.1 ≠ N := fun z hz e => by
  rcases ab_L l a z hz with q | q
  · exact ha (q.symm.trans e)
  · rw [e] at q; exact h q
/-! ### a nest out of its rows -/
def Hd.nd (f : Int → List Nd) : Hd → Nd
  | .loop n sz wd out => .loop n sz wd out (f n)
  | .deed n k w cs us => .deed n k w cs us
def bdy : List Ro → Int → List Nd
  | [], _ => []
  | r :: rs, x => if x = r.1 then r.2.nd (bdy rs) :: bdy rs x else bdy rs x
mutual
theorem bdy_N : ∀ (x : Nd) (a : Int) (rest : List Ro), (nmN x).Nodup → a ∉ nmN x → (∀ z ∈ nmN x, bdy rest z = []) →
    bdy (rwN a x ++ rest) a = x :: bdy rest a ∧ ∀ y, y ≠ a → y ∉ nmN x → bdy (rwN a x ++ rest) y = bdy rest y
  | .deed n k w cs us, a, rest, _, _, _ => by
    rw [rwN, List.singleton_append]
    refine ⟨?_, fun y hy _ => ?_⟩
    · rw [bdy, if_pos rfl]; rfl
    · rw [bdy, if_neg hy]
  | .loop n sz wd out bd, a, rest, nd, ha, hz => by
    rw [nmN] at nd ha hz
    have na : a ≠ n := fun e => ha (by rw [e]; exact .head _)
    have nb : a ∉ nmL bd := fun e => ha (.tail _ e)
    have hn := (List.nodup_cons.mp nd).1
    obtain ⟨h1, h2⟩ := bdy_L bd n rest (List.nodup_cons.mp nd).2 hn fun z q => hz z (.tail _ q)
    rw [hz n (.head _), List.append_nil] at h1
    rw [rwN, List.cons_append]
    refine ⟨?_, fun y hy hm => ?_⟩
    · rw [bdy, if_pos rfl, h2 a na nb]
      show Nd.loop n sz wd out (bdy (rwL n bd ++ rest) n) :: _ = _
      rw [h1]
    · rw [nmN] at hm
      rw [bdy, if_neg hy]
      exact h2 y (fun e => hm (by rw [e]; exact .head _)) fun e => hm (.tail _ e)
theorem bdy_L : ∀ (l : List Nd) (a : Int) (rest : List Ro), (nmL l).Nodup → a ∉ nmL l → (∀ z ∈ nmL l, bdy rest z = []) →
    bdy (rwL a l ++ rest) a = l ++ bdy rest a ∧ ∀ y, y ≠ a → y ∉ nmL l → bdy (rwL a l ++ rest) y = bdy rest y
  | [], a, rest, _, _, _ => by
    rw [rwL, List.nil_append]
    exact ⟨rfl, fun _ _ _ => rfl⟩
  | x :: r, a, rest, nd, ha, hz => by
    rw [nmL] at nd ha hz
    obtain ⟨n1, n2, n3⟩ := List.nodup_append.mp nd
    have a1 : a ∉ nmN x := fun e => ha (List.mem_append_left _ e)
    have a2 : a ∉ nmL r := fun e => ha (List.mem_append_right _ e)
    obtain ⟨h1, h2⟩ := bdy_L r a rest n2 a2 fun z q => hz z (List.mem_append_right _ q)
    obtain ⟨g1, g2⟩ := bdy_N x a (rwL a r ++ rest) n1 a1 fun z q => by
      rw [h2 z (fun e => a1 (by rw [← e]; exact q)) fun e => n3 z q z e rfl]
      exact hz z (List.mem_append_left _ q)
    rw [rwL, List.append_assoc]
    refine ⟨by rw [g1, h1]; rfl, fun y hy hm => ?_⟩
    rw [nmL] at hm
    rw [g2 y hy fun e => hm (List.mem_append_left _ e), h2 y hy fun e => hm (List.mem_append_right _ e)]
end
theorem bdy_rows {l : List Nd} {a : Int} (nd : (nmL l).Nodup) (ha : a ∉ nmL l) : bdy (rwL a l) a = l := by
  have := (bdy_L l a [] nd ha fun _ _ => rfl).1
  rwa [List.append_nil, show bdy [] a = [] from rfl, List.append_nil] at this
/-! ### rows that are still open: heads that hold, one within another, each behind its own elder siblings -/
structure Op where
  ahead : List Nd
  n : Int
  sz : Int
  wd : Int
  out : Int
def opn : Int → List Op → List Nd → List Ro
  | a, [], l => rwL a l
  | a, o :: os, l => rwL a o.ahead ++ (a, .loop o.n o.sz o.wd o.out) :: opn o.n os l
/-- the number of the innermost -/
def inm : Int → List Op → Int
  | a, [] => a
  | _, o :: os => inm o.n os
theorem opn_add : ∀ (a : Int) (os : List Op) (l m : List Nd), opn a os (l ++ m) = opn a os l ++ rwL (inm a os) m
  | a, [], l, m => rwL_app a l m
  | a, o :: os, l, m => by rw [opn, opn, opn_add o.n os l m, inm, List.append_assoc]; rfl
theorem opn_head : ∀ (a : Int) (os : List Op) (l : List Nd) (n sz wd out : Int), opn a (os ++ [⟨l, n, sz, wd, out⟩]) [] = opn a os l ++ [(inm a os, .loop n sz wd out)]
  | a, [], l, n, sz, wd, out => by simp [opn, inm, rwL]
  | a, o :: os, l, n, sz, wd, out => by rw [List.cons_append, opn, opn, opn_head o.n os l, inm, List.append_assoc]; rfl
/-- one is closed -/
theorem opn_close : ∀ (a : Int) (os : List Op) (o : Op) (l : List Nd), opn a (os ++ [o]) l = opn a os (o.ahead ++ [.loop o.n o.sz o.wd o.out l])
  | a, [], o, l => by
    show rwL a o.ahead ++ (a, .loop o.n o.sz o.wd o.out) :: rwL o.n l = rwL a (o.ahead ++ [.loop o.n o.sz o.wd o.out l])
    rw [rwL_app, rwL, rwN, rwL, List.append_nil]
  | a, p :: os, o, l => by rw [List.cons_append, opn, opn, opn_close p.n os o l]
/-! ### where a move is made -/
/-! ### two loops exchanged, in rows -/
def loopAt (N : Int) : List Ro → Option Nat
  | [] => none
  | (_, .loop n _ _ _) :: rs => if n = N then some 0 else (loopAt N rs).map (· + 1)
  | (_, .deed _ _ _ _ _) :: rs => (loopAt N rs).map (· + 1)
theorem loopAt_none {N : Int} : ∀ {rs : List Ro}, N ∉ lps rs → loopAt N rs = none
  | [], _ => rfl
  | (a, .loop n sz wd out) :: rs, h => by
    rw [lps_cons] at h
    rw [loopAt, if_neg (fun e => h (by rw [e]; exact .head _)), loopAt_none fun e => h (List.mem_append_right _ e)]
    rfl
  | (a, .deed n k w cs us) :: rs, h => by
    rw [lps_cons] at h
    rw [loopAt, loopAt_none fun e => h (List.mem_append_right _ e)]
    rfl
theorem loopAt_some {N a sz wd out : Int} {b : List Ro} : ∀ {rs : List Ro}, N ∉ lps rs → loopAt N (rs ++ (a, .loop N sz wd out) :: b) = some rs.length
  | [], _ => by rw [List.nil_append, loopAt, if_pos rfl]; rfl
  | (c, .loop n s1 w1 o1) :: rs, h => by
    rw [lps_cons] at h
    rw [List.cons_append, loopAt, if_neg (fun e => h (by rw [e]; exact .head _)), loopAt_some fun e => h (List.mem_append_right _ e)]
    rfl
  | (c, .deed n k w cs us) :: rs, h => by
    rw [lps_cons] at h
    rw [List.cons_append, loopAt, loopAt_some fun e => h (List.mem_append_right _ e)]
    rfl
end My

set_option Elab.async false
set_option linter.all false
namespace My
open PySem L2
/-! ### Loops cut and joined, in rows (k52, k53): a number named anew in all rows behind a place -/
def Hd.mt : Hd → List Int
  | .loop _ _ _ out => [out]
  | .deed _ _ _ cs us => cs ++ us
def rnH (o w : Int) : Hd → Hd
  | .loop n sz wd out => .loop n sz wd (ins o w out)
  | .deed n k v cs us => .deed n k v (cs.map (ins o w)) (us.map (ins o w))
def rnR (o w : Int) (r : Ro) : Ro := (ins o w r.1, rnH o w r.2)
mutual
theorem rn_N {o w : Int} : ∀ (x : Nd) (a : Int), o ∉ nmN x → (rwN a x).map (rnR o w) = rwN (ins o w a) (renN o w x)
  | .deed n k v cs us, a, _ => by rw [rwN, renN, rwN]; rfl
  | .loop n sz wd out bd, a, h => by
    rw [nmN] at h
    have hn : n ≠ o := fun e => h (by rw [e]; exact .head _)
    rw [rwN, renN, rwN, List.map_cons, rn_L bd n fun e => h (.tail _ e), ins_ne hn]
    rfl
theorem rn_L {o w : Int} : ∀ (l : List Nd) (a : Int), o ∉ nmL l → (rwL a l).map (rnR o w) = rwL (ins o w a) (renL o w l)
  | [], a, _ => by rw [rwL, renL, rwL]; rfl
  | x :: r, a, h => by
    rw [nmL] at h
    rw [rwL, renL, rwL, List.map_append, rn_N x a fun e => h (List.mem_append_left _ e), rn_L r a fun e => h (List.mem_append_right _ e)]
end
theorem map_ins_out {o w : Int} : ∀ {cs : List Int}, (∀ y ∈ cs, y ≠ o) → cs.map (ins o w) = cs
  | [], _ => rfl
  | c :: cs, h => by rw [List.map_cons, ins_ne (h c (.head _)), map_ins_out fun y hy => h y (.tail _ hy)]
theorem rnR_out {o w : Int} : ∀ {r : Ro}, r.1 ≠ o → (∀ y ∈ r.2.mt, y ≠ o) → rnR o w r = r
  | (a, .loop n sz wd out), h, g => by
    show (ins o w a, Hd.loop n sz wd (ins o w out)) = _
    rw [ins_ne h, ins_ne (g out (.head _))]
  | (a, .deed n k v cs us), h, g => by
    show (ins o w a, Hd.deed n k v (cs.map (ins o w)) (us.map (ins o w))) = _
    rw [ins_ne h, map_ins_out fun y hy => g y (List.mem_append_left _ hy), map_ins_out fun y hy => g y (List.mem_append_right _ hy)]
theorem rn_out {o w : Int} : ∀ {rs : List Ro}, (∀ z ∈ rs, z.1 ≠ o ∧ ∀ y ∈ z.2.mt, y ≠ o) → rs.map (rnR o w) = rs
  | [], _ => rfl
  | r :: rs, h => by rw [List.map_cons, rnR_out (h r (.head _)).1 (h r (.head _)).2, rn_out fun z hz => h z (.tail _ hz)]
/-! ### what a row may speak of: the loops about it -/
mutual
def wsN : List Int → Nd → Prop
  | e, .deed _ _ _ cs us => ∀ y ∈ cs ++ us, y ∈ e
  | e, .loop n _ _ out bd => (out = -1 ∨ out ∈ e) ∧ wsL (n :: e) bd
def wsL : List Int → List Nd → Prop
  | _, [] => True
  | e, x :: r => wsN e x ∧ wsL e r
end
theorem wsL_app {e : List Int} : ∀ {l m : List Nd}, wsL e (l ++ m) ↔ wsL e l ∧ wsL e m
  | [], m => by simp [wsL]
  | x :: r, m => by rw [List.cons_append, wsL, wsL, wsL_app, and_assoc]
mutual
theorem mt_N : ∀ (x : Nd) (a : Int) (e : List Int), wsN e x → ∀ z ∈ rwN a x, ∀ y ∈ z.2.mt, y = -1 ∨ y ∈ e ∨ y ∈ nmN x
  | .deed n k v cs us, a, e, h, z, hz, y, hy => by
    rw [rwN, List.mem_singleton] at hz
    subst hz
    rw [wsN] at h
    exact .inr (.inl (h y hy))
  | .loop n sz wd out bd, a, e, h, z, hz, y, hy => by
    rw [wsN] at h
    rw [rwN] at hz
    rw [nmN]
    rcases List.mem_cons.mp hz with hz | hz
    · subst hz
      have : y = out := by simpa [Hd.mt] using hy
      subst this
      exact h.1.imp id .inl
    · rcases mt_L bd n (n :: e) h.2 z hz y hy with q | q | q
      · exact .inl q
      · rcases List.mem_cons.mp q with q | q
        · exact .inr (.inr (by rw [q]; exact .head _))
        · exact .inr (.inl q)
      · exact .inr (.inr (.tail _ q))
theorem mt_L : ∀ (l : List Nd) (a : Int) (e : List Int), wsL e l → ∀ z ∈ rwL a l, ∀ y ∈ z.2.mt, y = -1 ∨ y ∈ e ∨ y ∈ nmL l
  | [], a, e, h, z, hz, y, hy => by rw [rwL] at hz; cases hz
  | x :: r, a, e, h, z, hz, y, hy => by
    rw [wsL] at h
    rw [rwL] at hz
    rw [nmL]
    rcases List.mem_append.mp hz with hz | hz
    · exact (mt_N x a e h.1 z hz y hy).imp id fun q => q.imp id fun q => List.mem_append_left _ q
    · exact (mt_L r a e h.2 z hz y hy).imp id fun q => q.imp id fun q => List.mem_append_right _ q
end
/-! ### a loop cut, in rows -/
end My

set_option Elab.async false
set_option linter.all false
namespace My
open PySem L2
/-! ### loops joined, in rows (k53) -/
/-- as path_rowsW; and no row behind is beside the node; no row outside speaks of the node's own numbers -/
theorem path_rowsJ {mv : Mv} {w : Int} {x : Nd} : ∀ {path : List Nat} {l : List Nd} {a : Int} {e : List Int}, PathAt path l x → (nmL l).Nodup → a ∉ nmL l → wsL e l → (∀ y ∈ e, y ∉ nmL l) → (∀ y ∈ nmL l, y ≠ -1) →
    ∃ (pre post : List Ro) (c : Int) (r : List Nd) (e' : List Int), rwL a l = pre ++ (rwL c (x :: r) ++ post) ∧ c ∉ nmL (x :: r) ∧ (∀ z ∈ nmL (x :: r), z ∈ nmL l) ∧ wsL e' (x :: r) ∧ (∀ y ∈ e', y ∉ nmL (x :: r)) ∧
      (∀ z ∈ post, z.1 ≠ c ∧ z.1 ∉ nmL (x :: r) ∧ ∀ y ∈ z.2.mt, y ∉ nmL (x :: r)) ∧ (c = a ∨ c ∈ nmL l) ∧
      (mvO mv w x r = none → mvP mv w path l = none) ∧ (∀ t, mvO mv w x r = some t → ∃ t', mvP mv w path l = some t' ∧ rwL a t' = pre ++ (rwL c t ++ post))
  | [], l, a, e, h, _, _, _, _, _ => h.elim
  | [p], l, a, e, h, nd, ha, ws, he, hm => by
    have h : l[p]? = some x := h
    have ec := cut_at h
    have en : nmL l = nmL (l.take p) ++ nmL (x :: l.drop (p + 1)) := by rw [← nmL_app, ← ec]
    rw [ec, wsL_app] at ws
    have a2 : a ∉ nmL (x :: l.drop (p + 1)) := fun z => ha (by rw [en]; exact List.mem_append_right _ z)
    refine ⟨rwL a (l.take p), [], a, l.drop (p + 1), e, ?_, a2, fun z hz => by rw [en]; exact List.mem_append_right _ hz, ws.2, fun y hy z => he y hy (by rw [en]; exact List.mem_append_right _ z), (fun z hz => by cases hz), .inl rfl, fun q => ?_, fun t q => ⟨l.take p ++ t, ?_, ?_⟩⟩
    · rw [List.append_nil, ← rwL_app, ← ec]
    · rw [mvP, h]; show Option.map _ (mvO mv w x _) = none; rw [q]; rfl
    · rw [mvP, h]; show Option.map _ (mvO mv w x _) = _; rw [q]; rfl
    · rw [rwL_app, List.append_nil]
  | p :: q :: rr, l, a, e, h, nd, ha, ws, he, hm => by
    obtain ⟨n, sz, wd, out, bd, h, hp⟩ := h
    have ec := cut_at h
    have en : nmL l = nmL (l.take p) ++ (n :: nmL bd ++ nmL (l.drop (p + 1))) := by
      have := nmL_mid (l.take p) (l.drop (p + 1)) (.loop n sz wd out bd)
      rw [← ec, nmN] at this
      exact this
    rw [ec, wsL_app, wsL, wsN] at ws
    obtain ⟨_, ⟨_, wb⟩, wr⟩ := ws
    have nd0 := nd
    rw [en] at nd
    obtain ⟨n1, n2, n3⟩ := List.nodup_append.mp nd
    obtain ⟨m1, m2, m3⟩ := List.nodup_append.mp n2
    obtain ⟨k1, k2⟩ := List.nodup_cons.mp m1
    have inb : ∀ y ∈ nmL bd, y ∈ nmL l := fun y hy => by rw [en]; exact List.mem_append_right _ (List.mem_append_left _ (.tail _ hy))
    obtain ⟨pre, post, c, r, e', e1, hc, hsub, hws, hee, hpost, hcc, hno, hso⟩ := path_rowsJ (mv := mv) (w := w) hp k2 k1 wb (fun y hy z => by
      rcases List.mem_cons.mp hy with hy | hy
      · rw [hy] at z; exact k1 z
      · exact he y hy (inb y z)) (fun y hy => hm y (inb y hy))
    have er : rwL a l = rwL a (l.take p) ++ ((a, .loop n sz wd out) :: rwL n bd ++ rwL a (l.drop (p + 1))) := by
      have := rwL_app a (l.take p) (.loop n sz wd out bd :: l.drop (p + 1))
      rw [← ec, rwL, rwN] at this
      exact this
    have cb : c ∈ n :: nmL bd := hcc.elim (fun e => by rw [e]; exact .head _) fun e => .tail _ e
    have cin : c ∈ nmL l := by rw [en]; exact List.mem_append_right _ (List.mem_append_left _ cb)
    refine ⟨rwL a (l.take p) ++ (a, .loop n sz wd out) :: pre, post ++ rwL a (l.drop (p + 1)), c, r, e', ?_, hc, fun z hz => inb z (hsub z hz), hws, hee, fun z hz => ?_, .inr cin, fun e => ?_, fun t e => ?_⟩
    · rw [er, e1]; simp
    · rcases List.mem_append.mp hz with hz | hz
      · exact hpost z hz
      · refine ⟨fun v => ?_, fun v => ?_, fun y hy v => ?_⟩
        · rcases ab_L _ a z hz with q' | q'
          · rw [q'] at v; exact ha (by rw [v]; exact cin)
          · exact m3 _ cb _ q' v.symm
        · rcases ab_L _ a z hz with q' | q'
          · rw [q'] at v; exact ha (inb _ (hsub _ v))
          · exact m3 _ (.tail _ (hsub _ v)) _ q' rfl
        · rcases mt_L _ a _ wr z hz y hy with q' | q' | q'
          · exact hm y (inb _ (hsub _ v)) q'
          · exact he y q' (inb _ (hsub _ v))
          · exact m3 _ (.tail _ (hsub _ v)) _ q' rfl
    · rw [mvP, h]; show Option.map _ (mvP mv w (q :: rr) bd) = none; rw [hno e]; rfl
    · obtain ⟨bd', hb, eb⟩ := hso t e
      refine ⟨l.take p ++ .loop n sz wd out bd' :: l.drop (p + 1), ?_, ?_⟩
      · rw [mvP, h]; show Option.map _ (mvP mv w (q :: rr) bd) = _; rw [hb]; rfl
      · rw [rwL_app, rwL, rwN, eb]; simp
/-- the first row beside: with the same loop about it -/
def behR (c : Int) : List Ro → Option Nat
  | [] => none
  | r :: rs => if r.1 = c then some 0 else (behR c rs).map (· + 1)
theorem behR_none {c : Int} : ∀ {rs : List Ro}, (∀ z ∈ rs, z.1 ≠ c) → behR c rs = none
  | [], _ => rfl
  | r :: rs, h => by rw [behR, if_neg (h r (.head _)), behR_none fun z hz => h z (.tail _ hz)]; rfl
theorem behR_app {c : Int} : ∀ {rs qs : List Ro}, (∀ z ∈ rs, z.1 ≠ c) → behR c (rs ++ qs) = (behR c qs).map (· + rs.length)
  | [], qs, _ => by cases h : behR c qs <;> simp [h]
  | r :: rs, qs, h => by
    rw [List.cons_append, behR, if_neg (h r (.head _)), behR_app fun z hz => h z (.tail _ hz), Option.map_map]
    congr 1
theorem behR_lt {c : Int} : ∀ {rs : List Ro} {j : Nat}, behR c rs = some j → j < rs.length
  | [], j, h => by cases h
  | r :: rs, j, h => by
    rw [behR] at h
    split at h
    · cases h; simp
    · obtain ⟨i, hi, rfl⟩ := Option.map_eq_some_iff.mp h
      have := behR_lt hi
      simp; omega
def joinR (rs : List Ro) (N : Int) : Option (List Ro) := match loopAt N rs with
  | none => none
  | some i => match rs[i]? with
    | some (ab, .loop _ sz wd out) => match behR ab (rs.drop (i + 1)) with
      | none => none
      | some j => match rs[i + 1 + j]? with
        | some (_, .loop m szm wdm outm) => if sz = szm ∧ wd = wdm ∧ out = outm then some (rs.take (i + 1 + j) ++ (rs.drop (i + 1 + j + 1)).map (rnR m N)) else none
        | _ => none
    | _ => none
theorem joinR_get {rs : List Ro} {N ab sz wd out : Int} {i : Nat} (hl : loopAt N rs = some i) (hg : rs[i]? = some (ab, .loop N sz wd out)) :
    joinR rs N = match behR ab (rs.drop (i + 1)) with
      | none => none
      | some j => match rs[i + 1 + j]? with
        | some (_, .loop m szm wdm outm) => if sz = szm ∧ wd = wdm ∧ out = outm then some (rs.take (i + 1 + j) ++ (rs.drop (i + 1 + j + 1)).map (rnR m N)) else none
        | _ => none := by
  rw [joinR, hl]
  simp only [hg]
theorem joinR_none {l : List Nd} {a N : Int} (h : N ∉ nmL l) : joinR (rwL a l) N = none := by
  rw [joinR, loopAt_none (by rw [lps_L]; exact h)]
theorem joinR_at {l : List Nd} {a N w : Int} {path : List Nat} {sz wd out : Int} {bd : List Nd} (hp : PathAt path l (.loop N sz wd out bd)) (nd : (nmL l).Nodup) (ha : a ∉ nmL l) (ws : wsL [] l) (hm : ∀ y ∈ nmL l, y ≠ -1) :
    joinR (rwL a l) N = (mvP (.join N) w path l).map (rwL a) := by
  obtain ⟨pre, post, c, r, e', e1, hc, hsub, hws, hee, hpost, hcc, hno, hso⟩ := path_rowsJ (mv := .join N) (w := w) hp nd ha ws (fun y hy => by cases hy) hm
  have nd0 := nd
  rw [← lps_L l a, e1, lps_app, lps_app, lps_L, nmL, nmN] at nd
  obtain ⟨n1, n2, n3⟩ := List.nodup_append.mp nd
  obtain ⟨m1, m2, m3⟩ := List.nodup_append.mp n2
  obtain ⟨k1, k2, k3⟩ := List.nodup_append.mp m1
  obtain ⟨j1, j2⟩ := List.nodup_cons.mp k1
  rw [nmL, nmN] at hpost hc hee hsub
  have Nin : N ∈ N :: nmL bd ++ nmL r := .head _
  have Npre : N ∉ lps pre := fun e => n3 _ e _ (List.mem_append_left _ Nin) rfl
  have e2 : rwL a l = pre ++ (c, .loop N sz wd out) :: (rwL N bd ++ (rwL c r ++ post)) := by rw [e1, rwL, rwN]; simp
  have hat : loopAt N (rwL a l) = some pre.length := by rw [e2]; exact loopAt_some Npre
  have hget : (rwL a l)[pre.length]? = some (c, .loop N sz wd out) := by rw [e2]; simp
  have t2 : (rwL a l).drop (pre.length + 1) = rwL N bd ++ (rwL c r ++ post) := by
    rw [e2, List.drop_append, List.drop_of_length_le (by omega), show pre.length + 1 - pre.length = 1 by omega]; rfl
  have cN : c ≠ N := fun e => hc (by rw [e]; exact Nin)
  have cb : c ∉ nmL bd := fun e => hc (List.mem_append_left _ (.tail _ e))
  have nb : ∀ z ∈ rwL N bd, z.1 ≠ c := fun z hz => ab_out cb (fun e => cN e.symm) z hz
  rw [joinR_get hat hget, t2, behR_app nb]
  rw [wsL] at hws
  have e3 : rwL a l = (pre ++ (c, .loop N sz wd out) :: rwL N bd) ++ (rwL c r ++ post) := by rw [e2]; simp
  have len : (pre ++ (c, Hd.loop N sz wd out) :: rwL N bd).length = pre.length + 1 + (rwL N bd).length := by simp; omega
  cases r with
  | nil =>
    rw [rwL, List.nil_append, behR_none fun z hz => (hpost z hz).1, hno (by rw [mvO]; rfl)]
    rfl
  | cons y r' =>
    cases y with
    | deed n k v cs us =>
      rw [rwL, rwN] at e3 ⊢
      rw [List.cons_append, List.cons_append, behR, if_pos rfl, hno (by rw [mvO]; rfl)]
      show (match (rwL a l)[pre.length + 1 + (0 + (rwL N bd).length)]? with
        | some (_, Hd.loop m szm wdm outm) => if sz = szm ∧ wd = wdm ∧ out = outm then some ((rwL a l).take (pre.length + 1 + (0 + (rwL N bd).length)) ++ ((rwL a l).drop (pre.length + 1 + (0 + (rwL N bd).length) + 1)).map (rnR m N)) else none
        | _ => none) = none
      have g : (rwL a l)[pre.length + 1 + (0 + (rwL N bd).length)]? = some (c, .deed n k v cs us) := by
        rw [e3, Nat.zero_add, ← len, List.getElem?_append_right (Nat.le_refl _), Nat.sub_self]
        rfl
      rw [g]
    | loop m szm wdm outm bdm =>
      rw [rwL, rwN] at e3 ⊢
      rw [List.cons_append, List.cons_append, behR, if_pos rfl]
      show (match (rwL a l)[pre.length + 1 + (0 + (rwL N bd).length)]? with
        | some (_, Hd.loop m szm wdm outm) => if sz = szm ∧ wd = wdm ∧ out = outm then some ((rwL a l).take (pre.length + 1 + (0 + (rwL N bd).length)) ++ ((rwL a l).drop (pre.length + 1 + (0 + (rwL N bd).length) + 1)).map (rnR m N)) else none
        | _ => none) = _
      have g : (rwL a l)[pre.length + 1 + (0 + (rwL N bd).length)]? = some (c, .loop m szm wdm outm) := by
        rw [e3, Nat.zero_add, ← len, List.getElem?_append_right (Nat.le_refl _), Nat.sub_self]
        rfl
      have t1 : (rwL a l).take (pre.length + 1 + (0 + (rwL N bd).length)) = pre ++ (c, .loop N sz wd out) :: rwL N bd := by
        rw [e3, Nat.zero_add, ← len, List.take_left']
        rfl
      have t3 : (rwL a l).drop (pre.length + 1 + (0 + (rwL N bd).length) + 1) = rwL m bdm ++ (rwL c r' ++ post) := by
        rw [e3, Nat.zero_add, ← len, List.drop_append, List.drop_of_length_le (by omega), List.nil_append]
        rw [show (pre ++ (c, Hd.loop N sz wd out) :: rwL N bd).length + 1 - (pre ++ (c, Hd.loop N sz wd out) :: rwL N bd).length = 1 by omega]
        simp
      rw [g]
      show (if sz = szm ∧ wd = wdm ∧ out = outm then some _ else none) = _
      by_cases ho : sz = szm ∧ wd = wdm ∧ out = outm
      · rw [if_pos ho, t1, t3]
        obtain ⟨t', ht, et⟩ := hso (.loop N sz wd out (bd ++ renL m N bdm) :: r') (by rw [mvO]; show Option.map _ (jnd _ _) = _; rw [jnd, if_pos ho]; rfl)
        rw [ht]
        show _ = some (rwL a t')
        rw [nmL, nmN] at k2 k3 hpost hc hee hsub
        obtain ⟨q1, q2, q3⟩ := List.nodup_append.mp k2
        obtain ⟨q4, q5⟩ := List.nodup_cons.mp q1
        have Min : m ∈ N :: nmL bd ++ (m :: nmL bdm ++ nmL r') := List.mem_append_right _ (.head _)
        have cM : c ≠ m := fun e => hc (by rw [e]; exact Min)
        rw [wsL] at hws
        have r1 : (rwL c r').map (rnR m N) = rwL c r' := rn_out fun z hz => ⟨ab_out (fun e => q3 m (.head _) m e rfl) cM z hz, fun y hy e => by
          subst e
          rcases mt_L r' c e' hws.2.2 z hz _ hy with q | q | q
          · exact hm _ (hsub _ Min) q
          · exact hee _ q Min
          · exact q3 _ (.head _) _ q rfl⟩
        have r2 : post.map (rnR m N) = post := rn_out fun z hz => ⟨fun e => (hpost z hz).2.1 (by rw [e]; exact Min), fun y hy e => (hpost z hz).2.2 y hy (by rw [e]; exact Min)⟩
        rw [et, List.map_append, List.map_append, rn_L bdm m q4, r1, r2, ins_eq, rwL, rwN, rwL_app]
        simp
      · rw [if_neg ho, hno (by rw [mvO]; show Option.map _ (jnd _ _) = none; rw [jnd, if_neg ho]; rfl)]
        rfl
end My

set_option Elab.async false
set_option linter.all false
set_option maxRecDepth 100000
set_option maxHeartbeats 4000000
namespace My
open PySem L2
def top (i : Nat) : Stmt := PySem.Challenge.pw_arrayloom_k53_loops_joined.main.body.getD i (.Pass ⟨0, 0, 0, 0⟩)
abbrev s_NoMove_init : Stmt := inClass (top 3) 0
abbrev s_Clash_init : Stmt := inClass (top 4) 0
abbrev s_is_loop : Stmt := top 7
abbrev s_body_of : Stmt := top 8
abbrev s_with_body : Stmt := top 9
abbrev s_moved : Stmt := top 11
abbrev s_path_to : Stmt := top 12
abbrev s_moved_along : Stmt := top 13
abbrev s_moved_at : Stmt := top 14
abbrev s_swapped : Stmt := top 15
abbrev s_cut_by : Stmt := top 16
abbrev s_joined_with : Stmt := top 17
abbrev s_renumbered : Stmt := top 18
abbrev s_renumbered_node : Stmt := top 19
abbrev s_instead_in : Stmt := top 20
abbrev s_instead : Stmt := top 21
abbrev s_l_cell_at : Stmt := top 23
abbrev s_l_whole : Stmt := top 24
abbrev s_l_head_by : Stmt := top 25
abbrev s_l_deed_by : Stmt := top 26
abbrev s_l_room : Stmt := top 27
abbrev s_l_rows_by : Stmt := top 28
abbrev s_l_nest : Stmt := top 29
abbrev s_l_wholes : Stmt := top 30
abbrev s_l_is_node : Stmt := top 31
abbrev s_l_written : Stmt := top 32
abbrev s_l_loop_at : Stmt := top 33
abbrev s_l_refused : Stmt := top 34
abbrev s_l_refused_by_any : Stmt := top 35
abbrev s_l_named : Stmt := top 36
abbrev s_l_behind : Stmt := top 37
abbrev s_l_joined : Stmt := top 38
abbrev s_l_beside : Stmt := top 39
abbrev s_l_number_by : Stmt := top 40
abbrev s_law : Stmt := top 41
/-- what isinstance asks of an own class -/
structure TyC (K : PySem.W.Frag) (C : Addr) : Prop where
  ha : PySem.W.findIn K (.ref C) "__class__" = some (some (.builtin "object.__class__"))
  hn : PySem.W.specialIn K (.builtin "object.__class__") "__get__" = some (some (.builtin "getset_descriptor.__get__"))
  htk : PySem.W.takesIn K (.builtin "object.__class__") = some true
  hm : PySem.W.mroIn K C (.type "object") = some true
structure Adr where
  C_LoomError : Addr
  C_NoText : Addr
  C_NoMove : Addr
  C_Clash : Addr
  f_NoMove_init : Addr
  d_NoMove_init : FuncData
  f_Clash_init : Addr
  d_Clash_init : FuncData
  f_is_loop : Addr
  d_is_loop : FuncData
  f_body_of : Addr
  d_body_of : FuncData
  f_with_body : Addr
  d_with_body : FuncData
  f_moved : Addr
  d_moved : FuncData
  f_path_to : Addr
  d_path_to : FuncData
  f_moved_along : Addr
  d_moved_along : FuncData
  f_moved_at : Addr
  d_moved_at : FuncData
  f_swapped : Addr
  d_swapped : FuncData
  f_cut_by : Addr
  d_cut_by : FuncData
  f_joined_with : Addr
  d_joined_with : FuncData
  f_renumbered : Addr
  d_renumbered : FuncData
  f_renumbered_node : Addr
  d_renumbered_node : FuncData
  f_instead_in : Addr
  d_instead_in : FuncData
  f_instead : Addr
  d_instead : FuncData
  f_l_cell_at : Addr
  d_l_cell_at : FuncData
  f_l_whole : Addr
  d_l_whole : FuncData
  f_l_head_by : Addr
  d_l_head_by : FuncData
  f_l_deed_by : Addr
  d_l_deed_by : FuncData
  f_l_room : Addr
  d_l_room : FuncData
  f_l_rows_by : Addr
  d_l_rows_by : FuncData
  f_l_nest : Addr
  d_l_nest : FuncData
  f_l_wholes : Addr
  d_l_wholes : FuncData
  f_l_is_node : Addr
  d_l_is_node : FuncData
  f_l_written : Addr
  d_l_written : FuncData
  f_l_loop_at : Addr
  d_l_loop_at : FuncData
  f_l_refused : Addr
  d_l_refused : FuncData
  f_l_refused_by_any : Addr
  d_l_refused_by_any : FuncData
  f_l_named : Addr
  d_l_named : FuncData
  f_l_behind : Addr
  d_l_behind : FuncData
  f_l_joined : Addr
  d_l_joined : FuncData
  f_l_beside : Addr
  d_l_beside : FuncData
  f_l_number_by : Addr
  d_l_number_by : FuncData
  f_law : Addr
  d_law : FuncData
structure Txt (K : PySem.W.Frag) (mg : Str → Option Value) (t : Adr) : Prop where
  F_NoMove_init : Fun K "__init__" "NoMove.__init__" s_NoMove_init t.f_NoMove_init t.d_NoMove_init
  b_NoMove_init : Binds K t.d_NoMove_init ["self", "place"] []
  F_Clash_init : Fun K "__init__" "Clash.__init__" s_Clash_init t.f_Clash_init t.d_Clash_init
  b_Clash_init : Binds K t.d_Clash_init ["self", "first", "second", "array", "cell"] []
  F_is_loop : Fun K "is_loop" "is_loop" s_is_loop t.f_is_loop t.d_is_loop
  m_is_loop : mg "is_loop" = some (.ref t.f_is_loop)
  b_is_loop : Binds K t.d_is_loop ["node"] []
  F_body_of : Fun K "body_of" "body_of" s_body_of t.f_body_of t.d_body_of
  m_body_of : mg "body_of" = some (.ref t.f_body_of)
  b_body_of : Binds K t.d_body_of ["loop"] []
  F_with_body : Fun K "with_body" "with_body" s_with_body t.f_with_body t.d_with_body
  m_with_body : mg "with_body" = some (.ref t.f_with_body)
  b_with_body : Binds K t.d_with_body ["loop", "body"] []
  F_moved : Fun K "moved" "moved" s_moved t.f_moved t.d_moved
  m_moved : mg "moved" = some (.ref t.f_moved)
  b_moved : Binds K t.d_moved ["nest", "move"] []
  F_path_to : Fun K "path_to" "path_to" s_path_to t.f_path_to t.d_path_to
  m_path_to : mg "path_to" = some (.ref t.f_path_to)
  b_path_to : Binds K t.d_path_to ["number", "body"] []
  F_moved_along : Fun K "moved_along" "moved_along" s_moved_along t.f_moved_along t.d_moved_along
  m_moved_along : mg "moved_along" = some (.ref t.f_moved_along)
  b_moved_along : Binds K t.d_moved_along ["path", "body", "move", "fresh"] []
  F_moved_at : Fun K "moved_at" "moved_at" s_moved_at t.f_moved_at t.d_moved_at
  m_moved_at : mg "moved_at" = some (.ref t.f_moved_at)
  b_moved_at : Binds K t.d_moved_at ["place", "body", "move", "fresh"] []
  F_swapped : Fun K "swapped" "swapped" s_swapped t.f_swapped t.d_swapped
  m_swapped : mg "swapped" = some (.ref t.f_swapped)
  b_swapped : Binds K t.d_swapped ["loop"] []
  F_cut_by : Fun K "cut_by" "cut_by" s_cut_by t.f_cut_by t.d_cut_by
  m_cut_by : mg "cut_by" = some (.ref t.f_cut_by)
  b_cut_by : Binds K t.d_cut_by ["tile", "loop", "fresh"] []
  F_joined_with : Fun K "joined_with" "joined_with" s_joined_with t.f_joined_with t.d_joined_with
  m_joined_with : mg "joined_with" = some (.ref t.f_joined_with)
  b_joined_with : Binds K t.d_joined_with ["behind", "loop"] []
  F_renumbered : Fun K "renumbered" "renumbered" s_renumbered t.f_renumbered t.d_renumbered
  m_renumbered : mg "renumbered" = some (.ref t.f_renumbered)
  b_renumbered : Binds K t.d_renumbered ["body", "old", "new"] []
  F_renumbered_node : Fun K "renumbered_node" "renumbered_node" s_renumbered_node t.f_renumbered_node t.d_renumbered_node
  m_renumbered_node : mg "renumbered_node" = some (.ref t.f_renumbered_node)
  b_renumbered_node : Binds K t.d_renumbered_node ["node", "old", "new"] []
  F_instead_in : Fun K "instead_in" "instead_in" s_instead_in t.f_instead_in t.d_instead_in
  m_instead_in : mg "instead_in" = some (.ref t.f_instead_in)
  b_instead_in : Binds K t.d_instead_in ["numbers", "old", "new"] []
  F_instead : Fun K "instead" "instead" s_instead t.f_instead t.d_instead
  m_instead : mg "instead" = some (.ref t.f_instead)
  b_instead : Binds K t.d_instead ["number", "old", "new"] []
  F_l_cell_at : Fun K "_law_cell_at" "_law_cell_at" s_l_cell_at t.f_l_cell_at t.d_l_cell_at
  m_l_cell_at : mg "_law_cell_at" = some (.ref t.f_l_cell_at)
  b_l_cell_at : Binds K t.d_l_cell_at ["_law_script", "_law_k"] []
  F_l_whole : Fun K "_law_whole" "_law_whole" s_l_whole t.f_l_whole t.d_l_whole
  m_l_whole : mg "_law_whole" = some (.ref t.f_l_whole)
  b_l_whole : Binds K t.d_l_whole ["_law_found"] []
  F_l_head_by : Fun K "_law_head_by" "_law_head_by" s_l_head_by t.f_l_head_by t.d_l_head_by
  m_l_head_by : mg "_law_head_by" = some (.ref t.f_l_head_by)
  b_l_head_by : Binds K t.d_l_head_by ["_law_cell", "_law_number", "_law_heads", "_law_room_here"] []
  F_l_deed_by : Fun K "_law_deed_by" "_law_deed_by" s_l_deed_by t.f_l_deed_by t.d_l_deed_by
  m_l_deed_by : mg "_law_deed_by" = some (.ref t.f_l_deed_by)
  b_l_deed_by : Binds K t.d_l_deed_by ["_law_cell", "_law_number", "_law_heads"] []
  F_l_room : Fun K "_law_room" "_law_room" s_l_room t.f_l_room t.d_l_room
  m_l_room : mg "_law_room" = some (.ref t.f_l_room)
  b_l_room : Binds K t.d_l_room ["_law_heads"] []
  F_l_rows_by : Fun K "_law_rows_by" "_law_rows_by" s_l_rows_by t.f_l_rows_by t.d_l_rows_by
  m_l_rows_by : mg "_law_rows_by" = some (.ref t.f_l_rows_by)
  b_l_rows_by : Binds K t.d_l_rows_by ["_law_script", "_law_behind_here"] []
  F_l_nest : Fun K "_law_nest" "_law_nest" s_l_nest t.f_l_nest t.d_l_nest
  m_l_nest : mg "_law_nest" = some (.ref t.f_l_nest)
  b_l_nest : Binds K t.d_l_nest ["_law_rows", "_law_behind_here"] []
  F_l_wholes : Fun K "_law_wholes" "_law_wholes" s_l_wholes t.f_l_wholes t.d_l_wholes
  m_l_wholes : mg "_law_wholes" = some (.ref t.f_l_wholes)
  b_l_wholes : Binds K t.d_l_wholes ["_law_found"] []
  F_l_is_node : Fun K "_law_is_node" "_law_is_node" s_l_is_node t.f_l_is_node t.d_l_is_node
  m_l_is_node : mg "_law_is_node" = some (.ref t.f_l_is_node)
  b_l_is_node : Binds K t.d_l_is_node ["_law_node"] []
  F_l_written : Fun K "_law_written" "_law_written" s_l_written t.f_l_written t.d_l_written
  m_l_written : mg "_law_written" = some (.ref t.f_l_written)
  b_l_written : Binds K t.d_l_written ["_law_found", "_law_most"] []
  F_l_loop_at : Fun K "_law_loop_at" "_law_loop_at" s_l_loop_at t.f_l_loop_at t.d_l_loop_at
  m_l_loop_at : mg "_law_loop_at" = some (.ref t.f_l_loop_at)
  b_l_loop_at : Binds K t.d_l_loop_at ["_law_rows", "_law_number"] []
  F_l_refused : Fun K "_law_refused" "_law_refused" s_l_refused t.f_l_refused t.d_l_refused
  m_l_refused : mg "_law_refused" = some (.ref t.f_l_refused)
  b_l_refused : Binds K t.d_l_refused ["_law_nest_here", "_law_move"] []
  F_l_refused_by_any : Fun K "_law_refused_by_any" "_law_refused_by_any" s_l_refused_by_any t.f_l_refused_by_any t.d_l_refused_by_any
  m_l_refused_by_any : mg "_law_refused_by_any" = some (.ref t.f_l_refused_by_any)
  b_l_refused_by_any : Binds K t.d_l_refused_by_any ["_law_nest_here", "_law_move"] []
  F_l_named : Fun K "_law_named" "_law_named" s_l_named t.f_l_named t.d_l_named
  m_l_named : mg "_law_named" = some (.ref t.f_l_named)
  b_l_named : Binds K t.d_l_named ["_law_some", "_law_old", "_law_new"] []
  F_l_behind : Fun K "_law_behind" "_law_behind" s_l_behind t.f_l_behind t.d_l_behind
  m_l_behind : mg "_law_behind" = some (.ref t.f_l_behind)
  b_l_behind : Binds K t.d_l_behind ["_law_rows", "_law_at"] []
  F_l_joined : Fun K "_law_joined" "_law_joined" s_l_joined t.f_l_joined t.d_l_joined
  m_l_joined : mg "_law_joined" = some (.ref t.f_l_joined)
  b_l_joined : Binds K t.d_l_joined ["_law_rows", "_law_number"] []
  F_l_beside : Fun K "_law_beside" "_law_beside" s_l_beside t.f_l_beside t.d_l_beside
  m_l_beside : mg "_law_beside" = some (.ref t.f_l_beside)
  b_l_beside : Binds K t.d_l_beside ["_law_rows", "_law_row"] []
  F_l_number_by : Fun K "_law_number_by" "_law_number_by" s_l_number_by t.f_l_number_by t.d_l_number_by
  m_l_number_by : mg "_law_number_by" = some (.ref t.f_l_number_by)
  b_l_number_by : Binds K t.d_l_number_by ["_law_script", "_law_rows", "_law_behind_here"] []
  F_law : Fun K "law" "law" s_law t.f_law t.d_law
  m_law : mg "law" = some (.ref t.f_law)
  b_law : Binds K t.d_law ["_law_script"] []
  cn_NO_OUTER : ∃ u, mg "NO_OUTER" = some u ∧ RelV (.int (-1)) u
  m_Clash : mg "Clash" = some (.ref t.C_Clash)
  m_LoomError : mg "LoomError" = some (.ref t.C_LoomError)
  m_NoMove : mg "NoMove" = some (.ref t.C_NoMove)
  m_NoText : mg "NoText" = some (.ref t.C_NoText)
  mx_NoMove : MkX K t.C_NoMove t.f_NoMove_init
  xs_NoMove_place : XStore K t.C_NoMove "place"
  xg_NoMove_place : XGet K t.C_NoMove "place"
  xm_NoMove_ValueError : PySem.W.mroIn K t.C_NoMove (.type "ValueError") = some true
  xc_NoMove : PySem.W.XcIn K t.C_NoMove
  kx_NoMove_Clash : PySem.W.kitOne K (.ref t.C_NoMove) (.ref t.C_Clash) = some false
  kx_NoMove_NoText : PySem.W.kitOne K (.ref t.C_NoMove) (.ref t.C_NoText) = some false
  em_NoMove_NoMove : PySem.W.exmOne K (.ref t.C_NoMove) (.ref t.C_NoMove) = some true
  em_NoMove_LoomError : PySem.W.exmOne K (.ref t.C_NoMove) (.ref t.C_LoomError) = some true
  z_enumerate : mg "enumerate" = none
  z_len : mg "len" = none
  z_tuple : mg "tuple" = none
  z_isinstance : mg "isinstance" = none
  z_bool : mg "bool" = none
  z_int : mg "int" = none
  z_min : mg "min" = none
  z_range : mg "range" = none
  z_max : mg "max" = none
  z_reversed : mg "reversed" = none
  z_str : mg "str" = none
  z_ValueError : mg "ValueError" = none
theorem sc_NoMove_init : FnScope ["self", "place"] ["self", "place"] (defScope s_NoMove_init) := ⟨rfl, rfl, rfl, by decide +kernel, rfl, by decide +kernel, by decide +kernel⟩
theorem sc_Clash_init : FnScope ["self", "first", "second", "array", "cell"] ["self", "first", "second", "array", "cell"] (defScope s_Clash_init) := ⟨rfl, rfl, rfl, by decide +kernel, rfl, by decide +kernel, by decide +kernel⟩
theorem sc_is_loop : FnScope ["node"] ["node"] (defScope s_is_loop) := ⟨rfl, rfl, rfl, by decide +kernel, rfl, by decide +kernel, by decide +kernel⟩
theorem sc_body_of : FnScope ["loop", "kind", "number", "size", "width", "outer", "body"] ["loop"] (defScope s_body_of) := ⟨rfl, rfl, rfl, by decide +kernel, rfl, by decide +kernel, by decide +kernel⟩
theorem sc_with_body : FnScope ["loop", "body", "kind", "number", "size", "width", "outer", "former"] ["loop", "body"] (defScope s_with_body) := ⟨rfl, rfl, rfl, by decide +kernel, rfl, by decide +kernel, by decide +kernel⟩
theorem sc_moved : FnScope ["nest", "move", "fresh", "body", "path", "taken"] ["nest", "move"] (defScope s_moved) := ⟨rfl, rfl, rfl, by decide +kernel, rfl, by decide +kernel, by decide +kernel⟩
theorem sc_path_to : FnScope ["number", "body", "place", "node", "within"] ["number", "body"] (defScope s_path_to) := ⟨rfl, rfl, rfl, by decide +kernel, rfl, by decide +kernel, by decide +kernel⟩
theorem sc_moved_along : FnScope ["path", "body", "move", "fresh", "place", "loop", "inside"] ["path", "body", "move", "fresh"] (defScope s_moved_along) := ⟨rfl, rfl, rfl, by decide +kernel, rfl, by decide +kernel, by decide +kernel⟩
theorem sc_moved_at : FnScope ["place", "body", "move", "fresh", "loop", "behind", "form"] ["place", "body", "move", "fresh"] (defScope s_moved_at) := ⟨rfl, rfl, rfl, by decide +kernel, rfl, by decide +kernel, by decide +kernel⟩
theorem sc_swapped : FnScope ["loop", "body", "kind", "number", "size", "width", "outer", "inside"] ["loop"] (defScope s_swapped) := ⟨rfl, rfl, rfl, by decide +kernel, rfl, by decide +kernel, by decide +kernel⟩
theorem sc_cut_by : FnScope ["tile", "loop", "fresh", "kind", "number", "size", "width", "outer", "body", "beginnings", "within"] ["tile", "loop", "fresh"] (defScope s_cut_by) := ⟨rfl, rfl, rfl, by decide +kernel, rfl, by decide +kernel, by decide +kernel⟩
theorem sc_joined_with : FnScope ["behind", "loop", "kind", "number", "size", "width", "outer", "body"] ["behind", "loop"] (defScope s_joined_with) := ⟨rfl, rfl, rfl, by decide +kernel, rfl, by decide +kernel, by decide +kernel⟩
theorem sc_renumbered : FnScope ["body", "old", "new"] ["body", "old", "new"] (defScope s_renumbered) := ⟨rfl, rfl, rfl, by decide +kernel, rfl, by decide +kernel, by decide +kernel⟩
theorem sc_renumbered_node : FnScope ["node", "old", "new", "kind", "number", "size", "width", "outer", "body", "line", "word", "cell", "turn"] ["node", "old", "new"] (defScope s_renumbered_node) := ⟨rfl, rfl, rfl, by decide +kernel, rfl, by decide +kernel, by decide +kernel⟩
theorem sc_instead_in : FnScope ["numbers", "old", "new"] ["numbers", "old", "new"] (defScope s_instead_in) := ⟨rfl, rfl, rfl, by decide +kernel, rfl, by decide +kernel, by decide +kernel⟩
theorem sc_instead : FnScope ["number", "old", "new"] ["number", "old", "new"] (defScope s_instead) := ⟨rfl, rfl, rfl, by decide +kernel, rfl, by decide +kernel, by decide +kernel⟩
theorem sc_l_cell_at : FnScope ["_law_script", "_law_k"] ["_law_script", "_law_k"] (defScope s_l_cell_at) := ⟨rfl, rfl, rfl, by decide +kernel, rfl, by decide +kernel, by decide +kernel⟩
theorem sc_l_whole : FnScope ["_law_found"] ["_law_found"] (defScope s_l_whole) := ⟨rfl, rfl, rfl, by decide +kernel, rfl, by decide +kernel, by decide +kernel⟩
theorem sc_l_head_by : FnScope ["_law_cell", "_law_number", "_law_heads", "_law_room_here", "_law_about", "_law_rest", "_law_outer", "_law_width"] ["_law_cell", "_law_number", "_law_heads", "_law_room_here"] (defScope s_l_head_by) := ⟨rfl, rfl, rfl, by decide +kernel, rfl, by decide +kernel, by decide +kernel⟩
theorem sc_l_deed_by : FnScope ["_law_cell", "_law_number", "_law_heads", "_law_about", "_law_own", "_law_turn", "_law_rest"] ["_law_cell", "_law_number", "_law_heads"] (defScope s_l_deed_by) := ⟨rfl, rfl, rfl, by decide +kernel, rfl, by decide +kernel, by decide +kernel⟩
theorem sc_l_room : FnScope ["_law_heads", "_law_worth", "_law_head"] ["_law_heads"] (defScope s_l_room) := ⟨rfl, rfl, rfl, by decide +kernel, rfl, by decide +kernel, by decide +kernel⟩
theorem sc_l_rows_by : FnScope ["_law_script", "_law_behind_here", "_law_start", "_law_rows", "_law_heads", "_law_k", "_law_cell", "_law_number", "_law_act"] ["_law_script", "_law_behind_here"] (defScope s_l_rows_by) := ⟨rfl, rfl, rfl, by decide +kernel, rfl, by decide +kernel, by decide +kernel⟩
theorem sc_l_nest : FnScope ["_law_rows", "_law_behind_here", "_law_bodies", "_law_row", "_law_node"] ["_law_rows", "_law_behind_here"] (defScope s_l_nest) := ⟨rfl, rfl, rfl, by decide +kernel, rfl, by decide +kernel, by decide +kernel⟩
theorem sc_l_wholes : FnScope ["_law_found", "_law_number"] ["_law_found"] (defScope s_l_wholes) := ⟨rfl, rfl, rfl, by decide +kernel, rfl, by decide +kernel, by decide +kernel⟩
theorem sc_l_is_node : FnScope ["_law_node"] ["_law_node"] (defScope s_l_is_node) := ⟨rfl, rfl, rfl, by decide +kernel, rfl, by decide +kernel, by decide +kernel⟩
theorem sc_l_written : FnScope ["_law_found", "_law_most", "_law_rows", "_law_node", "_law_waiting", "_law_about", "_law_other"] ["_law_found", "_law_most"] (defScope s_l_written) := ⟨rfl, rfl, rfl, by decide +kernel, rfl, by decide +kernel, by decide +kernel⟩
theorem sc_l_loop_at : FnScope ["_law_rows", "_law_number", "_law_k"] ["_law_rows", "_law_number"] (defScope s_l_loop_at) := ⟨rfl, rfl, rfl, by decide +kernel, rfl, by decide +kernel, by decide +kernel⟩
theorem sc_l_refused : FnScope ["_law_nest_here", "_law_move", "e"] ["_law_nest_here", "_law_move"] (defScope s_l_refused) := ⟨rfl, rfl, rfl, by decide +kernel, rfl, by decide +kernel, by decide +kernel⟩
theorem sc_l_refused_by_any : FnScope ["_law_nest_here", "_law_move", "e"] ["_law_nest_here", "_law_move"] (defScope s_l_refused_by_any) := ⟨rfl, rfl, rfl, by decide +kernel, rfl, by decide +kernel, by decide +kernel⟩
theorem sc_l_named : FnScope ["_law_some", "_law_old", "_law_new", "_law_made", "_law_number"] ["_law_some", "_law_old", "_law_new"] (defScope s_l_named) := ⟨rfl, rfl, rfl, by decide +kernel, rfl, by decide +kernel, by decide +kernel⟩
theorem sc_l_behind : FnScope ["_law_rows", "_law_at", "_law_k"] ["_law_rows", "_law_at"] (defScope s_l_behind) := ⟨rfl, rfl, rfl, by decide +kernel, rfl, by decide +kernel, by decide +kernel⟩
theorem sc_l_joined : FnScope ["_law_rows", "_law_number", "_law_at", "_law_other", "_law_gone", "_law_due", "_law_row", "_law_about", "_law_own"] ["_law_rows", "_law_number"] (defScope s_l_joined) := ⟨rfl, rfl, rfl, by decide +kernel, rfl, by decide +kernel, by decide +kernel⟩
theorem sc_l_beside : FnScope ["_law_rows", "_law_row", "_law_other"] ["_law_rows", "_law_row"] (defScope s_l_beside) := ⟨rfl, rfl, rfl, by decide +kernel, rfl, by decide +kernel, by decide +kernel⟩
theorem sc_l_number_by : FnScope ["_law_script", "_law_rows", "_law_behind_here", "_law_way", "_law_cell", "_law_goods", "_law_near"] ["_law_script", "_law_rows", "_law_behind_here"] (defScope s_l_number_by) := ⟨rfl, rfl, rfl, by decide +kernel, rfl, by decide +kernel, by decide +kernel⟩
theorem sc_law : FnScope ["_law_script", "_law_behind_here", "_law_rows", "_law_number", "_law_due", "_law_turn", "_law_nest_here", "_law_found"] ["_law_script"] (defScope s_law) := ⟨rfl, rfl, rfl, by decide +kernel, rfl, by decide +kernel, by decide +kernel⟩
theorem nd_comp_0 : (["node", "new", "old"] : List Str).Nodup := by decide +kernel
theorem nd_comp_1 : (["number", "new", "old"] : List Str).Nodup := by decide +kernel
theorem nd_comp_2 : (["_law_k", "_law_heads", "_law_rest"] : List Str).Nodup := by decide +kernel
theorem nd_comp_3 : (["_law_k", "_law_heads", "_law_rest"] : List Str).Nodup := by decide +kernel
theorem nd_comp_4 : (["_law_node"] : List Str).Nodup := by decide +kernel
theorem nd_comp_5 : (["_law_row", "_law_rows"] : List Str).Nodup := by decide +kernel
theorem nd_comp_6 : (["_law_row", "_law_goods", "_law_rows"] : List Str).Nodup := by decide +kernel
theorem FnOk.none {P : Program} {w : World} {K : PySem.W.Frag} {mg : Str → Option Value} {base : Heap} {CX : CXT} {k : Nat} {f : Addr} {fd : FuncData} {ps : List Str} {sp : Sp} (h : ∀ vs H Q E, ¬ sp vs H Q E) : FnOk P w K mg base CX k f fd ps sp :=
  ⟨fun vs H Q E q => (h vs H Q E q).elim, fun _ _ _ H _ _ vs Q E _ _ _ _ q => (h vs H Q E q).elim⟩
theorem shaped_of {d : PyData} (h : d.canLay0 = true) (hd : d.depth ≤ 60) : SeqAt.shaped d = true := by
  unfold SeqAt.shaped
  rw [h, Bool.true_and]
  exact decide_eq_true (by omega)
/-- one of a list of data -/
theorem reps_of {α : Type} {H : Hp} {f : α → PyData} {ts : List α} {xs : List V} (r : Reps H xs (ts.map f)) {i : Nat} {x : V} (hx : xs[i]? = some x) : ∃ e, ts[i]? = some e ∧ Rep H x (f e) := by
  obtain ⟨d, hd, rx⟩ := r.get2 hx
  rw [List.getElem?_map] at hd
  obtain ⟨e, he, rfl⟩ := Option.map_eq_some_iff.mp hd
  exact ⟨e, he, rx⟩
/-! ### objects -/
theorem pget {α β : Type} {F : α → β → Prop} : ∀ {l : List α} {m : List β}, Paired F l m → ∀ {i : Nat} {x : α}, l[i]? = some x → ∃ y, m[i]? = some y ∧ F x y
  | _, _, .nil, i, x, e => by simp at e
  | _, _, .cons r t, 0, x, e => by simp at e; subst e; exact ⟨_, rfl, r⟩
  | _, _, .cons r t, i + 1, x, e => by
    obtain ⟨y, e1, e2⟩ := pget t (i := i) (by simpa using e)
    exact ⟨y, by simpa using e1, e2⟩
theorem papp {α β : Type} {F : α → β → Prop} : ∀ {a c : List α} {b d : List β}, Paired F a b → Paired F c d → Paired F (a ++ c) (b ++ d)
  | _, _, _, _, .nil, h => h
  | _, _, _, _, .cons r t, h => .cons r (papp t h)
theorem get_map {α : Type} {f : α → V} {xs : List α} {i : Nat} {v : V} (h : (xs.map f)[i]? = some v) : ∃ x, xs[i]? = some x ∧ v = f x := by
  rw [List.getElem?_map] at h
  cases e : xs[i]? with
  | none => rw [e] at h; cases h
  | some x => rw [e] at h; exact ⟨x, rfl, (Option.some.inj h).symm⟩
/-- all tuples stay -/
def KT (H H' : Hp) : Prop := ∀ p xs, H p = some (.tup xs) → H' p = some (.tup xs)
theorem KT.same {H H' : Hp} (s : Same H H') : KT H H' := fun p xs e => s _ _ e
theorem KT.at {H : Hp} {l : Addr} {u o : HO} (e : H l = some u) (n : ∀ xs, u ≠ .tup xs) : KT H (upd H l o) := fun p xs z => by rw [upd_ne (ne_of z e (n xs).symm)]; exact z
theorem KT.trans {H H' H2 : Hp} (a : KT H H') (b : KT H' H2) : KT H H2 := fun p xs e => b _ _ (a _ _ e)
end My

set_option Elab.async false
set_option linter.all false
set_option maxRecDepth 100000
set_option maxHeartbeats 4000000
namespace My
open PySem L2
local macro_rules | `(tactic| walk_at "lk") => `(tactic| first | with_reducible exact lk0 | (refine lk1 (by decide +kernel) ?_; walk_at "lk") | rfl)
/-! ### nests in the heap -/
mutual
def NdAt (H : Hp) : Nd → V → Prop
  | .deed n k w cs us, v => ∃ b c u, v = .ref b ∧ H b = some (.tup [.str "deed", .int n, .int k, .str w, .ref c, .ref u]) ∧ H c = some (.tup (cs.map V.int)) ∧ H u = some (.tup (us.map V.int))
  | .loop n sz wd out bd, v => ∃ b p xs, v = .ref b ∧ H b = some (.tup [.str "loop", .int n, .int sz, .int wd, .int out, .ref p]) ∧ H p = some (.tup xs) ∧ NdsAt H bd xs
def NdsAt (H : Hp) : List Nd → List V → Prop
  | [], vs => vs = []
  | x :: r, vs => ∃ v vr, vs = v :: vr ∧ NdAt H x v ∧ NdsAt H r vr
end
theorem nds_pair {H : Hp} : ∀ {l : List Nd} {vs : List V}, NdsAt H l vs ↔ Paired (fun v x => NdAt H x v) vs l
  | [], vs => by
    rw [NdsAt]
    constructor
    · rintro rfl; exact .nil
    · intro h; cases h; rfl
  | x :: r, vs => by
    rw [NdsAt]
    constructor
    · rintro ⟨v, vr, rfl, h1, h2⟩
      exact .cons h1 (nds_pair.mp h2)
    · intro h
      cases h with
      | cons a b => exact ⟨_, _, rfl, a, nds_pair.mpr b⟩
mutual
theorem NdAt.kt {H H' : Hp} (k : KT H H') : ∀ {x : Nd} {v : V}, NdAt H x v → NdAt H' x v
  | .deed n kk w cs us, v, h => by
    rw [NdAt] at h ⊢
    obtain ⟨b, c, u, e, h1, h2, h3⟩ := h
    exact ⟨b, c, u, e, k _ _ h1, k _ _ h2, k _ _ h3⟩
  | .loop n sz wd out bd, v, h => by
    rw [NdAt] at h ⊢
    obtain ⟨b, p, xs, e, h1, h2, h3⟩ := h
    exact ⟨b, p, xs, e, k _ _ h1, k _ _ h2, NdsAt.kt k h3⟩
theorem NdsAt.kt {H H' : Hp} (k : KT H H') : ∀ {l : List Nd} {vs : List V}, NdsAt H l vs → NdsAt H' l vs
  | [], vs, h => by rw [NdsAt] at h ⊢; exact h
  | x :: r, vs, h => by
    rw [NdsAt] at h ⊢
    obtain ⟨v, vr, e, h1, h2⟩ := h
    exact ⟨v, vr, e, NdAt.kt k h1, NdsAt.kt k h2⟩
end
theorem NdsAt.len {H : Hp} {l : List Nd} {vs : List V} (h : NdsAt H l vs) : vs.length = l.length := Paired.length (nds_pair.mp h)
/-! ### what the defs ask of a nest -/
mutual
def okN : Rd → Nd → Prop
  | _, .deed _ _ _ cs us => True ∧ True ∧ cs.length ≤ 100 ∧ us.length ≤ 100
  | b, .loop _ sz _ _ bd => True ∧ 1 ≤ sz ∧ sz ≤ 2 ^ 100 ∧ True ∧ True ∧ okL b bd ∧ bd.length ≤ 100
def okL : Rd → List Nd → Prop
  | _, [] => True
  | b, x :: r => okN b x ∧ okL b r
end
theorem okL_app {b : Rd} : ∀ {l m : List Nd}, okL b (l ++ m) ↔ okL b l ∧ okL b m
  | [], m => by simp [okL]
  | x :: r, m => by rw [List.cons_append, okL, okL, okL_app, and_assoc]
theorem okL_mem {b : Rd} : ∀ {l : List Nd}, okL b l → ∀ x ∈ l, okN b x
  | [], _, x, h => by cases h
  | y :: r, h, x, hx => by
    rw [okL] at h
    rcases List.mem_cons.mp hx with e | e
    · subst e; exact h.1
    · exact okL_mem h.2 x e
def sp_isl : Sp := fun vs H Q _ => ∃ (b : Addr) (x : Str) (xs : List V), vs = [.ref b] ∧ H b = some (.tup (.str x :: xs)) ∧ Q (.bl (decide (V.str x = V.str "loop"))) H
section
variable {P : Program} {w : World} {K : PySem.W.Frag} {mg : Str → Option Value} {base : Heap} {t : Adr}
theorem ok_is_loop (T : Txt K mg t) : FnOk P w K mg base CX0 1 t.f_is_loop t.d_is_loop ["node"] sp_isl := by
  refine T.F_is_loop.ok sc_is_loop (fun vs H Q E h => ?_) (fun cdv A outer s H vs Q E hr h => ?_)
  · obtain ⟨b, x, xs, rfl, _⟩ := h
    rfl
  · obtain ⟨b, x, xs, rfl, hb, k⟩ := h
    exact ⟨_, (pss_one (ps_ret (pe_cmpR op_eq (pe_ix ix_tup (pv 0) pe_int (fun _ _ => rfl)) pe_str (nomark _)))), _, rfl, b, _, _, _, rfl, rfl, SqT.of hb, atI_nat (j := 0) rfl, rfl, k⟩
end
end My

set_option Elab.async false
set_option linter.all false
set_option maxRecDepth 100000
set_option maxHeartbeats 4000000
namespace My
open PySem L2
local macro_rules | `(tactic| walk_at "lk") => `(tactic| first | with_reducible exact lk0 | (refine lk1 (by decide +kernel) ?_; walk_at "lk") | rfl)
def sp_bof : Sp := fun vs H Q _ => ∃ (b p : Addr) (a1 a2 a3 a4 a5 : V), vs = [.ref b] ∧ H b = some (.tup [a1, a2, a3, a4, a5, .ref p]) ∧ Q (.ref p) H
def sp_wbo : Sp := fun vs H Q _ => ∃ (b : Addr) (a1 a2 a3 a4 a5 a6 u : V), vs = [.ref b, u] ∧ H b = some (.tup [a1, a2, a3, a4, a5, a6]) ∧ ∀ q, H q = none → Q (.ref q) (upd H q (.tup [a1, a2, a3, a4, a5, u]))
def sp_ins : Sp := fun vs H Q _ => ∃ y o w : Int, vs = [.int y, .int o, .int w] ∧ Q (.int (ins o w y)) H
def sp_insin : Sp := fun vs H Q _ => ∃ (c : Addr) (cs : List Int) (o w : Int), vs = [.ref c, .int o, .int w] ∧ H c = some (.tup (cs.map V.int)) ∧ cs.length ≤ 100 ∧ ∀ (q : Addr) (H' : Hp), Same H H' → H' q = some (.tup ((cs.map (ins o w)).map V.int)) → Q (.ref q) H'
def sp_renN (d : Nat) : Sp := fun vs H Q _ => ∃ (v : V) (x : Nd) (o w : Int) (b : Rd), vs = [v, .int o, .int w] ∧ NdAt H x v ∧ okN b x ∧ dpN x ≤ d ∧ ∀ (v' : V) (H' : Hp), Same H H' → NdAt H' (renN o w x) v' → Q v' H'
def sp_ren (d : Nat) : Sp := fun vs H Q _ => ∃ (p : Addr) (xs : List V) (l : List Nd) (o w : Int) (b : Rd), vs = [.ref p, .int o, .int w] ∧ H p = some (.tup xs) ∧ NdsAt H l xs ∧ okL b l ∧ l.length ≤ 100 ∧ dpL l ≤ d ∧ ∀ (q : Addr) (xs' : List V) (H' : Hp), Same H H' → H' q = some (.tup xs') → NdsAt H' (renL o w l) xs' → Q (.ref q) H'
def pInt (path : List Nat) : List V := path.map fun (p : Nat) => V.int (p : Int)
def sp_path (d : Nat) : Sp := fun vs H Q _ => ∃ (N : Int) (bp : Addr) (xs : List V) (l : List Nd) (b : Rd), vs = [.int N, .ref bp] ∧ H bp = some (.tup xs) ∧ NdsAt H l xs ∧ l.length ≤ 100 ∧ okL b l ∧ dpL l ≤ d ∧
  ∀ (q : Addr) (path : List Nat) (H' : Hp), Same H H' → H' q = some (.lst (pInt path)) → (path = [] ∧ N ∉ nmL l ∨ path ≠ [] ∧ ∃ sz wd out bd, PathAt path l (.loop N sz wd out bd)) → path.length ≤ d → Q (.ref q) H'
section
variable {P : Program} {w : World} {K : PySem.W.Frag} {mg : Str → Option Value} {base : Heap} {t : Adr}
theorem ok_body_of (T : Txt K mg t) : FnOk P w K mg base CX0 1 t.f_body_of t.d_body_of ["loop"] sp_bof := by
  refine T.F_body_of.ok sc_body_of (fun vs H Q E h => ?_) (fun cdv A outer s H vs Q E hr h => ?_)
  · obtain ⟨b, p, a1, a2, a3, a4, a5, rfl, _⟩ := h
    rfl
  · obtain ⟨b, p, a1, a2, a3, a4, a5, rfl, hb, k⟩ := h
    refine ⟨_, (pss_cons (ps_asg (pv 0) (pg_tup (n := 6) rfl (pgs_cons (pg_name (i := 1) sc_body_of.nd rfl (Or.inl rfl) (Or.inl rfl)) (pgs_cons (pg_name (i := 2) sc_body_of.nd rfl (Or.inl rfl) (Or.inl rfl)) (pgs_cons (pg_name (i := 3) sc_body_of.nd rfl (Or.inl rfl) (Or.inl rfl)) (pgs_cons (pg_name (i := 4) sc_body_of.nd rfl (Or.inl rfl) (Or.inl rfl)) (pgs_cons (pg_name (i := 5) sc_body_of.nd rfl (Or.inl rfl) (Or.inl rfl)) (pgs_cons (pg_name (i := 6) sc_body_of.nd rfl (Or.inl rfl) (Or.inl rfl)) pgs_nil))))))))
      (pss_one (ps_ret (pv 6)))), ?_⟩
    exact ⟨_, rfl, b, _, rfl, SqT.of hb, rfl, _, _, rfl, _, _, rfl, _, _, rfl, _, _, rfl, _, _, rfl, _, _, rfl, rfl, _, rfl, k⟩
theorem ok_with_body (T : Txt K mg t) : FnOk P w K mg base CX0 1 t.f_with_body t.d_with_body ["loop", "body"] sp_wbo := by
  refine T.F_with_body.ok sc_with_body (fun vs H Q E h => ?_) (fun cdv A outer s H vs Q E hr h => ?_)
  · obtain ⟨b, a1, a2, a3, a4, a5, a6, u, rfl, _⟩ := h
    rfl
  · obtain ⟨b, a1, a2, a3, a4, a5, a6, u, rfl, hb, k⟩ := h
    refine ⟨_, (pss_cons (ps_asg (pv 0) (pg_tup (n := 6) rfl (pgs_cons (pg_name (i := 2) sc_with_body.nd rfl (Or.inl rfl) (Or.inl rfl)) (pgs_cons (pg_name (i := 3) sc_with_body.nd rfl (Or.inl rfl) (Or.inl rfl)) (pgs_cons (pg_name (i := 4) sc_with_body.nd rfl (Or.inl rfl) (Or.inl rfl)) (pgs_cons (pg_name (i := 5) sc_with_body.nd rfl (Or.inl rfl) (Or.inl rfl)) (pgs_cons (pg_name (i := 6) sc_with_body.nd rfl (Or.inl rfl) (Or.inl rfl)) (pgs_cons (pg_name (i := 7) sc_with_body.nd rfl (Or.inl rfl) (Or.inl rfl)) pgs_nil))))))))
      (pss_one (ps_ret (pe_tup (pa_cons (pv 2) (pa_cons (pv 3) (pa_cons (pv 4) (pa_cons (pv 5) (pa_cons (pv 6) (pa_cons (pv 1) pa_nil)))))))))), ?_⟩
    exact ⟨_, rfl, b, _, rfl, SqT.of hb, rfl, _, _, rfl, _, _, rfl, _, _, rfl, _, _, rfl, _, _, rfl, _, _, rfl, rfl, _, rfl, _, rfl, _, rfl, _, rfl, _, rfl, _, rfl, line_le (by simp), fun q hq => k q hq⟩
theorem ok_instead (T : Txt K mg t) : FnOk P w K mg base CX0 1 t.f_instead t.d_instead ["number", "old", "new"] sp_ins := by
  refine T.F_instead.ok sc_instead (fun vs H Q E h => ?_) (fun cdv A outer s H vs Q E hr h => ?_)
  · obtain ⟨y, o, w, rfl, _⟩ := h
    rfl
  · obtain ⟨y, o, w, rfl, k⟩ := h
    refine ⟨_, (pss_cons (ps_if (pt_cmpR op_eq (pv 0) (pv 1) (nomark _))
        (pss_one (ps_ret (pv 2)))
        pss_nil)
      (pss_one (ps_ret (pv 0)))), ?_⟩
    refine ⟨_, rfl, _, rfl, rfl, _, rfl, iteD (fun e => ?_) (fun e => ?_)⟩
    · have e : y = o := by injection e
      unfold ins at k
      rw [if_pos e] at k
      exact ⟨_, rfl, k⟩
    · have e : y ≠ o := fun z => e (by rw [z])
      unfold ins at k
      rw [if_neg e] at k
      exact ⟨_, rfl, k⟩
theorem ok_instead_in (T : Txt K mg t) : FnOk P w K mg base CX0 2 t.f_instead_in t.d_instead_in ["numbers", "old", "new"] sp_insin := by
  have G_instead := ok_instead (P := P) (w := w) (base := base) T
  refine T.F_instead_in.ok sc_instead_in (fun vs H Q E h => ?_) (fun cdv A outer s H vs Q E hr h => ?_)
  · obtain ⟨c, cs, o, w, rfl, _⟩ := h
    rfl
  · obtain ⟨c, cs, o, w, rfl, hc, lc, k⟩ := h
    refine ⟨_, (pss_one (ps_ret (pe_callTy call_tuple_of (by rfl) T.z_tuple PyProof.Rows.boot_tuple (pa_cons (pe_comp (N' := ["number", "new", "old"]) (ix := (List.replicate 1 none ++ [some 2, some 1])) rfl (clok_many (cl := [("old", _), ("new", _)]) (xs := ["old", "new"]) rfl ⟨rfl, rfl, trivial⟩ rfl rfl (by decide +kernel) (by decide +kernel)) (ixok_many (N0 := ["number"]) (xs := ["new", "old"]) (js := [2, 1]) ⟨⟨rfl, Or.inl rfl, (by first | exact Or.inl rfl | exact Or.inr rfl | (simp [relabel]; rfl) | (with_unfolding_all exact Or.inl rfl) | (with_unfolding_all exact Or.inr rfl) | (with_unfolding_all decide))⟩, ⟨rfl, Or.inl rfl, (by first | exact Or.inl rfl | exact Or.inr rfl | (simp [relabel]; rfl) | (with_unfolding_all exact Or.inl rfl) | (with_unfolding_all exact Or.inr rfl) | (with_unfolding_all decide))⟩, trivial⟩) (pi_tup (pv 0)) (fun _ _ _ _ => (pg_name (i := 0) nd_comp_1 rfl (Or.inl rfl) (Or.inr rfl))) (fun _ _ _ _ => (pe_call G_instead (hr.mono (by omega)) rfl T.m_instead T.F_instead.kp T.b_instead .nil pass0 (pa_cons (pv 0) (pa_cons (pv 2) (pa_cons (pv 1) pa_nil)))))) pa_nil)))), ?_⟩
    refine ⟨_, rfl, c, rfl, ⟨_, SqT.of hc⟩, fun D hD => ?_⟩
    refine comp_tupQ (K := K) (a := c) (D := D) (xs := cs.map V.int) (fun i ys H2 => Same H H2 ∧ H2 D = some (.lst ys) ∧ ys = ((cs.take i).map (ins o w)).map V.int) ⟨same_new hD, upd_same, rfl⟩ (fun i ys H2 ⟨s2, _⟩ => SqT.of (s2 _ _ hc)) ?_ ?_
    · rintro i x ys H2 hx ⟨s2, hD2, rfl⟩
      obtain ⟨z, hz, rfl⟩ := get_map hx
      have hi : i < cs.length := (List.getElem?_eq_some_iff.mp hz).1
      refine ⟨⟨rfl, rfl, True.intro⟩, _, rfl, _, rfl, _, rfl, z, o, w, rfl, hD2, line_lt (by simp; omega), same_fresh s2 hD, upd_same, ?_⟩
      rw [List.take_add_one, hz, Option.toList_some, List.map_append, List.map_append]
      rfl
    · rintro ys H2 ⟨s2, hD2, rfl⟩
      rw [List.length_map, List.take_length] at hD2
      exact ⟨D, _, rfl, .inl ⟨SqL.of hD2, fun p hp => k p _ (s2.trans (same_new hp)) upd_same⟩⟩
theorem renN_step (T : Txt K mg t) {m d : Nat} {sp' : Sp} (G_renumbered : FnOk P w K mg base CX0 (m + 1) t.f_renumbered t.d_renumbered ["body", "old", "new"] sp') (hm : 1 ≤ m)
    (hs : ∀ (p : Addr) (xs : List V) (n sz wd out : Int) (bd : List Nd) (o w : Int) (b : Rd) (H : Hp) (Q : VK), H p = some (.tup xs) → NdsAt H bd xs → okL b bd → bd.length ≤ 100 → dpN (.loop n sz wd out bd) ≤ d → (∀ (q : Addr) (xs' : List V) (H' : Hp), Same H H' → H' q = some (.tup xs') → NdsAt H' (renL o w bd) xs' → Q (.ref q) H') → sp' [.ref p, .int o, .int w] H Q E0) :
    FnOk P w K mg base CX0 (m + 2) t.f_renumbered_node t.d_renumbered_node ["node", "old", "new"] (sp_renN d) := by
  have G_is_loop := ok_is_loop (P := P) (w := w) (base := base) T
  have G_instead := ok_instead (P := P) (w := w) (base := base) T
  have G_instead_in := ok_instead_in (P := P) (w := w) (base := base) T
  refine T.F_renumbered_node.ok sc_renumbered_node (fun vs H Q E h => ?_) (fun cdv A outer s H vs Q E hr h => ?_)
  · obtain ⟨v, x, o, w, b, rfl, _⟩ := h
    rfl
  · obtain ⟨v, x, o, w, b, rfl, na, wb, dp, k⟩ := h
    refine ⟨_, (pss_cons (ps_if (pt_val (pe_call G_is_loop (hr.mono (by omega)) rfl T.m_is_loop T.F_is_loop.kp T.b_is_loop .nil pass0 (pa_cons (pv 0) pa_nil)))
        (pss_cons (ps_asg (pv 0) (pg_tup (n := 6) rfl (pgs_cons (pg_name (i := 3) sc_renumbered_node.nd rfl (Or.inl rfl) (Or.inl rfl)) (pgs_cons (pg_name (i := 4) sc_renumbered_node.nd rfl (Or.inl rfl) (Or.inl rfl)) (pgs_cons (pg_name (i := 5) sc_renumbered_node.nd rfl (Or.inl rfl) (Or.inl rfl)) (pgs_cons (pg_name (i := 6) sc_renumbered_node.nd rfl (Or.inl rfl) (Or.inl rfl)) (pgs_cons (pg_name (i := 7) sc_renumbered_node.nd rfl (Or.inl rfl) (Or.inl rfl)) (pgs_cons (pg_name (i := 8) sc_renumbered_node.nd rfl (Or.inl rfl) (Or.inl rfl)) pgs_nil))))))))
        (pss_one (ps_ret (pe_tup (pa_cons (pv 3) (pa_cons (pv 4) (pa_cons (pv 5) (pa_cons (pv 6) (pa_cons (pe_call G_instead (hr.mono (by omega)) rfl T.m_instead T.F_instead.kp T.b_instead .nil pass0 (pa_cons (pv 7) (pa_cons (pv 1) (pa_cons (pv 2) pa_nil)))) (pa_cons (pe_call G_renumbered (hr.mono (by omega)) rfl T.m_renumbered T.F_renumbered.kp T.b_renumbered .nil pass0 (pa_cons (pv 8) (pa_cons (pv 1) (pa_cons (pv 2) pa_nil)))) pa_nil))))))))))
        pss_nil)
      (pss_cons (ps_asg (pv 0) (pg_tup (n := 6) rfl (pgs_cons (pg_name (i := 3) sc_renumbered_node.nd rfl (Or.inl rfl) (Or.inl rfl)) (pgs_cons (pg_name (i := 4) sc_renumbered_node.nd rfl (Or.inl rfl) (Or.inl rfl)) (pgs_cons (pg_name (i := 9) sc_renumbered_node.nd rfl (Or.inl rfl) (Or.inl rfl)) (pgs_cons (pg_name (i := 10) sc_renumbered_node.nd rfl (Or.inl rfl) (Or.inl rfl)) (pgs_cons (pg_name (i := 11) sc_renumbered_node.nd rfl (Or.inl rfl) (Or.inl rfl)) (pgs_cons (pg_name (i := 12) sc_renumbered_node.nd rfl (Or.inl rfl) (Or.inl rfl)) pgs_nil))))))))
      (pss_one (ps_ret (pe_tup (pa_cons (pv 3) (pa_cons (pv 4) (pa_cons (pv 9) (pa_cons (pv 10) (pa_cons (pe_call G_instead_in (hr.mono (by omega)) rfl T.m_instead_in T.F_instead_in.kp T.b_instead_in .nil pass0 (pa_cons (pv 11) (pa_cons (pv 1) (pa_cons (pv 2) pa_nil)))) (pa_cons (pe_call G_instead_in (hr.mono (by omega)) rfl T.m_instead_in T.F_instead_in.kp T.b_instead_in .nil pass0 (pa_cons (pv 12) (pa_cons (pv 1) (pa_cons (pv 2) pa_nil)))) pa_nil))))))))))), ?_⟩
    cases x with
    | deed n kk wd cs us =>
      rw [NdAt] at na
      obtain ⟨bb, c, u, rfl, hb, hc, hu'⟩ := na
      rw [okN] at wb
      refine ⟨_, rfl, bb, _, _, rfl, hb, _, rfl, iteNo (by decide +kernel) ?_⟩
      refine ⟨_, rfl, bb, _, rfl, SqT.of hb, rfl, _, _, rfl, _, _, rfl, _, _, rfl, _, _, rfl, _, _, rfl, _, _, rfl, rfl, ?_⟩
      refine ⟨_, rfl, _, rfl, _, rfl, _, rfl, _, rfl, _, rfl, _, rfl, c, cs, o, w, rfl, hc, wb.2.2.1, fun q1 H1 s1 e1 => ?_⟩
      refine ⟨_, rfl, _, rfl, _, rfl, u, us, o, w, rfl, s1 _ _ hu', wb.2.2.2, fun q2 H2 s2 e2 => ⟨line_le (by simp), fun r hr0 => ?_⟩⟩
      have s3 := same_new (o := .tup [.str "deed", .int n, .int kk, .str wd, .ref q1, .ref q2]) hr0
      refine k _ _ (s1.trans (s2.trans s3)) ?_
      rw [renN, NdAt]
      exact ⟨r, q1, q2, rfl, upd_same, s3 _ _ (s2 _ _ e1), s3 _ _ e2⟩
    | loop n sz wd out bd =>
      rw [NdAt] at na
      obtain ⟨bb, p, xs, rfl, hb, hp, nds⟩ := na
      rw [okN] at wb
      obtain ⟨_, _, _, _, _, wbd, lbd⟩ := wb
      refine ⟨_, rfl, bb, _, _, rfl, hb, _, rfl, iteYes rfl ?_⟩
      refine ⟨_, rfl, bb, _, rfl, SqT.of hb, rfl, _, _, rfl, _, _, rfl, _, _, rfl, _, _, rfl, _, _, rfl, _, _, rfl, rfl, ?_⟩
      refine ⟨_, rfl, _, rfl, _, rfl, _, rfl, _, rfl, _, rfl, _, rfl, out, o, w, rfl, ?_⟩
      refine ⟨_, rfl, _, rfl, _, rfl, hs p xs n sz wd out bd o w _ H _ hp nds wbd lbd dp fun q xs' H1 s1 hq nd' => ⟨line_le (by simp), fun r hr0 => ?_⟩⟩
      have s3 := same_new (o := .tup [.str "loop", .int n, .int sz, .int wd, .int (ins o w out), .ref q]) hr0
      refine k _ _ (s1.trans s3) ?_
      rw [renN, NdAt]
      exact ⟨r, q, xs', rfl, upd_same, s3 _ _ hq, nd'.kt (KT.same s3)⟩
theorem ren_step (T : Txt K mg t) {m d : Nat} (G_renumbered_node : FnOk P w K mg base CX0 (m + 2) t.f_renumbered_node t.d_renumbered_node ["node", "old", "new"] (sp_renN d)) :
    FnOk P w K mg base CX0 (m + 3) t.f_renumbered t.d_renumbered ["body", "old", "new"] (sp_ren d) := by
  refine T.F_renumbered.ok sc_renumbered (fun vs H Q E h => ?_) (fun cdv A outer s H vs Q E hr h => ?_)
  · obtain ⟨p, xs, l, o, w, b, rfl, _⟩ := h
    rfl
  · obtain ⟨p, xs, l, o, w, b, rfl, hp, nds, wb, ll, dp, k⟩ := h
    have prs := nds_pair.mp nds
    have lx := nds.len
    refine ⟨_, (pss_one (ps_ret (pe_callTy call_tuple_of (by rfl) T.z_tuple PyProof.Rows.boot_tuple (pa_cons (pe_comp (N' := ["node", "new", "old"]) (ix := (List.replicate 1 none ++ [some 2, some 1])) rfl (clok_many (cl := [("old", _), ("new", _)]) (xs := ["old", "new"]) rfl ⟨rfl, rfl, trivial⟩ rfl rfl (by decide +kernel) (by decide +kernel)) (ixok_many (N0 := ["node"]) (xs := ["new", "old"]) (js := [2, 1]) ⟨⟨rfl, Or.inl rfl, (by first | exact Or.inl rfl | exact Or.inr rfl | (simp [relabel]; rfl) | (with_unfolding_all exact Or.inl rfl) | (with_unfolding_all exact Or.inr rfl) | (with_unfolding_all decide))⟩, ⟨rfl, Or.inl rfl, (by first | exact Or.inl rfl | exact Or.inr rfl | (simp [relabel]; rfl) | (with_unfolding_all exact Or.inl rfl) | (with_unfolding_all exact Or.inr rfl) | (with_unfolding_all decide))⟩, trivial⟩) (pi_tup (pv 0)) (fun _ _ _ _ => (pg_name (i := 0) nd_comp_0 rfl (Or.inl rfl) (Or.inr rfl))) (fun _ _ _ _ => (pe_call G_renumbered_node (hr.mono (by omega)) rfl T.m_renumbered_node T.F_renumbered_node.kp T.b_renumbered_node .nil pass0 (pa_cons (pv 0) (pa_cons (pv 2) (pa_cons (pv 1) pa_nil)))))) pa_nil)))), ?_⟩
    refine ⟨_, rfl, p, rfl, ⟨_, SqT.of hp⟩, fun D hD => ?_⟩
    refine comp_tupQ (K := K) (a := p) (D := D) (xs := xs) (fun i ys H2 => Same H H2 ∧ H2 D = some (.lst ys) ∧ NdsAt H2 (renL o w (l.take i)) ys) ⟨same_new hD, upd_same, by rw [List.take_zero, renL, NdsAt]⟩ (fun i ys H2 ⟨s2, _⟩ => SqT.of (s2 _ _ hp)) ?_ ?_
    · rintro i x ys H2 hx ⟨s2, hD2, ny⟩
      obtain ⟨nd, he, na⟩ := pget prs hx
      have hi : i < l.length := (List.getElem?_eq_some_iff.mp he).1
      have ly := ny.len
      rw [renL_map, List.length_map, List.length_take] at ly
      have dpx : dpN nd ≤ d := by
        have : dpL l = max (dpL (l.take i)) (max (dpN nd) (dpL (l.drop (i + 1)))) := by rw [← dpL_mid, ← cut_at he]
        omega
      refine ⟨⟨rfl, rfl, True.intro⟩, _, rfl, _, rfl, _, rfl, x, nd, o, w, b, rfl, NdAt.kt (KT.same s2) na, okL_mem wb nd (List.mem_of_getElem? he), dpx, fun v' H3 s3 na' => ?_⟩
      have hD3 := s3 _ _ hD2
      have kt : KT H3 (upd H3 D (.lst (ys ++ [v']))) := KT.at hD3 (by intro xs z; cases z)
      refine ⟨hD3, line_lt (by omega), same_fresh (s2.trans s3) hD, upd_same, ?_⟩
      have e : renL o w (l.take (i + 1)) = renL o w (l.take i) ++ [renN o w nd] := by rw [List.take_add_one, he, Option.toList_some, renL_map, renL_map, List.map_append]; rfl
      rw [e]
      refine nds_pair.mpr (papp (nds_pair.mp ((ny.kt (KT.same s3)).kt kt)) (.cons (NdAt.kt kt na') .nil))
    · rintro ys H2 ⟨s2, hD2, ny⟩
      rw [lx, List.take_length] at ny
      exact ⟨D, _, rfl, .inl ⟨SqL.of hD2, fun q hq => k q ys _ (s2.trans (same_new hq)) upd_same (ny.kt (KT.same (same_new hq)))⟩⟩
theorem ok_ren (T : Txt K mg t) : ∀ d : Nat, FnOk P w K mg base CX0 (2 * d + 4) t.f_renumbered t.d_renumbered ["body", "old", "new"] (sp_ren d)
  | 0 => ren_step T (m := 1) (renN_step T (m := 1) (d := 0) (sp' := fun _ _ _ _ => False) (FnOk.none fun _ _ _ _ h => h) (Nat.le_refl _) fun p xs n sz wd out bd o w b H Q hp nds wb lb dp => by
      rw [dpN] at dp
      omega)
  | d + 1 => ren_step T (m := 2 * d + 3) (renN_step T (m := 2 * d + 3) (d := d + 1) (ok_ren T d) (by omega) fun p xs n sz wd out bd o w b H Q hp nds wb lb dp k => by
      rw [dpN] at dp
      exact ⟨p, xs, bd, o, w, b, rfl, hp, nds, wb, lb, by omega, k⟩)
end
end My

set_option Elab.async false
set_option linter.all false
set_option maxRecDepth 100000
set_option maxHeartbeats 4000000
namespace My
open PySem L2
local macro_rules | `(tactic| walk_at "lk") => `(tactic| first | with_reducible exact lk0 | (refine lk1 (by decide +kernel) ?_; walk_at "lk") | rfl)
theorem cutV_take {xs : List V} {p : Nat} (h : p ≤ xs.length) : cutV xs none (some (p : Int)) = xs.take p := by
  unfold cutV
  rw [HT.sIx_none, HT.sIx_nat, List.drop_zero, Nat.min_eq_left h, Nat.sub_zero]
theorem cutV_drop {xs : List V} {p : Nat} (h : p ≤ xs.length) : cutV xs (some (p : Int)) none = xs.drop p := by
  unfold cutV
  rw [HT.sIx_none, HT.sIx_nat, Nat.min_eq_left h]
  exact List.take_of_length_le (by rw [List.length_drop]; omega)
theorem ptake {α β : Type} {F : α → β → Prop} : ∀ {a : List α} {b : List β} (n : Nat), Paired F a b → Paired F (a.take n) (b.take n)
  | _, _, 0, _ => .nil
  | _, _, _ + 1, .nil => .nil
  | _, _, n + 1, .cons r t => .cons r (ptake n t)
theorem pdrop {α β : Type} {F : α → β → Prop} : ∀ {a : List α} {b : List β} (n : Nat), Paired F a b → Paired F (a.drop n) (b.drop n)
  | _, _, 0, h => h
  | _, _, _ + 1, .nil => .nil
  | _, _, n + 1, .cons _ t => pdrop n t
theorem iteNo' {b : Bool} {A B : Prop} (h : b = false) (q : B) : if b = true then A else B := by rw [h]; exact iteF q
theorem iteYes' {b : Bool} {A B : Prop} (h : b = true) (q : A) : if b = true then A else B := by rw [h]; exact iteT q
theorem shaped3 (a b c : Int) : SeqAt.shaped (.tuple [.int a, .int b, .int c]) = true := by first | rfl | simp [SeqAt.shaped, PyData.canLay0, PyData.canLayAll0, PyData.depth, PyData.depthAll]
/-! ### promises -/
def sp_nmi (A : Adr) : Sp := fun vs H Q _ => ∃ (ea ta : Addr) (z : Int), vs = [.ref ea, .int z] ∧ H ea = some (xcN ea A.C_NoMove ta) ∧ ∀ dx, H dx = none → Q .non (upd (upd H ea (xcD ea A.C_NoMove ta dx)) dx (.xd [("place", .int z)]))
theorem no_raise {A : Adr} {H : Hp} {E E' : XK} (hE : ∀ dx H', Same H H' → H' dx = some (.xd [("place", .int 0)]) → E (.ref A.C_NoMove) (some dx) H') : ∀ ea ta, H ea = none → sp_nmi A (.ref ea :: ([V.int 0] ++ [])) (upd H ea (xcN ea A.C_NoMove ta)) (fun v H2 => v = .non ∧ ∃ d, H2 ea = some (.ext fun h => h.get? ea = some (xcObj A.C_NoMove ta d)) ∧ E (.ref A.C_NoMove) d (dropH H2 ea)) E' := by
  intro ea ta hn
  refine ⟨ea, ta, 0, rfl, upd_same, fun dx hdx => ⟨rfl, some dx, ?_, hE _ _ (fun b o e => ?_) ?_⟩⟩
  · have ne : ea ≠ dx := fun z => by rw [← z, upd_same] at hdx; cases hdx
    rw [upd_ne ne, upd_same]
    rfl
  · have n1 : b ≠ ea := ne_of_none e hn
    have n2 : b ≠ dx := fun z => by
      rw [← z, upd_ne n1, e] at hdx
      cases hdx
    rw [dropH_ne n1, upd_ne n2, upd_ne n1, upd_ne n1]
    exact e
  · have ne : dx ≠ ea := fun z => by rw [z, upd_same] at hdx; cases hdx
    rw [dropH_ne ne, upd_same]
abbrev XE (A : Adr) (H : Hp) (E : XK) : Prop := ∀ dx H', Same H H' → H' dx = some (.xd [("place", .int 0)]) → E (.ref A.C_NoMove) (some dx) H'
theorem XE.go {A : Adr} {H H1 : Hp} {E : XK} (h : XE A H E) (s : Same H H1) : XE A H1 E := fun dx H' s' => h dx H' (s.trans s')
def sp_swp (A : Adr) : Sp := fun vs H Q E => ∃ (v : V) (n sz wd out : Int) (bd : List Nd), vs = [v] ∧ NdAt H (.loop n sz wd out bd) v ∧ (∀ (y : Nd) (v' : V) (H' : Hp), swp (.loop n sz wd out bd) = some y → Same H H' → NdAt H' y v' → Q v' H') ∧ (swp (.loop n sz wd out bd) = none → XE A H E)
def sp_cutX (A : Adr) : Sp := fun vs H Q E => ∃ (T w n sz wd out : Int) (bd : List Nd) (v : V) (b : Rd), vs = [.int T, v, .int w] ∧ NdAt H (.loop n sz wd out bd) v ∧ okN b (.loop n sz wd out bd) ∧ dpL bd ≤ 40 ∧ T.natAbs < 2 ^ 4000 ∧ (∀ (y : Nd) (v' : V) (H' : Hp), cutO T w (.loop n sz wd out bd) = some y → Same H H' → NdAt H' y v' → Q v' H') ∧ (cutO T w (.loop n sz wd out bd) = none → XE A H E)
def sp_jnd (A : Adr) : Sp := fun vs H Q E => ∃ (bh : Addr) (v : V) (xs : List V) (r : List Nd) (n sz wd out : Int) (bd : List Nd) (b : Rd), vs = [.ref bh, v] ∧ H bh = some (.tup xs) ∧ NdsAt H r xs ∧ NdAt H (.loop n sz wd out bd) v ∧ okL b r ∧ bd.length ≤ 100 ∧ dpL r ≤ 40 ∧ (∀ (y : Nd) (v' : V) (H' : Hp), jnd (.loop n sz wd out bd) r = some y → Same H H' → NdAt H' y v' → Q v' H') ∧ (jnd (.loop n sz wd out bd) r = none → XE A H E)
def MvAt (H : Hp) (a : Addr) : Mv → Prop
  | .swap N => H a = some (.tup [.str "swap", .int N])
  | .cut N T => H a = some (.tup [.str "cut", .int N, .int T]) ∧ T.natAbs < 2 ^ 4000
  | .join N => H a = some (.tup [.str "join", .int N])
theorem MvAt.same {H H' : Hp} {a : Addr} (s : Same H H') : ∀ {m : Mv}, MvAt H a m → MvAt H' a m
  | .swap N, h => s _ _ h
  | .cut N T, h => ⟨s _ _ h.1, h.2⟩
  | .join N, h => s _ _ h
def sp_matX (A : Adr) : Sp := fun vs H Q E => ∃ (p : Nat) (bp mv : Addr) (fr : Int) (m : Mv) (n sz wd out : Int) (bd : List Nd) (xs : List V) (l : List Nd) (b : Rd), vs = [.int (p : Int), .ref bp, .ref mv, .int fr] ∧ H bp = some (.tup xs) ∧ NdsAt H l xs ∧ l.length ≤ 100 ∧ l[p]? = some (.loop n sz wd out bd) ∧ okL b l ∧ dpL l ≤ 40 ∧ MvAt H mv m ∧
  (∀ (t : List Nd) (q : Addr) (xs' : List V) (H' : Hp), mvO m fr (.loop n sz wd out bd) (l.drop (p + 1)) = some t → Same H H' → H' q = some (.tup xs') → NdsAt H' (l.take p ++ t) xs' → Q (.ref q) H') ∧ (mvO m fr (.loop n sz wd out bd) (l.drop (p + 1)) = none → XE A H E)
section
variable {P : Program} {w : World} {K : PySem.W.Frag} {mg : Str → Option Value} {base : Heap} {t : Adr}
theorem ok_NoMove_init (T : Txt K mg t) : FnOk P w K mg base CX0 1 t.f_NoMove_init t.d_NoMove_init ["self", "place"] (sp_nmi t) := by
  refine T.F_NoMove_init.ok sc_NoMove_init (fun vs H Q E h => ?_) (fun cdv A outer s H vs Q E hr h => ?_)
  · obtain ⟨ea, ta, z, rfl, _⟩ := h
    rfl
  · obtain ⟨ea, ta, z, rfl, he, k⟩ := h
    exact ⟨_, (pss_one (ps_fldX (pv 0) (pv 1) rfl)), _, rfl, _, rfl, ea, _, ta, rfl, he, T.xs_NoMove_place, k⟩
theorem ok_swapped (T : Txt K mg t) : FnOk P w K mg base (CXD P w) 3 t.f_swapped t.d_swapped ["loop"] (sp_swp t) := by
  have G_NoMove_init := ok_NoMove_init (P := P) (w := w) (base := base) T
  have G_body_of := ok_body_of (P := P) (w := w) (base := base) T
  have G_is_loop := ok_is_loop (P := P) (w := w) (base := base) T
  have G_with_body := ok_with_body (P := P) (w := w) (base := base) T
  refine T.F_swapped.okD sc_swapped (fun vs H Q E h => ?_) (fun cdv A outer s H vs Q E hr h => ?_)
  · obtain ⟨v, n, sz, wd, out, bd, rfl, _⟩ := h
    rfl
  · obtain ⟨v, n, sz, wd, out, bd, rfl, na, k, xe⟩ := h
    have na0 := na
    rw [NdAt] at na
    obtain ⟨bb, p, xs, rfl, hb, hp, nds⟩ := na
    have one : ([V.int 0] : List V).length ≤ sizeLine := line_le (by show 1 ≤ 1000000; decide)
    have lx := nds.len
    refine ⟨_, (pss_cons (ps_set (i := 1) sc_swapped.nd rfl (Or.inl rfl) (pe_call G_body_of (hr.mono (by omega)) rfl T.m_body_of T.F_body_of.kp T.b_body_of .nil pass0 (pa_cons (pv 0) pa_nil)))
      (pss_cons (ps_if (PW.pt (pw_or (pt_cmpR op_ne (pe_callB call_len_seq (by rfl) T.z_len PySem.boot_len (pa_cons (pv 1) pa_nil)) pe_int (nomark _)) (pw_or1 (pt_not (pt_val (pe_call G_is_loop (hr.mono (by omega)) rfl T.m_is_loop T.F_is_loop.kp T.b_is_loop .nil pass0 (pa_cons (pe_ix ix_tup (pv 1) pe_int (fun _ _ => rfl)) pa_nil)))))))
        (pss_one (ps_raiseD throwDI T.mx_NoMove G_NoMove_init (hr.mono (by omega)) rfl T.m_NoMove T.b_NoMove_init .nil pass0 rfl rfl (pa_cons pe_int pa_nil)))
        pss_nil)
      (pss_cons (ps_asg (pe_ix ix_tup (pv 1) pe_int (fun _ _ => rfl)) (pg_tup (n := 6) rfl (pgs_cons (pg_name (i := 2) sc_swapped.nd rfl (Or.inl rfl) (Or.inl rfl)) (pgs_cons (pg_name (i := 3) sc_swapped.nd rfl (Or.inl rfl) (Or.inl rfl)) (pgs_cons (pg_name (i := 4) sc_swapped.nd rfl (Or.inl rfl) (Or.inl rfl)) (pgs_cons (pg_name (i := 5) sc_swapped.nd rfl (Or.inl rfl) (Or.inl rfl)) (pgs_cons (pg_name (i := 6) sc_swapped.nd rfl (Or.inl rfl) (Or.inl rfl)) (pgs_cons (pg_name (i := 7) sc_swapped.nd rfl (Or.inl rfl) (Or.inl rfl)) pgs_nil))))))))
      (pss_cons (ps_if (pt_cmpR op_eq (pv 6) (pe_ix ix_tup (pv 0) pe_int (fun _ _ => rfl)) (nomark _))
        (pss_one (ps_raiseD throwDI T.mx_NoMove G_NoMove_init (hr.mono (by omega)) rfl T.m_NoMove T.b_NoMove_init .nil pass0 rfl rfl (pa_cons pe_int pa_nil)))
        pss_nil)
      (pss_one (ps_ret (pe_call G_with_body (hr.mono (by omega)) rfl T.m_with_body T.F_with_body.kp T.b_with_body .nil pass0 (pa_cons (pe_ix ix_tup (pv 1) pe_int (fun _ _ => rfl)) (pa_cons (pe_tup (pa_cons (pe_call G_with_body (hr.mono (by omega)) rfl T.m_with_body T.F_with_body.kp T.b_with_body .nil pass0 (pa_cons (pv 0) (pa_cons (pv 7) pa_nil))) pa_nil)) pa_nil))))))))), ?_⟩
    refine ⟨_, rfl, bb, p, _, _, _, _, _, rfl, hb, ?_⟩
    refine ⟨_, rfl, p, _, rfl, .inr (SqT.of hp), rfl, _, rfl, ?_⟩
    match bd, nds, lx, k, xe with
    | [], nds, lx, k, xe =>
      refine iteYes' (by rw [show xs.length = 0 from lx]; decide) ⟨one, no_raise (xe rfl)⟩
    | x1 :: x2 :: r, nds, lx, k, xe =>
      refine iteYes' (by rw [lx, List.length_cons, List.length_cons]; simp; omega) ⟨one, no_raise (xe (by cases x1 <;> rfl))⟩
    | [x1], nds, lx, k, xe =>
      refine iteNo' (by rw [show xs.length = 1 from lx]; decide) ?_
      rw [NdsAt] at nds
      obtain ⟨v1, vr, rfl, n1, nr⟩ := nds
      rw [NdsAt] at nr
      subst nr
      cases x1 with
      | deed n' k' w' cs us =>
        rw [NdAt] at n1
        obtain ⟨b1, c1, u1, rfl, hb1, _, _⟩ := n1
        exact ⟨_, rfl, p, _, _, _, rfl, rfl, SqT.of hp, atI_nat (j := 0) rfl, b1, _, _, rfl, hb1, _, rfl, iteYes' (by decide +kernel) ⟨one, no_raise (xe rfl)⟩⟩
      | loop m szm wdm outm bdm =>
        have n10 := n1
        rw [NdAt] at n1
        obtain ⟨b1, p1, xs1, rfl, hb1, hp1, nds1⟩ := n1
        refine ⟨_, rfl, p, _, _, _, rfl, rfl, SqT.of hp, atI_nat (j := 0) rfl, b1, _, _, rfl, hb1, _, rfl, iteNo' (by decide +kernel) ?_⟩
        refine ⟨_, rfl, p, _, _, _, rfl, rfl, SqT.of hp, atI_nat (j := 0) rfl, b1, _, rfl, SqT.of hb1, rfl, _, _, rfl, _, _, rfl, _, _, rfl, _, _, rfl, _, _, rfl, _, _, rfl, rfl, ?_⟩
        refine ⟨_, rfl, _, rfl, bb, _, _, _, rfl, rfl, SqT.of hb, atI_nat (j := 1) rfl, rfl, _, rfl, iteD (fun hc => ⟨one, no_raise (xe (by show (if outm = n then none else some _) = none; rw [if_pos (by injection hc)]))⟩) (fun hc => ?_)⟩
        have hne : outm ≠ n := fun z => hc (by rw [z])
        refine ⟨_, rfl, p, _, _, _, rfl, rfl, SqT.of hp, atI_nat (j := 0) rfl, _, rfl, _, rfl, bb, _, _, _, _, _, _, _, rfl, hb, fun q hq => ⟨line_le (by simp), fun tp htp => ?_⟩⟩
        have u1 : Same H (upd H q (.tup [.str "loop", .int n, .int sz, .int wd, .int out, .ref p1])) := same_new hq
        have hq1 : upd H q (.tup [.str "loop", .int n, .int sz, .int wd, .int out, .ref p1]) q = some (.tup [.str "loop", .int n, .int sz, .int wd, .int out, .ref p1]) := upd_same
        generalize upd H q (.tup [.str "loop", .int n, .int sz, .int wd, .int out, .ref p1]) = H1 at u1 hq1 htp ⊢
        have u2 : Same H1 (upd H1 tp (.tup [.ref q])) := same_new htp
        have ht2 : upd H1 tp (.tup [.ref q]) tp = some (.tup [.ref q]) := upd_same
        generalize upd H1 tp (.tup [.ref q]) = H2 at u2 ht2 ⊢
        have u12 := u1.trans u2
        refine ⟨b1, _, _, _, _, _, _, _, rfl, u12 _ _ hb1, fun r hr0 => ?_⟩
        have u3 := same_new (H := H2) (o := .tup [.str "loop", .int m, .int szm, .int wdm, .int outm, .ref tp]) hr0
        refine k (.loop m szm wdm outm [.loop n sz wd out bdm]) _ _ (by show (if outm = n then none else some (Nd.loop m szm wdm outm [.loop n sz wd out bdm])) = _; rw [if_neg hne]) (u12.trans u3) ?_
        rw [NdAt]
        refine ⟨r, tp, [.ref q], rfl, upd_same, u3 _ _ ht2, ?_⟩
        rw [NdsAt]
        refine ⟨_, [], rfl, ?_, by rw [NdsAt]⟩
        rw [NdAt]
        exact ⟨q, p1, xs1, rfl, (u2.trans u3) _ _ hq1, (u12.trans u3) _ _ hp1, nds1.kt (KT.same (u12.trans u3))⟩
theorem ok_cut_by (T : Txt K mg t) : FnOk P w K mg base (CXD P w) 85 t.f_cut_by t.d_cut_by ["tile", "loop", "fresh"] (sp_cutX t) := by
  have G_NoMove_init := ok_NoMove_init (P := P) (w := w) (base := base) T
  have G_renumbered := ok_ren (P := P) (w := w) (base := base) T 40
  refine T.F_cut_by.okD sc_cut_by (fun vs H Q E h => ?_) (fun cdv A outer s H vs Q E hr h => ?_)
  · obtain ⟨T', w', n, sz, wd, out, bd, v, b, rfl, _⟩ := h
    rfl
  · obtain ⟨tl, fr, n, sz, wd, out, bd, v, b, rfl, na, wb, dp, t2, k, xe⟩ := h
    rw [NdAt] at na
    obtain ⟨bb, p, xs, rfl, hb, hp, nds⟩ := na
    rw [okN] at wb
    obtain ⟨_, s1, s60, n0, nb, wbd, lbd⟩ := wb
    have one : ([V.int 0] : List V).length ≤ sizeLine := line_le (by show 1 ≤ 1000000; decide)
    refine ⟨_, (pss_cons (ps_asg (pv 1) (pg_tup (n := 6) rfl (pgs_cons (pg_name (i := 3) sc_cut_by.nd rfl (Or.inl rfl) (Or.inl rfl)) (pgs_cons (pg_name (i := 4) sc_cut_by.nd rfl (Or.inl rfl) (Or.inl rfl)) (pgs_cons (pg_name (i := 5) sc_cut_by.nd rfl (Or.inl rfl) (Or.inl rfl)) (pgs_cons (pg_name (i := 6) sc_cut_by.nd rfl (Or.inl rfl) (Or.inl rfl)) (pgs_cons (pg_name (i := 7) sc_cut_by.nd rfl (Or.inl rfl) (Or.inl rfl)) (pgs_cons (pg_name (i := 8) sc_cut_by.nd rfl (Or.inl rfl) (Or.inl rfl)) pgs_nil))))))))
      (pss_cons (ps_if (PW.pt (pw_or (pt_cmpR op_ne (pv 7) (pe_globE T.cn_NO_OUTER rfl) (nomark _)) (pw_or1 (pt_cmpR op_lt (pv 0) pe_int (nomark _)))))
        (pss_one (ps_raiseD throwDI T.mx_NoMove G_NoMove_init (hr.mono (by omega)) rfl T.m_NoMove T.b_NoMove_init .nil pass0 rfl rfl (pa_cons pe_int pa_nil)))
        pss_nil)
      (pss_cons (ps_set (i := 9) sc_cut_by.nd rfl (Or.inl rfl) (pe_op op_fdivB (pe_op op_sub (pe_op op_add (pv 5) (pv 0)) pe_int) (pv 0)))
      (pss_cons (ps_set (i := 10) sc_cut_by.nd rfl (Or.inl rfl) (pe_tup (pa_cons (pv 3) (pa_cons (pv 2) (pa_cons (pv 5) (pa_cons (pv 0) (pa_cons (pv 4) (pa_cons (pe_call G_renumbered (hr.mono (by omega)) rfl T.m_renumbered T.F_renumbered.kp T.b_renumbered .nil pass0 (pa_cons (pv 8) (pa_cons (pv 4) (pa_cons (pv 2) pa_nil)))) pa_nil))))))))
      (pss_one (ps_ret (pe_tup (pa_cons (pv 3) (pa_cons (pv 4) (pa_cons (pv 9) (pa_cons (pv 6) (pa_cons (pv 7) (pa_cons (pe_tup (pa_cons (pv 10) pa_nil)) pa_nil))))))))))))), ?_⟩
    refine ⟨_, rfl, bb, _, rfl, SqT.of hb, rfl, _, _, rfl, _, _, rfl, _, _, rfl, _, _, rfl, _, _, rfl, _, _, rfl, rfl, ?_⟩
    refine ⟨_, rfl, rfl, _, rfl, ?_⟩
    by_cases ho : out = -1
    rotate_left
    · exact iteYes' (by simp [ho]) ⟨one, no_raise (xe (by show (if out = -1 ∧ 1 ≤ tl then some _ else none) = none; rw [if_neg (fun z => ho z.1)]))⟩
    subst ho
    refine iteNS rfl ⟨_, rfl, _, _, rfl, rfl, _, rfl, iteD (fun h => ⟨one, no_raise (xe (by show (if (-1 : Int) = -1 ∧ 1 ≤ tl then some _ else none) = none; rw [if_neg (fun z => by have h : tl < 1 := h; omega)]))⟩) (fun h1 => ?_)⟩
    have t1 : 1 ≤ tl := by have : ¬ tl < 1 := h1; omega
    refine ⟨_, rfl, _, rfl, _, _, rfl, rfl, _, _, rfl, rfl, _, rfl, _, _, rfl, rfl, ⟨by omega, t2⟩, ?_⟩
    refine ⟨_, rfl, _, rfl, _, rfl, _, rfl, _, rfl, _, rfl, _, rfl, _, rfl, p, xs, bd, n, fr, _, rfl, hp, nds, wbd, lbd, dp, fun q xs' H1 u1 hq nd' => ⟨line_le (by simp), fun wq hwq => ?_⟩⟩
    have u2 : Same H1 (upd H1 wq (.tup [.str "loop", .int fr, .int sz, .int tl, .int n, .ref q])) := same_new hwq
    have hw2 : upd H1 wq (.tup [.str "loop", .int fr, .int sz, .int tl, .int n, .ref q]) wq = some (.tup [.str "loop", .int fr, .int sz, .int tl, .int n, .ref q]) := upd_same
    generalize upd H1 wq (.tup [.str "loop", .int fr, .int sz, .int tl, .int n, .ref q]) = H2 at u2 hw2 ⊢
    refine ⟨_, rfl, _, rfl, _, rfl, _, rfl, _, rfl, _, rfl, line_le (by simp), fun z hz => ⟨line_le (by simp), fun r hr0 => ?_⟩⟩
    have u3 : Same H2 (upd H2 z (.tup [.ref wq])) := same_new hz
    have hz3 : upd H2 z (.tup [.ref wq]) z = some (.tup [.ref wq]) := upd_same
    generalize upd H2 z (.tup [.ref wq]) = H3 at u3 hz3 hr0 ⊢
    have u4 := same_new (o := .tup [.str "loop", .int n, .int ((sz + tl - 1) / tl), .int wd, .int (-1), .ref z]) hr0
    refine k _ _ _ (by show (if (-1 : Int) = -1 ∧ 1 ≤ tl then some (cutN tl fr (.loop n sz wd (-1) bd)) else none) = _; rw [if_pos ⟨rfl, t1⟩]) (u1.trans (u2.trans (u3.trans u4))) ?_
    rw [cutN, NdAt]
    refine ⟨r, z, [.ref wq], rfl, upd_same, u4 _ _ hz3, ?_⟩
    rw [NdsAt]
    refine ⟨_, [], rfl, ?_, by rw [NdsAt]⟩
    rw [NdAt]
    exact ⟨wq, q, xs', rfl, (u3.trans u4) _ _ hw2, (u2.trans (u3.trans u4)) _ _ hq, nd'.kt (KT.same (u2.trans (u3.trans u4)))⟩
theorem ok_joined_with (T : Txt K mg t) : FnOk P w K mg base (CXD P w) 85 t.f_joined_with t.d_joined_with ["behind", "loop"] (sp_jnd t) := by
  have G_NoMove_init := ok_NoMove_init (P := P) (w := w) (base := base) T
  have G_is_loop := ok_is_loop (P := P) (w := w) (base := base) T
  have G_body_of := ok_body_of (P := P) (w := w) (base := base) T
  have G_with_body := ok_with_body (P := P) (w := w) (base := base) T
  have G_renumbered := ok_ren (P := P) (w := w) (base := base) T 40
  refine T.F_joined_with.okD sc_joined_with (fun vs H Q E h => ?_) (fun cdv A outer s H vs Q E hr h => ?_)
  · obtain ⟨bh, v, xs, r, n, sz, wd, out, bd, b, rfl, _⟩ := h
    rfl
  · obtain ⟨bh, v, xs, r, n, sz, wd, out, bd, b, rfl, hbh, nds, na, wb, lb, dp, k, xe⟩ := h
    rw [NdAt] at na
    obtain ⟨bb, p, xp, rfl, hb, hp, ndp⟩ := na
    have one : ([V.int 0] : List V).length ≤ sizeLine := line_le (by show 1 ≤ 1000000; decide)
    have lx := nds.len
    refine ⟨_, (pss_cons (ps_if (PW.pt (pw_or (pt_cmpR op_eq (pe_callB call_len_seq (by rfl) T.z_len PySem.boot_len (pa_cons (pv 0) pa_nil)) pe_int (nomark _)) (pw_or1 (pt_not (pt_val (pe_call G_is_loop (hr.mono (by omega)) rfl T.m_is_loop T.F_is_loop.kp T.b_is_loop .nil pass0 (pa_cons (pe_ix ix_tup (pv 0) pe_int (fun _ _ => rfl)) pa_nil)))))))
        (pss_one (ps_raiseD throwDI T.mx_NoMove G_NoMove_init (hr.mono (by omega)) rfl T.m_NoMove T.b_NoMove_init .nil pass0 rfl rfl (pa_cons pe_int pa_nil)))
        pss_nil)
      (pss_cons (ps_asg (pe_ix ix_tup (pv 0) pe_int (fun _ _ => rfl)) (pg_tup (n := 6) rfl (pgs_cons (pg_name (i := 2) sc_joined_with.nd rfl (Or.inl rfl) (Or.inl rfl)) (pgs_cons (pg_name (i := 3) sc_joined_with.nd rfl (Or.inl rfl) (Or.inl rfl)) (pgs_cons (pg_name (i := 4) sc_joined_with.nd rfl (Or.inl rfl) (Or.inl rfl)) (pgs_cons (pg_name (i := 5) sc_joined_with.nd rfl (Or.inl rfl) (Or.inl rfl)) (pgs_cons (pg_name (i := 6) sc_joined_with.nd rfl (Or.inl rfl) (Or.inl rfl)) (pgs_cons (pg_name (i := 7) sc_joined_with.nd rfl (Or.inl rfl) (Or.inl rfl)) pgs_nil))))))))
      (pss_cons (ps_if (pt_cmpR (op_neD hr.units) (pe_slice sl_tup (pv 1) (po_some pe_int) (po_some pe_int)) (pe_tup (pa_cons (pv 4) (pa_cons (pv 5) (pa_cons (pv 6) pa_nil)))) (nomark _))
        (pss_one (ps_raiseD throwDI T.mx_NoMove G_NoMove_init (hr.mono (by omega)) rfl T.m_NoMove T.b_NoMove_init .nil pass0 rfl rfl (pa_cons pe_int pa_nil)))
        pss_nil)
      (pss_one (ps_ret (pe_call G_with_body (hr.mono (by omega)) rfl T.m_with_body T.F_with_body.kp T.b_with_body .nil pass0 (pa_cons (pv 1) (pa_cons (pe_op op_catT4 (pe_call G_body_of (hr.mono (by omega)) rfl T.m_body_of T.F_body_of.kp T.b_body_of .nil pass0 (pa_cons (pv 1) pa_nil)) (pe_call G_renumbered (hr.mono (by omega)) rfl T.m_renumbered T.F_renumbered.kp T.b_renumbered .nil pass0 (pa_cons (pv 7) (pa_cons (pv 3) (pa_cons (pe_ix ix_tup (pv 1) pe_int (fun _ _ => rfl)) pa_nil))))) pa_nil)))))))), ?_⟩
    refine ⟨_, rfl, bh, _, rfl, .inr (SqT.of hbh), rfl, _, rfl, ?_⟩
    match r, nds, lx, wb, dp, k, xe with
    | [], nds, lx, wb, dp, k, xe => exact iteYes' (by rw [show xs.length = 0 from lx]; decide) ⟨one, no_raise (xe rfl)⟩
    | x1 :: r', nds, lx, wb, dp, k, xe =>
      refine iteNo' (by rw [lx, List.length_cons]; simp; omega) ?_
      rw [NdsAt] at nds
      obtain ⟨v1, vr, rfl, n1, nr⟩ := nds
      cases x1 with
      | deed n' k' w' cs us =>
        rw [NdAt] at n1
        obtain ⟨b1, c1, u1, rfl, hb1, _, _⟩ := n1
        exact ⟨_, rfl, bh, _, _, _, rfl, rfl, SqT.of hbh, atI_nat (j := 0) rfl, b1, _, _, rfl, hb1, _, rfl, iteYes' (by decide +kernel) ⟨one, no_raise (xe rfl)⟩⟩
      | loop m szm wdm outm bdm =>
        rw [NdAt] at n1
        obtain ⟨b1, p1, xs1, rfl, hb1, hp1, nds1⟩ := n1
        rw [okL, okN] at wb
        obtain ⟨⟨_, _, _, _, _, wbm, lbm⟩, _⟩ := wb
        rw [dpL, dpN] at dp
        refine ⟨_, rfl, bh, _, _, _, rfl, rfl, SqT.of hbh, atI_nat (j := 0) rfl, b1, _, _, rfl, hb1, _, rfl, iteNo' (by decide +kernel) ?_⟩
        refine ⟨_, rfl, bh, _, _, _, rfl, rfl, SqT.of hbh, atI_nat (j := 0) rfl, b1, _, rfl, SqT.of hb1, rfl, _, _, rfl, _, _, rfl, _, _, rfl, _, _, rfl, _, _, rfl, _, _, rfl, rfl, ?_⟩
        refine ⟨_, rfl, _, rfl, _, rfl, bb, _, rfl, SqT.of hb, (fun z => absurd z.1 (by show ¬ HT.sIx 6 0 (some 2) = 0; decide)), fun sq hsq => ?_⟩
        have ec : cutV [V.str "loop", .int n, .int sz, .int wd, .int out, .ref p] (some 2) (some 5) = [.int sz, .int wd, .int out] := rfl
        rw [ec]
        have u1 : Same H (upd H sq (.tup [.int sz, .int wd, .int out])) := same_new hsq
        have hs1 : upd H sq (.tup [.int sz, .int wd, .int out]) sq = some (.tup [.int sz, .int wd, .int out]) := upd_same
        generalize upd H sq (.tup [.int sz, .int wd, .int out]) = H1 at u1 hs1 ⊢
        refine ⟨_, rfl, _, rfl, _, rfl, line_le (by simp), fun tq htq => ?_⟩
        have u2 : Same H1 (upd H1 tq (.tup [.int szm, .int wdm, .int outm])) := same_new htq
        have ht2 : upd H1 tq (.tup [.int szm, .int wdm, .int outm]) tq = some (.tup [.int szm, .int wdm, .int outm]) := upd_same
        generalize upd H1 tq (.tup [.int szm, .int wdm, .int outm]) = H2 at u2 ht2 ⊢
        have u12 := u1.trans u2
        refine ⟨.tuple [.int sz, .int wd, .int out], .tuple [.int szm, .int wdm, .int outm], .tup (u2 _ _ hs1) (.cons (.int _) (.cons (.int _) (.cons (.int _) .nil))), .tup ht2 (.cons (.int _) (.cons (.int _) (.cons (.int _) .nil))), shaped3 _ _ _, shaped3 _ _ _, _, rfl, ?_⟩
        refine ite2 (fun hc => ⟨one, no_raise (XE.go (xe (by
          show (if sz = szm ∧ wd = wdm ∧ out = outm then some _ else none) = none
          refine if_neg fun z => ?_
          obtain ⟨rfl, rfl, rfl⟩ := z
          simp [PyData.eqv, PyData.eqvAll] at hc)) u12)⟩) (fun hc => ?_)
        have he : sz = szm ∧ wd = wdm ∧ out = outm := by
          have : PyData.eqv (.tuple [.int sz, .int wd, .int out]) (.tuple [.int szm, .int wdm, .int outm]) = true := by simpa using hc
          simpa [PyData.eqv, PyData.eqvAll] using this
        refine ⟨_, rfl, _, rfl, bb, p, _, _, _, _, _, rfl, u12 _ _ hb, ?_⟩
        refine ⟨_, rfl, _, rfl, _, rfl, bb, _, _, _, rfl, rfl, SqT.of (u12 _ _ hb), atI_nat (j := 1) rfl, p1, xs1, bdm, m, n, _, rfl, u12 _ _ hp1, nds1.kt (KT.same u12), wbm, lbm, by omega, fun q xs' H3 u3 hq nd' => ?_⟩
        have u13 := u12.trans u3
        have ly := nd'.len
        rw [renL_map, List.length_map] at ly
        have lp := ndp.len
        refine ⟨p, q, _, _, rfl, rfl, u13 _ _ hp, hq, line_le (by omega), fun r1 H4 u4 hr4 => ?_⟩
        have u14 := u13.trans u4
        refine ⟨bb, _, _, _, _, _, _, _, rfl, u14 _ _ hb, fun r2 hr2 => ?_⟩
        have u5 := same_new (H := H4) (o := .tup [.str "loop", .int n, .int sz, .int wd, .int out, .ref r1]) hr2
        refine k (.loop n sz wd out (bd ++ renL m n bdm)) _ _ (by show (if sz = szm ∧ wd = wdm ∧ out = outm then some (Nd.loop n sz wd out (bd ++ renL m n bdm)) else none) = _; rw [if_pos he]) (u14.trans u5) ?_
        rw [NdAt]
        refine ⟨r2, r1, _, rfl, upd_same, u5 _ _ hr4, nds_pair.mpr (papp (nds_pair.mp (ndp.kt (KT.same (u14.trans u5)))) (nds_pair.mp (nd'.kt (KT.same (u4.trans u5)))))⟩
end
end My

set_option Elab.async false
set_option linter.all false
set_option maxRecDepth 100000
set_option maxHeartbeats 4000000
namespace My
open PySem L2
local macro_rules | `(tactic| walk_at "lk") => `(tactic| first | with_reducible exact lk0 | (refine lk1 (by decide +kernel) ?_; walk_at "lk") | rfl)
theorem reps_path {H : Hp} : ∀ path : List Nat, Reps H (pInt path) (path.map fun (p : Nat) => PyData.int (p : Int))
  | [] => .nil
  | p :: r => .cons (.int _) (reps_path r)
theorem lay_path : ∀ path : List Nat, PyData.canLayAll0 (path.map fun (p : Nat) => PyData.int (p : Int)) = true ∧ PyData.depthAll (path.map fun (p : Nat) => PyData.int (p : Int)) = 0
  | [] => ⟨rfl, rfl⟩
  | p :: r => by
    obtain ⟨h1, h2⟩ := lay_path r
    exact ⟨by simp [PyData.canLayAll0, PyData.canLay0, h1], by simp [PyData.depthAll, PyData.depth, h2]⟩
theorem shaped_path (path : List Nat) : SeqAt.shaped (.list (path.map fun (p : Nat) => PyData.int (p : Int))) = true := by
  obtain ⟨h1, h2⟩ := lay_path path
  refine shaped_of ?_ ?_
  · simp only [PyData.canLay0]; exact h1
  · simp only [PyData.depth, h2]; omega
theorem eqv_path (path : List Nat) : PyData.eqv (.list (path.map fun (p : Nat) => PyData.int (p : Int))) (.list []) = decide (path = []) := by
  cases path <;> rfl
theorem mvWord {m : Mv} {H : Hp} {a : Addr} (h : MvAt H a m) : ∃ (w : Str) (r : List V), H a = some (.tup (.str w :: .int m.num :: r)) ∧ (m.took = if w = "cut" then 1 else 0) := by
  cases m with
  | swap N => exact ⟨_, [], h, by show (0 : Int) = if ("swap" : Str) = "cut" then 1 else 0; decide +kernel⟩
  | cut N T => exact ⟨_, [.int T], h.1, by show (1 : Int) = if ("cut" : Str) = "cut" then 1 else 0; decide +kernel⟩
  | join N => exact ⟨_, [], h, by show (0 : Int) = if ("join" : Str) = "cut" then 1 else 0; decide +kernel⟩
theorem nds_take {H : Hp} {l : List Nd} {xs : List V} (h : NdsAt H l xs) (p : Nat) : NdsAt H (l.take p) (xs.take p) := nds_pair.mpr (ptake p (nds_pair.mp h))
theorem nds_drop {H : Hp} {l : List Nd} {xs : List V} (h : NdsAt H l xs) (p : Nat) : NdsAt H (l.drop p) (xs.drop p) := nds_pair.mpr (pdrop p (nds_pair.mp h))
theorem nds_app {H : Hp} {l m : List Nd} {xs ys : List V} (h : NdsAt H l xs) (g : NdsAt H m ys) : NdsAt H (l ++ m) (xs ++ ys) := nds_pair.mpr (papp (nds_pair.mp h) (nds_pair.mp g))
section
variable {P : Program} {w : World} {K : PySem.W.Frag} {mg : Str → Option Value} {base : Heap} {t : Adr}
theorem ok_moved_at (T : Txt K mg t) : FnOk P w K mg base (CXD P w) 86 t.f_moved_at t.d_moved_at ["place", "body", "move", "fresh"] (sp_matX t) := by
  have G_NoMove_init := ok_NoMove_init (P := P) (w := w) (base := base) T
  have G_swapped := ok_swapped (P := P) (w := w) (base := base) T
  have G_cut_by := ok_cut_by (P := P) (w := w) (base := base) T
  have G_joined_with := ok_joined_with (P := P) (w := w) (base := base) T
  refine T.F_moved_at.okD sc_moved_at (fun vs H Q E h => ?_) (fun cdv A outer s H vs Q E hr h => ?_)
  · obtain ⟨p, bp, mv, fr, m, n, sz, wd, out, bd, xs, l, b, rfl, _⟩ := h
    rfl
  · obtain ⟨p, bp, mv, fr, m, n, sz, wd, out, bd, xs, l, b, rfl, hbp, nds, ll, hx, wb, dp, hmv, k, xe⟩ := h
    have lx := nds.len
    have hp : p < l.length := (List.getElem?_eq_some_iff.mp hx).1
    have prs := nds_pair.mp nds
    have hxi : xs[p]? = some (xs[p]'(by omega)) := List.getElem?_eq_getElem _
    obtain ⟨x', hx', na⟩ := pget prs hxi
    rw [hx] at hx'
    cases hx'
    generalize xs[p]'(by omega) = v at hxi na
    have ec := cut_at hx
    have wb0 := wb
    rw [ec, okL_app, okL] at wb0
    have dp0 := dp
    rw [ec, dpL_mid] at dp0
    have wx := wb0.2.1
    have wr := wb0.2.2
    have wx' := wx
    rw [okN] at wx'
    have lbd : bd.length ≤ 100 := wx'.2.2.2.2.2.2
    have dpr : dpL (l.drop (p + 1)) ≤ 40 := Nat.le_trans (Nat.le_trans (Nat.le_max_right _ _) (Nat.le_max_right _ _)) dp0
    have dpx : dpL bd ≤ 40 := by rw [dpN] at dp0; omega
    clear dp0
    refine ⟨_, (pss_cons (ps_set (i := 4) sc_moved_at.nd rfl (Or.inl rfl) (pe_ix ix_tup (pv 1) (pv 0) (fun _ _ => rfl)))
      (pss_cons (ps_set (i := 5) sc_moved_at.nd rfl (Or.inl rfl) (pe_slice sl_tup (pv 1) (po_some (pe_op op_add (pv 0) pe_int)) po_none))
      (pss_cons (ps_set (i := 6) sc_moved_at.nd rfl (Or.inl rfl) (pe_tup (pa_cons (pe_ix ix_tup (pv 2) pe_int (fun _ _ => rfl)) (pa_cons (pe_callB call_len_seq (by rfl) T.z_len PySem.boot_len (pa_cons (pv 2) pa_nil)) pa_nil))))
      (pss_cons (ps_if (pt_cmpR (op_eqD hr.units) (pv 6) (pe_tup (pa_cons pe_str (pa_cons pe_int pa_nil))) (nomark _))
        (pss_one (ps_ret (pe_op op_catT4 (pe_op op_catT4 (pe_slice sl_tup (pv 1) po_none (po_some (pv 0))) (pe_tup (pa_cons (pe_call G_swapped (hr.mono (by omega)) rfl T.m_swapped T.F_swapped.kp T.b_swapped .nil passD (pa_cons (pv 4) pa_nil)) pa_nil))) (pv 5))))
        pss_nil)
      (pss_cons (ps_if (pt_cmpR (op_eqD hr.units) (pv 6) (pe_tup (pa_cons pe_str (pa_cons pe_int pa_nil))) (nomark _))
        (pss_one (ps_ret (pe_op op_catT4 (pe_op op_catT4 (pe_slice sl_tup (pv 1) po_none (po_some (pv 0))) (pe_tup (pa_cons (pe_call G_cut_by (hr.mono (by omega)) rfl T.m_cut_by T.F_cut_by.kp T.b_cut_by .nil passD (pa_cons (pe_ix ix_tup (pv 2) pe_int (fun _ _ => rfl)) (pa_cons (pv 4) (pa_cons (pv 3) pa_nil)))) pa_nil))) (pv 5))))
        pss_nil)
      (pss_cons (ps_if (pt_cmpR (op_eqD hr.units) (pv 6) (pe_tup (pa_cons pe_str (pa_cons pe_int pa_nil))) (nomark _))
        (pss_one (ps_ret (pe_op op_catT4 (pe_op op_catT4 (pe_slice sl_tup (pv 1) po_none (po_some (pv 0))) (pe_tup (pa_cons (pe_call G_joined_with (hr.mono (by omega)) rfl T.m_joined_with T.F_joined_with.kp T.b_joined_with .nil passD (pa_cons (pv 5) (pa_cons (pv 4) pa_nil))) pa_nil))) (pe_slice sl_tup (pv 5) (po_some pe_int) po_none))))
        pss_nil)
      (pss_one (ps_raiseD throwDI T.mx_NoMove G_NoMove_init (hr.mono (by omega)) rfl T.m_NoMove T.b_NoMove_init .nil pass0 rfl rfl (pa_cons pe_int pa_nil))))))))), ?_⟩
    refine ⟨_, rfl, _, rfl, bp, _, _, _, rfl, rfl, SqT.of hbp, atI_nat hxi, ?_⟩
    refine ⟨_, rfl, _, rfl, _, _, rfl, rfl, _, rfl, bp, xs, rfl, SqT.of hbp, ?_, fun bh hbh => ?_⟩
    · rintro ⟨h1, _⟩
      have e : ((p : Int) + 1) = ((p + 1 : Nat) : Int) := by omega
      have h1 : HT.sIx xs.length 0 (some ((p : Int) + 1)) = 0 := h1
      rw [e, HT.sIx_nat] at h1
      omega
    have ed : cutV xs (some ((p : Int) + 1)) none = xs.drop (p + 1) := by
      rw [show ((p : Int) + 1) = ((p + 1 : Nat) : Int) by omega]
      exact cutV_drop (by omega)
    have u1 : Same H (upd H bh (.tup (xs.drop (p + 1)))) := same_new hbh
    have hb1 : upd H bh (.tup (xs.drop (p + 1))) bh = some (.tup (xs.drop (p + 1))) := upd_same
    rw [show cutV xs (some ((p : Int) + 1)) none = xs.drop (p + 1) from ed]
    generalize upd H bh (.tup (xs.drop (p + 1))) = H1 at u1 hb1 ⊢
    have ndr : NdsAt H1 (l.drop (p + 1)) (xs.drop (p + 1)) := (nds_drop nds (p + 1)).kt (KT.same u1)
    have ndt : ∀ {G : Hp}, Same H G → NdsAt G (l.take p) (xs.take p) := fun sG => (nds_take nds p).kt (KT.same sG)
    have one : ([V.int 0] : List V).length ≤ sizeLine := line_le (by show 1 ≤ 1000000; decide)
    -- body[:place] is made, then the one node
    have tk : ¬ (HT.sIx xs.length 0 none = 0 ∧ HT.sIx xs.length xs.length (some (p : Int)) = xs.length) := by
      rintro ⟨_, h2⟩
      rw [HT.sIx_nat] at h2
      omega
    have fin : ∀ {G : Hp} {y : Nd} {v' : V} {hd z : Addr} {r1 : List V} {rl : List Nd} {bh' : Addr}, Same H G → G hd = some (.tup (xs.take p)) → G z = some (.tup [v']) → NdAt G y v' → G bh' = some (.tup r1) → NdsAt G rl r1 → r1.length ≤ 100 → mvO m fr (.loop n sz wd out bd) (l.drop (p + 1)) = some (y :: rl) →
        rCatT4 (.ref hd) (.ref z) G fun a G1 => (∃ a', a = V.ref a' ∧ (∃ b' ys zs, G1 a' = some (.tup ys) ∧ G1 bh' = some (.tup zs) ∧ b' = bh' ∧ ys.length + zs.length ≤ sizeLine ∧ ∀ q H', Same G1 H' → H' q = some (.tup (ys ++ zs)) → Q (.ref q) H')) := fun {G y v' hd z r1 rl bh'} sG hhd hz ny hbh' nrl l1 e => by
      refine ⟨hd, z, _, _, rfl, rfl, hhd, hz, line_le (by rw [List.length_take]; simp; omega), fun q G1 sg hq => ⟨q, rfl, bh', _, _, hq, sg _ _ hbh', rfl, line_le (by rw [List.length_append, List.length_take]; simp; omega), fun q2 H' s' hq2 => ?_⟩⟩
      refine k (y :: rl) q2 _ H' e (sG.trans (sg.trans s')) hq2 ?_
      rw [List.append_assoc]
      exact nds_app (ndt (sG.trans (sg.trans s'))) (nds_pair.mpr (.cons (NdAt.kt (KT.same (sg.trans s')) ny) (nds_pair.mp (nrl.kt (KT.same (sg.trans s'))))))
    cases m with
    | swap N =>
      have hmv' : H mv = some (.tup [.str "swap", .int N]) := hmv
      refine ⟨_, rfl, mv, _, _, _, rfl, rfl, SqT.of (u1 _ _ hmv'), atI_nat (j := 0) rfl, _, rfl, mv, _, rfl, .inr (SqT.of (u1 _ _ hmv')), line_le (by simp), fun f hf => ?_⟩
      generalize hG2 : upd H1 f _ = H2
      have u2 : Same H1 H2 := by rw [← hG2]; exact same_new hf
      have hf2 : H2 f = some (.tup [.str "swap", .int 2]) := by rw [← hG2]; exact upd_same
      clear hG2
      have rep : ∀ {G : Hp}, Same H2 G → Rep G (.ref f) (.tuple [.str "swap", .int 2]) := fun sG => .tup (sG _ _ hf2) (.cons (.str _) (.cons (.int _) .nil))
      refine ⟨_, rfl, line_le (by simp), fun z hz => ?_⟩
      have u3 : Same H2 (upd H2 z (.tup [.str "swap", .int 2])) := same_new hz
      have hz3 : upd H2 z (.tup [.str "swap", .int 2]) z = some (.tup [.str "swap", .int 2]) := upd_same
      generalize upd H2 z (.tup [.str "swap", .int 2]) = H3 at u3 hz3 ⊢
      refine ⟨_, .tuple [.str "swap", .int 2], rep u3, .tup hz3 (.cons (.str _) (.cons (.int _) .nil)), by decide +kernel, by decide +kernel, _, rfl, ?_⟩
      refine iteYes' (by decide +kernel) ?_
      have s3 := u1.trans (u2.trans u3)
      refine ⟨_, rfl, _, rfl, _, rfl, bp, xs, rfl, SqT.of (s3 _ _ hbp), tk, fun hd hhd => ?_⟩
      rw [cutV_take (by omega)]
      have u5 : Same H3 (upd H3 hd (.tup (xs.take p))) := same_new hhd
      have hd5 : upd H3 hd (.tup (xs.take p)) hd = some (.tup (xs.take p)) := upd_same
      generalize upd H3 hd (.tup (xs.take p)) = H5 at u5 hd5 ⊢
      have s5 := s3.trans u5
      refine ⟨_, rfl, v, n, sz, wd, out, bd, rfl, NdAt.kt (KT.same s5) na, fun y v' H6 ey u6 ny => ⟨line_le (by simp), fun z3 hz3' => ?_⟩, fun z => XE.go (xe (by show (swp _).map _ = none; rw [z]; rfl)) s5⟩
      have u7 : Same H6 (upd H6 z3 (.tup [v'])) := same_new hz3'
      have hz7 : upd H6 z3 (.tup [v']) z3 = some (.tup [v']) := upd_same
      generalize upd H6 z3 (.tup [v']) = H7 at u7 hz7 ⊢
      have s7 := s5.trans (u6.trans u7)
      obtain ⟨a1, a2, a3, a4, e1, e2, h1, h2, h3, h4⟩ := fin (y := y) (rl := l.drop (p + 1)) s7 ((u6.trans u7) _ _ hd5) hz7 (NdAt.kt (KT.same u7) ny) ((u2.trans (u3.trans (u5.trans (u6.trans u7)))) _ _ hb1) (ndr.kt (KT.same (u2.trans (u3.trans (u5.trans (u6.trans u7)))))) (by rw [List.length_drop]; omega) (by show (swp _).map _ = _; rw [ey]; rfl)
      refine ⟨a1, a2, a3, a4, e1, e2, h1, h2, h3, fun q8 H8 u8 hq8 => ?_⟩
      obtain ⟨a', ea, b', ys, zs, g1, g2, g3, g4, g5⟩ := h4 q8 H8 u8 hq8
      cases ea
      exact ⟨_, rfl, q8, bh, ys, zs, rfl, rfl, g1, g2, g4, g5⟩
    | cut N tl =>
      have hmv' : H mv = some (.tup [.str "cut", .int N, .int tl]) := hmv.1
      refine ⟨_, rfl, mv, _, _, _, rfl, rfl, SqT.of (u1 _ _ hmv'), atI_nat (j := 0) rfl, _, rfl, mv, _, rfl, .inr (SqT.of (u1 _ _ hmv')), line_le (by simp), fun f hf => ?_⟩
      generalize hG2 : upd H1 f _ = H2
      have u2 : Same H1 H2 := by rw [← hG2]; exact same_new hf
      have hf2 : H2 f = some (.tup [.str "cut", .int 3]) := by rw [← hG2]; exact upd_same
      clear hG2
      have rep : ∀ {G : Hp}, Same H2 G → Rep G (.ref f) (.tuple [.str "cut", .int 3]) := fun sG => .tup (sG _ _ hf2) (.cons (.str _) (.cons (.int _) .nil))
      refine ⟨_, rfl, line_le (by simp), fun z hz => ?_⟩
      have u3 : Same H2 (upd H2 z (.tup [.str "swap", .int 2])) := same_new hz
      have hz3 : upd H2 z (.tup [.str "swap", .int 2]) z = some (.tup [.str "swap", .int 2]) := upd_same
      generalize upd H2 z (.tup [.str "swap", .int 2]) = H3 at u3 hz3 ⊢
      refine ⟨_, .tuple [.str "swap", .int 2], rep u3, .tup hz3 (.cons (.str _) (.cons (.int _) .nil)), by decide +kernel, by decide +kernel, _, rfl, ?_⟩
      refine iteNo' (by decide +kernel) ?_
      refine ⟨_, rfl, line_le (by simp), fun z2 hz2 => ?_⟩
      have u4 : Same H3 (upd H3 z2 (.tup [.str "cut", .int 3])) := same_new hz2
      have hz4 : upd H3 z2 (.tup [.str "cut", .int 3]) z2 = some (.tup [.str "cut", .int 3]) := upd_same
      generalize upd H3 z2 (.tup [.str "cut", .int 3]) = H4 at u4 hz4 ⊢
      refine ⟨_, .tuple [.str "cut", .int 3], rep (u3.trans u4), .tup hz4 (.cons (.str _) (.cons (.int _) .nil)), by decide +kernel, by decide +kernel, _, rfl, ?_⟩
      refine iteYes' (by decide +kernel) ?_
      have s4 := u1.trans (u2.trans (u3.trans u4))
      refine ⟨_, rfl, _, rfl, _, rfl, bp, xs, rfl, SqT.of (s4 _ _ hbp), tk, fun hd hhd => ?_⟩
      rw [cutV_take (by omega)]
      have u5 : Same H4 (upd H4 hd (.tup (xs.take p))) := same_new hhd
      have hd5 : upd H4 hd (.tup (xs.take p)) hd = some (.tup (xs.take p)) := upd_same
      generalize upd H4 hd (.tup (xs.take p)) = H5 at u5 hd5 ⊢
      have s5 := s4.trans u5
      refine ⟨_, rfl, mv, _, _, _, rfl, rfl, SqT.of (s5 _ _ hmv'), atI_nat (j := 2) rfl, _, rfl, _, rfl, tl, fr, n, sz, wd, out, bd, v, b, rfl, NdAt.kt (KT.same s5) na, wx, dpx, hmv.2, fun y v' H6 ey u6 ny => ⟨line_le (by simp), fun z3 hz3' => ?_⟩, fun z => XE.go (xe (by show (cutO tl fr _).map _ = none; rw [z]; rfl)) s5⟩
      have u7 : Same H6 (upd H6 z3 (.tup [v'])) := same_new hz3'
      have hz7 : upd H6 z3 (.tup [v']) z3 = some (.tup [v']) := upd_same
      generalize upd H6 z3 (.tup [v']) = H7 at u7 hz7 ⊢
      have s7 := s5.trans (u6.trans u7)
      have v7 := u2.trans (u3.trans (u4.trans (u5.trans (u6.trans u7))))
      obtain ⟨a1, a2, a3, a4, e1, e2, h1, h2, h3, h4⟩ := fin (y := y) (rl := l.drop (p + 1)) s7 ((u6.trans u7) _ _ hd5) hz7 (NdAt.kt (KT.same u7) ny) (v7 _ _ hb1) (ndr.kt (KT.same v7)) (by rw [List.length_drop]; omega) (by show (cutO tl fr _).map _ = _; rw [ey]; rfl)
      refine ⟨a1, a2, a3, a4, e1, e2, h1, h2, h3, fun q8 H8 u8 hq8 => ?_⟩
      obtain ⟨a', ea, b', ys, zs, g1, g2, g3, g4, g5⟩ := h4 q8 H8 u8 hq8
      cases ea
      exact ⟨_, rfl, q8, bh, ys, zs, rfl, rfl, g1, g2, g4, g5⟩
    | join N =>
      have hmv' : H mv = some (.tup [.str "join", .int N]) := hmv
      refine ⟨_, rfl, mv, _, _, _, rfl, rfl, SqT.of (u1 _ _ hmv'), atI_nat (j := 0) rfl, _, rfl, mv, _, rfl, .inr (SqT.of (u1 _ _ hmv')), line_le (by simp), fun f hf => ?_⟩
      generalize hG2 : upd H1 f _ = H2
      have u2 : Same H1 H2 := by rw [← hG2]; exact same_new hf
      have hf2 : H2 f = some (.tup [.str "join", .int 2]) := by rw [← hG2]; exact upd_same
      clear hG2
      have rep : ∀ {G : Hp}, Same H2 G → Rep G (.ref f) (.tuple [.str "join", .int 2]) := fun sG => .tup (sG _ _ hf2) (.cons (.str _) (.cons (.int _) .nil))
      refine ⟨_, rfl, line_le (by simp), fun z hz => ?_⟩
      have u3 : Same H2 (upd H2 z (.tup [.str "swap", .int 2])) := same_new hz
      have hz3 : upd H2 z (.tup [.str "swap", .int 2]) z = some (.tup [.str "swap", .int 2]) := upd_same
      generalize upd H2 z (.tup [.str "swap", .int 2]) = H3 at u3 hz3 ⊢
      refine ⟨_, .tuple [.str "swap", .int 2], rep u3, .tup hz3 (.cons (.str _) (.cons (.int _) .nil)), by decide +kernel, by decide +kernel, _, rfl, ?_⟩
      refine iteNo' (by decide +kernel) ?_
      refine ⟨_, rfl, line_le (by simp), fun z2 hz2 => ?_⟩
      have u4 : Same H3 (upd H3 z2 (.tup [.str "cut", .int 3])) := same_new hz2
      have hz4 : upd H3 z2 (.tup [.str "cut", .int 3]) z2 = some (.tup [.str "cut", .int 3]) := upd_same
      generalize upd H3 z2 (.tup [.str "cut", .int 3]) = H4 at u4 hz4 ⊢
      refine ⟨_, .tuple [.str "cut", .int 3], rep (u3.trans u4), .tup hz4 (.cons (.str _) (.cons (.int _) .nil)), by decide +kernel, by decide +kernel, _, rfl, ?_⟩
      refine iteNo' (by decide +kernel) ?_
      refine ⟨_, rfl, line_le (by simp), fun z5 hz5 => ?_⟩
      have u4' : Same H4 (upd H4 z5 (.tup [.str "join", .int 2])) := same_new hz5
      have hz5' : upd H4 z5 (.tup [.str "join", .int 2]) z5 = some (.tup [.str "join", .int 2]) := upd_same
      generalize upd H4 z5 (.tup [.str "join", .int 2]) = H4' at u4' hz5' ⊢
      refine ⟨_, .tuple [.str "join", .int 2], rep (u3.trans (u4.trans u4')), .tup hz5' (.cons (.str _) (.cons (.int _) .nil)), by decide +kernel, by decide +kernel, _, rfl, ?_⟩
      refine iteYes' (by decide +kernel) ?_
      have s4 := u1.trans (u2.trans (u3.trans (u4.trans u4')))
      refine ⟨_, rfl, _, rfl, _, rfl, bp, xs, rfl, SqT.of (s4 _ _ hbp), tk, fun hd hhd => ?_⟩
      rw [cutV_take (by omega)]
      have u5 : Same H4' (upd H4' hd (.tup (xs.take p))) := same_new hhd
      have hd5 : upd H4' hd (.tup (xs.take p)) hd = some (.tup (xs.take p)) := upd_same
      generalize upd H4' hd (.tup (xs.take p)) = H5 at u5 hd5 ⊢
      have s5 := s4.trans u5
      have v5 := u2.trans (u3.trans (u4.trans (u4'.trans u5)))
      refine ⟨_, rfl, _, rfl, bh, v, _, l.drop (p + 1), n, sz, wd, out, bd, b, rfl, v5 _ _ hb1, ndr.kt (KT.same v5), NdAt.kt (KT.same s5) na, wr, lbd, dpr, fun y v' H6 ey u6 ny => ⟨line_le (by simp), fun z3 hz3' => ?_⟩, fun z => XE.go (xe (by show (jnd _ _).map _ = none; rw [z]; rfl)) s5⟩
      have u7 : Same H6 (upd H6 z3 (.tup [v'])) := same_new hz3'
      have hz7 : upd H6 z3 (.tup [v']) z3 = some (.tup [v']) := upd_same
      generalize upd H6 z3 (.tup [v']) = H7 at u7 hz7 ⊢
      have s7 := s5.trans (u6.trans u7)
      have v7 := v5.trans (u6.trans u7)
      refine ⟨hd, z3, _, _, rfl, rfl, (u6.trans u7) _ _ hd5, hz7, line_le (by rw [List.length_take]; simp; omega), fun q8 H8 u8 hq8 => ?_⟩
      have v8 := v7.trans u8
      have rne : (xs.drop (p + 1)).length ≠ 0 := by
        intro z0
        have : l.drop (p + 1) = [] := List.length_eq_zero_iff.mp (by rw [← (nds_drop nds (p + 1)).len]; exact z0)
        rw [this] at ey
        cases ey
      refine ⟨_, rfl, _, rfl, bh, _, rfl, SqT.of (v8 _ _ hb1), (fun zz => by
        have h1 : HT.sIx (xs.drop (p + 1)).length 0 (some ((1 : Nat) : Int)) = 0 := zz.1
        rw [HT.sIx_nat] at h1
        omega), fun bt hbt => ?_⟩
      rw [show cutV (xs.drop (p + 1)) (some 1) none = (xs.drop (p + 1)).drop 1 from cutV_drop (p := 1) (by omega)]
      have u9 : Same H8 (upd H8 bt (.tup ((xs.drop (p + 1)).drop 1))) := same_new hbt
      have hb9 : upd H8 bt (.tup ((xs.drop (p + 1)).drop 1)) bt = some (.tup ((xs.drop (p + 1)).drop 1)) := upd_same
      generalize upd H8 bt (.tup ((xs.drop (p + 1)).drop 1)) = H9 at u9 hb9 ⊢
      refine ⟨q8, bt, _, _, rfl, rfl, u9 _ _ hq8, hb9, line_le (by rw [List.length_append, List.length_take, List.length_drop, List.length_drop]; simp; omega), fun q10 H10 u10 hq10 => ?_⟩
      have s10 := s7.trans (u8.trans (u9.trans u10))
      refine k (y :: (l.drop (p + 1)).drop 1) q10 _ H10 (by show (jnd _ _).map _ = _; rw [ey]; rfl) s10 hq10 ?_
      rw [List.append_assoc]
      have v10 := v8.trans (u9.trans u10)
      exact nds_app (ndt s10) (nds_pair.mpr (.cons (NdAt.kt (KT.same (u7.trans (u8.trans (u9.trans u10)))) ny) (nds_pair.mp (nds_drop (ndr.kt (KT.same v10)) 1))))
theorem path_step (T : Txt K mg t) {m d : Nat} (hd : d ≤ 1000) {sp' : Sp} (G_path_to : FnOk P w K mg base CX0 (m + 1) t.f_path_to t.d_path_to ["number", "body"] sp')
    (hs : ∀ (N n sz wd out : Int) (bp : Addr) (xs : List V) (bd : List Nd) (b : Rd) (H : Hp) (Q : VK), H bp = some (.tup xs) → NdsAt H bd xs → bd.length ≤ 100 → okL b bd → dpN (.loop n sz wd out bd) ≤ d → (∀ (q : Addr) (path : List Nat) (H' : Hp), Same H H' → H' q = some (.lst (pInt path)) → (path = [] ∧ N ∉ nmL bd ∨ path ≠ [] ∧ ∃ sz wd out bd', PathAt path bd (.loop N sz wd out bd')) → path.length + 1 ≤ d → Q (.ref q) H') → sp' [.int N, .ref bp] H Q E0) :
    FnOk P w K mg base CX0 (m + 2) t.f_path_to t.d_path_to ["number", "body"] (sp_path d) := by
  have G_is_loop := ok_is_loop (P := P) (w := w) (base := base) T
  have G_body_of := ok_body_of (P := P) (w := w) (base := base) T
  refine T.F_path_to.ok sc_path_to (fun vs H Q E h => ?_) (fun cdv A outer s H vs Q E hr h => ?_)
  · obtain ⟨N, bp, xs, l, b, rfl, _⟩ := h
    rfl
  · obtain ⟨N, bp, xs, l, b, rfl, hbp, nds, ll, wb, dp, k⟩ := h
    have lx := nds.len
    have prs := nds_pair.mp nds
    refine ⟨_, (pss_cons (ps_for PassesOwn.never rfl (pi_enumT rfl T.z_enumerate (pa_cons (pv 1) pa_nil)) (pg_tup (n := 2) rfl (pgs_cons (pg_name (i := 2) sc_path_to.nd rfl (Or.inl rfl) (Or.inl rfl)) (pgs_cons (pg_name (i := 3) sc_path_to.nd rfl (Or.inl rfl) (Or.inl rfl)) pgs_nil)))
        (pss_one (ps_if (pt_val (pe_call G_is_loop (hr.mono (by omega)) rfl T.m_is_loop T.F_is_loop.kp T.b_is_loop .nil pass0 (pa_cons (pv 3) pa_nil)))
          (pss_cons (ps_if (pt_cmpR op_eq (pe_ix ix_tup (pv 3) pe_int (fun _ _ => rfl)) (pv 0) (nomark _))
            (pss_one (ps_ret (pe_lst (pa_cons (pv 2) pa_nil))))
            pss_nil)
          (pss_cons (ps_set (i := 4) sc_path_to.nd rfl (Or.inl rfl) (pe_call G_path_to (hr.mono (by omega)) rfl T.m_path_to T.F_path_to.kp T.b_path_to .nil pass0 (pa_cons (pv 0) (pa_cons (pe_call G_body_of (hr.mono (by omega)) rfl T.m_body_of T.F_body_of.kp T.b_body_of .nil pass0 (pa_cons (pv 3) pa_nil)) pa_nil))))
          (pss_one (ps_if (pt_cmpR (op_neD hr.units) (pv 4) (pe_lst pa_nil) (nomark _))
            (pss_one (ps_ret (pe_op op_cat (pe_lst (pa_cons (pv 2) pa_nil)) (pv 4))))
            pss_nil))))
          pss_nil)))
      (pss_one (ps_ret (pe_lst pa_nil)))), ?_⟩
    refine ⟨_, rfl, bp, xs, rfl, SqT.of hbp, ?_⟩
    refine for_enumT (K := K) (a := bp) (xs := xs) (fun i σ H2 => ∃ (o2 o3 o4 : Option V), σ = [some (.int N), some (.ref bp), o2, o3, o4] ∧ Same H H2 ∧ N ∉ nmL (l.take i))
      ⟨none, none, none, rfl, Same.refl _, by rw [List.take_zero, nmL]; simp⟩ (fun i σ H2 ⟨_, _, _, _, s2, _⟩ => SqT.of (s2 _ _ hbp)) ?_ ?_
    · rintro i x σ H2 z hx ⟨o2, o3, o4, rfl, s2, nin⟩ hz
      obtain ⟨nd, he, na⟩ := pget prs hx
      have e1 := cut_at he
      have dpl : dpL l = max (dpL (l.take i)) (max (dpN nd) (dpL (l.drop (i + 1)))) := by rw [← dpL_mid, ← e1]
      have dpx : dpN nd ≤ d := by
        rw [dpl] at dp
        exact Nat.le_trans (Nat.le_trans (Nat.le_max_left _ _) (Nat.le_max_right _ _)) dp
      have tk : nmL (l.take (i + 1)) = nmL (l.take i) ++ nmN nd := by rw [List.take_add_one, he, Option.toList_some, nmL_app, nmL, nmL, List.append_nil]
      have sz3 : Same H2 (upd H2 z (.tup [.int (i : Nat), x])) := same_new hz
      have hz3 : upd H2 z (.tup [.int (i : Nat), x]) z = some (.tup [.int (i : Nat), x]) := upd_same
      generalize upd H2 z (.tup [.int (i : Nat), x]) = H3 at sz3 hz3 ⊢
      have s3 := s2.trans sz3
      have na3 : NdAt H3 nd x := NdAt.kt (KT.same s3) na
      refine ⟨z, _, rfl, SqT.of hz3, rfl, _, _, rfl, _, _, rfl, rfl, ?_⟩
      cases nd with
      | deed n kk wd cs us =>
        rw [NdAt] at na3
        obtain ⟨bb, c, u, rfl, hb, hc, hu'⟩ := na3
        refine ⟨_, rfl, bb, _, _, rfl, hb, _, rfl, iteNo (by decide +kernel) ⟨_, _, _, rfl, s3, ?_⟩⟩
        rw [tk, nmN, List.append_nil]
        exact nin
      | loop n sz wd out bd =>
        rw [NdAt] at na3
        obtain ⟨bb, pp, xs', rfl, hb, hpp, nd'⟩ := na3
        have wbx := okL_mem wb _ (List.mem_of_getElem? he)
        rw [okN] at wbx
        obtain ⟨_, _, _, _, _, wbd, lbd⟩ := wbx
        refine ⟨_, rfl, bb, _, _, rfl, hb, _, rfl, iteYes rfl ?_⟩
        refine ⟨_, rfl, bb, _, _, _, rfl, rfl, SqT.of hb, atI_nat (j := 1) rfl, _, rfl, rfl, _, rfl, iteD (fun e => ?_) (fun ne => ?_)⟩
        · have e : n = N := by injection e
          subst e
          refine ⟨_, rfl, line_le (by simp), fun q hq => k q [i] _ (s3.trans (same_new hq)) upd_same (.inr ⟨by simp, sz, wd, out, bd, he⟩) ?_⟩
          show 1 ≤ d
          rw [dpN] at dpx
          omega
        · have ne : N ≠ n := fun z => ne (by rw [z])
          refine ⟨_, rfl, _, rfl, bb, pp, _, _, _, _, _, rfl, hb, hs N n sz wd out pp xs' bd _ H3 _ hpp nd' lbd wbd dpx fun q path H4 s4 hq hp lp => ?_⟩
          refine ⟨_, rfl, line_le (by simp), fun z0 hz0 => ?_⟩
          have s5 : Same H4 (upd H4 z0 (.lst [])) := same_new hz0
          have h05 : upd H4 z0 (.lst []) z0 = some (.lst []) := upd_same
          generalize upd H4 z0 (.lst []) = H5 at s5 h05 ⊢
          have s05 := s3.trans (s4.trans s5)
          refine ⟨.list (path.map fun (p : Nat) => PyData.int (p : Int)), .list [], .lst (s5 _ _ hq) (reps_path path), .lst h05 .nil, shaped_path path, rfl, _, rfl, ?_⟩
          rw [eqv_path]
          refine iteND (fun hne => ?_) (fun hnil => ?_)
          · obtain ⟨_, sz', wd', out', bd', hpa⟩ := hp.resolve_left fun z => hne z.1
            refine ⟨_, rfl, line_le (by simp), fun z1 hz1 => ?_⟩
            have s6 : Same H5 (upd H5 z1 (.lst [.int (i : Int)])) := same_new hz1
            have h16 : upd H5 z1 (.lst [.int (i : Int)]) z1 = some (.lst [.int (i : Int)]) := upd_same
            generalize upd H5 z1 (.lst [.int (i : Int)]) = H6 at s6 h16 ⊢
            refine ⟨_, rfl, z1, q, _, _, rfl, rfl, h16, (s5.trans s6) _ _ hq, line_le (by unfold pInt; rw [List.length_map]; simp; omega), fun r hr0 => ?_⟩
            refine k r (i :: path) _ (s05.trans (s6.trans (same_new hr0))) upd_same (.inr ⟨by simp, sz', wd', out', bd', ?_⟩) (by rw [List.length_cons]; omega)
            rcases path with _ | ⟨p0, r0⟩
            · exact absurd rfl hne
            · exact ⟨n, sz, wd, out, bd, he, hpa⟩
          · have hn : N ∉ nmL bd := by
              rcases hp with hp | hp
              · exact hp.2
              · exact absurd hnil hp.1
            refine ⟨_, _, _, rfl, s05, ?_⟩
            rw [tk, nmN]
            intro hm
            rcases List.mem_append.mp hm with hm | hm
            · exact nin hm
            · rcases List.mem_cons.mp hm with hm | hm
              · exact ne hm
              · exact hn hm
    · rintro σ H2 ⟨o2, o3, o4, rfl, s2, nin⟩
      rw [lx, List.take_length] at nin
      exact ⟨line_le (by simp), fun q hq => k q [] _ (s2.trans (same_new hq)) upd_same (.inl ⟨rfl, nin⟩) (Nat.zero_le _)⟩
theorem ok_path (T : Txt K mg t) : ∀ d : Nat, d ≤ 1000 → FnOk P w K mg base CX0 (d + 3) t.f_path_to t.d_path_to ["number", "body"] (sp_path d)
  | 0, h => path_step T (m := 1) h (sp' := fun _ _ _ _ => False) (FnOk.none fun _ _ _ _ h => h) fun N n sz wd out bp xs bd b H Q hbp nds lb wb dp => by
      rw [dpN] at dp
      omega
  | d + 1, h => path_step T (m := d + 2) h (ok_path T d (by omega)) fun N n sz wd out bp xs bd b H Q hbp nds lb wb dp k => by
      rw [dpN] at dp
      exact ⟨N, bp, xs, bd, b, rfl, hbp, nds, lb, wb, by omega, fun q path H' s hq hp lp => k q path H' s hq hp (by omega)⟩
/-! ### along a path -/
def sp_alongX (A : Adr) (c : Nat) : Sp := fun vs H Q E => ∃ (pl bp mv : Addr) (path : List Nat) (fr : Int) (m : Mv) (n sz wd out : Int) (bd : List Nd) (xs : List V) (l : List Nd) (b : Rd), vs = [.ref pl, .ref bp, .ref mv, .int fr] ∧ H pl = some (.lst (pInt path)) ∧ path.length ≤ c ∧ H bp = some (.tup xs) ∧ NdsAt H l xs ∧ l.length ≤ 100 ∧ PathAt path l (.loop n sz wd out bd) ∧ okL b l ∧ dpL l ≤ 40 ∧ MvAt H mv m ∧
  (∀ (t : List Nd) (q : Addr) (xs' : List V) (H' : Hp), mvP m fr path l = some t → Same H H' → H' q = some (.tup xs') → NdsAt H' t xs' → Q (.ref q) H') ∧ (mvP m fr path l = none → XE A H E)
theorem along_step (T : Txt K mg t) {c : Nat} (G_moved_along : FnOk P w K mg base (CXD P w) (90 + c) t.f_moved_along t.d_moved_along ["path", "body", "move", "fresh"] (sp_alongX t c)) : FnOk P w K mg base (CXD P w) (90 + c + 1) t.f_moved_along t.d_moved_along ["path", "body", "move", "fresh"] (sp_alongX t (c + 1)) := by
  have G_moved_at := ok_moved_at (P := P) (w := w) (base := base) T
  have G_body_of := ok_body_of (P := P) (w := w) (base := base) T
  have G_with_body := ok_with_body (P := P) (w := w) (base := base) T
  refine T.F_moved_along.okD sc_moved_along (fun vs H Q E h => ?_) (fun cdv A outer s H vs Q E hr h => ?_)
  · obtain ⟨pl, bp, mv, path, fr, m, n, sz, wd, out, bd, xs, l, b, rfl, _⟩ := h
    rfl
  · obtain ⟨pl, bp, mv, path, fr, m, n, sz, wd, out, bd, xs, l, b, rfl, hpl, lp, hbp, nds, ll, hx, wb, dp, hmv, k, xe⟩ := h
    have lx := nds.len
    refine ⟨_, (pss_cons (ps_set (i := 4) sc_moved_along.nd rfl (Or.inl rfl) (pe_ix ix_list (pv 0) pe_int (fun _ _ => rfl)))
      (pss_cons (ps_if (pt_cmpR op_eq (pe_callB call_len_seq (by rfl) T.z_len PySem.boot_len (pa_cons (pv 0) pa_nil)) pe_int (nomark _))
        (pss_one (ps_ret (pe_call G_moved_at (hr.mono (by omega)) rfl T.m_moved_at T.F_moved_at.kp T.b_moved_at .nil passD (pa_cons (pv 4) (pa_cons (pv 1) (pa_cons (pv 2) (pa_cons (pv 3) pa_nil)))))))
        pss_nil)
      (pss_cons (ps_set (i := 5) sc_moved_along.nd rfl (Or.inl rfl) (pe_ix ix_tup (pv 1) (pv 4) (fun _ _ => rfl)))
      (pss_cons (ps_set (i := 6) sc_moved_along.nd rfl (Or.inl rfl) (pe_call G_moved_along (hr.mono (by omega)) rfl T.m_moved_along T.F_moved_along.kp T.b_moved_along .nil passD (pa_cons (pe_slice sl_list (pv 0) (po_some pe_int) po_none) (pa_cons (pe_call G_body_of (hr.mono (by omega)) rfl T.m_body_of T.F_body_of.kp T.b_body_of .nil pass0 (pa_cons (pv 5) pa_nil)) (pa_cons (pv 2) (pa_cons (pv 3) pa_nil))))))
      (pss_one (ps_ret (pe_op op_catT4 (pe_op op_catT4 (pe_slice sl_tup (pv 1) po_none (po_some (pv 4))) (pe_tup (pa_cons (pe_call G_with_body (hr.mono (by omega)) rfl T.m_with_body T.F_with_body.kp T.b_with_body .nil pass0 (pa_cons (pv 5) (pa_cons (pv 6) pa_nil))) pa_nil))) (pe_slice sl_tup (pv 1) (po_some (pe_op op_add (pv 4) pe_int)) po_none)))))))), ?_⟩
    match path, hpl, lp, hx, k, xe with
    | [p], hpl, lp, hx, k, xe =>
      have hx' : l[p]? = some (.loop n sz wd out bd) := hx
      refine ⟨_, rfl, pl, _, _, _, rfl, rfl, SqL.of hpl, (show atI (pInt [p]) 0 = some (.int (p : Int)) from atI_nat (j := 0) rfl), ?_⟩
      refine ⟨_, rfl, pl, _, rfl, .inl (SqL.of hpl), rfl, _, rfl, iteYes' (by show decide (V.int ((1 : Nat) : Int) = V.int 1) = true; decide) ?_⟩
      refine ⟨_, rfl, _, rfl, _, rfl, _, rfl, p, bp, mv, fr, m, n, sz, wd, out, bd, xs, l, b, rfl, hbp, nds, ll, hx', wb, dp, hmv, fun t' q xs' H' et sH hq nt => k _ q xs' H' ?_ sH hq nt, fun z => xe ?_⟩
      show (match l[p]? with | some x => (mvO m fr x (l.drop (p + 1))).map fun t => l.take p ++ t | none => none) = _
      rw [hx']
      show (mvO m fr _ (l.drop (p + 1))).map _ = _
      rw [et]
      rfl
      rw [mvP, hx']
      show (mvO m fr _ (l.drop (p + 1))).map _ = _
      rw [z]
      rfl
    | p :: q :: r, hpl, lp, hx, k, xe =>
      obtain ⟨n1, sz1, wd1, out1, bd1, e1, hq⟩ := hx
      have hp : p < l.length := (List.getElem?_eq_some_iff.mp e1).1
      have prs := nds_pair.mp nds
      have hxi : xs[p]? = some (xs[p]'(by omega)) := List.getElem?_eq_getElem _
      obtain ⟨x', hx', na⟩ := pget prs hxi
      rw [e1] at hx'
      cases hx'
      generalize xs[p]'(by omega) = v at hxi na
      rw [NdAt] at na
      obtain ⟨bb, pp, xs1, rfl, hbb, hpp, nds1⟩ := na
      have ec := cut_at e1
      have wb0 := wb
      rw [ec, okL_app, okL, okN] at wb0
      obtain ⟨_, ⟨_, _, _, _, _, wbd, lbd⟩, _⟩ := wb0
      have dp0 := dp
      rw [ec, dpL_mid, dpN] at dp0
      have dp1 : dpL bd1 ≤ 40 := by omega
      clear dp0
      refine ⟨_, rfl, pl, _, _, _, rfl, rfl, SqL.of hpl, (show atI (pInt (p :: q :: r)) 0 = some (.int (p : Int)) from atI_nat (j := 0) rfl), ?_⟩
      refine ⟨_, rfl, pl, _, rfl, .inl (SqL.of hpl), rfl, _, rfl, iteNo' (by
        apply decide_eq_false
        intro z
        injection z with z
        simp [pInt] at z
        omega) ?_⟩
      refine ⟨_, rfl, _, rfl, bp, _, _, _, rfl, rfl, SqT.of hbp, atI_nat hxi, ?_⟩
      refine ⟨_, rfl, _, rfl, pl, _, rfl, SqL.of hpl, fun sl hsl => ?_⟩
      have ed : cutV (pInt (p :: q :: r)) (some 1) none = pInt (q :: r) := (cutV_drop (p := 1) (by simp [pInt])).trans rfl
      rw [ed]
      have u1 : Same H (upd H sl (.lst (pInt (q :: r)))) := same_new hsl
      have hs1 : upd H sl (.lst (pInt (q :: r))) sl = some (.lst (pInt (q :: r))) := upd_same
      generalize upd H sl (.lst (pInt (q :: r))) = H1 at u1 hs1 ⊢
      refine ⟨_, rfl, bb, pp, _, _, _, _, _, rfl, u1 _ _ hbb, _, rfl, _, rfl, sl, pp, mv, q :: r, fr, m, n, sz, wd, out, bd, xs1, bd1, _, rfl, hs1, by simp at lp ⊢; omega, u1 _ _ hpp, nds1.kt (KT.same u1), lbd, hq, wbd, dp1, hmv.same u1, fun t1 q1 xs' H2 et u2 hq1 nt => ?_, fun z => XE.go (xe (by rw [mvP, e1]; show (mvP m fr (q :: r) bd1).map _ = _; rw [z]; rfl)) u1⟩
      have u12 := u1.trans u2
      refine ⟨_, rfl, _, rfl, _, rfl, bp, xs, rfl, SqT.of (u12 _ _ hbp), ?_, fun hd hhd => ?_⟩
      · rintro ⟨_, h2⟩
        have h2 : HT.sIx xs.length xs.length (some (p : Int)) = xs.length := h2
        rw [HT.sIx_nat] at h2
        omega
      rw [cutV_take (by omega)]
      have u3 : Same H2 (upd H2 hd (.tup (xs.take p))) := same_new hhd
      have hd3 : upd H2 hd (.tup (xs.take p)) hd = some (.tup (xs.take p)) := upd_same
      generalize upd H2 hd (.tup (xs.take p)) = H3 at u3 hd3 ⊢
      have u13 := u12.trans u3
      refine ⟨_, rfl, _, rfl, bb, _, _, _, _, _, _, _, rfl, u13 _ _ hbb, fun nb hnb => ⟨line_le (by simp), fun z hz => ?_⟩⟩
      have u4 : Same H3 (upd H3 nb (.tup [.str "loop", .int n1, .int sz1, .int wd1, .int out1, .ref q1])) := same_new hnb
      have hn4 : upd H3 nb (.tup [.str "loop", .int n1, .int sz1, .int wd1, .int out1, .ref q1]) nb = some (.tup [.str "loop", .int n1, .int sz1, .int wd1, .int out1, .ref q1]) := upd_same
      generalize upd H3 nb (.tup [.str "loop", .int n1, .int sz1, .int wd1, .int out1, .ref q1]) = H4 at u4 hn4 hz ⊢
      have u5 : Same H4 (upd H4 z (.tup [.ref nb])) := same_new hz
      have hz5 : upd H4 z (.tup [.ref nb]) z = some (.tup [.ref nb]) := upd_same
      generalize upd H4 z (.tup [.ref nb]) = H5 at u5 hz5 ⊢
      refine ⟨hd, z, _, _, rfl, rfl, (u4.trans u5) _ _ hd3, hz5, line_le (by rw [List.length_take]; simp; omega), fun q6 H6 u6 hq6 => ?_⟩
      have u16 := u13.trans (u4.trans (u5.trans u6))
      refine ⟨_, rfl, _, rfl, _, _, rfl, rfl, _, rfl, bp, xs, rfl, SqT.of (u16 _ _ hbp), ?_, fun bt hbt => ?_⟩
      · rintro ⟨h1, _⟩
        have e : ((p : Int) + 1) = ((p + 1 : Nat) : Int) := by omega
        have h1 : HT.sIx xs.length 0 (some ((p : Int) + 1)) = 0 := h1
        rw [e, HT.sIx_nat] at h1
        omega
      have ed2 : cutV xs (some ((p : Int) + 1)) none = xs.drop (p + 1) := by
        rw [show ((p : Int) + 1) = ((p + 1 : Nat) : Int) by omega]
        exact cutV_drop (by omega)
      rw [show cutV xs (some ((p : Int) + 1)) none = xs.drop (p + 1) from ed2]
      have u7 : Same H6 (upd H6 bt (.tup (xs.drop (p + 1)))) := same_new hbt
      have hb7 : upd H6 bt (.tup (xs.drop (p + 1))) bt = some (.tup (xs.drop (p + 1))) := upd_same
      generalize upd H6 bt (.tup (xs.drop (p + 1))) = H7 at u7 hb7 ⊢
      refine ⟨q6, bt, _, _, rfl, rfl, u7 _ _ hq6, hb7, line_le (by rw [List.length_append, List.length_take, List.length_drop]; simp; omega), fun q8 H8 u8 hq8 => ?_⟩
      have u18 := u16.trans (u7.trans u8)
      refine k (l.take p ++ .loop n1 sz1 wd1 out1 t1 :: l.drop (p + 1)) q8 _ H8 ?_ u18 hq8 ?_
      · show (match l[p]? with | some (Nd.loop n sz wd out bd) => (mvP m fr (q :: r) bd).map fun bd' => l.take p ++ Nd.loop n sz wd out bd' :: l.drop (p + 1) | _ => none) = _
        rw [e1]
        show (mvP m fr (q :: r) bd1).map _ = _
        rw [et]
        rfl
      · rw [List.append_assoc]
        have w8 := u5.trans (u6.trans (u7.trans u8))
        have nn : NdAt H8 (.loop n1 sz1 wd1 out1 t1) (.ref nb) := by
          rw [NdAt]
          exact ⟨nb, q1, xs', rfl, w8 _ _ hn4, (u3.trans (u4.trans w8)) _ _ hq1, nt.kt (KT.same (u3.trans (u4.trans w8)))⟩
        exact nds_app ((nds_take nds p).kt (KT.same u18)) (nds_pair.mpr (.cons nn (nds_pair.mp ((nds_drop nds (p + 1)).kt (KT.same u18)))))
theorem ok_along (T : Txt K mg t) : ∀ c : Nat, FnOk P w K mg base (CXD P w) (90 + c) t.f_moved_along t.d_moved_along ["path", "body", "move", "fresh"] (sp_alongX t c)
  | 0 => FnOk.none fun vs H Q E h => by
    obtain ⟨pl, bp, mv, path, fr, m, n, sz, wd, out, bd, xs, l, b, rfl, _, lp, _, _, _, hx, _⟩ := h
    cases path with
    | nil => exact hx
    | cons a r => simp at lp
  | c + 1 => along_step T (ok_along T c)
def sp_movedX (A : Adr) : Sp := fun vs H Q E => ∃ (q tp mv : Addr) (fr : Int) (m : Mv) (xs : List V) (l : List Nd), vs = [.ref q, .ref mv] ∧ H q = some (.tup [.int fr, .ref tp]) ∧ H tp = some (.tup xs) ∧ NdsAt H l xs ∧ l.length ≤ 100 ∧ okL [] l ∧ dpL l ≤ 39 ∧ MvAt H mv m ∧
  (∀ (path : List Nat) (t : List Nd) (sz wd out : Int) (bd : List Nd) (r tp' : Addr) (xs' : List V) (H' : Hp), PathAt path l (.loop m.num sz wd out bd) → mvP m fr path l = some t → Same H H' → H' r = some (.tup [.int (fr + m.took), .ref tp']) → H' tp' = some (.tup xs') → NdsAt H' t xs' → Q (.ref r) H') ∧ ((m.num ∉ nmL l ∨ ∃ (path : List Nat) (sz wd out : Int) (bd : List Nd), PathAt path l (.loop m.num sz wd out bd) ∧ mvP m fr path l = none) → XE A H E)
theorem ok_moved (T : Txt K mg t) : FnOk P w K mg base (CXD P w) 131 t.f_moved t.d_moved ["nest", "move"] (sp_movedX t) := by
  have G_NoMove_init := ok_NoMove_init (P := P) (w := w) (base := base) T
  have G_path_to := ok_path (P := P) (w := w) (base := base) T 40 (by decide)
  have G_moved_along := ok_along (P := P) (w := w) (base := base) T 40
  refine T.F_moved.okD sc_moved (fun vs H Q E h => ?_) (fun cdv A outer s H vs Q E hr h => ?_)
  · obtain ⟨q, tp, mv, fr, m, xs, l, rfl, _⟩ := h
    rfl
  · obtain ⟨q, tp, mv, fr, m, xs, l, rfl, hq, htp, nds, ll, wb, dp, hmv, k, xe⟩ := h
    obtain ⟨wd0, rr, hw, htk⟩ := mvWord hmv
    have one : ([V.int 0] : List V).length ≤ sizeLine := line_le (by show 1 ≤ 1000000; decide)
    refine ⟨_, (pss_cons (ps_asg (pv 0) (pg_tup (n := 2) rfl (pgs_cons (pg_name (i := 2) sc_moved.nd rfl (Or.inl rfl) (Or.inl rfl)) (pgs_cons (pg_name (i := 3) sc_moved.nd rfl (Or.inl rfl) (Or.inl rfl)) pgs_nil))))
      (pss_cons (ps_set (i := 4) sc_moved.nd rfl (Or.inl rfl) (pe_call G_path_to (hr.mono (by omega)) rfl T.m_path_to T.F_path_to.kp T.b_path_to .nil pass0 (pa_cons (pe_ix ix_tup (pv 1) pe_int (fun _ _ => rfl)) (pa_cons (pv 3) pa_nil))))
      (pss_cons (ps_if (pt_cmpR (op_eqD hr.units) (pv 4) (pe_lst pa_nil) (nomark _))
        (pss_one (ps_raiseD throwDI T.mx_NoMove G_NoMove_init (hr.mono (by omega)) rfl T.m_NoMove T.b_NoMove_init .nil pass0 rfl rfl (pa_cons pe_int pa_nil)))
        pss_nil)
      (pss_cons (ps_set (i := 5) sc_moved.nd rfl (Or.inl rfl) (pe_ifExp (pt_cmpR op_eq (pe_ix ix_tup (pv 1) pe_int (fun _ _ => rfl)) pe_str (nomark _)) pe_int pe_int))
      (pss_one (ps_ret (pe_tup (pa_cons (pe_op op_add (pv 2) (pv 5)) (pa_cons (pe_call G_moved_along (hr.mono (by omega)) rfl T.m_moved_along T.F_moved_along.kp T.b_moved_along .nil passD (pa_cons (pv 4) (pa_cons (pv 3) (pa_cons (pv 1) (pa_cons (pv 2) pa_nil))))) pa_nil))))))))), ?_⟩
    refine ⟨_, rfl, q, _, rfl, SqT.of hq, rfl, _, _, rfl, _, _, rfl, rfl, ?_⟩
    refine ⟨_, rfl, mv, _, _, _, rfl, rfl, SqT.of hw, atI_nat (j := 1) rfl, _, rfl, m.num, tp, xs, l, [], rfl, htp, nds, ll, wb, by omega, fun pl path H1 u1 hpl cs lp => ?_⟩
    refine ⟨_, rfl, line_le (by simp), fun el hel => ?_⟩
    have u2 : Same H1 (upd H1 el (.lst [])) := same_new hel
    have he2 : upd H1 el (.lst []) el = some (.lst []) := upd_same
    generalize upd H1 el (.lst []) = H2 at u2 he2 ⊢
    have u12 := u1.trans u2
    refine ⟨.list (path.map fun (p : Nat) => PyData.int (p : Int)), .list [], .lst (u2 _ _ hpl) (reps_path path), .lst he2 .nil, shaped_path path, by decide +kernel, _, rfl, ?_⟩
    rcases cs with ⟨rfl, nin⟩ | ⟨ne, sz, wd, out, bd, hp⟩
    · exact iteYes' (by rw [if_neg (by decide)]; exact eqv_path []) ⟨one, no_raise (XE.go (xe (.inl nin)) u12)⟩
    · refine iteNo' (by rw [if_neg (by decide), eqv_path, decide_eq_false ne]) ?_
      refine ⟨_, rfl, mv, _, _, _, rfl, rfl, SqT.of (u12 _ _ hw), atI_nat (j := 0) rfl, rfl, _, rfl, ?_⟩
      by_cases hc : wd0 = "cut"
      · rw [hc] at htk
        refine iteYes' (by rw [hc]; exact decide_eq_true rfl) ?_
        refine ⟨_, rfl, _, rfl, _, _, rfl, rfl, _, rfl, _, rfl, _, rfl, _, rfl, pl, tp, mv, path, fr, m, m.num, sz, wd, out, bd, xs, l, [], rfl, u2 _ _ hpl, lp, u12 _ _ htp, nds.kt (KT.same u12), ll, hp, wb, by omega, hmv.same u12, fun t' q' xs' H3 et u3 hq' nt => ⟨line_le (by simp), fun r hr0 => ?_⟩, fun z => XE.go (xe (.inr ⟨path, sz, wd, out, bd, hp, z⟩)) u12⟩
        have u4 := same_new (H := H3) (o := .tup [.int (fr + 1), .ref q']) hr0
        refine k path t' sz wd out bd r q' xs' _ hp et (u12.trans (u3.trans u4)) ?_ (u4 _ _ hq') (nt.kt (KT.same u4))
        rw [htk, if_pos rfl]
        exact upd_same
      · rw [if_neg hc] at htk
        refine iteNo' (by apply decide_eq_false; intro z; injection z with z; exact hc z) ?_
        refine ⟨_, rfl, _, rfl, _, _, rfl, rfl, _, rfl, _, rfl, _, rfl, _, rfl, pl, tp, mv, path, fr, m, m.num, sz, wd, out, bd, xs, l, [], rfl, u2 _ _ hpl, lp, u12 _ _ htp, nds.kt (KT.same u12), ll, hp, wb, by omega, hmv.same u12, fun t' q' xs' H3 et u3 hq' nt => ⟨line_le (by simp), fun r hr0 => ?_⟩, fun z => XE.go (xe (.inr ⟨path, sz, wd, out, bd, hp, z⟩)) u12⟩
        have u4 := same_new (H := H3) (o := .tup [.int (fr + 0), .ref q']) hr0
        refine k path t' sz wd out bd r q' xs' _ hp et (u12.trans (u3.trans u4)) ?_ (u4 _ _ hq') (nt.kt (KT.same u4))
        rw [htk]
        exact upd_same
end
end My

set_option Elab.async false
set_option linter.all false
set_option maxRecDepth 100000
set_option maxHeartbeats 4000000
namespace My
open PySem L2
local macro_rules | `(tactic| walk_at "lk") => `(tactic| first | with_reducible exact lk0 | (refine lk1 (by decide +kernel) ?_; walk_at "lk") | rfl)
/-! ### nests as data, and their rows -/
def KB (p : Addr) (H H' : Hp) : Prop := ∀ b o, b ≠ p → H b = some o → H' b = some o
theorem KB.upd {p : Addr} {H H' : Hp} {o : HO} (k : KB p H H') : KB p H (upd H' p o) := fun b u hb e => by rw [upd_ne hb]; exact k b u hb e
theorem KB.refl {p : Addr} {H : Hp} : KB p H H := fun _ _ _ e => e
def TH (H : Hp) : Hp := fun a => match H a with | some (.tup xs) => some (.tup xs) | _ => none
theorem th_of {H : Hp} {p : Addr} {xs : List V} (e : H p = some (.tup xs)) : TH H p = some (.tup xs) := by unfold TH; rw [e]
theorem th_some {H : Hp} {p : Addr} {o : HO} (e : TH H p = some o) : ∃ xs, o = .tup xs ∧ H p = some (.tup xs) := by
  unfold TH at e
  split at e
  · rename_i xs h
    exact ⟨xs, (Option.some.inj e).symm, h⟩
  · cases e
theorem th_kt {H H' : Hp} (k : KT H H') : Same (TH H) (TH H') := fun b o e => by
  obtain ⟨xs, rfl, h⟩ := th_some e
  exact th_of (k _ _ h)
theorem th_same (H : Hp) : Same (TH H) H := fun b o e => by
  obtain ⟨xs, rfl, h⟩ := th_some e
  exact h
theorem th_sm {H H' : Hp} (s : Same H H') : Same (TH H) (TH H') := th_kt (KT.same s)
def encC (c : List Int) : PyData := .tuple (c.map PyData.int)
def loopD (n z wd out : Int) (ds : List PyData) : PyData := .tuple [.str "loop", .int n, .int z, .int wd, .int out, .tuple ds]
def deedD (n k : Int) (w : Str) (c u : List Int) : PyData := .tuple [.str "deed", .int n, .int k, .str w, encC c, encC u]
def rowL (a n z wd out : Int) : PyData := .tuple [.int a, .str "loop", .int n, .int z, .int wd, .int out]
def rowD (a n k : Int) (w : Str) (c u : List Int) : PyData := .tuple [.int a, .str "deed", .int n, .int k, .str w, encC c, encC u]
mutual
inductive Wr : Int → PyData → List PyData → Prop
  | deed (a n k : Int) (w : Str) (c u : List Int) : Wr a (deedD n k w c u) [rowD a n k w c u]
  | loop (a n z wd out : Int) (ds rs : List PyData) : WrL n ds rs → Wr a (loopD n z wd out ds) (rowL a n z wd out :: rs)
inductive WrL : Int → List PyData → List PyData → Prop
  | nil (n : Int) : WrL n [] []
  | cons (n : Int) (d : PyData) (ds r rs : List PyData) : Wr n d r → WrL n ds rs → WrL n (d :: ds) (r ++ rs)
end
theorem wrl_to {n : Int} : ∀ {ds rs : List PyData}, WrL n ds rs → ∃ RS, Paired (Wr n) ds RS ∧ RS.flatten = rs
  | [], _, h => by cases h; exact ⟨[], .nil, rfl⟩
  | d :: ds, _, h => by
    cases h with
    | cons _ _ _ r rs h1 h2 =>
      obtain ⟨RS, p, e⟩ := wrl_to h2
      exact ⟨r :: RS, .cons h1 p, by rw [List.flatten_cons, e]⟩
def NsOk (m : Nat) (ds : List PyData) : Prop := PyData.canLayAll0 ds = true ∧ PyData.depthAll ds ≤ m
theorem ints_all : ∀ xs : List Int, PyData.canLayAll0 (xs.map PyData.int) = true ∧ PyData.depthAll (xs.map PyData.int) = 0
  | [] => ⟨rfl, rfl⟩
  | x :: r => by
    obtain ⟨h1, h2⟩ := ints_all r
    refine ⟨?_, ?_⟩
    · simp [PyData.canLayAll0, PyData.canLay0, h1]
    · simp [PyData.depthAll, PyData.depth, h2]
theorem NsOk.nil (m : Nat) : NsOk m [] := ⟨rfl, by simp [PyData.depthAll]⟩
theorem NsOk.le {m m' : Nat} {ds : List PyData} (h : NsOk m ds) (l : m ≤ m') : NsOk m' ds := ⟨h.1, by have := h.2; omega⟩
theorem NsOk.app {m : Nat} : ∀ {ds es : List PyData}, NsOk m ds → NsOk m es → NsOk m (ds ++ es)
  | [], es, _, g => g
  | d :: ds, es, h, g => by
    obtain ⟨h1, h2⟩ := h
    simp only [PyData.canLayAll0, Bool.and_eq_true] at h1
    simp only [PyData.depthAll] at h2
    have ih := NsOk.app (m := m) (ds := ds) (es := es) ⟨h1.2, by omega⟩ g
    refine ⟨?_, ?_⟩
    · show PyData.canLayAll0 (d :: (ds ++ es)) = true
      simp only [PyData.canLayAll0, h1.1, ih.1, Bool.and_self]
    · show PyData.depthAll (d :: (ds ++ es)) ≤ m
      have := ih.2
      simp only [PyData.depthAll]
      omega
theorem NsOk.cons {m : Nat} {d : PyData} {ds : List PyData} (h : NsOk m [d]) (g : NsOk m ds) : NsOk m (d :: ds) := NsOk.app h g
theorem NsOk.hd {m : Nat} {d : PyData} {ds : List PyData} (h : NsOk m (d :: ds)) : NsOk m [d] := by
  obtain ⟨h1, h2⟩ := h
  simp only [PyData.canLayAll0, Bool.and_eq_true] at h1
  simp only [PyData.depthAll] at h2
  refine ⟨?_, ?_⟩
  · simp [PyData.canLayAll0, h1.1]
  · simp only [PyData.depthAll]; omega
theorem NsOk.tl {m : Nat} {d : PyData} {ds : List PyData} (h : NsOk m (d :: ds)) : NsOk m ds := by
  obtain ⟨h1, h2⟩ := h
  simp only [PyData.canLayAll0, Bool.and_eq_true] at h1
  simp only [PyData.depthAll] at h2
  exact ⟨h1.2, by omega⟩
theorem nsok_loop {m : Nat} {n z wd out : Int} {ds : List PyData} (h : NsOk m ds) : NsOk (m + 2) [loopD n z wd out ds] := by
  obtain ⟨h1, h2⟩ := h
  refine ⟨?_, ?_⟩
  · simp only [loopD, PyData.canLayAll0, PyData.canLay0, h1, Bool.and_self, Bool.and_true]
    decide +kernel
  · simp only [loopD, PyData.depthAll, PyData.depth]; omega
theorem nsok_in {m : Nat} {n z wd out : Int} {ds : List PyData} (h : NsOk m [loopD n z wd out ds]) : NsOk m ds := by
  obtain ⟨h1, h2⟩ := h
  simp only [loopD, PyData.canLayAll0, PyData.canLay0, Bool.and_eq_true] at h1
  simp only [loopD, PyData.depthAll, PyData.depth] at h2
  exact ⟨h1.1.2.2.2.2.2.1, by omega⟩
theorem nsok_deed {n k : Int} {w : Str} {c u : List Int} (hw : PyData.strOk w = true) : NsOk 2 [deedD n k w c u] := by
  obtain ⟨a1, a2⟩ := ints_all c
  obtain ⟨b1, b2⟩ := ints_all u
  refine ⟨?_, ?_⟩
  · simp only [deedD, encC, PyData.canLayAll0, PyData.canLay0, hw, a1, b1, Bool.and_self, Bool.and_true]
    decide +kernel
  · simp only [deedD, encC, PyData.depthAll, PyData.depth, a2, b2]; omega
theorem nsok_rowL (a n z wd out : Int) : NsOk 2 [rowL a n z wd out] := by
  refine ⟨?_, ?_⟩
  · simp only [rowL, PyData.canLayAll0, PyData.canLay0, Bool.and_self, Bool.and_true]
    decide +kernel
  · simp only [rowL, PyData.depthAll, PyData.depth]; omega
theorem nsok_rowD {a n k : Int} {w : Str} {c u : List Int} (hw : PyData.strOk w = true) : NsOk 2 [rowD a n k w c u] := by
  obtain ⟨a1, a2⟩ := ints_all c
  obtain ⟨b1, b2⟩ := ints_all u
  refine ⟨?_, ?_⟩
  · simp only [rowD, encC, PyData.canLayAll0, PyData.canLay0, hw, a1, b1, Bool.and_self, Bool.and_true]
    decide +kernel
  · simp only [rowD, encC, PyData.depthAll, PyData.depth, a2, b2]; omega
theorem Reps.ints {H : Hp} : ∀ xs : List Int, Reps H (xs.map V.int) (xs.map PyData.int)
  | [] => .nil
  | x :: r => .cons (.int x) (Reps.ints r)
theorem rt_ints {H : Hp} {p : Addr} {c : List Int} (e : H p = some (.tup (c.map V.int))) : Rep (TH H) (.ref p) (encC c) := .tup (th_of e) (Reps.ints c)
def sp_l_cell_at (K : PySem.W.Frag) : Sp := fun vs H Q _ => ∃ (a : Addr) (ns : List Int) (k : Int), vs = [.ref a, .int k] ∧ SqL K H a (ns.map V.int) ∧ 0 ≤ k ∧ ∀ z : Int, Q (.int z) H
def sp_l_whole : Sp := fun vs H Q _ => ∃ z : Int, vs = [.int z] ∧ Q (.bl true) H
def sp_l_wholes : Sp := fun vs H Q _ => ∃ (p : Addr) (c : List Int), vs = [.ref p] ∧ H p = some (.tup (c.map V.int)) ∧ Q (.bl true) H
def sp_l_is_node : Sp := fun vs H Q _ => ∃ (v : V) (d : PyData) (a : Int) (rs : List PyData), vs = [v] ∧ Rep (TH H) v d ∧ Wr a d rs ∧ ∀ H', Same H H' → Q (.bl true) H'
theorem rt_loop {H : Hp} {v : V} {n z wd out : Int} {ds : List PyData} (h : Rep (TH H) v (loopD n z wd out ds)) : ∃ b p xs, v = .ref b ∧ H b = some (.tup [.str "loop", .int n, .int z, .int wd, .int out, .ref p]) ∧ H p = some (.tup xs) ∧ Reps (TH H) xs ds := by
  unfold loopD at h
  cases h with
  | @tup b xs _ eb r =>
    cases r with
    | cons a1 r =>
      cases r with
      | cons a2 r =>
        cases r with
        | cons a3 r =>
          cases r with
          | cons a4 r =>
            cases r with
            | cons a5 r =>
              cases r with
              | cons a6 r =>
                cases r
                cases a1
                cases a2
                cases a3
                cases a4
                cases a5
                cases a6 with
                | @tup p ys _ ep rs => exact ⟨b, p, ys, rfl, th_same _ _ _ eb, th_same _ _ _ ep, rs⟩
theorem reps_ints {H : Hp} : ∀ {c : List Int} {xs : List V}, Reps H xs (c.map PyData.int) → xs = c.map V.int
  | [], _, r => by cases r; rfl
  | y :: ys, _, r => by
    rw [List.map_cons] at r
    cases r with
    | cons a r =>
      cases a
      rw [List.map_cons, reps_ints r]
theorem rt_C {H : Hp} {v : V} {c : List Int} (h : Rep (TH H) v (encC c)) : ∃ p, v = .ref p ∧ H p = some (.tup (c.map V.int)) := by
  unfold encC at h
  cases h with
  | @tup p xs _ e r =>
    rw [reps_ints r] at e
    exact ⟨p, rfl, th_same _ _ _ e⟩
theorem rt_deed' {H : Hp} {v : V} {n k : Int} {w : Str} {c u : List Int} (h : Rep (TH H) v (deedD n k w c u)) : ∃ b p r, v = .ref b ∧ H b = some (.tup [.str "deed", .int n, .int k, .str w, .ref p, .ref r]) ∧ H p = some (.tup (c.map V.int)) ∧ H r = some (.tup (u.map V.int)) := by
  unfold deedD at h
  cases h with
  | @tup b xs _ eb r =>
    cases r with
    | cons a1 r =>
      cases r with
      | cons a2 r =>
        cases r with
        | cons a3 r =>
          cases r with
          | cons a4 r =>
            cases r with
            | cons a5 r =>
              cases r with
              | cons a6 r =>
                cases r
                cases a1
                cases a2
                cases a3
                cases a4
                obtain ⟨p, rfl, ep⟩ := rt_C a5
                obtain ⟨q, rfl, eq⟩ := rt_C a6
                exact ⟨b, p, q, rfl, th_same _ _ _ eb, ep, eq⟩
section
variable {P : Program} {w : World} {K : PySem.W.Frag} {mg : Str → Option Value} {base : Heap} {t : Adr}
theorem ok_l_cell_at (T : Txt K mg t) : FnOk P w K mg base CX0 1 t.f_l_cell_at t.d_l_cell_at ["_law_script", "_law_k"] (sp_l_cell_at K) := by
  refine T.F_l_cell_at.ok sc_l_cell_at (fun vs H Q E h => ?_) (fun cdv A outer s H vs Q E hr h => ?_)
  · obtain ⟨a, ns, k, rfl, _⟩ := h
    rfl
  · obtain ⟨a, ns, k, rfl, hS, k0, q⟩ := h
    refine ⟨_, (pss_cons (ps_if (pt_cmpR op_lt (pv 1) (pe_callB call_len_seq (by rfl) T.z_len PySem.boot_len (pa_cons (pv 0) pa_nil)) (nomark _))
        (pss_one (ps_ret (pe_ix ix_list (pv 0) (pv 1) (fun _ _ => rfl))))
        pss_nil)
      (pss_one (ps_ret pe_int))), ?_⟩
    refine ⟨_, rfl, _, rfl, a, _, rfl, .inl hS, _, _, rfl, rfl, _, rfl, ?_⟩
    refine iteD (fun hk => ?_) (fun _ => q 0)
    obtain ⟨z, _, e⟩ := at_mapV (f := V.int) (xs := ns) k0 (by simpa using hk)
    exact ⟨_, rfl, _, rfl, a, _, _, _, rfl, rfl, hS, e, q _⟩
theorem okH_l_whole (T : Txt K mg t) : FnOkH P w K mg base CX0 1 t.f_l_whole t.d_l_whole ["_law_found"] sp_l_whole := by
  refine T.F_l_whole.okH sc_l_whole (fun vs H Q E h => ?_) (fun cdv A outer s H vs Q E hr h => ?_)
  · obtain ⟨z, rfl, _⟩ := h
    rfl
  · obtain ⟨z, rfl, q⟩ := h
    refine ⟨_, (pss_one (ps_ret (pe_and (pe_callB call_isinst (by rfl) T.z_isinstance PyProof.Rows.boot_isinstance (pa_cons (pv 0) (pa_cons (pe_bltn (v := V.ty "int") rfl T.z_int PyProof.Rows.boot_int rfl) pa_nil))) (pe_one (pe_not (pe_callB call_isinst (by rfl) T.z_isinstance PyProof.Rows.boot_isinstance (pa_cons (pv 0) (pa_cons (pe_bltn (v := V.ty "bool") rfl T.z_bool PyProof.Rows.boot_bool rfl) pa_nil)))))))), ?_⟩
    refine ⟨_, rfl, _, _, _, _, rfl, TyOf.int z, isi_same "int", true, rfl, iteT ?_⟩
    exact ⟨_, rfl, _, _, _, _, rfl, TyOf.int z, isi_by (by decide +kernel) (by decide +kernel) (by decide +kernel), false, rfl, q⟩
theorem ok_l_whole (T : Txt K mg t) : FnOk P w K mg base CX0 1 t.f_l_whole t.d_l_whole ["_law_found"] sp_l_whole := (okH_l_whole T).ok
theorem ok_l_wholes (T : Txt K mg t) : FnOk P w K mg base CX0 2 t.f_l_wholes t.d_l_wholes ["_law_found"] sp_l_wholes := by
  have G_l_whole := ok_l_whole (P := P) (w := w) (base := base) T
  refine T.F_l_wholes.ok sc_l_wholes (fun vs H Q E h => ?_) (fun cdv A outer s H vs Q E hr h => ?_)
  · obtain ⟨p, c, rfl, _⟩ := h
    rfl
  · obtain ⟨p, c, rfl, hp, q⟩ := h
    refine ⟨_, (pss_cons (ps_if (pt_not (pt_val (pe_callB call_isinst (by rfl) T.z_isinstance PyProof.Rows.boot_isinstance (pa_cons (pv 0) (pa_cons (pe_bltn (v := V.ty "tuple") rfl T.z_tuple PyProof.Rows.boot_tuple rfl) pa_nil)))))
        (pss_one (ps_ret pe_bl))
        pss_nil)
      (pss_cons (ps_for PassesOwn.never rfl (pi_tup (pv 0)) (pg_name (i := 1) sc_l_wholes.nd rfl (Or.inl rfl) (Or.inl rfl))
        (pss_one (ps_if (pt_not (pt_val (pe_call G_l_whole (hr.mono (by omega)) rfl T.m_l_whole T.F_l_whole.kp T.b_l_whole .nil pass0 (pa_cons (pv 1) pa_nil))))
          (pss_one (ps_ret pe_bl))
          pss_nil)))
      (pss_one (ps_ret pe_bl)))), ?_⟩
    refine ⟨_, rfl, _, _, _, _, rfl, .tup hp, isi_same "tuple", true, rfl, iteF ?_⟩
    refine ⟨_, rfl, p, rfl, ⟨_, SqT.of hp⟩, ?_⟩
    refine for_tup (K := K) (a := p) (xs := c.map V.int) (fun i σ H2 => ∃ o1 : Option V, σ = [some (.ref p), o1] ∧ H2 = H) ⟨none, rfl, rfl⟩ (fun i σ H2 _ ⟨_, _, e⟩ => by subst e; exact SqT.of hp) ?_ ?_
    · rintro i x σ H2 hx ⟨o1, rfl, rfl⟩
      obtain ⟨z, _, rfl⟩ := get_map hx
      exact ⟨_, rfl, z, rfl, true, rfl, iteF ⟨_, rfl, rfl⟩⟩
    · rintro σ H2 ⟨o1, rfl, rfl⟩
      exact q
theorem ok_l_is_node (T : Txt K mg t) : FnOk P w K mg base CX0 3 t.f_l_is_node t.d_l_is_node ["_law_node"] sp_l_is_node := by
  have G_l_wholes := ok_l_wholes (P := P) (w := w) (base := base) T
  refine T.F_l_is_node.ok sc_l_is_node (fun vs H Q E h => ?_) (fun cdv A outer s H vs Q E hr h => ?_)
  · obtain ⟨v, d, a, rs, rfl, _⟩ := h
    rfl
  · obtain ⟨v, d, a, rs, rfl, rp, wr, k⟩ := h
    refine ⟨_, (pss_cons (ps_if (PW.pt (pw_or (pt_not (pt_val (pe_callB call_isinst (by rfl) T.z_isinstance PyProof.Rows.boot_isinstance (pa_cons (pv 0) (pa_cons (pe_bltn (v := V.ty "tuple") rfl T.z_tuple PyProof.Rows.boot_tuple rfl) pa_nil))))) (pw_or (pt_cmpR op_ne (pe_callB call_len_seq (by rfl) T.z_len PySem.boot_len (pa_cons (pv 0) pa_nil)) pe_int (nomark _)) (pw_or1 (pt_not (pt_val (pe_callB call_isinst (by rfl) T.z_isinstance PyProof.Rows.boot_isinstance (pa_cons (pe_ix ix_tup (pv 0) pe_int (fun _ _ => rfl)) (pa_cons (pe_bltn (v := V.ty "str") rfl T.z_str PyProof.Rows.boot_str rfl) pa_nil)))))))))
        (pss_one (ps_ret pe_bl))
        pss_nil)
      (pss_cons (ps_if (pt_cmpR op_eq (pe_ix ix_tup (pv 0) pe_int (fun _ _ => rfl)) pe_str (nomark _))
        (pss_one (ps_ret (pe_and (pe_call G_l_wholes (hr.mono (by omega)) rfl T.m_l_wholes T.F_l_wholes.kp T.b_l_wholes .nil pass0 (pa_cons (pe_slice sl_tup (pv 0) (po_some pe_int) (po_some pe_int)) pa_nil)) (pe_one (pe_callB call_isinst (by rfl) T.z_isinstance PyProof.Rows.boot_isinstance (pa_cons (pe_ix ix_tup (pv 0) pe_int (fun _ _ => rfl)) (pa_cons (pe_bltn (v := V.ty "tuple") rfl T.z_tuple PyProof.Rows.boot_tuple rfl) pa_nil)))))))
        pss_nil)
      (pss_cons (ps_if (PW.pt (pw_or (pt_not (pt_val (pe_call G_l_wholes (hr.mono (by omega)) rfl T.m_l_wholes T.F_l_wholes.kp T.b_l_wholes .nil pass0 (pa_cons (pe_slice sl_tup (pv 0) (po_some pe_int) (po_some pe_int)) pa_nil)))) (pw_or1 (pt_not (pt_val (pe_callB call_isinst (by rfl) T.z_isinstance PyProof.Rows.boot_isinstance (pa_cons (pe_ix ix_tup (pv 0) pe_int (fun _ _ => rfl)) (pa_cons (pe_bltn (v := V.ty "str") rfl T.z_str PyProof.Rows.boot_str rfl) pa_nil))))))))
        (pss_one (ps_ret pe_bl))
        pss_nil)
      (pss_one (ps_ret (pe_and (pe_call G_l_wholes (hr.mono (by omega)) rfl T.m_l_wholes T.F_l_wholes.kp T.b_l_wholes .nil pass0 (pa_cons (pe_ix ix_tup (pv 0) pe_int (fun _ _ => rfl)) pa_nil)) (pe_one (pe_call G_l_wholes (hr.mono (by omega)) rfl T.m_l_wholes T.F_l_wholes.kp T.b_l_wholes .nil pass0 (pa_cons (pe_ix ix_tup (pv 0) pe_int (fun _ _ => rfl)) pa_nil))))))))), ?_⟩
    cases wr with
    | deed a n kk w' c u =>
      obtain ⟨b, p, r, rfl, hb, hp, hr'⟩ := rt_deed' rp
      refine ⟨_, rfl, _, _, _, _, rfl, .tup hb, isi_same "tuple", true, rfl, iteF ?_⟩
      refine ⟨_, rfl, b, _, rfl, .inr (SqT.of hb), rfl, _, rfl, iteNS rfl ?_⟩
      refine ⟨_, rfl, b, _, _, _, rfl, rfl, SqT.of hb, atI_nat (j := 0) rfl, _, _, _, _, rfl, .str _, isi_same "str", true, rfl, iteF ?_⟩
      refine ⟨_, rfl, b, _, _, _, rfl, rfl, SqT.of hb, atI_nat (j := 0) rfl, rfl, _, rfl, ?_⟩
      refine iteD (fun z => absurd z (by decide +kernel)) fun _ => ?_
      refine ⟨_, rfl, _, rfl, _, rfl, b, _, rfl, SqT.of hb, (by show ¬ (HT.sIx 6 0 (some 1) = 0 ∧ HT.sIx 6 6 (some 3) = 6); decide), fun q hq => ?_⟩
      have s1 : Same H (upd H q (.tup (cutV [.str "deed", .int n, .int kk, .str w', .ref p, .ref r] (some 1) (some 3)))) := same_new hq
      have hq1 : upd H q (.tup (cutV [.str "deed", .int n, .int kk, .str w', .ref p, .ref r] (some 1) (some 3))) q = some (.tup (([n, kk] : List Int).map V.int)) := upd_same
      generalize upd H q (.tup (cutV [.str "deed", .int n, .int kk, .str w', .ref p, .ref r] (some 1) (some 3))) = H1 at s1 hq1 ⊢
      refine ⟨q, _, rfl, hq1, true, rfl, iteF ?_⟩
      refine ⟨_, rfl, b, _, _, _, rfl, rfl, SqT.of (s1 _ _ hb), atI_nat (j := 3) rfl, _, _, _, _, rfl, .str _, isi_same "str", true, rfl, iteF ?_⟩
      refine ⟨_, rfl, b, _, _, _, rfl, rfl, SqT.of (s1 _ _ hb), atI_nat (j := 4) rfl, p, _, rfl, s1 _ _ hp, true, rfl, iteT ?_⟩
      exact ⟨_, rfl, b, _, _, _, rfl, rfl, SqT.of (s1 _ _ hb), atI_nat (j := 5) rfl, r, _, rfl, s1 _ _ hr', k _ s1⟩
    | loop a n z wd out ds rs' wl =>
      obtain ⟨b, p, xs, rfl, hb, hp, _⟩ := rt_loop rp
      refine ⟨_, rfl, _, _, _, _, rfl, .tup hb, isi_same "tuple", true, rfl, iteF ?_⟩
      refine ⟨_, rfl, b, _, rfl, .inr (SqT.of hb), rfl, _, rfl, iteNS rfl ?_⟩
      refine ⟨_, rfl, b, _, _, _, rfl, rfl, SqT.of hb, atI_nat (j := 0) rfl, _, _, _, _, rfl, .str _, isi_same "str", true, rfl, iteF ?_⟩
      refine ⟨_, rfl, b, _, _, _, rfl, rfl, SqT.of hb, atI_nat (j := 0) rfl, rfl, _, rfl, ?_⟩
      refine iteD (fun _ => ?_) fun z => absurd rfl z
      refine ⟨_, rfl, _, rfl, _, rfl, b, _, rfl, SqT.of hb, (by show ¬ (HT.sIx 6 0 (some 1) = 0 ∧ HT.sIx 6 6 (some 5) = 6); decide), fun q hq => ?_⟩
      have s1 : Same H (upd H q (.tup (cutV [.str "loop", .int n, .int z, .int wd, .int out, .ref p] (some 1) (some 5)))) := same_new hq
      have hq1 : upd H q (.tup (cutV [.str "loop", .int n, .int z, .int wd, .int out, .ref p] (some 1) (some 5))) q = some (.tup (([n, z, wd, out] : List Int).map V.int)) := upd_same
      generalize upd H q (.tup (cutV [.str "loop", .int n, .int z, .int wd, .int out, .ref p] (some 1) (some 5))) = H1 at s1 hq1 ⊢
      refine ⟨q, _, rfl, hq1, true, rfl, iteT ?_⟩
      exact ⟨_, rfl, b, _, _, _, rfl, rfl, SqT.of (s1 _ _ hb), atI_nat (j := 5) rfl, _, _, _, _, rfl, .tup (s1 _ _ hp), isi_same "tuple", k _ s1⟩
end
end My

set_option Elab.async false
set_option linter.all false
set_option maxRecDepth 100000
set_option maxHeartbeats 4000000
namespace My
open PySem L2
local macro_rules | `(tactic| walk_at "lk") => `(tactic| first | with_reducible exact lk0 | (refine lk1 (by decide +kernel) ?_; walk_at "lk") | rfl)
theorem pr_snoc {α β : Type} {F : α → β → Prop} : ∀ {l : List α} {x : α} {m : List β}, Paired F (l ++ [x]) m → ∃ m0 y, m = m0 ++ [y] ∧ Paired F l m0 ∧ F x y
  | [], x, _, .cons r .nil => ⟨[], _, rfl, .nil, r⟩
  | a :: l, x, _, .cons r t => by
    obtain ⟨m0, y, e, p, f⟩ := pr_snoc t
    exact ⟨_ :: m0, y, by rw [e]; rfl, .cons r p, f⟩
theorem pr_rev {α β : Type} {F : α → β → Prop} : ∀ {l : List α} {m : List β}, Paired F l m → Paired F l.reverse m.reverse
  | _, _, .nil => .nil
  | _, _, .cons r t => by
    rw [List.reverse_cons, List.reverse_cons]
    exact papp (pr_rev t) (.cons r .nil)
theorem pr_map {α β γ : Type} {F : α → β → Prop} {G : γ → β → Prop} {f : α → γ} (h : ∀ x y, F x y → G (f x) y) : ∀ {l : List α} {m : List β}, Paired F l m → Paired G (l.map f) m
  | _, _, .nil => .nil
  | _, _, .cons r t => .cons (h _ _ r) (pr_map h t)
theorem reps_snoc {H : Hp} : ∀ {ds : List PyData} {d : PyData} {vs : List V}, Reps H vs (ds ++ [d]) → ∃ vs0 v, vs = vs0 ++ [v] ∧ Reps H vs0 ds ∧ Rep H v d
  | [], d, _, .cons r .nil => ⟨[], _, rfl, .nil, r⟩
  | a :: l, d, _, .cons r t => by
    obtain ⟨m0, y, e, p, f⟩ := reps_snoc t
    exact ⟨_ :: m0, y, by rw [e]; rfl, .cons r p, f⟩
theorem NsOk.inv {m : Nat} : ∀ {ds es : List PyData}, NsOk m (ds ++ es) → NsOk m ds ∧ NsOk m es
  | [], es, h => ⟨NsOk.nil m, h⟩
  | d :: ds, es, h => by
    have h : NsOk m (d :: (ds ++ es)) := h
    obtain ⟨a, b⟩ := NsOk.inv h.tl
    exact ⟨h.hd.cons a, b⟩
theorem NsOk.rev {m : Nat} : ∀ {ds : List PyData}, NsOk m ds → NsOk m ds.reverse
  | [], h => h
  | d :: ds, h => by
    rw [List.reverse_cons]
    exact (NsOk.rev h.tl).app h.hd
/-- what waits -/
def stkP (p : Int × PyData) : PyData := .tuple [.int p.1, p.2]
theorem stk_ok {m : Nat} : ∀ {ws : List (Int × PyData)}, NsOk m (ws.map (·.2)) → NsOk (m + 1) (ws.map stkP)
  | [], _ => NsOk.nil _
  | p :: r, h => by
    have h : NsOk m (p.2 :: r.map (·.2)) := h
    have h1 := h.hd
    refine NsOk.cons ⟨?_, ?_⟩ (stk_ok h.tl)
    · have := h1.1
      simp only [PyData.canLayAll0, Bool.and_true] at this
      simp only [stkP, PyData.canLayAll0, PyData.canLay0, this, Bool.and_self, Bool.and_true]
    · have := h1.2
      simp only [PyData.depthAll] at this
      simp only [stkP, PyData.depthAll, PyData.depth]
      omega
theorem ns_shaped {m : Nat} {ds : List PyData} (h : NsOk m ds) (l : m ≤ 50) : SeqAt.shaped (.list ds) = true :=
  shaped_of (by simp only [PyData.canLay0]; exact h.1) (by have := h.2; simp only [PyData.depth]; omega)
theorem eqv_end (l : List PyData) (x : PyData) : PyData.eqv (.list (l ++ [x])) (.list []) = false := by
  cases l with
  | nil => rfl
  | cons y r => rfl
theorem wr_ne {a : Int} {d : PyData} {r : List PyData} (h : Wr a d r) : 1 ≤ r.length := by
  cases h with
  | deed => simp
  | loop => simp
theorem flat_leW {α : Type} {F : α → List PyData → Prop} (hF : ∀ x r, F x r → 1 ≤ r.length) : ∀ {l : List α} {RS : List (List PyData)}, Paired F l RS → l.length ≤ RS.flatten.length
  | _, _, .nil => by simp
  | _, _, .cons r t => by
    have := flat_leW hF t
    have := hF _ _ r
    rw [List.flatten_cons, List.length_append, List.length_cons]
    omega
def sp_l_written : Sp := fun vs H Q _ => ∃ (q tp : Addr) (n : Int) (ns : List V) (ds rs : List PyData), vs = [.ref q, .int (rs.length : Nat)] ∧ H q = some (.tup [.int n, .ref tp]) ∧ H tp = some (.tup ns) ∧ Reps (TH H) ns ds ∧ WrL (-1) ds rs ∧ NsOk 40 ds ∧ ns.length ≤ 1000 ∧ rs.length ≤ 1000 ∧
  ∀ (D : Addr) (ys : List V) (H' : Hp), H D = none → Same H H' → H' D = some (.lst ys) → Reps (TH H') ys rs → Q (.ref D) H'
/-- where the walk is -/
structure WI (H G : Hp) (D W : Addr) (rs : List PyData) (ys wv : List V) (ws : List (Int × PyData)) (RS : List (List PyData)) (dn : List PyData) : Prop where
  sm : Same H G
  hD : G D = some (.lst ys)
  rD : Reps (TH G) ys dn
  hW : G W = some (.lst wv)
  rW : Reps (TH G) wv (ws.map stkP)
  wr : Paired (fun (p : Int × PyData) r => Wr p.1 p.2 r) ws RS
  ok : NsOk 40 (ws.map (·.2))
  eq : dn ++ RS.reverse.flatten = rs
section
variable {P : Program} {w : World} {K : PySem.W.Frag} {mg : Str → Option Value} {base : Heap} {t : Adr}
theorem ok_l_written (T : Txt K mg t) : FnOk P w K mg base CX0 4 t.f_l_written t.d_l_written ["_law_found", "_law_most"] sp_l_written := by
  have G_l_whole := ok_l_whole (P := P) (w := w) (base := base) T
  have G_l_is_node := ok_l_is_node (P := P) (w := w) (base := base) T
  refine T.F_l_written.ok sc_l_written (fun vs H Q E h => ?_) (fun cdv A outer s H vs Q E hr h => ?_)
  · obtain ⟨q, tp, n, ns, ds, rs, rfl, _⟩ := h
    rfl
  · obtain ⟨q, tp, n, ns, ds, rs, rfl, hq, htp, rn, wl, nok, lns, lrs, k⟩ := h
    obtain ⟨RS0, pr0, er0⟩ := wrl_to wl
    have lds := rn.len
    refine ⟨_, (pss_cons (ps_if (PW.pt (pw_or (pt_not (pt_val (pe_callB call_isinst (by rfl) T.z_isinstance PyProof.Rows.boot_isinstance (pa_cons (pv 0) (pa_cons (pe_bltn (v := V.ty "tuple") rfl T.z_tuple PyProof.Rows.boot_tuple rfl) pa_nil))))) (pw_or1 (pt_cmpR op_ne (pe_callB call_len_seq (by rfl) T.z_len PySem.boot_len (pa_cons (pv 0) pa_nil)) pe_int (nomark _)))))
        (pss_one (ps_ret pe_non))
        pss_nil)
      (pss_cons (ps_if (PW.pt (pw_or (pt_not (pt_val (pe_call G_l_whole (hr.mono (by omega)) rfl T.m_l_whole T.F_l_whole.kp T.b_l_whole .nil pass0 (pa_cons (pe_ix ix_tup (pv 0) pe_int (fun _ _ => rfl)) pa_nil)))) (pw_or1 (pt_not (pt_val (pe_callB call_isinst (by rfl) T.z_isinstance PyProof.Rows.boot_isinstance (pa_cons (pe_ix ix_tup (pv 0) pe_int (fun _ _ => rfl)) (pa_cons (pe_bltn (v := V.ty "tuple") rfl T.z_tuple PyProof.Rows.boot_tuple rfl) pa_nil))))))))
        (pss_one (ps_ret pe_non))
        pss_nil)
      (pss_cons (ps_set (i := 2) sc_l_written.nd rfl (Or.inl rfl) (pe_lst pa_nil))
      (pss_cons (ps_setC (i₀ := 4) (N' := ["_law_node"]) (ix := (List.replicate 1 none)) sc_l_written.nd rfl (Or.inl rfl) rfl (clok_none rfl (by decide +kernel) (by decide +kernel)) (ixok_none rfl) (pi_rvt rfl T.z_reversed (pa_cons (pe_ix ix_tup (pv 0) pe_int (fun _ _ => rfl)) pa_nil)) (fun _ _ _ _ => (pg_name (i := 0) nd_comp_4 rfl (Or.inl rfl) (Or.inr rfl))) (fun _ _ _ _ => (pe_tup (pa_cons (pe_un un_neg pe_int) (pa_cons (pv 0) pa_nil)))))
      (pss_cons (ps_while PassesOwn.never (pt_cmpR (op_neD hr.units) (pv 4) (pe_lst pa_nil) (nomark _))
        (pss_cons (ps_asg (pe_bm0 PySem.F.plainAttrs_list PySem.F.slot_list_pop PySem.F.type_list_pop mt_pop (pv 4)) (pg_tup (n := 2) rfl (pgs_cons (pg_name (i := 5) sc_l_written.nd rfl (Or.inl rfl) (Or.inl rfl)) (pgs_cons (pg_name (i := 3) sc_l_written.nd rfl (Or.inl rfl) (Or.inl rfl)) pgs_nil))))
        (pss_cons (ps_if (PW.pt (pw_or (pt_not (pt_val (pe_call G_l_is_node (hr.mono (by omega)) rfl T.m_l_is_node T.F_l_is_node.kp T.b_l_is_node .nil pass0 (pa_cons (pv 3) pa_nil)))) (pw_or1 (pt_cmpR op_ge (pe_callB call_len_seq (by rfl) T.z_len PySem.boot_len (pa_cons (pv 2) pa_nil)) (pv 1) (nomark _)))))
          (pss_one (ps_ret pe_non))
          pss_nil)
        (pss_one (ps_if (pt_cmpR op_eq (pe_ix ix_tup (pv 3) pe_int (fun _ _ => rfl)) pe_str (nomark _))
          (pss_cons (ps_expr (pe_bm PySem.F.plainAttrs_list PySem.F.slot_list_append PySem.F.type_list_append mt_append (pv 2) (pa_cons (pe_op op_catT2 (pe_tup (pa_cons (pv 5) pa_nil)) (pe_slice sl_tup (pv 3) po_none (po_some pe_int))) pa_nil)))
          (pss_one (ps_for PassesOwn.never rfl (pi_rvt rfl T.z_reversed (pa_cons (pe_ix ix_tup (pv 3) pe_int (fun _ _ => rfl)) pa_nil)) (pg_name (i := 6) sc_l_written.nd rfl (Or.inl rfl) (Or.inl rfl))
            (pss_one (ps_expr (pe_bm PySem.F.plainAttrs_list PySem.F.slot_list_append PySem.F.type_list_append mt_append (pv 4) (pa_cons (pe_tup (pa_cons (pe_ix ix_tup (pv 3) pe_int (fun _ _ => rfl)) (pa_cons (pv 6) pa_nil))) pa_nil)))))))
          (pss_one (ps_expr (pe_bm PySem.F.plainAttrs_list PySem.F.slot_list_append PySem.F.type_list_append mt_append (pv 2) (pa_cons (pe_op op_catT2 (pe_tup (pa_cons (pv 5) pa_nil)) (pv 3)) pa_nil)))))))))
      (pss_one (ps_ret (pv 2)))))))), ?_⟩
    refine ⟨_, rfl, _, _, _, _, rfl, .tup hq, isi_same "tuple", true, rfl, iteF ?_⟩
    refine ⟨_, rfl, q, _, rfl, .inr (SqT.of hq), rfl, _, rfl, iteNS rfl ?_⟩
    refine ⟨_, rfl, q, _, _, _, rfl, rfl, SqT.of hq, atI_nat (j := 0) rfl, _, rfl, true, rfl, iteF ?_⟩
    refine ⟨_, rfl, q, _, _, _, rfl, rfl, SqT.of hq, atI_nat (j := 1) rfl, _, _, _, _, rfl, .tup htp, isi_same "tuple", true, rfl, iteF ?_⟩
    refine ⟨line_le (by simp), fun D hD => ?_⟩
    have s0 : Same H (upd H D (.lst [])) := same_new hD
    have hD0 : upd H D (.lst []) D = some (.lst []) := upd_same
    generalize upd H D (.lst []) = H0 at s0 hD0 ⊢
    refine ⟨_, rfl, q, _, _, _, rfl, rfl, SqT.of (s0 _ _ hq), atI_nat (j := 1) rfl, tp, ns, rfl, SqT.of (s0 _ _ htp), fun W hW => ?_⟩
    have W0 : H W = none := s0.free hW
    have DW : D ≠ W := ne_of_none hD0 hW
    refine comp_genQ (J := Itw K tp ns.length) (D := W) ns.length (fun i ys Hx => Same H0 Hx ∧ Hx W = some (.lst ys) ∧ Reps (TH Hx) ys ((ds.reverse.take i).map fun d => stkP (-1, d)))
      ⟨same_new hW, upd_same, .nil⟩ (fun i ys Hx hi ⟨s1, _⟩ => ⟨ns, ns[ns.length - 1 - i]'(by omega), SqT.of (s1 _ _ (s0 _ _ htp)), rfl, hi, List.getElem?_eq_getElem _⟩) (fun ys Hx _ => rfl) ?_ ?_
    · rintro i ys Hx hi ⟨s1, h1, r1⟩ x Hy ⟨rfl, hx⟩
      have hx := hx ns (SqT.of (s1 _ _ (s0 _ _ htp)))
      obtain ⟨d, hd, rx⟩ := rn.get2 hx
      have hd' : ds.reverse[i]? = some d := by rw [List.getElem?_reverse (by omega), ← lds]; exact hd
      have ly := r1.len
      rw [List.length_map, List.length_take, List.length_reverse] at ly
      refine ⟨True.intro, _, rfl, _, rfl, line_le (by simp), fun p hp => ?_⟩
      have t1 : Same Hy (upd Hy p (.tup [.int (-1), x])) := same_new hp
      have hp1 : upd Hy p (.tup [.int (-1), x]) p = some (.tup [.int (-1), x]) := upd_same
      refine ⟨t1 _ _ h1, line_lt (by omega), same_fresh (s1.trans t1) hW, upd_same, ?_⟩
      have kt : KT (upd Hy p (.tup [.int (-1), x])) (upd (upd Hy p (.tup [.int (-1), x])) W (.lst (ys ++ [.ref p]))) := KT.at (t1 _ _ h1) (by intro xs z; cases z)
      rw [List.take_add_one, hd', Option.toList_some, List.map_append]
      refine (r1.same ((th_sm t1).trans (th_kt kt))).snoc ?_
      exact .tup (th_of (kt _ _ hp1)) (.cons (.int _) (.cons (rx.same ((th_sm (s0.trans s1)).trans ((th_sm t1).trans (th_kt kt)))) .nil))
    rintro wv0 H1 ⟨s1, h1, r1⟩
    rw [lds, ← List.length_reverse, List.take_length] at r1
    have e0 : (ds.reverse.map fun d => stkP (-1, d)) = (ds.reverse.map fun d => ((-1 : Int), d)).map stkP := by rw [List.map_map]; rfl
    rw [e0] at r1
    refine ⟨fun m σ G => ∃ (o3 o5 o6 : Option V) (ys wv : List V) (ws : List (Int × PyData)) (RS : List (List PyData)) (dn : List PyData), σ = [some (.ref q), some (.int (rs.length : Nat)), some (.ref D), o3, some (.ref W), o5, o6] ∧ WI H G D W rs ys wv ws RS dn ∧ m = RS.flatten.length,
      ⟨_, none, none, none, [], wv0, ds.reverse.map fun d => ((-1 : Int), d), RS0.reverse, [], rfl, ⟨s0.trans s1, s1 _ _ hD0, .nil, h1, r1, pr_map (G := fun (p : Int × PyData) r => Wr p.1 p.2 r) (f := fun d => ((-1 : Int), d)) (fun _ _ z => z) (pr_rev pr0), ?_, ?_⟩, rfl⟩, ?_⟩
    · rw [List.map_map]
      have : ((fun (p : Int × PyData) => p.2) ∘ fun d => ((-1 : Int), d)) = id := rfl
      rw [this, List.map_id]
      exact nok.rev
    · rw [List.reverse_reverse, List.nil_append]
      exact er0
    rintro m σ G ⟨o3, o5, o6, ys, wv, ws, RS, dn, rfl, I, rfl⟩
    refine ⟨_, rfl, line_le (by simp), fun z hz => ?_⟩
    have t1 : Same G (upd G z (.lst [])) := same_new hz
    have hz1 : upd G z (.lst []) z = some (.lst []) := upd_same
    generalize upd G z (.lst []) = G1 at t1 hz1 ⊢
    have shp := ns_shaped (stk_ok I.ok) (by omega)
    refine ⟨.list (ws.map stkP), .list [], .lst (t1 _ _ I.hW) ((I.rW.same (th_sm t1)).same (th_same _)), .lst hz1 .nil, shp, rfl, _, rfl, ?_⟩
    have lys := I.rD.len
    have lwv := I.rW.len
    rw [List.length_map] at lwv
    have lfl := flat_leW (fun _ _ h => wr_ne h) I.wr
    have leq := congrArg List.length I.eq
    rw [List.length_append] at leq
    have lrv : RS.reverse.flatten.length = RS.flatten.length := by
      rw [List.length_flatten, List.length_flatten, List.map_reverse, List.sum_reverse]
    rcases List.eq_nil_or_concat ws with e | ⟨ws0, p, e⟩
    · subst e
      have := I.wr
      cases this
      have ed : dn = rs := by have := I.eq; simpa using this
      refine iteF ⟨_, rfl, k D ys G1 hD (I.sm.trans t1) (t1 _ _ I.hD) ?_⟩
      rw [← ed]
      exact I.rD.same (th_sm t1)
    rw [List.concat_eq_append] at e
    subst e
    obtain ⟨a, d⟩ := p
    obtain ⟨RSa, r, rfl, pw, wr⟩ := pr_snoc I.wr
    have rW := I.rW
    rw [List.map_append] at rW
    obtain ⟨wv0', v, rfl, rW0, rv⟩ := reps_snoc (d := stkP (a, d)) rW
    have okw := I.ok
    rw [List.map_append] at okw
    obtain ⟨ok0, ok1⟩ := NsOk.inv okw
    have ok1 : NsOk 40 [d] := ok1
    have ev : PyData.eqv (.list ((ws0 ++ [(a, d)]).map stkP)) (.list []) = false := by rw [List.map_append]; exact eqv_end _ _
    rw [ev]
    refine iteT ⟨fun σ' G' => ∃ m', m' < (RSa ++ [r]).flatten.length ∧ ∃ (o3 o5 o6 : Option V) (ys wv : List V) (ws : List (Int × PyData)) (RS : List (List PyData)) (dn : List PyData), σ' = [some (.ref q), some (.int (rs.length : Nat)), some (.ref D), o3, some (.ref W), o5, o6] ∧ WI H G' D W rs ys wv ws RS dn ∧ m' = RS.flatten.length, fun σ' G' h => h, ?_⟩
    have lr := wr_ne wr
    have fl : (RSa ++ [r]).flatten.length = RSa.flatten.length + r.length := by rw [List.flatten_append, List.length_append]; simp
    -- pop
    obtain ⟨b, eb, x, hb, rd⟩ : ∃ b, v = .ref b ∧ ∃ x, G b = some (.tup [.int a, x]) ∧ Rep (TH G) x d := by
      unfold stkP at rv
      cases rv with
      | @tup b xs _ eb r =>
        cases r with
        | cons a1 r =>
          cases r with
          | cons a2 r =>
            cases r
            cases a1
            exact ⟨b, rfl, _, th_same _ _ _ eb, a2⟩
    subst eb
    refine ⟨_, rfl, .inl ⟨rfl, _, SqL.of (t1 _ _ I.hW)⟩, W, _, .ref b, rfl, rfl, t1 _ _ I.hW, (by rw [List.length_append, List.length_singleton, Nat.add_sub_cancel, List.getElem?_append_right (Nat.le_refl _), Nat.sub_self]; rfl), ?_⟩
    rw [List.dropLast_concat]
    have k1 : KB W G1 (upd G1 W (.lst wv0')) := KB.refl.upd
    have kt1 : KT G1 (upd G1 W (.lst wv0')) := KT.at (t1 _ _ I.hW) (by intro xs z; cases z)
    have hW2 : upd G1 W (.lst wv0') W = some (.lst wv0') := upd_same
    have sm2 : Same H (upd G1 W (.lst wv0')) := same_fresh (I.sm.trans t1) W0
    generalize upd G1 W (.lst wv0') = G2 at k1 kt1 hW2 sm2 ⊢
    have th2 : Same (TH G) (TH G2) := (th_sm t1).trans (th_kt kt1)
    have hD2 := k1 _ _ DW (t1 _ _ I.hD)
    have hb2 := kt1 _ _ (t1 _ _ hb)
    have rd2 := rd.same th2
    refine ⟨b, _, rfl, SqT.of hb2, rfl, _, _, rfl, _, _, rfl, rfl, ?_⟩
    refine ⟨_, rfl, x, d, a, r, rfl, rd2, wr, fun G3 s3 => ⟨true, rfl, iteF ?_⟩⟩
    have th3 : Same (TH G) (TH G3) := th2.trans (th_sm s3)
    have hD3 := s3 _ _ hD2
    have hW3 := s3 _ _ hW2
    have sm3 := sm2.trans s3
    have rd3 := rd.same th3
    refine ⟨_, rfl, D, _, rfl, .inl (SqL.of hD3), _, rfl, _, _, rfl, rfl, _, rfl, iteD (fun h => ?_) (fun _ => ?_)⟩
    · have h : (rs.length : Int) ≤ (ys.length : Int) := h
      omega
    have eq0 : dn ++ r ++ RSa.reverse.flatten = rs := by
      have := I.eq
      rw [List.reverse_append, List.reverse_singleton, List.flatten_append] at this
      rw [List.append_assoc]
      simpa using this
    have ly : ys.length < 1000 := by omega
    have lw0 : wv0'.length = ws0.length := by simpa using lwv
    have lfl' : ws0.length + 1 ≤ RSa.flatten.length + r.length := by rw [List.length_append, List.length_singleton, fl] at lfl; exact lfl
    have leq' : dn.length + (RSa.flatten.length + r.length) = rs.length := by rw [lrv, fl] at leq; exact leq
    cases wr with
    | deed _ n' kk w' c u =>
      obtain ⟨b', p', r', rfl, hb', hp', hr'⟩ := rt_deed' rd3
      refine ⟨_, rfl, b', _, _, _, rfl, rfl, SqT.of hb', atI_nat (j := 0) rfl, rfl, _, rfl, ?_⟩
      refine iteD (fun z => absurd z (by decide +kernel)) fun _ => ?_
      refine ⟨_, rfl, .inl ⟨rfl, _, SqL.of hD3⟩, _, rfl, line_le (by simp), fun u1 hu1 => ?_⟩
      have t4 : Same G3 (upd G3 u1 (.tup [.int a])) := same_new hu1
      have hu4 : upd G3 u1 (.tup [.int a]) u1 = some (.tup [.int a]) := upd_same
      generalize upd G3 u1 (.tup [.int a]) = G4 at t4 hu4 ⊢
      refine ⟨_, rfl, u1, b', _, _, rfl, rfl, SqT.of hu4, SqT.of (t4 _ _ hb'), by simp, line_le (by simp), (fun z => by cases z), fun _ p1 hp1 => ?_⟩
      have t5 : Same G4 (upd G4 p1 (.tup ([.int a] ++ [.str "deed", .int n', .int kk, .str w', .ref p', .ref r']))) := same_new hp1
      have hp5 : upd G4 p1 (.tup ([.int a] ++ [.str "deed", .int n', .int kk, .str w', .ref p', .ref r'])) p1 = some (.tup [.int a, .str "deed", .int n', .int kk, .str w', .ref p', .ref r']) := upd_same
      generalize upd G4 p1 (.tup ([.int a] ++ [.str "deed", .int n', .int kk, .str w', .ref p', .ref r'])) = G5 at t5 hp5 ⊢
      have t35 := t4.trans t5
      have hD5 := t35 _ _ hD3
      refine ⟨D, _, _, rfl, rfl, hD5, line_lt (by omega), ?_⟩
      have k6 : KB D G5 (upd G5 D (.lst (ys ++ [.ref p1]))) := KB.refl.upd
      have kt6 : KT G5 (upd G5 D (.lst (ys ++ [.ref p1]))) := KT.at hD5 (by intro xs z; cases z)
      have hD6 : upd G5 D (.lst (ys ++ [.ref p1])) D = some (.lst (ys ++ [.ref p1])) := upd_same
      have sm6 : Same H (upd G5 D (.lst (ys ++ [.ref p1]))) := same_fresh (sm3.trans t35) hD
      generalize upd G5 D (.lst (ys ++ [.ref p1])) = G6 at k6 kt6 hD6 sm6 ⊢
      have th6 : Same (TH G3) (TH G6) := (th_sm t35).trans (th_kt kt6)
      refine ⟨_, ?_, _, _, _, ys ++ [.ref p1], wv0', ws0, RSa, dn ++ [rowD a n' kk w' c u], rfl, ⟨sm6, hD6, ?_, k6 _ _ DW.symm (t35 _ _ hW3), rW0.same (th3.trans th6), pw, ok0, eq0⟩, rfl⟩
      · rw [fl]; omega
      · refine ((I.rD.same (th3.trans th6))).snoc ?_
        exact .tup (th_of (kt6 _ _ hp5)) (.cons (.int _) (.cons (.str _) (.cons (.int _) (.cons (.int _) (.cons (.str _) (.cons ((rt_ints hp').same th6) (.cons ((rt_ints hr').same th6) .nil)))))))
    | loop _ n' z' wd5 out5 ds5 rs5 wl5 =>
      obtain ⟨b', p', xs5, rfl, hb', hp', rx5⟩ := rt_loop rd3
      obtain ⟨RS5, pr5, er5⟩ := wrl_to wl5
      have l5 := rx5.len
      have lf5 := flat_leW (fun _ _ h => wr_ne h) pr5
      rw [er5] at lf5
      have lr5 : (rowL a n' z' wd5 out5 :: rs5).length = rs5.length + 1 := rfl
      simp only [List.length_cons] at lfl' leq'
      refine ⟨_, rfl, b', _, _, _, rfl, rfl, SqT.of hb', atI_nat (j := 0) rfl, rfl, _, rfl, ?_⟩
      refine iteD (fun _ => ?_) fun z => absurd rfl z
      refine ⟨_, rfl, .inl ⟨rfl, _, SqL.of hD3⟩, _, rfl, line_le (by simp), fun u1 hu1 => ?_⟩
      have t4 : Same G3 (upd G3 u1 (.tup [.int a])) := same_new hu1
      have hu4 : upd G3 u1 (.tup [.int a]) u1 = some (.tup [.int a]) := upd_same
      generalize upd G3 u1 (.tup [.int a]) = G4 at t4 hu4 ⊢
      refine ⟨_, rfl, _, rfl, b', _, rfl, SqT.of (t4 _ _ hb'), (by show ¬ (HT.sIx 6 0 none = 0 ∧ HT.sIx 6 6 (some 5) = 6); decide), fun q5 hq5 => ?_⟩
      have t45 : Same G4 (upd G4 q5 (.tup (cutV [.str "loop", .int n', .int z', .int wd5, .int out5, .ref p'] none (some 5)))) := same_new hq5
      have hq5' : upd G4 q5 (.tup (cutV [.str "loop", .int n', .int z', .int wd5, .int out5, .ref p'] none (some 5))) q5 = some (.tup [.str "loop", .int n', .int z', .int wd5, .int out5]) := upd_same
      generalize upd G4 q5 (.tup (cutV [.str "loop", .int n', .int z', .int wd5, .int out5, .ref p'] none (some 5))) = G4' at t45 hq5' ⊢
      refine ⟨u1, q5, _, _, rfl, rfl, SqT.of (t45 _ _ hu4), SqT.of hq5', by simp, line_le (by simp), (fun z => by cases z), fun _ p1 hp1 => ?_⟩
      have t5 : Same G4' (upd G4' p1 (.tup ([.int a] ++ [.str "loop", .int n', .int z', .int wd5, .int out5]))) := same_new hp1
      have hp5 : upd G4' p1 (.tup ([.int a] ++ [.str "loop", .int n', .int z', .int wd5, .int out5])) p1 = some (.tup [.int a, .str "loop", .int n', .int z', .int wd5, .int out5]) := upd_same
      generalize upd G4' p1 (.tup ([.int a] ++ [.str "loop", .int n', .int z', .int wd5, .int out5])) = G5 at t5 hp5 ⊢
      have t35 := t4.trans (t45.trans t5)
      have hD5 := t35 _ _ hD3
      refine ⟨D, _, _, rfl, rfl, hD5, line_lt (by omega), ?_⟩
      have k6 : KB D G5 (upd G5 D (.lst (ys ++ [.ref p1]))) := KB.refl.upd
      have kt6 : KT G5 (upd G5 D (.lst (ys ++ [.ref p1]))) := KT.at hD5 (by intro xs z; cases z)
      have hD6 : upd G5 D (.lst (ys ++ [.ref p1])) D = some (.lst (ys ++ [.ref p1])) := upd_same
      have sm6 : Same H (upd G5 D (.lst (ys ++ [.ref p1]))) := same_fresh (sm3.trans t35) hD
      generalize upd G5 D (.lst (ys ++ [.ref p1])) = G6 at k6 kt6 hD6 sm6 ⊢
      have kt36 : KT G3 G6 := (KT.same t35).trans kt6
      have th6 : Same (TH G3) (TH G6) := th_kt kt36
      have hW6 := k6 _ _ DW.symm (t35 _ _ hW3)
      have hb6 := kt36 _ _ hb'
      have hx6 := kt36 _ _ hp'
      have rD6 : Reps (TH G6) (ys ++ [.ref p1]) (dn ++ [rowL a n' z' wd5 out5]) := ((I.rD.same (th3.trans th6))).snoc (.tup (th_of (kt6 _ _ hp5)) (.cons (.int _) (.cons (.str _) (.cons (.int _) (.cons (.int _) (.cons (.int _) (.cons (.int _) .nil)))))))
      refine ⟨_, rfl, b', _, _, _, rfl, rfl, SqT.of hb6, atI_nat (j := 5) rfl, p', xs5, rfl, SqT.of hx6, ?_⟩
      refine for_rvt (K := K) (a := p') (xs := xs5) (fun i σ X => ∃ (o6 : Option V) (wv : List V), σ = [some (.ref q), some (.int (rs.length : Nat)), some (.ref D), some (.ref b'), some (.ref W), some (.int a), o6] ∧ Same H X ∧ KT G6 X ∧ X D = some (.lst (ys ++ [.ref p1])) ∧ X W = some (.lst wv) ∧ wv.length = wv0'.length + i ∧ Reps (TH X) wv ((ws0 ++ (ds5.reverse.take i).map fun d => (n', d)).map stkP))
        ⟨_, wv0', rfl, sm6, fun _ _ e => e, hD6, hW6, rfl, (by rw [List.take_zero, List.map_nil, List.append_nil]; exact rW0.same (th3.trans th6))⟩ (fun i σ X ⟨_, _, _, _, kx, _⟩ => SqT.of (kx _ _ hx6)) ?_ ?_
      · rintro i y σ X hi hy ⟨o6', wv, rfl, sx, kx, hDx, hWx, lw, rx⟩
        obtain ⟨d5, hd5, ry⟩ := rx5.get2 hy
        have hd5' : ds5.reverse[i]? = some d5 := by rw [List.getElem?_reverse (by omega), ← l5]; exact hd5
        refine ⟨_, rfl, .inl ⟨rfl, _, SqL.of hWx⟩, _, rfl, b', _, _, _, rfl, rfl, SqT.of (kx _ _ hb6), atI_nat (j := 1) rfl, _, rfl, line_le (by simp), fun u2 hu2 => ?_⟩
        have v1 : Same X (upd X u2 (.tup [.int n', y])) := same_new hu2
        have hu3 : upd X u2 (.tup [.int n', y]) u2 = some (.tup [.int n', y]) := upd_same
        generalize upd X u2 (.tup [.int n', y]) = X1 at v1 hu3 ⊢
        refine ⟨W, _, _, rfl, rfl, v1 _ _ hWx, line_lt (by omega), ?_⟩
        have kt7 : KT X1 (upd X1 W (.lst (wv ++ [.ref u2]))) := KT.at (v1 _ _ hWx) (by intro xs z; cases z)
        have thx : Same (TH X) (TH (upd X1 W (.lst (wv ++ [.ref u2])))) := (th_sm v1).trans (th_kt kt7)
        refine ⟨_, wv ++ [.ref u2], rfl, same_fresh (sx.trans v1) W0, (kx.trans (KT.same v1)).trans kt7, by rw [upd_ne DW]; exact v1 _ _ hDx, upd_same, by rw [List.length_append, List.length_singleton]; omega, ?_⟩
        have e6 : (ws0 ++ (ds5.reverse.take (i + 1)).map fun d => (n', d)).map stkP = ((ws0 ++ (ds5.reverse.take i).map fun d => (n', d)).map stkP) ++ [stkP (n', d5)] := by
          rw [List.take_add_one, hd5']
          simp
        rw [e6]
        refine (rx.same thx).snoc ?_
        exact .tup (th_of (kt7 _ _ hu3)) (.cons (.int _) (.cons (ry.same ((th6.trans (th_kt kx)).trans thx)) .nil))
      · rintro σ X ⟨o6', wv, rfl, sx, kx, hDx, hWx, lw, rx⟩
        rw [l5, ← List.length_reverse, List.take_length] at rx
        refine ⟨_, ?_, _, _, _, ys ++ [.ref p1], wv, ws0 ++ ds5.reverse.map fun d => (n', d), RSa ++ RS5.reverse, dn ++ [rowL a n' z' wd5 out5], rfl, ⟨sx, hDx, rD6.same (th_kt kx), hWx, rx, papp pw (pr_map (G := fun (p : Int × PyData) r => Wr p.1 p.2 r) (f := fun d => (n', d)) (fun _ _ z => z) (pr_rev pr5)), ?_, ?_⟩, rfl⟩
        · have e5 : RS5.reverse.flatten.length = RS5.flatten.length := by
            rw [List.length_flatten, List.length_flatten, List.map_reverse, List.sum_reverse]
          rw [fl, List.flatten_append, List.length_append, e5, er5, lr5]
          omega
        · rw [List.map_append, List.map_map]
          have : ((fun (p : Int × PyData) => p.2) ∘ fun d => (n', d)) = id := rfl
          rw [this, List.map_id]
          exact ok0.app (nsok_in ok1).rev
        · rw [List.reverse_append, List.reverse_reverse, List.flatten_append, er5, ← eq0]
          simp
end
end My

set_option Elab.async false
set_option linter.all false
set_option maxRecDepth 100000
set_option maxHeartbeats 4000000
namespace My
open PySem L2
local macro_rules | `(tactic| walk_at "lk") => `(tactic| first | with_reducible exact lk0 | (refine lk1 (by decide +kernel) ?_; walk_at "lk") | rfl)
/-! ### rows in the heap -/
def Hd.kd : Hd → Str
  | .loop .. => "loop" | .deed .. => "deed"
def RoAt (H : Hp) (v : V) : Ro → Prop
  | (a, .loop n sz wd out) => ∃ b, v = .ref b ∧ H b = some (.tup [.int a, .str "loop", .int n, .int sz, .int wd, .int out])
  | (a, .deed n k w cs us) => ∃ b c u, v = .ref b ∧ H b = some (.tup [.int a, .str "deed", .int n, .int k, .str w, .ref c, .ref u]) ∧ H c = some (.tup (cs.map V.int)) ∧ H u = some (.tup (us.map V.int))
theorem RoAt.kt {H H' : Hp} {v : V} (k : KT H H') : ∀ {r : Ro}, RoAt H v r → RoAt H' v r
  | (a, .loop n sz wd out), ⟨b, e, h⟩ => ⟨b, e, k _ _ h⟩
  | (a, .deed n kk w cs us), ⟨b, c, u, e, h1, h2, h3⟩ => ⟨b, c, u, e, k _ _ h1, k _ _ h2, k _ _ h3⟩
theorem RoAt.top {H : Hp} {v : V} : ∀ {r : Ro}, RoAt H v r → ∃ b tl, v = .ref b ∧ H b = some (.tup (.int r.1 :: .str r.2.kd :: .int r.2.num :: tl))
  | (a, .loop n sz wd out), ⟨b, e, h⟩ => ⟨b, _, e, h⟩
  | (a, .deed n kk w cs us), ⟨b, c, u, e, h1, h2, h3⟩ => ⟨b, _, e, h1⟩
abbrev RosAt (H : Hp) (xs : List V) (rs : List Ro) : Prop := Paired (RoAt H) xs rs
theorem RosAt.kt {H H' : Hp} {xs : List V} {rs : List Ro} (h : RosAt H xs rs) (k : KT H H') : RosAt H' xs rs := Paired.mapP h fun _ _ z => RoAt.kt k z
def encR : Ro → PyData
  | (a, .loop n sz wd out) => rowL a n sz wd out
  | (a, .deed n k w cs us) => rowD a n k w cs us
theorem ro_rep {H : Hp} {v : V} : ∀ {r : Ro}, RoAt H v r → Rep (TH H) v (encR r)
  | (a, .loop n sz wd out), ⟨b, e, h⟩ => by
    subst e
    exact .tup (th_of h) (.cons (.int _) (.cons (.str _) (.cons (.int _) (.cons (.int _) (.cons (.int _) (.cons (.int _) .nil))))))
  | (a, .deed n k w cs us), ⟨b, c, u, e, h1, h2, h3⟩ => by
    subst e
    exact .tup (th_of h1) (.cons (.int _) (.cons (.str _) (.cons (.int _) (.cons (.int _) (.cons (.str _) (.cons (rt_ints h2) (.cons (rt_ints h3) .nil)))))))
theorem ros_rep {H : Hp} : ∀ {xs : List V} {rs : List Ro}, RosAt H xs rs → Reps (TH H) xs (rs.map encR)
  | _, _, .nil => .nil
  | _, _, .cons r t => .cons (ro_rep r) (ros_rep t)
theorem lps_take {rs : List Ro} {i : Nat} {r : Ro} (h : rs[i]? = some r) : lps (rs.take (i + 1)) = lps (rs.take i) ++ r.2.lp := by
  rw [List.take_add_one, h, Option.toList_some, lps_app, lps_cons]
  exact congrArg _ (List.append_nil _)
theorem loopAt_here {rs : List Ro} {i : Nat} {N a sz wd out : Int} (h : rs[i]? = some (a, .loop N sz wd out)) (hn : N ∉ lps (rs.take i)) : loopAt N rs = some i := by
  obtain ⟨hl, e⟩ := List.getElem?_eq_some_iff.mp h
  have ec : rs = rs.take i ++ (a, .loop N sz wd out) :: rs.drop (i + 1) := by rw [← e, ← List.drop_eq_getElem_cons hl, List.take_append_drop]
  rw [ec]
  have := loopAt_some (a := a) (sz := sz) (wd := wd) (out := out) (b := rs.drop (i + 1)) hn
  rw [List.length_take, Nat.min_eq_left (Nat.le_of_lt hl)] at this
  exact this
def atZ : Option Nat → Int
  | none => -1 | some i => i
def sp_l_loop_at : Sp := fun vs H Q _ => ∃ (a : Addr) (xs : List V) (rs : List Ro) (N : Int), vs = [.ref a, .int N] ∧ H a = some (.lst xs) ∧ RosAt H xs rs ∧ rs.length ≤ 1000 ∧ Q (.int (atZ (loopAt N rs))) H
/-- the open heads as rows -/
def hdsR : Int → List Op → List Ro
  | _, [] => []
  | a, o :: os => (a, .loop o.n o.sz o.wd o.out) :: hdsR o.n os
theorem hdsR_len : ∀ (a : Int) (os : List Op), (hdsR a os).length = os.length
  | _, [] => rfl
  | a, o :: os => by rw [hdsR, List.length_cons, List.length_cons, hdsR_len o.n os]
theorem hdsR_snoc : ∀ (a : Int) (os : List Op) (o : Op), hdsR a (os ++ [o]) = hdsR a os ++ [(inm a os, .loop o.n o.sz o.wd o.out)]
  | a, [], o => rfl
  | a, p :: os, o => by rw [List.cons_append, hdsR, hdsR_snoc p.n os o]; rfl
theorem hdsR_take : ∀ (a : Int) (os : List Op) (n : Nat), (hdsR a os).take n = hdsR a (os.take n)
  | a, os, 0 => by simp [hdsR]
  | a, [], n + 1 => rfl
  | a, o :: os, n + 1 => by rw [hdsR, List.take_succ_cons, List.take_succ_cons, hdsR, hdsR_take o.n os n]
theorem hdsR_get : ∀ {a : Int} {os : List Op} {i : Nat} {r : Ro}, (hdsR a os)[i]? = some r → ∃ (o : Op) (b : Int), os[i]? = some o ∧ r = (b, .loop o.n o.sz o.wd o.out)
  | a, [], i, r, h => by simp [hdsR] at h
  | a, o :: os, 0, r, h => by simp [hdsR] at h; exact ⟨o, a, rfl, h.symm⟩
  | a, o :: os, i + 1, r, h => by
    obtain ⟨p, b, e1, e2⟩ := hdsR_get (a := o.n) (os := os) (i := i) (r := r) (by simpa [hdsR] using h)
    exact ⟨p, b, by simpa using e1, e2⟩
/-- the last of the open heads -/
theorem inm_last : ∀ {a : Int} {os : List Op} {o : Op}, os[os.length - 1]? = some o → inm a os = o.n
  | a, [], o, h => by simp at h
  | a, [p], o, h => by simp at h; subst h; rfl
  | a, p :: q :: os, o, h => by
    have : (q :: os)[(q :: os).length - 1]? = some o := by simpa using h
    exact inm_last (a := p.n) this
structure OsOk (os : List Op) : Prop where
  len : os.length ≤ 16
  sz : ∀ (i : Nat) (o : Op), os[i]? = some o → 1 ≤ o.sz ∧ o.sz ≤ 60 * 4 ^ i
  wd : ∀ o ∈ os, 0 ≤ o.wd ∧ o.wd ≤ 4
  nn : ∀ o ∈ os, 0 ≤ o.n
theorem OsOk.bnd {os : List Op} (h : OsOk os) {i : Nat} {o : Op} (e : os[i]? = some o) : 1 ≤ o.sz ∧ o.sz ≤ 2 ^ 40 := by
  obtain ⟨h1, h2⟩ := h.sz i o e
  have hi : i < os.length := (List.getElem?_eq_some_iff.mp e).1
  have hl := h.len
  have : (4 : Int) ^ i ≤ 4 ^ 16 := by
    have : (4 : Nat) ^ i ≤ 4 ^ 16 := Nat.pow_le_pow_right (by decide) (by omega)
    exact_mod_cast this
  exact ⟨h1, by omega⟩
def sp_l_room : Sp := fun vs H Q _ => ∃ (a : Addr) (xs : List V) (os : List Op), vs = [.ref a] ∧ H a = some (.lst xs) ∧ RosAt H xs (hdsR (-1) os) ∧ OsOk os ∧ ∀ z : Int, 1 ≤ z → z ≤ 60 → Q (.int z) H
theorem big_le {x : Int} {k : Nat} (h0 : 0 ≤ x) (h : x ≤ 2 ^ k) (hk : k < 4000) : x.natAbs < 2 ^ 4000 := by
  have e : ((x.natAbs : Nat) : Int) = x := by omega
  have : ((x.natAbs : Nat) : Int) ≤ ((2 ^ k : Nat) : Int) := by rw [e]; exact_mod_cast h
  have h2 : (2 : Nat) ^ k < 2 ^ 4000 := Nat.pow_lt_pow_right (by decide) hk
  omega
theorem mul_le2 {x y : Int} {j k : Nat} (x0 : 0 ≤ x) (y0 : 0 ≤ y) (hx : x ≤ 2 ^ j) (hy : y ≤ 2 ^ k) : x * y ≤ 2 ^ (j + k) := by
  rw [Int.pow_add]
  exact Int.mul_le_mul hx hy y0 (Int.le_trans x0 hx)
section
variable {P : Program} {w : World} {K : PySem.W.Frag} {mg : Str → Option Value} {base : Heap} {t : Adr}
theorem ok_l_loop_at (T : Txt K mg t) : FnOk P w K mg base CX0 1 t.f_l_loop_at t.d_l_loop_at ["_law_rows", "_law_number"] sp_l_loop_at := by
  refine T.F_l_loop_at.ok sc_l_loop_at (fun vs H Q E h => ?_) (fun cdv A outer s H vs Q E hr h => ?_)
  · obtain ⟨a, xs, rs, N, rfl, _⟩ := h
    rfl
  · obtain ⟨a, xs, rs, N, rfl, ha, ros, l1, k⟩ := h
    have lx := Paired.length ros
    refine ⟨_, (pss_cons (ps_for PassesOwn.never rfl (pi_range1 rfl T.z_range (pa_cons (pe_callB call_len_seq (by rfl) T.z_len PySem.boot_len (pa_cons (pv 0) pa_nil)) pa_nil)) (pg_name (i := 2) sc_l_loop_at.nd rfl (Or.inl rfl) (Or.inl rfl))
        (pss_one (ps_if (PW.pt (pw_and (pt_cmpR op_eq (pe_ix ix_tup (pe_ix ix_list (pv 0) (pv 2) (fun _ _ => rfl)) pe_int (fun _ _ => rfl)) pe_str (nomark _)) (pw_and1 (pt_cmpR op_eq (pe_ix ix_tup (pe_ix ix_list (pv 0) (pv 2) (fun _ _ => rfl)) pe_int (fun _ _ => rfl)) (pv 1) (nomark _)))))
          (pss_one (ps_ret (pv 2)))
          pss_nil)))
      (pss_one (ps_ret (pe_un un_neg pe_int)))), ?_⟩
    refine ⟨_, rfl, a, _, rfl, .inl (SqL.of ha), _, rfl, by omega, by omega, ?_⟩
    refine for_range (n := ((xs.length : Nat) : Int).toNat) (fun i σ H2 => ∃ o2 : Option V, σ = [some (.ref a), some (.int N), o2] ∧ H2 = H ∧ N ∉ lps (rs.take i)) ⟨none, rfl, rfl, by simp [lps]⟩ ?_ ?_
    · rintro i σ H2 hi ⟨o2, rfl, rfl, nin⟩
      have hi : i < xs.length := by omega
      have hxi : xs[i]? = some (xs[i]'hi) := List.getElem?_eq_getElem _
      obtain ⟨r, hr', ra⟩ := pget ros hxi
      obtain ⟨b, tl, eb, hb⟩ := ra.top
      rw [eb] at hxi
      have e0 : (0 : Int) + (i : Int) = (i : Int) := by omega
      rw [e0]
      refine ⟨_, rfl, _, rfl, a, _, _, _, rfl, rfl, SqL.of ha, atI_nat hxi, b, _, _, _, rfl, rfl, SqT.of hb, atI_nat (j := 1) rfl, rfl, _, rfl, ?_⟩
      have go : ∀ (q : ∀ a sz wd out, r ≠ (a, .loop N sz wd out)), N ∉ lps (rs.take (i + 1)) := fun q hm => by
        rw [lps_take hr'] at hm
        rcases List.mem_append.mp hm with hm | hm
        · exact nin hm
        · obtain ⟨ab, h⟩ := r
          cases h with
          | deed _ _ _ _ _ => exact absurd hm (by simp [Hd.lp])
          | loop n sz wd out =>
            have : N = n := by simpa [Hd.lp] using hm
            subst this
            exact q _ _ _ _ rfl
      refine iteD (fun hk => ?_) (fun hk => ?_)
      · refine ⟨_, rfl, _, rfl, a, _, _, _, rfl, rfl, SqL.of ha, atI_nat hxi, b, _, _, _, rfl, rfl, SqT.of hb, atI_nat (j := 2) rfl, _, rfl, rfl, _, rfl, iteD (fun hn => ?_) (fun hn => ?_)⟩
        · obtain ⟨ab, h⟩ := r
          cases h with
          | deed _ _ _ _ _ => exact absurd hk (by show ¬ V.str "deed" = V.str "loop"; decide +kernel)
          | loop n sz wd out =>
            have : n = N := by injection hn
            subst this
            rw [loopAt_here hr' nin] at k
            exact ⟨_, rfl, k⟩
        · exact ⟨_, rfl, rfl, go fun a sz wd out e => hn (by rw [e]; rfl)⟩
      · exact ⟨_, rfl, rfl, go fun a sz wd out e => hk (by rw [e]; rfl)⟩
    · rintro σ H2 ⟨o2, rfl, rfl, nin⟩
      rw [Int.toNat_natCast, lx, List.take_length] at nin
      rw [loopAt_none nin] at k
      exact ⟨1, rfl, k⟩
theorem ok_l_room (T : Txt K mg t) : FnOk P w K mg base CX0 1 t.f_l_room t.d_l_room ["_law_heads"] sp_l_room := by
  refine T.F_l_room.ok sc_l_room (fun vs H Q E h => ?_) (fun cdv A outer s H vs Q E hr h => ?_)
  · obtain ⟨a, xs, os, rfl, _⟩ := h
    rfl
  · obtain ⟨a, xs, os, rfl, ha, ros, ok, k⟩ := h
    have lx := Paired.length ros
    rw [hdsR_len] at lx
    refine ⟨_, (pss_cons (ps_set (i := 1) sc_l_room.nd rfl (Or.inl rfl) pe_int)
      (pss_cons (ps_for PassesOwn.never rfl (pi_list (pv 0)) (pg_name (i := 2) sc_l_room.nd rfl (Or.inl rfl) (Or.inl rfl))
        (pss_cons (ps_set (i := 1) sc_l_room.nd rfl (Or.inl rfl) (pe_op op_mulB (pv 1) (pe_callB (call_max2 rfl) (by rfl) T.z_max PyProof.Rows.boot_max (pa_cons (pe_ix ix_tup (pv 2) pe_int (fun _ _ => rfl)) (pa_cons pe_int pa_nil)))))
        (pss_one (ps_if (pt_cmpR op_eq (pe_ix ix_tup (pv 2) pe_int (fun _ _ => rfl)) (pe_un un_neg pe_int) (nomark _))
          (pss_one (ps_set (i := 1) sc_l_room.nd rfl (Or.inl rfl) (pe_op op_mulB (pv 1) (pe_ix ix_tup (pv 2) pe_int (fun _ _ => rfl)))))
          pss_nil))))
      (pss_one (ps_ret (pe_callB (call_max2 rfl) (by rfl) T.z_max PyProof.Rows.boot_max (pa_cons pe_int (pa_cons (pe_op op_fdivB pe_int (pv 1)) pa_nil))))))), ?_⟩
    refine ⟨_, rfl, a, rfl, ⟨_, SqL.of ha⟩, ?_⟩
    refine for_list (K := K) (a := a) (xs := xs) (fun i σ H2 => ∃ (z : Int) (o2 : Option V), σ = [some (.ref a), some (.int z), o2] ∧ H2 = H ∧ 1 ≤ z ∧ z ≤ 2 ^ (43 * i)) ⟨1, none, rfl, rfl, by decide, by simp⟩ (fun i σ H2 _ ⟨_, _, _, e, _⟩ => by subst e; exact SqL.of ha) ?_ ?_
    · rintro i x σ H2 hx ⟨z, o2, rfl, rfl, z1, z2⟩
      have hi : i < xs.length := (List.getElem?_eq_some_iff.mp hx).1
      have l16 := ok.len
      obtain ⟨r, hr', ra⟩ := pget ros hx
      obtain ⟨o, ab, ho, rfl⟩ := hdsR_get hr'
      obtain ⟨b, rfl, hb⟩ := ra
      obtain ⟨s1, s2⟩ := ok.bnd ho
      obtain ⟨w1, w2⟩ := ok.wd o (List.mem_of_getElem? ho)
      refine ⟨_, rfl, _, rfl, b, _, _, _, rfl, rfl, SqT.of hb, atI_nat (j := 4) rfl, _, _, rfl, _, _, rfl, rfl, ⟨big_le (by omega) z2 (by omega), big_le (k := 3) (by split <;> omega) (by split <;> omega) (by decide)⟩, ?_⟩
      have m1 : 1 ≤ (if (1 : Int) > o.wd then (1 : Int) else o.wd) := by split <;> omega
      have m2 : (if (1 : Int) > o.wd then (1 : Int) else o.wd) ≤ 2 ^ 3 := by split <;> omega
      generalize (if (1 : Int) > o.wd then (1 : Int) else o.wd) = mw at m1 m2 ⊢
      have p1 : 1 ≤ z * mw := by have := Int.mul_le_mul z1 m1 (by omega) (by omega); omega
      have p2 := mul_le2 (by omega) (by omega) z2 m2
      refine ⟨_, rfl, b, _, _, _, rfl, rfl, SqT.of hb, atI_nat (j := 5) rfl, _, rfl, rfl, _, rfl, iteD (fun _ => ?_) (fun _ => ?_)⟩
      · refine ⟨_, rfl, _, rfl, b, _, _, _, rfl, rfl, SqT.of hb, atI_nat (j := 3) rfl, _, _, rfl, rfl, ⟨big_le (by omega) p2 (by omega), big_le (by omega) s2 (by decide)⟩, _, _, rfl, rfl, ?_, ?_⟩
        · have := Int.mul_le_mul p1 s1 (by omega) (by omega); omega
        · have := mul_le2 (by omega) (by omega) p2 s2
          rw [show 43 * (i + 1) = 43 * i + 3 + 40 by omega]
          exact this
      · refine ⟨_, _, rfl, rfl, p1, ?_⟩
        refine Int.le_trans p2 ?_
        exact_mod_cast Nat.pow_le_pow_right (by decide) (by omega)
    · rintro σ H2 ⟨z, o2, rfl, rfl, z1, z2⟩
      have l16 := ok.len
      refine ⟨_, rfl, _, _, rfl, rfl, ⟨by omega, big_le (by omega) z2 (by omega)⟩, _, _, rfl, ?_⟩
      have d0 : 0 ≤ 60 / z := Int.ediv_nonneg (by decide) (by omega)
      have d1 : 60 / z ≤ 60 := Int.ediv_le_self _ (by decide)
      exact k _ (by split <;> omega) (by split <;> omega)
end
end My

set_option Elab.async false
set_option linter.all false
set_option maxRecDepth 100000
set_option maxHeartbeats 4000000
namespace My
open PySem L2
local macro_rules | `(tactic| walk_at "lk") => `(tactic| first | with_reducible exact lk0 | (refine lk1 (by decide +kernel) ?_; walk_at "lk") | rfl)
theorem eqvN (l : List PyData) : PyData.eqv (.list l) (.list []) = l.isEmpty := by cases l <;> rfl
def RoOk : Ro → Prop
  | (_, .loop ..) => True
  | (_, .deed _ _ w _ _) => PyData.strOk w = true
theorem nsok_ros : ∀ {rs : List Ro}, (∀ r ∈ rs, RoOk r) → NsOk 2 (rs.map encR)
  | [], _ => NsOk.nil _
  | (a, .loop n sz wd out) :: rs, h => (nsok_rowL a n sz wd out).cons (nsok_ros fun r hr => h r (.tail _ hr))
  | (a, .deed n k w cs us) :: rs, h => (nsok_rowD (h _ (.head _))).cons (nsok_ros fun r hr => h r (.tail _ hr))
theorem hds_ok : ∀ (a : Int) (os : List Op), ∀ r ∈ hdsR a os, RoOk r
  | a, [], r, h => by cases h
  | a, o :: os, r, h => by
    rw [hdsR] at h
    rcases List.mem_cons.mp h with h | h
    · subst h; exact True.intro
    · exact hds_ok o.n os r h
theorem ros_shaped {rs : List Ro} (h : ∀ r ∈ rs, RoOk r) : SeqAt.shaped (.list (rs.map encR)) = true := ns_shaped (nsok_ros h) (by decide)
theorem rep_ros {H : Hp} {a : Addr} {xs : List V} {rs : List Ro} (ha : H a = some (.lst xs)) (h : RosAt H xs rs) : Rep H (.ref a) (.list (rs.map encR)) := .lst ha ((ros_rep h).same (th_same _))
theorem min_ok {a b : Int} (ha : 1 ≤ a) (hb : 1 ≤ b) : 1 ≤ (if b < a then b else a) ∧ (if b < a then b else a) ≤ b := by split <;> omega
def sp_l_head_by : Sp := fun vs H Q _ => ∃ (c n : Int) (a : Addr) (xs : List V) (os : List Op) (rm : Int), vs = [.int c, .int n, .ref a, .int rm] ∧ H a = some (.lst xs) ∧ RosAt H xs (hdsR (-1) os) ∧ OsOk os ∧ os.length < 16 ∧ 1 ≤ rm ∧ rm ≤ 60 ∧
  ∀ (q : Addr) (sz wd out : Int) (H' : Hp), Same H H' → H' q = some (.tup [.int (inm (-1) os), .str "loop", .int n, .int sz, .int wd, .int out]) → 1 ≤ sz → sz ≤ 60 * 4 ^ os.length → 0 ≤ wd → wd ≤ 4 → (out = -1 → wd = 0) → (out = -1 ∨ ∃ o ∈ os, out = o.n) → Q (.ref q) H'
section
variable {P : Program} {w : World} {K : PySem.W.Frag} {mg : Str → Option Value} {base : Heap} {t : Adr}
theorem ok_l_head_by (T : Txt K mg t) : FnOk P w K mg base CX0 1 t.f_l_head_by t.d_l_head_by ["_law_cell", "_law_number", "_law_heads", "_law_room_here"] sp_l_head_by := by
  refine T.F_l_head_by.ok sc_l_head_by (fun vs H Q E h => ?_) (fun cdv A outer s H vs Q E hr h => ?_)
  · obtain ⟨c, n, a, xs, os, rm, rfl, _⟩ := h
    rfl
  · obtain ⟨c, n, a, xs, os, rm, rfl, ha, ros, ok, l16, r1, r60, k⟩ := h
    have lx := Paired.length ros
    rw [hdsR_len] at lx
    have shp := ros_shaped (hds_ok (-1) os)
    have emp : ((hdsR (-1) os).map encR).isEmpty = os.isEmpty := by cases os <;> rfl
    have p4 : (1 : Int) ≤ 4 ^ os.length := by
      have : 0 < (4 : Nat) ^ os.length := Nat.pow_pos (by decide)
      have : (1 : Nat) ≤ 4 ^ os.length := this
      exact_mod_cast this
    refine ⟨_, (pss_cons (ps_set (i := 4) sc_l_head_by.nd rfl (Or.inl rfl) (pe_un un_neg pe_int))
      (pss_cut (ps_if (pt_cmpR (op_neD hr.units) (pv 2) (pe_lst pa_nil) (nomark _))
        (pss_one (ps_set (i := 4) sc_l_head_by.nd rfl (Or.inl rfl) (pe_ix ix_tup (pe_ix ix_list (pv 2) (pe_un un_neg pe_int) (fun _ _ => rfl)) pe_int (fun _ _ => rfl))))
        pss_nil)
      (pss_cons (ps_set (i := 5) sc_l_head_by.nd rfl (Or.inl rfl) (pe_op op_fdiv (pv 0) pe_int))
      (pss_cons (ps_if (PW.pt (pw_and (pt_cmpR (op_neD hr.units) (pv 2) (pe_lst pa_nil) (nomark _)) (pw_and1 (pt_cmpR op_eq (pe_op op_mod (pv 5) pe_int) pe_int (nomark _)))))
        (pss_cons (ps_set (i := 6) sc_l_head_by.nd rfl (Or.inl rfl) (pe_ix ix_list (pv 2) (pe_op op_sub (pe_un un_neg pe_int) (pe_op op_mod (pe_op op_fdiv (pv 5) pe_int) (pe_callB call_len_seq (by rfl) T.z_len PySem.boot_len (pa_cons (pv 2) pa_nil)))) (fun _ _ => rfl)))
        (pss_cons (ps_set (i := 7) sc_l_head_by.nd rfl (Or.inl rfl) (pe_op op_add pe_int (pe_op op_mod (pe_op op_fdiv (pv 5) pe_int) (pe_callB (call_min2 rfl) (by rfl) T.z_min PyProof.Rows.boot_min (pa_cons (pv 3) (pa_cons pe_int pa_nil))))))
        (pss_one (ps_ret (pe_tup (pa_cons (pv 4) (pa_cons pe_str (pa_cons (pv 1) (pa_cons (pe_op op_sub (pe_op op_mul (pe_ix ix_tup (pv 6) pe_int (fun _ _ => rfl)) (pv 7)) (pe_op op_mod (pe_op op_fdiv (pv 5) pe_int) (pv 7))) (pa_cons (pv 7) (pa_cons (pe_ix ix_tup (pv 6) pe_int (fun _ _ => rfl)) pa_nil)))))))))))
        pss_nil)
      (pss_cons (ps_if (pt_cmpR op_eq (pe_op op_mod (pv 5) pe_int) pe_int (nomark _))
        (pss_one (ps_ret (pe_tup (pa_cons (pv 4) (pa_cons pe_str (pa_cons (pv 1) (pa_cons (pe_op op_add pe_int (pe_op op_mod (pe_op op_fdiv (pv 5) pe_int) (pv 3))) (pa_cons pe_int (pa_cons (pe_un un_neg pe_int) pa_nil)))))))))
        pss_nil)
      (pss_one (ps_ret (pe_tup (pa_cons (pv 4) (pa_cons pe_str (pa_cons (pv 1) (pa_cons (pe_op op_add pe_int (pe_op op_mod (pe_op op_fdiv (pv 5) pe_int) (pe_callB (call_min2 rfl) (by rfl) T.z_min PyProof.Rows.boot_min (pa_cons (pv 3) (pa_cons pe_int pa_nil))))) (pa_cons pe_int (pa_cons (pe_un un_neg pe_int) pa_nil)))))))))))))), ?_⟩
    refine ⟨_, rfl, ?_⟩
    refine ⟨fun σ' H' => σ' = [some (.int c), some (.int n), some (.ref a), some (.int rm), some (.int (inm (-1) os)), none, none, none] ∧ Same H H', ?_, ?_⟩
    · refine ⟨_, rfl, line_le (by simp), fun z hz => ?_⟩
      have u1 : Same H (upd H z (.lst [])) := same_new hz
      have hz1 : upd H z (.lst []) z = some (.lst []) := upd_same
      generalize upd H z (.lst []) = H1 at u1 hz1 ⊢
      refine ⟨_, .list [], rep_ros (u1 _ _ ha) (ros.kt (KT.same u1)), .lst hz1 .nil, shp, by decide +kernel, _, rfl, ?_⟩
      rw [eqvN, emp]
      rcases os.eq_nil_or_concat with e | ⟨os0, o, e⟩
      · subst e
        exact iteNo' rfl ⟨rfl, u1⟩
      · rw [List.concat_eq_append] at e
        subst e
        refine iteYes' (by simp) ?_
        obtain ⟨v, hv, av⟩ := atI_neg1 (xs := xs) (by rw [lx]; simp)
        obtain ⟨r, hr', ra⟩ := pget ros hv
        obtain ⟨o', ab, ho, rfl⟩ := hdsR_get hr'
        obtain ⟨b, rfl, hb⟩ := ra
        rw [lx] at ho
        refine ⟨_, rfl, _, rfl, a, _, _, _, rfl, rfl, SqL.of (u1 _ _ ha), av, b, _, _, _, rfl, rfl, SqT.of (u1 _ _ hb), atI_nat (j := 2) rfl, ?_, u1⟩
        rw [inm_last ho]
        rfl
    · rintro σ' H1 ⟨rfl, u1⟩
      refine ⟨_, rfl, _, _, rfl, rfl, ⟨by decide, by decide⟩, ?_⟩
      refine ⟨_, rfl, line_le (by simp), fun z hz => ?_⟩
      have u2 : Same H1 (upd H1 z (.lst [])) := same_new hz
      have hz2 : upd H1 z (.lst []) z = some (.lst []) := upd_same
      generalize upd H1 z (.lst []) = H2 at u2 hz2 ⊢
      have u12 := u1.trans u2
      refine ⟨_, .list [], rep_ros (u12 _ _ ha) (ros.kt (KT.same u12)), .lst hz2 .nil, shp, by decide +kernel, _, rfl, ?_⟩
      rw [eqvN, emp]
      by_cases he : os = []
      · refine iteNo' (by rw [he]; rfl) ?_
        refine ⟨_, rfl, _, _, rfl, rfl, (show (0 : Int) < 8 by decide), rfl, _, rfl, iteD (fun _ => ?_) (fun _ => ?_)⟩
        · refine ⟨_, rfl, _, rfl, _, rfl, _, _, rfl, rfl, ⟨by decide, by decide⟩, _, rfl, _, _, rfl, rfl, (show 0 < rm by omega), _, _, rfl, rfl, _, rfl, line_le (by simp), fun q hq => ?_⟩
          have m0 := Int.emod_nonneg (c / 7 / 8) (show rm ≠ 0 by omega)
          have m1 := Int.emod_lt_of_pos (c / 7 / 8) (show 0 < rm by omega)
          exact k q _ _ _ _ (u12.trans (same_new hq)) upd_same (by omega) (by omega) (by decide) (by decide) (fun _ => rfl) (.inl rfl)
        · obtain ⟨n1, n2⟩ := min_ok (b := 2) r1 (by decide)
          refine ⟨_, rfl, _, rfl, _, rfl, _, _, rfl, rfl, ⟨by decide, by decide⟩, _, rfl, _, _, rfl, _, _, rfl, rfl, (show 0 < _ from by omega), _, _, rfl, rfl, _, rfl, line_le (by simp), fun q hq => ?_⟩
          generalize (if (2 : Int) < rm then (2 : Int) else rm) = mn at n1 n2 hq ⊢
          have m0 := Int.emod_nonneg (c / 7 / 4) (show mn ≠ 0 by omega)
          have m1 := Int.emod_lt_of_pos (c / 7 / 4) (show 0 < mn by omega)
          exact k q _ _ _ _ (u12.trans (same_new hq)) upd_same (by omega) (by omega) (by decide) (by decide) (fun _ => rfl) (.inl rfl)
      · refine iteYes' (by cases os with | nil => exact absurd rfl he | cons _ _ => rfl) ?_
        refine ⟨_, rfl, _, _, rfl, rfl, (show (0 : Int) < 2 by decide), rfl, _, rfl, iteD (fun _ => ?_) (fun _ => ?_)⟩
        · have l0 : 0 < xs.length := by rw [lx]; exact List.length_pos_iff.mpr he
          have j0 := Int.emod_nonneg (c / 7 / 2) (show (xs.length : Int) ≠ 0 by omega)
          have j1 := Int.emod_lt_of_pos (c / 7 / 2) (show 0 < (xs.length : Int) by omega)
          obtain ⟨j, ej⟩ := Int.eq_ofNat_of_zero_le j0
          have hj : j < xs.length := by omega
          obtain ⟨v, hv, av⟩ := atI_neg hj
          obtain ⟨r, hr', ra⟩ := pget ros hv
          obtain ⟨o, ab, ho, rfl⟩ := hdsR_get hr'
          obtain ⟨b, rfl, hb⟩ := ra
          obtain ⟨s1, s2⟩ := ok.sz _ o ho
          rw [← ej] at av
          refine ⟨_, rfl, _, rfl, _, rfl, _, _, rfl, rfl, ⟨by decide, by decide⟩, _, rfl, a, _, rfl, .inl (SqL.of (u12 _ _ ha)), _, _, rfl, rfl, (show 0 < (xs.length : Int) by omega), _, _, rfl, rfl, a, _, _, _, rfl, rfl, SqL.of (u12 _ _ ha), av, ?_⟩
          obtain ⟨n1, n2⟩ := min_ok (b := 2) r1 (by decide)
          refine ⟨_, rfl, _, _, rfl, rfl, ⟨by decide, by decide⟩, _, rfl, _, _, rfl, _, _, rfl, rfl, (show 0 < _ from by omega), _, _, rfl, rfl, ?_⟩
          generalize (if (2 : Int) < rm then (2 : Int) else rm) = mn at n1 n2 ⊢
          have m0 := Int.emod_nonneg (c / 7 / 5) (show mn ≠ 0 by omega)
          have m1 := Int.emod_lt_of_pos (c / 7 / 5) (show 0 < mn by omega)
          have w1 : 1 ≤ 1 + c / 7 / 5 % mn := by omega
          have w4 : 1 + c / 7 / 5 % mn ≤ 4 := by omega
          refine ⟨_, rfl, _, rfl, _, rfl, b, _, _, _, rfl, rfl, SqT.of (u12 _ _ hb), atI_nat (j := 3) rfl, _, rfl, _, _, rfl, rfl, .inr ⟨by omega, by omega⟩, _, rfl, _, _, rfl, rfl, ⟨by decide, by decide⟩, _, rfl, _, _, rfl, rfl, (show 0 < (1 + c / 7 / 5 % mn) by omega), _, _, rfl, rfl, _, rfl, _, rfl, b, _, _, _, rfl, rfl, SqT.of (u12 _ _ hb), atI_nat (j := 2) rfl, line_le (by simp), fun q hq => ?_⟩
          have e0 := Int.emod_nonneg (c / 7 / 64) (show (1 + c / 7 / 5 % mn) ≠ 0 by omega)
          have e1 := Int.emod_lt_of_pos (c / 7 / 64) (show 0 < (1 + c / 7 / 5 % mn) by omega)
          have p1 : (1 + c / 7 / 5 % mn) ≤ o.sz * (1 + c / 7 / 5 % mn) := by have := Int.mul_le_mul_of_nonneg_right s1 (show 0 ≤ (1 + c / 7 / 5 % mn) by omega); omega
          have p2 : o.sz * (1 + c / 7 / 5 % mn) ≤ o.sz * 4 := Int.mul_le_mul_of_nonneg_left w4 (by omega)
          have p5 : (4 : Int) ^ (xs.length - 1 - j) * 4 ≤ 4 ^ os.length := by
            have : (4 : Nat) ^ (xs.length - 1 - j) * 4 ≤ 4 ^ os.length := by
              rw [← Nat.pow_succ]
              exact Nat.pow_le_pow_right (by decide) (by omega)
            exact_mod_cast this
          have o0 := ok.nn o (List.mem_of_getElem? ho)
          exact k q _ _ _ _ (u12.trans (same_new hq)) upd_same (by omega) (by omega) (by omega) (by omega) (fun z => by omega) (.inr ⟨o, List.mem_of_getElem? ho, rfl⟩)
        · skip
          refine ⟨_, rfl, _, _, rfl, rfl, (show (0 : Int) < 8 by decide), rfl, _, rfl, iteD (fun _ => ?_) (fun _ => ?_)⟩
          · refine ⟨_, rfl, _, rfl, _, rfl, _, _, rfl, rfl, ⟨by decide, by decide⟩, _, rfl, _, _, rfl, rfl, (show 0 < rm by omega), _, _, rfl, rfl, _, rfl, line_le (by simp), fun q hq => ?_⟩
            have m0 := Int.emod_nonneg (c / 7 / 8) (show rm ≠ 0 by omega)
            have m1 := Int.emod_lt_of_pos (c / 7 / 8) (show 0 < rm by omega)
            exact k q _ _ _ _ (u12.trans (same_new hq)) upd_same (by omega) (by omega) (by decide) (by decide) (fun _ => rfl) (.inl rfl)
          · obtain ⟨n1, n2⟩ := min_ok (b := 2) r1 (by decide)
            refine ⟨_, rfl, _, rfl, _, rfl, _, _, rfl, rfl, ⟨by decide, by decide⟩, _, rfl, _, _, rfl, _, _, rfl, rfl, (show 0 < _ from by omega), _, _, rfl, rfl, _, rfl, line_le (by simp), fun q hq => ?_⟩
            generalize (if (2 : Int) < rm then (2 : Int) else rm) = mn at n1 n2 hq ⊢
            have m0 := Int.emod_nonneg (c / 7 / 4) (show mn ≠ 0 by omega)
            have m1 := Int.emod_lt_of_pos (c / 7 / 4) (show 0 < mn by omega)
            exact k q _ _ _ _ (u12.trans (same_new hq)) upd_same (by omega) (by omega) (by decide) (by decide) (fun _ => rfl) (.inl rfl)
end
end My

set_option Elab.async false
set_option linter.all false
set_option maxRecDepth 100000
set_option maxHeartbeats 4000000
namespace My
open PySem L2
local macro_rules | `(tactic| walk_at "lk") => `(tactic| first | with_reducible exact lk0 | (refine lk1 (by decide +kernel) ?_; walk_at "lk") | rfl)
def sp_l_deed_by : Sp := fun vs H Q _ => ∃ (c n : Int) (a : Addr) (xs : List V) (os : List Op), vs = [.int c, .int n, .ref a] ∧ H a = some (.lst xs) ∧ RosAt H xs (hdsR (-1) os) ∧
  ∀ (q cu uu : Addr) (kk : Int) (w : Str) (cs us : List Int) (H' : Hp), Same H H' → H' q = some (.tup [.int (inm (-1) os), .str "deed", .int n, .int kk, .str w, .ref cu, .ref uu]) → H' cu = some (.tup (cs.map V.int)) → H' uu = some (.tup (us.map V.int)) → cs.length ≤ 4 → us.length ≤ 4 → PyData.strOk w = true → (∀ x ∈ cs ++ us, ∃ o ∈ os, x = o.n) → Q (.ref q) H'
theorem word3 (z : Int) : ∃ w : Str, atI [V.str "set", V.str "start", V.str "add"] (z % 3) = some (.str w) ∧ PyData.strOk w = true := by
  have h0 := Int.emod_nonneg z (show (3 : Int) ≠ 0 by decide)
  have h1 := Int.emod_lt_of_pos z (show (0 : Int) < 3 by decide)
  have : z % 3 = 0 ∨ z % 3 = 1 ∨ z % 3 = 2 := by omega
  rcases this with e | e | e <;> rw [e]
  · exact ⟨"set", atI_nat (j := 0) rfl, by decide +kernel⟩
  · exact ⟨"start", atI_nat (j := 1) rfl, by decide +kernel⟩
  · exact ⟨"add", atI_nat (j := 2) rfl, by decide +kernel⟩
/-- a head taken round -/
theorem head_at {H : Hp} {xs : List V} {os : List Op} (ros : RosAt H xs (hdsR (-1) os)) (z : Int) (l0 : 0 < xs.length) : ∃ b n tl k, atI xs (z % (xs.length : Int)) = some (.ref b) ∧ H b = some (.tup (.int k :: .str "loop" :: .int n :: tl)) ∧ ∃ o ∈ os, n = o.n := by
  have j0 := Int.emod_nonneg z (show (xs.length : Int) ≠ 0 by omega)
  have j1 := Int.emod_lt_of_pos z (show 0 < (xs.length : Int) by omega)
  obtain ⟨v, hv, av⟩ := atI_ok j0 j1
  obtain ⟨r, hr', ra⟩ := pget ros hv
  obtain ⟨o, ab, ho, rfl⟩ := hdsR_get hr'
  obtain ⟨b, rfl, hb⟩ := ra
  exact ⟨b, o.n, _, ab, av, hb, o, List.mem_of_getElem? ho, rfl⟩
section
variable {P : Program} {w : World} {K : PySem.W.Frag} {mg : Str → Option Value} {base : Heap} {t : Adr}
theorem ok_l_deed_by (T : Txt K mg t) : FnOk P w K mg base CX0 1 t.f_l_deed_by t.d_l_deed_by ["_law_cell", "_law_number", "_law_heads"] sp_l_deed_by := by
  refine T.F_l_deed_by.ok sc_l_deed_by (fun vs H Q E h => ?_) (fun cdv A outer s H vs Q E hr h => ?_)
  · obtain ⟨c, n, a, xs, os, rfl, _⟩ := h
    rfl
  · obtain ⟨c, n, a, xs, os, rfl, ha, ros, k⟩ := h
    have lx := Paired.length ros
    rw [hdsR_len] at lx
    have shp := ros_shaped (hds_ok (-1) os)
    have emp : ((hdsR (-1) os).map encR).isEmpty = os.isEmpty := by cases os <;> rfl
    refine ⟨_, (pss_cons (ps_set (i := 3) sc_l_deed_by.nd rfl (Or.inl rfl) (pe_un un_neg pe_int))
      (pss_cons (ps_set (i := 4) sc_l_deed_by.nd rfl (Or.inl rfl) (pe_tup pa_nil))
      (pss_cons (ps_set (i := 5) sc_l_deed_by.nd rfl (Or.inl rfl) (pe_tup pa_nil))
      (pss_cons (ps_set (i := 6) sc_l_deed_by.nd rfl (Or.inr rfl) (pe_op op_fdiv (pv 0) pe_int))
      (pss_cut (ps_if (pt_cmpR (op_neD hr.units) (pv 2) (pe_lst pa_nil) (nomark _))
        (pss_cons (ps_set (i := 3) sc_l_deed_by.nd rfl (Or.inl rfl) (pe_ix ix_tup (pe_ix ix_list (pv 2) (pe_un un_neg pe_int) (fun _ _ => rfl)) pe_int (fun _ _ => rfl)))
        (pss_cons (ps_set (i := 4) sc_l_deed_by.nd rfl (Or.inl rfl) (pe_callTy call_tuple_of (by rfl) T.z_tuple PyProof.Rows.boot_tuple (pa_cons (pe_comp (N' := ["_law_k", "_law_heads", "_law_rest"]) (ix := (List.replicate 1 none ++ [some 2, some 6])) rfl (clok_many (cl := [("_law_rest", _), ("_law_heads", _)]) (xs := ["_law_rest", "_law_heads"]) rfl ⟨rfl, rfl, trivial⟩ rfl rfl (by decide +kernel) (by decide +kernel)) (ixok_many (N0 := ["_law_k"]) (xs := ["_law_heads", "_law_rest"]) (js := [2, 6]) ⟨⟨rfl, Or.inl rfl, (by first | exact Or.inl rfl | exact Or.inr rfl | (simp [relabel]; rfl) | (with_unfolding_all exact Or.inl rfl) | (with_unfolding_all exact Or.inr rfl) | (with_unfolding_all decide))⟩, ⟨rfl, Or.inl rfl, (by first | exact Or.inl rfl | exact Or.inr rfl | (simp [relabel]; rfl) | (with_unfolding_all exact Or.inl rfl) | (with_unfolding_all exact Or.inr rfl) | (with_unfolding_all decide))⟩, trivial⟩) (pi_range1 rfl T.z_range (pa_cons (pe_op op_mod (pe_op op_fdiv (pv 6) pe_int) pe_int) pa_nil)) (fun _ _ _ _ => (pg_name (i := 0) nd_comp_2 rfl (Or.inl rfl) (Or.inr rfl))) (fun _ _ _ _ => (pe_ix (ix_tupK (K := K) rfl) (pe_ix (ix_listK (K := K) rfl) (pv 1) (pe_op op_mod (pe_op op_add (pv 2) (pv 0)) (pe_callB (call_len_seqK (K := K) rfl) (by rfl) T.z_len PySem.boot_len (pa_cons (pv 1) pa_nil))) (fun _ _ => rfl)) pe_int (fun _ _ => rfl)))) pa_nil)))
        (pss_one (ps_set (i := 5) sc_l_deed_by.nd rfl (Or.inl rfl) (pe_callTy call_tuple_of (by rfl) T.z_tuple PyProof.Rows.boot_tuple (pa_cons (pe_comp (N' := ["_law_k", "_law_heads", "_law_rest"]) (ix := (List.replicate 1 none ++ [some 2, some 6])) rfl (clok_many (cl := [("_law_rest", _), ("_law_heads", _)]) (xs := ["_law_rest", "_law_heads"]) rfl ⟨rfl, rfl, trivial⟩ rfl rfl (by decide +kernel) (by decide +kernel)) (ixok_many (N0 := ["_law_k"]) (xs := ["_law_heads", "_law_rest"]) (js := [2, 6]) ⟨⟨rfl, Or.inl rfl, (by first | exact Or.inl rfl | exact Or.inr rfl | (simp [relabel]; rfl) | (with_unfolding_all exact Or.inl rfl) | (with_unfolding_all exact Or.inr rfl) | (with_unfolding_all decide))⟩, ⟨rfl, Or.inl rfl, (by first | exact Or.inl rfl | exact Or.inr rfl | (simp [relabel]; rfl) | (with_unfolding_all exact Or.inl rfl) | (with_unfolding_all exact Or.inr rfl) | (with_unfolding_all decide))⟩, trivial⟩) (pi_range1 rfl T.z_range (pa_cons (pe_op op_mod (pe_op op_fdiv (pv 6) pe_int) pe_int) pa_nil)) (fun _ _ _ _ => (pg_name (i := 0) nd_comp_3 rfl (Or.inl rfl) (Or.inr rfl))) (fun _ _ _ _ => (pe_ix (ix_tupK (K := K) rfl) (pe_ix (ix_listK (K := K) rfl) (pv 1) (pe_op op_mod (pe_op op_add (pe_op op_fdiv (pv 2) pe_int) (pv 0)) (pe_callB (call_len_seqK (K := K) rfl) (by rfl) T.z_len PySem.boot_len (pa_cons (pv 1) pa_nil))) (fun _ _ => rfl)) pe_int (fun _ _ => rfl)))) pa_nil))))))
        pss_nil)
      (pss_one (ps_ret (pe_tup (pa_cons (pv 3) (pa_cons pe_str (pa_cons (pv 1) (pa_cons (pe_op op_mod (pe_op op_fdiv (pv 6) pe_int) (pe_op op_pow pe_int pe_int)) (pa_cons (pe_ix ix_list (pe_lst (pa_cons pe_str (pa_cons pe_str (pa_cons pe_str pa_nil)))) (pe_op op_mod (pv 6) pe_int) (fun _ _ => rfl)) (pa_cons (pv 4) (pa_cons (pv 5) pa_nil))))))))))))))), ?_⟩
    refine ⟨_, rfl, line_le (by simp), fun p1 hp1 => ?_⟩
    have u1 : Same H (upd H p1 (.tup [])) := same_new hp1
    have h1 : upd H p1 (.tup []) p1 = some (.tup []) := upd_same
    generalize upd H p1 (.tup []) = H1 at u1 h1 ⊢
    refine ⟨line_le (by simp), fun p2 hp2 => ?_⟩
    have u2 : Same H1 (upd H1 p2 (.tup [])) := same_new hp2
    have h2 : upd H1 p2 (.tup []) p2 = some (.tup []) := upd_same
    generalize upd H1 p2 (.tup []) = H2 at u2 h2 ⊢
    have u12 := u1.trans u2
    refine ⟨_, rfl, _, _, rfl, rfl, ⟨by decide, by decide⟩, ?_⟩
    refine ⟨fun σ' H' => ∃ (cu uu : Addr) (cs us : List Int), σ' = [some (.int c), some (.int n), some (.ref a), some (.int (inm (-1) os)), some (.ref cu), some (.ref uu), some (.int (c / 7))] ∧ Same H H' ∧ H' cu = some (.tup (cs.map V.int)) ∧ H' uu = some (.tup (us.map V.int)) ∧ cs.length ≤ 4 ∧ us.length ≤ 4 ∧ ∀ x ∈ cs ++ us, ∃ o ∈ os, x = o.n, ?_, ?_⟩
    · refine ⟨_, rfl, line_le (by simp), fun z hz => ?_⟩
      have u3 : Same H2 (upd H2 z (.lst [])) := same_new hz
      have hz3 : upd H2 z (.lst []) z = some (.lst []) := upd_same
      generalize upd H2 z (.lst []) = H3 at u3 hz3 ⊢
      have u13 := u12.trans u3
      refine ⟨_, .list [], rep_ros (u13 _ _ ha) (ros.kt (KT.same u13)), .lst hz3 .nil, shp, by decide +kernel, _, rfl, ?_⟩
      rw [eqvN, emp]
      by_cases he : os = []
      · subst he
        exact iteNo' rfl ⟨p1, p2, [], [], rfl, u13, u3 _ _ (u2 _ _ h1), u3 _ _ h2, by simp, by simp, by intro x hx; cases hx⟩
      · refine iteYes' (by cases os with | nil => exact absurd rfl he | cons _ _ => rfl) ?_
        have l0 : 0 < xs.length := by rw [lx]; exact List.length_pos_iff.mpr he
        obtain ⟨v, hv, av⟩ := atI_neg1 (xs := xs) l0
        obtain ⟨r, hr', ra⟩ := pget ros hv
        obtain ⟨o', ab, ho, rfl⟩ := hdsR_get hr'
        obtain ⟨b, rfl, hb⟩ := ra
        rw [lx] at ho
        refine ⟨_, rfl, _, rfl, a, _, _, _, rfl, rfl, SqL.of (u13 _ _ ha), av, b, _, _, _, rfl, rfl, SqT.of (u13 _ _ hb), atI_nat (j := 2) rfl, ?_⟩
        have q0 := Int.emod_nonneg (c / 7 / 3) (show (4 : Int) ≠ 0 by decide)
        have q1 := Int.emod_lt_of_pos (c / 7 / 3) (show (0 : Int) < 4 by decide)
        refine ⟨_, rfl, _, _, rfl, rfl, ⟨by decide, by decide⟩, _, _, rfl, rfl, (show (0 : Int) < 4 by decide), _, rfl, by omega, by omega, fun D hD => ?_⟩
        refine comp_genQ (J := Itr 0 (c / 7 / 3 % 4).toNat) (D := D) (c / 7 / 3 % 4).toNat (fun i ys Hx => Same H3 Hx ∧ Hx D = some (.lst ys) ∧ ∃ zs : List Int, ys = zs.map V.int ∧ zs.length = i ∧ ∀ x ∈ zs, ∃ o ∈ os, x = o.n) ⟨same_new hD, upd_same, [], rfl, rfl, by intro x hx; cases hx⟩ (fun i ys Hx hi _ => hi) (fun ys Hx _ => Nat.le_refl _) ?_ ?_
        · rintro i ys Hx hi ⟨s1, hDx, zs, rfl, lz, mz⟩ x Hy ⟨rfl, rfl⟩
          have uu := u13.trans s1
          obtain ⟨b', n', tl', k', a1, a2, a3⟩ := head_at (ros.kt (KT.same uu)) (c / 7 + (0 + (i : Int))) l0
          refine ⟨⟨rfl, rfl, True.intro⟩, ?_⟩
          refine ⟨_, rfl, _, rfl, _, rfl, _, _, rfl, rfl, _, rfl, a, _, rfl, .inl (SqL.of (uu _ _ ha)), _, _, rfl, rfl, (show 0 < (xs.length : Int) by omega), a, _, _, _, rfl, rfl, SqL.of (uu _ _ ha), a1, b', _, _, _, rfl, rfl, SqT.of a2, atI_nat (j := 2) rfl, hDx, line_lt (by simp; omega), same_fresh s1 hD, upd_same, zs ++ [n'], by simp, by simp; omega, fun x hx => (List.mem_append.mp hx).elim (mz x) fun h => by rw [List.mem_singleton.mp h]; exact a3⟩
        rintro ys H4 ⟨s4, hD4, zs, rfl, lz, mz⟩
        have u14 := u13.trans s4
        refine ⟨D, _, rfl, .inl ⟨SqL.of hD4, fun cu hcu => ?_⟩⟩
        have u5 : Same H4 (upd H4 cu (.tup (zs.map V.int))) := same_new hcu
        have hc5 : upd H4 cu (.tup (zs.map V.int)) cu = some (.tup (zs.map V.int)) := upd_same
        generalize upd H4 cu (.tup (zs.map V.int)) = H5 at u5 hc5 ⊢
        have u15 := u14.trans u5
        have t0 := Int.emod_nonneg (c / 7 / 2) (show (4 : Int) ≠ 0 by decide)
        have t1 := Int.emod_lt_of_pos (c / 7 / 2) (show (0 : Int) < 4 by decide)
        refine ⟨_, rfl, _, _, rfl, rfl, ⟨by decide, by decide⟩, _, _, rfl, rfl, (show (0 : Int) < 4 by decide), _, rfl, by omega, by omega, fun D2 hD2 => ?_⟩
        refine comp_genQ (J := Itr 0 (c / 7 / 2 % 4).toNat) (D := D2) (c / 7 / 2 % 4).toNat (fun i ys Hx => Same H5 Hx ∧ Hx D2 = some (.lst ys) ∧ ∃ zs : List Int, ys = zs.map V.int ∧ zs.length = i ∧ ∀ x ∈ zs, ∃ o ∈ os, x = o.n) ⟨same_new hD2, upd_same, [], rfl, rfl, by intro x hx; cases hx⟩ (fun i ys Hx hi _ => hi) (fun ys Hx _ => Nat.le_refl _) ?_ ?_
        · rintro i ys Hx hi ⟨s1, hDx, zs2, rfl, lz2, mz2⟩ x Hy ⟨rfl, rfl⟩
          have uu := u15.trans s1
          obtain ⟨b', n', tl', k', a1, a2, a3⟩ := head_at (ros.kt (KT.same uu)) (c / 7 / 5 + (0 + (i : Int))) l0
          refine ⟨⟨rfl, rfl, True.intro⟩, ?_⟩
          refine ⟨_, rfl, _, rfl, _, _, rfl, rfl, ⟨by decide, by decide⟩, _, rfl, _, _, rfl, rfl, _, rfl, a, _, rfl, .inl (SqL.of (uu _ _ ha)), _, _, rfl, rfl, (show 0 < (xs.length : Int) by omega), a, _, _, _, rfl, rfl, SqL.of (uu _ _ ha), a1, b', _, _, _, rfl, rfl, SqT.of a2, atI_nat (j := 2) rfl, hDx, line_lt (by simp; omega), same_fresh s1 hD2, upd_same, zs2 ++ [n'], by simp, by simp; omega, fun x hx => (List.mem_append.mp hx).elim (mz2 x) fun h => by rw [List.mem_singleton.mp h]; exact a3⟩
        rintro ys H6 ⟨s6, hD6, zs2, rfl, lz2, mz2⟩
        refine ⟨D2, _, rfl, .inl ⟨SqL.of hD6, fun uu huu => ?_⟩⟩
        have u7 : Same H6 (upd H6 uu (.tup (zs2.map V.int))) := same_new huu
        refine ⟨cu, uu, zs, zs2, ?_, u15.trans (s6.trans u7), u7 _ _ (s6 _ _ hc5), upd_same, by omega, by omega, fun x hx => (List.mem_append.mp hx).elim (mz x) (mz2 x)⟩
        rw [inm_last ho]
        rfl
    · rintro σ' H3 ⟨cu, uu, cs, us, rfl, u3, hcu, huu, lc, lu, mcu⟩
      obtain ⟨w, aw, ow⟩ := word3 (c / 7)
      refine ⟨_, rfl, _, rfl, _, rfl, _, _, rfl, rfl, ⟨by decide, by decide⟩, _, _, rfl, rfl, ⟨by decide, by decide, by decide⟩, _, _, rfl, rfl, (by show (0 : Int) < 10 ^ (9 : Int).toNat; decide +kernel), line_le (by simp), fun l hl => ?_⟩
      have u4 : Same H3 (upd H3 l (.lst [.str "set", .str "start", .str "add"])) := same_new hl
      have h4 : upd H3 l (.lst [.str "set", .str "start", .str "add"]) l = some (.lst [.str "set", .str "start", .str "add"]) := upd_same
      generalize upd H3 l (.lst [.str "set", .str "start", .str "add"]) = H4 at u4 h4 ⊢
      refine ⟨_, rfl, _, _, rfl, rfl, (show (0 : Int) < 3 by decide), l, _, _, _, rfl, rfl, SqL.of h4, aw, _, rfl, _, rfl, line_le (by simp), fun q hq => ?_⟩
      have u5 := same_new (H := H4) (o := .tup [.int (inm (-1) os), .str "deed", .int n, .int (c / 7 / 3 % 10 ^ (9 : Int).toNat), .str w, .ref cu, .ref uu]) hq
      exact k q cu uu _ w cs us _ (u3.trans (u4.trans u5)) upd_same (u5 _ _ (u4 _ _ hcu)) (u5 _ _ (u4 _ _ huu)) lc lu ow mcu
end
end My

set_option Elab.async false
set_option linter.all false
set_option maxRecDepth 100000
set_option maxHeartbeats 4000000
namespace My
open PySem L2
local macro_rules | `(tactic| walk_at "lk") => `(tactic| first | with_reducible exact lk0 | (refine lk1 (by decide +kernel) ?_; walk_at "lk") | rfl)
def sp_l_nest : Sp := fun vs H Q _ => ∃ (a : Addr) (xs : List V) (rs : List Ro) (bh : Int), vs = [.ref a, .int bh] ∧ H a = some (.lst xs) ∧ RosAt H xs rs ∧ rs.length ≤ 100 ∧
  ∀ (q tp : Addr) (ys : List V) (H' : Hp), Same H H' → H' q = some (.tup [.int bh, .ref tp]) → H' tp = some (.tup ys) → NdsAt H' (bdy rs (-1)) ys → Q (.ref q) H'
/-- the dict of bodies -/
def BdAt (H : Hp) (kvs : List (Key × V)) (f : Int → List Nd) : Prop := ∀ z : Int, (valV kvs (Sum.inl z) = none ∧ f z = []) ∨ ∃ p ys, valV kvs (Sum.inl z) = some (.ref p) ∧ H p = some (.tup ys) ∧ NdsAt H (f z) ys
theorem BdAt.kt {H H' : Hp} {kvs : List (Key × V)} {f : Int → List Nd} (h : BdAt H kvs f) (k : KT H H') : BdAt H' kvs f := fun z => (h z).imp id fun ⟨p, ys, h1, h2, h3⟩ => ⟨p, ys, h1, k _ _ h2, h3.kt k⟩
/-- what d.get(z, ()) tells -/
theorem BdAt.get {H : Hp} {kvs : List (Key × V)} {f : Int → List Nd} (h : BdAt H kvs f) {e : Addr} (he : H e = some (.tup [])) (z : Int) : ∃ p ys, (valV kvs (Sum.inl z)).getD (.ref e) = .ref p ∧ H p = some (.tup ys) ∧ NdsAt H (f z) ys := by
  rcases h z with ⟨h1, h2⟩ | ⟨p, ys, h1, h2, h3⟩
  · rw [h1, h2]
    exact ⟨e, [], rfl, he, by rw [NdsAt]⟩
  · rw [h1]
    exact ⟨p, ys, rfl, h2, h3⟩
theorem bdy_len : ∀ (rs : List Ro) (z : Int), (bdy rs z).length ≤ rs.length
  | [], z => Nat.le_refl _
  | r :: rs, z => by
    rw [bdy]
    have := bdy_len rs z
    split
    · rw [List.length_cons, List.length_cons]; omega
    · rw [List.length_cons]; omega
theorem drop_last {α : Type} {rs : List α} {i : Nat} {r : α} (hi : i < rs.length) (h : rs[rs.length - 1 - i]? = some r) : rs.drop (rs.length - (i + 1)) = r :: rs.drop (rs.length - i) := by
  have e : rs.length - (i + 1) = rs.length - 1 - i := by omega
  have hl : rs.length - 1 - i < rs.length := by omega
  rw [e, List.drop_eq_getElem_cons hl, show rs.length - 1 - i + 1 = rs.length - i by omega]
  rw [List.getElem?_eq_getElem hl] at h
  rw [Option.some.inj h]
section
variable {P : Program} {w : World} {K : PySem.W.Frag} {mg : Str → Option Value} {base : Heap} {t : Adr}
theorem ok_l_nest (T : Txt K mg t) : FnOk P w K mg base CX0 1 t.f_l_nest t.d_l_nest ["_law_rows", "_law_behind_here"] sp_l_nest := by
  refine T.F_l_nest.ok sc_l_nest (fun vs H Q E h => ?_) (fun cdv A outer s H vs Q E hr h => ?_)
  · obtain ⟨a, xs, rs, bh, rfl, _⟩ := h
    rfl
  · obtain ⟨a, xs, rs, bh, rfl, ha, ros, l100, k⟩ := h
    have lx := Paired.length ros
    have hu := hu_of hr
    refine ⟨_, (pss_cons (ps_set (i := 2) sc_l_nest.nd rfl (Or.inl rfl) pe_dnewK)
      (pss_cons (ps_for PassesOwn.never rfl (pi_rev rfl T.z_reversed (pa_cons (pv 0) pa_nil)) (pg_name (i := 3) sc_l_nest.nd rfl (Or.inl rfl) (Or.inl rfl))
        (pss_cons (ps_set (i := 4) sc_l_nest.nd rfl (Or.inl rfl) (pe_slice sl_tup (pv 3) (po_some pe_int) po_none))
        (pss_cut (ps_if (pt_cmpR op_eq (pe_ix ix_tup (pv 3) pe_int (fun _ _ => rfl)) pe_str (nomark _))
          (pss_one (ps_set (i := 4) sc_l_nest.nd rfl (Or.inl rfl) (pe_op op_catT4 (pv 4) (pe_tup (pa_cons (pe_dget2 hu (pv 2) (pe_ix ix_tup (pv 3) pe_int (fun _ _ => rfl)) (pe_tup pa_nil) ⟨rfl, rfl, rfl, rfl⟩) pa_nil)))))
          pss_nil)
        (pss_one (ps_dput hu (pv 2) (pe_ix ix_tup (pv 3) pe_int (fun _ _ => rfl)) (pe_op op_catT4 (pe_tup (pa_cons (pv 4) pa_nil)) (pe_dget2 hu (pv 2) (pe_ix ix_tup (pv 3) pe_int (fun _ _ => rfl)) (pe_tup pa_nil) ⟨rfl, rfl, rfl, rfl⟩)) rfl)))))
      (pss_one (ps_ret (pe_tup (pa_cons (pv 1) (pa_cons (pe_dget2 hu (pv 2) (pe_un un_neg pe_int) (pe_tup pa_nil) ⟨rfl, rfl, rfl, rfl⟩) pa_nil))))))), ?_⟩
    refine fun d hd => ?_
    refine ⟨_, rfl, a, xs, rfl, SqL.of (same_new hd _ _ ha), ?_⟩
    refine for_rev (K := K) (a := a) (xs := xs) (fun i σ H2 => ∃ (o3 o4 : Option V) (kvs : List (Key × V)), σ = [some (.ref a), some (.int bh), some (.ref d), o3, o4] ∧ Same H H2 ∧ H2 d = some (.dK kvs) ∧ kvs.length ≤ i ∧ BdAt H2 kvs (bdy (rs.drop (rs.length - i)))) ⟨none, none, [], rfl, same_new hd, upd_same, Nat.le_refl _, fun z => .inl ⟨rfl, by rw [Nat.sub_zero, List.drop_length]; rfl⟩⟩ (fun i σ H2 ⟨_, _, _, _, s2, _⟩ => SqL.of (s2 _ _ ha)) ?_ ?_
    · rintro i x σ H2 hi hx ⟨o3, o4, kvs, rfl, s2, hd2, lk, bd⟩
      obtain ⟨r, hr', ra⟩ := pget ros hx
      rw [lx] at hr' hi
      have ed := drop_last hi hr'
      rw [ed]
      have ra2 := ra.kt (KT.same s2)
      have lr : (rs.drop (rs.length - i)).length ≤ 100 := by rw [List.length_drop]; omega
      generalize rs.drop (rs.length - i) = rest at bd lr
      obtain ⟨ab, hh⟩ := r
      obtain ⟨b, tl, eb, hb⟩ := ra2.top
      subst eb
      refine ⟨_, rfl, _, rfl, b, _, rfl, SqT.of hb, ?_, fun p hp => ?_⟩
      · rintro ⟨z, _⟩
        have z : HT.sIx _ 0 (some ((1 : Nat) : Int)) = 0 := z
        rw [HT.sIx_nat] at z
        simp at z
      rw [show cutV (V.int ab :: .str hh.kd :: .int hh.num :: tl) (some 1) none = .str hh.kd :: .int hh.num :: tl from (cutV_drop (p := 1) (by simp)).trans rfl]
      have u3 : Same H2 (upd H2 p (.tup (.str hh.kd :: .int hh.num :: tl))) := same_new hp
      have hp3 : upd H2 p (.tup (.str hh.kd :: .int hh.num :: tl)) p = some (.tup (.str hh.kd :: .int hh.num :: tl)) := upd_same
      generalize upd H2 p (.tup (.str hh.kd :: .int hh.num :: tl)) = H3 at u3 hp3 ⊢
      refine ⟨fun σ' H' => ∃ nd : Addr, σ' = [some (.ref a), some (.int bh), some (.ref d), some (.ref b), some (.ref nd)] ∧ Same H2 H' ∧ NdAt H' (hh.nd (bdy rest)) (.ref nd), ?_, ?_⟩
      · refine ⟨_, rfl, b, _, _, _, rfl, rfl, SqT.of (u3 _ _ hb), atI_nat (j := 1) rfl, rfl, _, rfl, ?_⟩
        cases hh with
        | deed n kk w' cs us =>
          obtain ⟨b', c, u, e, h1, h2, h3⟩ := ra2
          cases e
          rw [hb] at h1
          have etl : tl = [.int kk, .str w', .ref c, .ref u] := by injection h1 with h1; injection h1 with h1; injection h1 with _ h1; injection h1 with _ h1; injection h1 with _ h1
          subst etl
          refine iteNo' (by show decide (V.str "deed" = V.str "loop") = false; decide +kernel) ⟨p, rfl, u3, ?_⟩
          show NdAt H3 (.deed n kk w' cs us) (.ref p)
          rw [NdAt]
          exact ⟨p, c, u, rfl, hp3, u3 _ _ h2, u3 _ _ h3⟩
        | loop n sz wd out =>
          obtain ⟨b', e, h1⟩ := ra2
          cases e
          rw [hb] at h1
          have etl : tl = [.int sz, .int wd, .int out] := by injection h1 with h1; injection h1 with h1; injection h1 with _ h1; injection h1 with _ h1; injection h1 with _ h1
          subst etl
          refine iteYes' (by show decide (V.str "loop" = V.str "loop") = true; decide +kernel) ?_
          refine ⟨_, rfl, _, rfl, d, rfl, .inl ⟨kvs, .inl (u3 _ _ hd2)⟩, _, rfl, b, _, _, _, rfl, rfl, SqT.of (u3 _ _ hb), atI_nat (j := 2) rfl, line_le (by simp), fun e he => ?_⟩
          have u4 : Same H3 (upd H3 e (.tup [])) := same_new he
          have he4 : upd H3 e (.tup []) e = some (.tup []) := upd_same
          generalize upd H3 e (.tup []) = H4 at u4 he4 ⊢
          have u34 := u3.trans u4
          obtain ⟨p', ys, g1, g2, g3⟩ := (bd.kt (KT.same u34)).get he4 n
          refine ⟨_, DGet.k (k := Sum.inl n) (u34 _ _ hd2), ?_⟩
          rw [g1]
          refine ⟨line_le (by simp), fun z hz => ?_⟩
          have u5 : Same H4 (upd H4 z (.tup [.ref p'])) := same_new hz
          have hz5 : upd H4 z (.tup [.ref p']) z = some (.tup [.ref p']) := upd_same
          generalize upd H4 z (.tup [.ref p']) = H5 at u5 hz5 ⊢
          refine ⟨p, z, _, _, rfl, rfl, (u4.trans u5) _ _ hp3, hz5, line_le (by simp [Hd.kd]), fun q H6 u6 hq => ⟨q, rfl, u34.trans (u5.trans u6), ?_⟩⟩
          show NdAt H6 (.loop n sz wd out (bdy rest n)) (.ref q)
          rw [NdAt]
          exact ⟨q, p', ys, rfl, hq, (u5.trans u6) _ _ g2, g3.kt (KT.same (u5.trans u6))⟩
      · rintro σ' H4 ⟨nd, rfl, u4, nat⟩
        refine ⟨_, rfl, line_le (by simp), fun z hz => ?_⟩
        have u5 : Same H4 (upd H4 z (.tup [.ref nd])) := same_new hz
        have hz5 : upd H4 z (.tup [.ref nd]) z = some (.tup [.ref nd]) := upd_same
        generalize upd H4 z (.tup [.ref nd]) = H5 at u5 hz5 ⊢
        have u45 := u4.trans u5
        refine ⟨_, rfl, d, rfl, .inl ⟨kvs, .inl (u45 _ _ hd2)⟩, _, rfl, b, _, _, _, rfl, rfl, SqT.of (u45 _ _ hb), atI_nat (j := 0) rfl, line_le (by simp), fun e he => ?_⟩
        have u6 : Same H5 (upd H5 e (.tup [])) := same_new he
        have he6 : upd H5 e (.tup []) e = some (.tup []) := upd_same
        generalize upd H5 e (.tup []) = H6 at u6 he6 ⊢
        have u46 := u45.trans u6
        obtain ⟨p', ys, g1, g2, g3⟩ := (bd.kt (KT.same u46)).get he6 ab
        refine ⟨_, DGet.k (k := Sum.inl ab) (u46 _ _ hd2), ?_⟩
        rw [g1]
        have ly := g3.len
        have lb := bdy_len rest ab
        refine ⟨z, p', _, _, rfl, rfl, u6 _ _ hz5, g2, line_le (by rw [List.length_singleton]; omega), fun q H7 u7 hq => ?_⟩
        have u47 := u46.trans u7
        have hd7 := u47 _ _ hd2
        refine ⟨_, rfl, _, rfl, b, _, _, _, rfl, rfl, SqT.of (u47 _ _ hb), atI_nat (j := 0) rfl, d, _, rfl, DPut.k (k := Sum.inl ab) hd7 (line_lt (by omega)), ?_⟩
        have kt : KT H7 (upd H7 d (.dK (putK kvs (Sum.inl ab) (.ref q)))) := KT.at hd7 (by intro xs z; cases z)
        have lp := length_putK kvs (Sum.inl ab) (.ref q)
        refine ⟨_, _, _, rfl, same_fresh (s2.trans u47) hd, upd_same, by omega, fun y => ?_⟩
        rw [valV_put]
        by_cases hy : y = ab
        · subst hy
          rw [if_pos rfl]
          refine .inr ⟨q, _, rfl, kt _ _ hq, ?_⟩
          rw [bdy, if_pos rfl, NdsAt]
          exact ⟨_, ys, rfl, NdAt.kt kt (NdAt.kt (KT.same (u5.trans (u6.trans u7))) nat), (g3.kt (KT.same u7)).kt kt⟩
        · rw [if_neg (fun z => hy (by injection z)), bdy, if_neg hy]
          exact ((bd.kt (KT.same u47)).kt kt) y
    · rintro σ H2 ⟨o3, o4, kvs, rfl, s2, hd2, lk, bd⟩
      rw [lx, Nat.sub_self, List.drop_zero] at bd
      refine ⟨_, rfl, _, rfl, d, rfl, .inl ⟨kvs, .inl hd2⟩, _, rfl, line_le (by simp), fun e he => ?_⟩
      have u3 : Same H2 (upd H2 e (.tup [])) := same_new he
      have he3 : upd H2 e (.tup []) e = some (.tup []) := upd_same
      generalize upd H2 e (.tup []) = H3 at u3 he3 ⊢
      obtain ⟨p', ys, g1, g2, g3⟩ := (bd.kt (KT.same u3)).get he3 (-1)
      refine ⟨_, DGet.k (k := Sum.inl (-1)) (u3 _ _ hd2), ?_⟩
      rw [g1]
      refine ⟨line_le (by simp), fun q hq => ?_⟩
      have u4 := same_new (H := H3) (o := .tup [.int bh, .ref p']) hq
      exact k q p' ys _ (s2.trans (u3.trans u4)) upd_same (u4 _ _ g2) (g3.kt (KT.same u4))
end
end My

set_option Elab.async false
set_option linter.all false
set_option maxRecDepth 100000
set_option maxHeartbeats 4000000
namespace My
open PySem L2
local macro_rules | `(tactic| walk_at "lk") => `(tactic| first | with_reducible exact lk0 | (refine lk1 (by decide +kernel) ?_; walk_at "lk") | rfl)
/-! ### rows that are drawn -/
def RoG : Ro → Prop
  | (_, .loop _ sz wd out) => 1 ≤ sz ∧ sz ≤ 2 ^ 100 ∧ (out = -1 → wd = 0)
  | (_, .deed _ _ w cs us) => PyData.strOk w = true ∧ cs.length ≤ 100 ∧ us.length ≤ 100
theorem RoG.ok : ∀ {r : Ro}, RoG r → RoOk r
  | (_, .loop ..), _ => True.intro
  | (_, .deed ..), h => h.1
theorem rw_pos : ∀ (x : Nd) (a : Int), 1 ≤ (rwN a x).length
  | .deed .., a => by simp [rwN]
  | .loop .., a => by simp [rwN]
theorem rw_len : ∀ (l : List Nd) (a : Int), l.length ≤ (rwL a l).length
  | [], a => Nat.zero_le _
  | x :: r, a => by
    rw [rwL, List.length_append, List.length_cons]
    have := rw_len r a
    have := rw_pos x a
    omega
mutual
theorem ok_ofN : ∀ (x : Nd) (a : Int) (b : Rd), (∀ r ∈ rwN a x, RoG r) → (rwN a x).length ≤ 100 → okN b x
  | .deed n k w cs us, a, b, h, _ => by
    have := h (a, .deed n k w cs us) (by rw [rwN]; exact .head _)
    rw [okN]
    exact ⟨True.intro, True.intro, this.2.1, this.2.2⟩
  | .loop n sz wd out bd, a, b, h, hl => by
    have h1 := h (a, .loop n sz wd out) (by rw [rwN]; exact .head _)
    rw [rwN, List.length_cons] at hl
    rw [okN]
    exact ⟨True.intro, h1.1, h1.2.1, True.intro, True.intro, ok_ofL bd n b (fun r hr => h r (by rw [rwN]; exact .tail _ hr)) (by omega), by have := rw_len bd n; omega⟩
theorem ok_ofL : ∀ (l : List Nd) (a : Int) (b : Rd), (∀ r ∈ rwL a l, RoG r) → (rwL a l).length ≤ 100 → okL b l
  | [], a, b, _, _ => by rw [okL]; exact True.intro
  | x :: r, a, b, h, hl => by
    rw [rwL, List.length_append] at hl
    rw [okL]
    exact ⟨ok_ofN x a b (fun z hz => h z (by rw [rwL]; exact List.mem_append_left _ hz)) (by omega), ok_ofL r a b (fun z hz => h z (by rw [rwL]; exact List.mem_append_right _ hz)) (by omega)⟩
end
structure DpOk (os : List Op) (l : List Nd) : Prop where
  each : ∀ (i : Nat) (o : Op), os[i]? = some o → dpL o.ahead + i ≤ 16
  last : dpL l + os.length ≤ 16
theorem DpOk.head {os : List Op} {l : List Nd} (h : DpOk os l) (hl : os.length < 16) (n sz wd out : Int) : DpOk (os ++ [⟨l, n, sz, wd, out⟩]) [] := by
  refine ⟨fun i o e => ?_, by simp [dpL]; omega⟩
  by_cases hi : i < os.length
  · rw [List.getElem?_append_left hi] at e
    exact h.each i o e
  · rw [List.getElem?_append_right (by omega)] at e
    obtain ⟨hj, e⟩ := List.getElem?_eq_some_iff.mp e
    simp at hj
    have : i = os.length := by omega
    subst this
    simp at e
    subst e
    exact h.last
theorem DpOk.deed {os : List Op} {l : List Nd} (h : DpOk os l) (n k : Int) (w : Str) (cs us : List Int) : DpOk os (l ++ [.deed n k w cs us]) := by
  refine ⟨h.each, ?_⟩
  have := h.last
  rw [dpL_app]
  have : dpL [Nd.deed n k w cs us] = 0 := by simp [dpL, dpN]
  omega
theorem DpOk.close {os : List Op} {o : Op} {l : List Nd} (h : DpOk (os ++ [o]) l) : DpOk os (o.ahead ++ [.loop o.n o.sz o.wd o.out l]) := by
  have h1 := h.each os.length o (by simp)
  have h2 := h.last
  rw [List.length_append, List.length_singleton] at h2
  refine ⟨fun i p e => ?_, ?_⟩
  · have hi : i < os.length := (List.getElem?_eq_some_iff.mp e).1
    exact h.each i p (by rw [List.getElem?_append_left hi]; exact e)
  · rw [dpL_app]
    have : dpL [Nd.loop o.n o.sz o.wd o.out l] = dpL l + 1 := by simp [dpL, dpN]
    omega
theorem OsOk.take {os : List Op} (h : OsOk os) (n : Nat) : OsOk (os.take n) := by
  refine ⟨by rw [List.length_take]; have := h.len; omega, fun i o e => ?_, fun o ho => h.wd o (List.mem_of_mem_take ho), fun o ho => h.nn o (List.mem_of_mem_take ho)⟩
  rw [List.getElem?_take] at e
  split at e
  · exact h.sz i o e
  · cases e
theorem OsOk.head {os : List Op} (h : OsOk os) (hl : os.length < 16) {l : List Nd} {n sz wd out : Int} (s1 : 1 ≤ sz) (s2 : sz ≤ 60 * 4 ^ os.length) (w1 : 0 ≤ wd) (w2 : wd ≤ 4) (n0 : 0 ≤ n) : OsOk (os ++ [⟨l, n, sz, wd, out⟩]) := by
  refine ⟨by simp; omega, fun i o e => ?_, fun o ho => ?_, fun o ho => ?_⟩
  · by_cases hi : i < os.length
    · rw [List.getElem?_append_left hi] at e
      exact h.sz i o e
    · rw [List.getElem?_append_right (by omega)] at e
      obtain ⟨hj, e⟩ := List.getElem?_eq_some_iff.mp e
      simp at hj
      have : i = os.length := by omega
      subst this
      simp at e
      subst e
      exact ⟨s1, s2⟩
  · rcases List.mem_append.mp ho with ho | ho
    · exact h.wd o ho
    · rw [List.mem_singleton.mp ho]
      exact ⟨w1, w2⟩
  · rcases List.mem_append.mp ho with ho | ho
    · exact h.nn o ho
    · rw [List.mem_singleton.mp ho]
      exact n0
/-- what open rows may speak of -/
def envO : List Int → List Op → List Int
  | e, [] => e
  | e, o :: os => envO (o.n :: e) os
theorem mem_envO : ∀ {os : List Op} {e : List Int} {y : Int}, (y ∈ e ∨ ∃ o ∈ os, y = o.n) → y ∈ envO e os
  | [], e, y, h => h.elim id fun ⟨_, z, _⟩ => by cases z
  | p :: os, e, y, h => by
    refine mem_envO (os := os) (e := p.n :: e) ?_
    rcases h with h | ⟨o, ho, e1⟩
    · exact .inl (.tail _ h)
    · rcases List.mem_cons.mp ho with ho | ho
      · subst ho; exact .inl (by rw [e1]; exact .head _)
      · exact .inr ⟨o, ho, e1⟩
def wsO : List Int → List Op → List Nd → Prop
  | e, [], l => wsL e l
  | e, o :: os, l => wsL e o.ahead ∧ (o.out = -1 ∨ o.out ∈ e) ∧ wsO (o.n :: e) os l
theorem wsO_add : ∀ {os : List Op} {e : List Int} {l m : List Nd}, wsO e os l → wsL (envO e os) m → wsO e os (l ++ m)
  | [], e, l, m, h, g => wsL_app.mpr ⟨h, g⟩
  | o :: os, e, l, m, h, g => ⟨h.1, h.2.1, wsO_add h.2.2 g⟩
theorem wsO_head : ∀ {os : List Op} {e : List Int} {l : List Nd} {n sz wd out : Int}, wsO e os l → (out = -1 ∨ out ∈ envO e os) → wsO e (os ++ [⟨l, n, sz, wd, out⟩]) []
  | [], e, l, n, sz, wd, out, h, g => ⟨h, g, by rw [wsO, wsL]; exact True.intro⟩
  | o :: os, e, l, n, sz, wd, out, h, g => ⟨h.1, h.2.1, wsO_head h.2.2 g⟩
theorem wsO_close : ∀ {os : List Op} {e : List Int} {o : Op} {l : List Nd}, wsO e (os ++ [o]) l → wsO e os (o.ahead ++ [.loop o.n o.sz o.wd o.out l])
  | [], e, o, l, h => wsL_app.mpr ⟨h.1, by rw [wsL, wsN, wsL]; exact ⟨⟨h.2.1, h.2.2⟩, True.intro⟩⟩
  | p :: os, e, o, l, h => ⟨h.1, h.2.1, wsO_close h.2.2⟩
theorem opn_len : ∀ (a : Int) (os : List Op) (l : List Nd), os.length ≤ (opn a os l).length
  | a, [], l => Nat.zero_le _
  | a, o :: os, l => by
    rw [opn, List.length_append, List.length_cons, List.length_cons]
    have := opn_len o.n os l
    omega
/-- heads are closed till n are left -/
theorem close_to : ∀ (j : Nat) (os : List Op) (l : List Nd), j ≤ os.length → DpOk os l → wsO [] os l → ∃ l', opn (-1) os l = opn (-1) (os.take (os.length - j)) l' ∧ DpOk (os.take (os.length - j)) l' ∧ wsO [] (os.take (os.length - j)) l'
  | 0, os, l, _, h, ws => ⟨l, by rw [Nat.sub_zero, List.take_length], by rw [Nat.sub_zero, List.take_length]; exact h, by rw [Nat.sub_zero, List.take_length]; exact ws⟩
  | j + 1, os, l, hj, h, ws => by
    rcases os.eq_nil_or_concat with e | ⟨os0, o, e⟩
    · subst e; simp at hj
    · rw [List.concat_eq_append] at e
      subst e
      obtain ⟨l', e1, e2, e3⟩ := close_to j os0 (o.ahead ++ [.loop o.n o.sz o.wd o.out l]) (by simp at hj; omega) h.close (wsO_close ws)
      have et : (os0 ++ [o]).take ((os0 ++ [o]).length - (j + 1)) = os0.take (os0.length - j) := by
        rw [List.length_append, List.length_singleton, show os0.length + 1 - (j + 1) = os0.length - j by omega, List.take_append_of_le_length (by omega)]
      rw [et]
      exact ⟨l', by rw [opn_close, e1], e2, e3⟩
/-- the number that a place of the script gives -/
def numK (st b bh : Int) (k : Nat) : Int := (st + (k : Int) - 2 * (k : Int) * b) % bh
theorem numK_inj {st b bh : Int} {j k : Nat} (hb : b = 0 ∨ b = 1) (h : 100 ≤ bh) (hj : j < 64) (hk : k < 64) (e : numK st b bh j = numK st b bh k) : j = k := by
  unfold numK at e
  have d := Int.emod_emod_of_dvd
  have h2 : ((st + (j : Int) - 2 * (j : Int) * b) - (st + (k : Int) - 2 * (k : Int) * b)) % bh = 0 := Int.emod_eq_emod_iff_emod_sub_eq_zero.mp e
  obtain ⟨c, hc⟩ := Int.dvd_of_emod_eq_zero h2
  rcases hb with rfl | rfl
  · have : (j : Int) - k = bh * c := by rw [← hc]; omega
    by_cases c0 : c = 0
    · subst c0; omega
    · have : bh ≤ (bh * c) ∨ bh * c ≤ -bh := by
        rcases Int.lt_or_gt_of_ne c0 with z | z
        · right; have := Int.mul_le_mul_of_nonneg_left (show c ≤ -1 by omega) (show 0 ≤ bh by omega); omega
        · left; have := Int.mul_le_mul_of_nonneg_left (show 1 ≤ c by omega) (show 0 ≤ bh by omega); omega
      omega
  · have : (k : Int) - j = bh * c := by rw [← hc]; omega
    by_cases c0 : c = 0
    · subst c0; omega
    · have : bh ≤ (bh * c) ∨ bh * c ≤ -bh := by
        rcases Int.lt_or_gt_of_ne c0 with z | z
        · right; have := Int.mul_le_mul_of_nonneg_left (show c ≤ -1 by omega) (show 0 ≤ bh by omega); omega
        · left; have := Int.mul_le_mul_of_nonneg_left (show 1 ≤ c by omega) (show 0 ≤ bh by omega); omega
      omega
theorem numK_nn {st b bh : Int} {k : Nat} (h : 100 ≤ bh) : 0 ≤ numK st b bh k := Int.emod_nonneg _ (by omega)
/-- the walk's state, in rows: place j of the script comes next -/
structure Dr (st b bh : Int) (j : Nat) (os : List Op) (l : List Nd) : Prop where
  ok : OsOk os
  dp : DpOk os l
  nd : (lps (opn (-1) os l)).Nodup
  nm : ∀ z ∈ lps (opn (-1) os l), ∃ k, k < j ∧ z = numK st b bh k
  len : (opn (-1) os l).length ≤ j
  g : ∀ r ∈ opn (-1) os l, RoG r
  ws : wsO [] os l
theorem Dr.step {st b bh : Int} {j : Nat} {os : List Op} {l : List Nd} (h : Dr st b bh j os l) : Dr st b bh (j + 1) os l := ⟨h.ok, h.dp, h.nd, fun z hz => let ⟨k, a, e⟩ := h.nm z hz; ⟨k, by omega, e⟩, by have := h.len; omega, h.g, h.ws⟩
theorem Dr.close {st b bh : Int} {j : Nat} {os : List Op} {l : List Nd} (h : Dr st b bh j os l) {n : Nat} (hn : n ≤ os.length) : ∃ l', Dr st b bh j (os.take (os.length - n)) l' ∧ opn (-1) os l = opn (-1) (os.take (os.length - n)) l' := by
  obtain ⟨l', e1, e2, e3⟩ := close_to n os l hn h.dp h.ws
  exact ⟨l', ⟨h.ok.take _, e2, by rw [← e1]; exact h.nd, by rw [← e1]; exact h.nm, by rw [← e1]; exact h.len, by rw [← e1]; exact h.g, e3⟩, e1⟩
theorem Dr.head {st b bh : Int} {j : Nat} {os : List Op} {l : List Nd} (h : Dr st b bh j os l) (hb : b = 0 ∨ b = 1) (h100 : 100 ≤ bh) (hj : j < 64) (hl : os.length < 16) {sz wd out : Int} (s1 : 1 ≤ sz) (s2 : sz ≤ 60 * 4 ^ os.length) (w1 : 0 ≤ wd) (w2 : wd ≤ 4) (w0 : out = -1 → wd = 0) (wo : out = -1 ∨ ∃ o ∈ os, out = o.n) :
    Dr st b bh (j + 1) (os ++ [⟨l, numK st b bh j, sz, wd, out⟩]) [] := by
  have sb : sz ≤ 2 ^ 100 := by
    have : (4 : Int) ^ os.length ≤ 4 ^ 16 := by
      have : (4 : Nat) ^ os.length ≤ 4 ^ 16 := Nat.pow_le_pow_right (by decide) (by omega)
      exact_mod_cast this
    omega
  have hlen := h.len
  refine ⟨h.ok.head hl s1 s2 w1 w2 (numK_nn h100), h.dp.head hl _ _ _ _, ?_, ?_, ?_, ?_, wsO_head h.ws (wo.imp id fun z => mem_envO (.inr z))⟩ <;> rw [opn_head]
  · rw [lps_app, List.nodup_append]
    refine ⟨h.nd, by simp [lps, Hd.lp], fun x hx y hy e => ?_⟩
    have hy : y = numK st b bh j := by simpa [lps, Hd.lp] using hy
    obtain ⟨k, hk, ek⟩ := h.nm x hx
    rw [e, hy] at ek
    have := numK_inj hb h100 hj (by omega) ek
    omega
  · intro z hz
    rw [lps_app] at hz
    rcases List.mem_append.mp hz with hz | hz
    · obtain ⟨k, a, e⟩ := h.nm z hz
      exact ⟨k, by omega, e⟩
    · exact ⟨j, by omega, by simpa [lps, Hd.lp] using hz⟩
  · rw [List.length_append, List.length_singleton]; omega
  · intro r hr
    rcases List.mem_append.mp hr with hr | hr
    · exact h.g r hr
    · rw [List.mem_singleton.mp hr]; exact ⟨s1, sb, w0⟩
theorem Dr.deed {st b bh : Int} {j : Nat} {os : List Op} {l : List Nd} (h : Dr st b bh j os l) (n k : Int) {w : Str} {cs us : List Int} (hw : PyData.strOk w = true) (lc : cs.length ≤ 4) (lu : us.length ≤ 4) (mcu : ∀ x ∈ cs ++ us, ∃ o ∈ os, x = o.n) :
    Dr st b bh (j + 1) os (l ++ [.deed n k w cs us]) ∧ opn (-1) os (l ++ [.deed n k w cs us]) = opn (-1) os l ++ [(inm (-1) os, .deed n k w cs us)] := by
  have e : opn (-1) os (l ++ [.deed n k w cs us]) = opn (-1) os l ++ [(inm (-1) os, .deed n k w cs us)] := by rw [opn_add, rwL, rwN, rwL, List.append_nil]
  have el : lps (opn (-1) os (l ++ [.deed n k w cs us])) = lps (opn (-1) os l) := by rw [e, lps_app]; simp [lps, Hd.lp]
  have hlen := h.len
  refine ⟨⟨h.ok, h.dp.deed _ _ _ _ _, by rw [el]; exact h.nd, by rw [el]; exact fun z hz => let ⟨k, a, e⟩ := h.nm z hz; ⟨k, by omega, e⟩, by rw [e, List.length_append, List.length_singleton]; omega, ?_, wsO_add h.ws (by rw [wsL, wsN, wsL]; exact ⟨fun y hy => mem_envO (.inr (mcu y hy)), True.intro⟩)⟩, e⟩
  intro r hr
  rw [e] at hr
  rcases List.mem_append.mp hr with hr | hr
  · exact h.g r hr
  · rw [List.mem_singleton.mp hr]; exact ⟨hw, by omega, by omega⟩
/-- what the law says of the rows that it drew -/
structure RsOk (l : List Nd) : Prop where
  nd : (nmL l).Nodup
  m1 : (-1) ∉ nmL l
  ok : okL [] l
  len : l.length ≤ 100
  dp : dpL l ≤ 16
  rl : (rwL (-1) l).length ≤ 100
  ro : ∀ r ∈ rwL (-1) l, RoG r
  ws : wsL [] l
  nn : ∀ y ∈ nmL l, 0 ≤ y
theorem Dr.done {st b bh : Int} {j : Nat} {os : List Op} {l : List Nd} (h : Dr st b bh j os l) (h100 : 100 ≤ bh) (hj : j ≤ 64) : ∃ l', opn (-1) os l = rwL (-1) l' ∧ RsOk l' := by
  obtain ⟨l', d, e⟩ := h.close (Nat.le_refl os.length)
  rw [Nat.sub_self, List.take_zero] at d e
  have e' : opn (-1) [] l' = rwL (-1) l' := rfl
  have nd := d.nd
  have nm := d.nm
  have ln := d.len
  have g := d.g
  have dp := d.dp.last
  rw [e'] at nd nm ln g
  rw [lps_L] at nd nm
  have rl := rw_len l' (-1)
  exact ⟨l', e, nd, fun z => by
    obtain ⟨k, _, q⟩ := nm _ z
    have := numK_nn (st := st) (b := b) (k := k) h100
    omega, ok_ofL l' (-1) [] g (by omega), by omega, by simp at dp; omega, by omega, g, d.ws, fun y hy => by
    obtain ⟨k, _, q⟩ := nm _ hy
    rw [q]
    exact numK_nn h100⟩
/-! ### cells, told -/
def sp_l_cellD (K : PySem.W.Frag) : Sp := fun vs H Q _ => ∃ (a : Addr) (ns : List Int) (k : Int), vs = [.ref a, .int k] ∧ SqL K H a (ns.map V.int) ∧ 0 ≤ k ∧ Q (.int ((ns[k.toNat]?).getD 0)) H
section
variable {P : Program} {w : World} {K : PySem.W.Frag} {mg : Str → Option Value} {base : Heap} {t : Adr}
theorem ok_l_cellD (T : Txt K mg t) : FnOk P w K mg base CX0 1 t.f_l_cell_at t.d_l_cell_at ["_law_script", "_law_k"] (sp_l_cellD K) := by
  refine T.F_l_cell_at.ok sc_l_cell_at (fun vs H Q E h => ?_) (fun cdv A outer s H vs Q E hr h => ?_)
  · obtain ⟨a, ns, k, rfl, _⟩ := h
    rfl
  · obtain ⟨a, ns, k, rfl, hS, k0, q⟩ := h
    refine ⟨_, (pss_cons (ps_if (pt_cmpR op_lt (pv 1) (pe_callB call_len_seq (by rfl) T.z_len PySem.boot_len (pa_cons (pv 0) pa_nil)) (nomark _))
        (pss_one (ps_ret (pe_ix ix_list (pv 0) (pv 1) (fun _ _ => rfl))))
        pss_nil)
      (pss_one (ps_ret pe_int))), ?_⟩
    refine ⟨_, rfl, _, rfl, a, _, rfl, .inl hS, _, _, rfl, rfl, _, rfl, ?_⟩
    refine iteD (fun hk => ?_) (fun hk => ?_)
    · obtain ⟨z, hz, e⟩ := at_mapV (f := V.int) (xs := ns) k0 (by simpa using hk)
      rw [hz] at q
      exact ⟨_, rfl, _, rfl, a, _, _, _, rfl, rfl, hS, e, q⟩
    · have : ns[k.toNat]? = none := List.getElem?_eq_none_iff.mpr (by
        have : ¬ k < ((ns.map V.int).length : Int) := hk
        rw [List.length_map] at this
        omega)
      rw [this] at q
      exact q
end
end My

set_option Elab.async false
set_option linter.all false
set_option maxRecDepth 100000
set_option maxHeartbeats 4000000
namespace My
open PySem L2
local macro_rules | `(tactic| walk_at "lk") => `(tactic| first | with_reducible exact lk0 | (refine lk1 (by decide +kernel) ?_; walk_at "lk") | rfl)
theorem paired_snoc {α β : Type} {F : α → β → Prop} {a : List α} {b : List β} {x : α} {y : β} (h : Paired F a b) (g : F x y) : Paired F (a ++ [x]) (b ++ [y]) := papp h (.cons g .nil)
def sp_l_named : Sp := fun vs H Q _ => ∃ (p : Addr) (cs : List Int) (o w : Int), vs = [.ref p, .int o, .int w] ∧ H p = some (.tup (cs.map V.int)) ∧ cs.length ≤ 1000 ∧ ∀ (q : Addr) (H' : Hp), Same H H' → H' q = some (.tup ((cs.map (ins o w)).map V.int)) → Q (.ref q) H'
section
variable {P : Program} {w : World} {K : PySem.W.Frag} {mg : Str → Option Value} {base : Heap} {t : Adr}
theorem ok_l_named (T : Txt K mg t) : FnOk P w K mg base CX0 1 t.f_l_named t.d_l_named ["_law_some", "_law_old", "_law_new"] sp_l_named := by
  refine T.F_l_named.ok sc_l_named (fun vs H Q E h => ?_) (fun cdv A outer s H vs Q E hr h => ?_)
  · obtain ⟨p, cs, o, w, rfl, _⟩ := h
    rfl
  · obtain ⟨p, cs, o, w, rfl, hp, lc, k⟩ := h
    refine ⟨_, (pss_cons (ps_set (i := 3) sc_l_named.nd rfl (Or.inl rfl) (pe_lst pa_nil))
      (pss_cons (ps_for PassesOwn.never rfl (pi_tup (pv 0)) (pg_name (i := 4) sc_l_named.nd rfl (Or.inl rfl) (Or.inl rfl))
        (pss_cut (ps_if (pt_cmpR op_eq (pv 4) (pv 1) (nomark _))
          (pss_one (ps_set (i := 4) sc_l_named.nd rfl (Or.inl rfl) (pv 2)))
          pss_nil)
        (pss_one (ps_expr (pe_bm PySem.F.plainAttrs_list PySem.F.slot_list_append PySem.F.type_list_append mt_append (pv 3) (pa_cons (pv 4) pa_nil))))))
      (pss_one (ps_ret (pe_callTy call_tuple_of (by rfl) T.z_tuple PyProof.Rows.boot_tuple (pa_cons (pv 3) pa_nil)))))), ?_⟩
    refine ⟨line_le (by simp), fun D hD => ?_⟩
    refine ⟨_, rfl, p, rfl, ⟨_, SqT.of (same_new hD _ _ hp)⟩, ?_⟩
    refine for_tup (K := K) (a := p) (xs := cs.map V.int) (fun i σ G => ∃ o4 : Option V, σ = [some (.ref p), some (.int o), some (.int w), some (.ref D), o4] ∧ Same H G ∧ G D = some (.lst (((cs.take i).map (ins o w)).map V.int))) ⟨none, rfl, same_new hD, upd_same⟩ (fun i σ G _ ⟨_, _, sG, _⟩ => SqT.of (sG _ _ hp)) ?_ ?_
    · rintro i x σ G hx ⟨o4, rfl, sG, hDG⟩
      obtain ⟨z, hz, rfl⟩ := get_map hx
      have hi : i < cs.length := (List.getElem?_eq_some_iff.mp hz).1
      refine ⟨fun σ' G' => σ' = [some (.ref p), some (.int o), some (.int w), some (.ref D), some (.int (ins o w z))] ∧ G' = G, ?_, ?_⟩
      · refine ⟨_, rfl, _, rfl, rfl, _, rfl, iteD (fun e => ?_) (fun e => ?_)⟩
        · have e : z = o := by injection e
          exact ⟨_, rfl, by rw [ins, if_pos e]; rfl, rfl⟩
        · have e : z ≠ o := fun q => e (by rw [q])
          exact ⟨by rw [ins_ne e]; rfl, rfl⟩
      · rintro σ' G' ⟨rfl, rfl⟩
        refine ⟨_, rfl, .inl ⟨rfl, _, SqL.of hDG⟩, _, rfl, D, _, _, rfl, rfl, hDG, line_lt (by simp; omega), _, rfl, same_fresh sG hD, ?_⟩
        rw [upd_same, List.take_add_one, hz, Option.toList_some, List.map_append, List.map_append]
        rfl
    · rintro σ G ⟨o4, rfl, sG, hDG⟩
      rw [List.length_map, List.take_length] at hDG
      exact ⟨_, rfl, D, _, rfl, .inl ⟨SqL.of hDG, fun q hq => k q _ (sG.trans (same_new hq)) upd_same⟩⟩
end
end My

set_option Elab.async false
set_option linter.all false
set_option maxRecDepth 100000
set_option maxHeartbeats 4000000
namespace My
open PySem L2
local macro_rules | `(tactic| walk_at "lk") => `(tactic| first | with_reducible exact lk0 | (refine lk1 (by decide +kernel) ?_; walk_at "lk") | rfl)
theorem loopAt_get {N : Int} : ∀ {rs : List Ro} {i : Nat}, loopAt N rs = some i → ∃ ab sz wd out, rs[i]? = some (ab, .loop N sz wd out)
  | [], i, h => by cases h
  | (a, .loop n sz wd out) :: rs, i, h => by
    rw [loopAt] at h
    by_cases e : n = N
    · rw [if_pos e] at h
      cases h
      subst e
      exact ⟨a, sz, wd, out, rfl⟩
    · rw [if_neg e] at h
      obtain ⟨j, hj, rfl⟩ := Option.map_eq_some_iff.mp h
      obtain ⟨ab, s, w, o, q⟩ := loopAt_get hj
      exact ⟨ab, s, w, o, by simpa using q⟩
  | (a, .deed n k w cs us) :: rs, i, h => by
    rw [loopAt] at h
    obtain ⟨j, hj, rfl⟩ := Option.map_eq_some_iff.mp h
    obtain ⟨ab, s, w, o, q⟩ := loopAt_get hj
    exact ⟨ab, s, w, o, by simpa using q⟩
theorem ros_take {H : Hp} {xs : List V} {rs : List Ro} (h : RosAt H xs rs) (n : Nat) : RosAt H (xs.take n) (rs.take n) := ptake n h
theorem ros_drop {H : Hp} {xs : List V} {rs : List Ro} (h : RosAt H xs rs) (n : Nat) : RosAt H (xs.drop n) (rs.drop n) := pdrop n h
theorem cut_neg {xs : List V} {j : Nat} (h : 1 ≤ j) : cutV xs none (some (-(j : Int))) = xs.take (xs.length - j) := by
  unfold cutV
  rw [HT.sIx_none, List.drop_zero, Nat.sub_zero]
  congr 1
  show (if -(j : Int) < 0 then (-(j : Int) + (xs.length : Int)).toNat else _) = _
  rw [if_pos (by omega)]
  omega
def sp_l_rows_by (K : PySem.W.Frag) : Sp := fun vs H Q _ => ∃ (a : Addr) (ns : List Int) (bh : Int), vs = [.ref a, .int bh] ∧ SqL K H a (ns.map V.int) ∧ 100 ≤ bh ∧
  ∀ (q : Addr) (xs : List V) (l : List Nd) (H' : Hp), H q = none → Same H H' → H' q = some (.lst xs) → RosAt H' xs (rwL (-1) l) → RsOk l → Q (.ref q) H'
theorem ro_shaped {r : Ro} (h : RoOk r) : SeqAt.shaped (encR r) = true := by
  have := nsok_ros (rs := [r]) (by intro x hx; rw [List.mem_singleton.mp hx]; exact h)
  obtain ⟨h1, h2⟩ := this
  simp only [List.map_cons, List.map_nil, PyData.canLayAll0, PyData.depthAll, Bool.and_true] at h1 h2
  exact shaped_of h1 (by omega)
/-- what the walk has made -/
structure RB (H G : Hp) (q hl : Addr) (st b bh : Int) (j : Nat) (xs hx : List V) (os : List Op) (l : List Nd) : Prop where
  sm : Same H G
  hq : G q = some (.lst xs)
  hh : G hl = some (.lst hx)
  h0 : H hl = none
  ne : hl ≠ q
  rx : RosAt G xs (opn (-1) os l)
  rh : RosAt G hx (hdsR (-1) os)
  dr : Dr st b bh j os l
theorem RB.same {H G G' : Hp} {q hl : Addr} {st b bh : Int} {j : Nat} {xs hx : List V} {os : List Op} {l : List Nd} (h : RB H G q hl st b bh j xs hx os l) (s : Same G G') : RB H G' q hl st b bh j xs hx os l :=
  ⟨h.sm.trans s, s _ _ h.hq, s _ _ h.hh, h.h0, h.ne, h.rx.kt (KT.same s), h.rh.kt (KT.same s), h.dr⟩
theorem RB.step {H G : Hp} {q hl : Addr} {st b bh : Int} {j : Nat} {xs hx : List V} {os : List Op} {l : List Nd} (h : RB H G q hl st b bh j xs hx os l) : RB H G q hl st b bh (j + 1) xs hx os l := { h with dr := h.dr.step }
theorem RB.lens {H G : Hp} {q hl : Addr} {st b bh : Int} {j : Nat} {xs hx : List V} {os : List Op} {l : List Nd} (h : RB H G q hl st b bh j xs hx os l) : xs.length ≤ j ∧ hx.length = os.length ∧ os.length ≤ 16 ∧ os.length ≤ xs.length := by
  have h1 := Paired.length h.rx
  have h2 := Paired.length h.rh
  rw [hdsR_len] at h2
  have := h.dr.len
  have := h.dr.ok.len
  have := opn_len (-1) os l
  exact ⟨by omega, h2, by omega, by omega⟩
/-- a deed is written -/
theorem RB.deed {H G G1 : Hp} {q hl dq cu uu : Addr} {st b bh n kk : Int} {j : Nat} {xs hx : List V} {os : List Op} {l : List Nd} {w : Str} {cs us : List Int} (h : RB H G q hl st b bh j xs hx os l) (u : Same G G1) (q0 : H q = none)
    (h1 : G1 dq = some (.tup [.int (inm (-1) os), .str "deed", .int n, .int kk, .str w, .ref cu, .ref uu])) (h2 : G1 cu = some (.tup (cs.map V.int))) (h3 : G1 uu = some (.tup (us.map V.int))) (lc : cs.length ≤ 4) (lu : us.length ≤ 4) (ow : PyData.strOk w = true) (mcu : ∀ x ∈ cs ++ us, ∃ o ∈ os, x = o.n) :
    ∃ l', RB H (upd G1 q (.lst (xs ++ [.ref dq]))) q hl st b bh (j + 1) (xs ++ [.ref dq]) hx os l' := by
  obtain ⟨d, e⟩ := h.dr.deed n kk ow lc lu mcu
  have h' := h.same u
  have kt : KT G1 (upd G1 q (.lst (xs ++ [.ref dq]))) := KT.at h'.hq (by intro xs z; cases z)
  refine ⟨_, same_fresh h'.sm q0, upd_same, by rw [upd_ne h.ne]; exact h'.hh, h.h0, h.ne, ?_, h'.rh.kt kt, d⟩
  rw [e]
  exact paired_snoc (h'.rx.kt kt) (RoAt.kt kt ⟨dq, cu, uu, rfl, h1, h2, h3⟩)
section
variable {P : Program} {w : World} {K : PySem.W.Frag} {mg : Str → Option Value} {base : Heap} {t : Adr}
theorem ok_l_rows_by (T : Txt K mg t) : FnOk P w K mg base CX0 2 t.f_l_rows_by t.d_l_rows_by ["_law_script", "_law_behind_here"] (sp_l_rows_by K) := by
  have G_l_cell_at := ok_l_cellD (P := P) (w := w) (base := base) T
  have G_l_head_by := ok_l_head_by (P := P) (w := w) (base := base) T
  have G_l_room := ok_l_room (P := P) (w := w) (base := base) T
  have G_l_deed_by := ok_l_deed_by (P := P) (w := w) (base := base) T
  refine T.F_l_rows_by.ok sc_l_rows_by (fun vs H Q E h => ?_) (fun cdv A outer s H vs Q E hr h => ?_)
  · obtain ⟨a, ns, bh, rfl, _⟩ := h
    rfl
  · obtain ⟨a, ns, bh, rfl, hS, b100, k⟩ := h
    have bpos : 0 < bh := by omega
    obtain ⟨c0, ec0⟩ : ∃ c0, (ns[0]?).getD 0 = c0 := ⟨_, rfl⟩
    have b0 := Int.emod_nonneg c0 (show (2 : Int) ≠ 0 by decide)
    have b1 := Int.emod_lt_of_pos c0 (show (0 : Int) < 2 by decide)
    have hb : c0 % 2 = 0 ∨ c0 % 2 = 1 := by omega
    refine ⟨_, (pss_cons (ps_set (i := 2) sc_l_rows_by.nd rfl (Or.inl rfl) (pe_op op_mod (pe_op op_fdiv (pe_call G_l_cell_at (hr.mono (by omega)) rfl T.m_l_cell_at T.F_l_cell_at.kp T.b_l_cell_at .nil pass0 (pa_cons (pv 0) (pa_cons pe_int pa_nil))) pe_int) (pv 1)))
      (pss_cons (ps_set (i := 3) sc_l_rows_by.nd rfl (Or.inl rfl) (pe_lst pa_nil))
      (pss_cons (ps_set (i := 4) sc_l_rows_by.nd rfl (Or.inl rfl) (pe_lst pa_nil))
      (pss_cons (ps_for PassesOwn.never rfl (pi_range2 rfl T.z_range (pa_cons pe_int (pa_cons (pe_callB (call_min2 rfl) (by rfl) T.z_min PyProof.Rows.boot_min (pa_cons (pe_callB call_len_seq (by rfl) T.z_len PySem.boot_len (pa_cons (pv 0) pa_nil)) (pa_cons pe_int pa_nil))) pa_nil))) (pg_name (i := 5) sc_l_rows_by.nd rfl (Or.inl rfl) (Or.inl rfl))
        (pss_cons (ps_set (i := 6) sc_l_rows_by.nd rfl (Or.inl rfl) (pe_ix ix_list (pv 0) (pv 5) (fun _ _ => rfl)))
        (pss_cons (ps_set (i := 7) sc_l_rows_by.nd rfl (Or.inl rfl) (pe_op op_mod (pe_op op_sub (pe_op op_add (pv 2) (pv 5)) (pe_op op_mul (pe_op op_mul pe_int (pv 5)) (pe_op op_mod (pe_call G_l_cell_at (hr.mono (by omega)) rfl T.m_l_cell_at T.F_l_cell_at.kp T.b_l_cell_at .nil pass0 (pa_cons (pv 0) (pa_cons pe_int pa_nil))) pe_int))) (pv 1)))
        (pss_cons (ps_set (i := 8) sc_l_rows_by.nd rfl (Or.inl rfl) (pe_op op_mod (pv 6) pe_int))
        (pss_cut (ps_if (PW.pt (pw_and (pt_cmpR op_lt (pv 8) pe_int (nomark _)) (pw_and1 (pt_cmpR op_lt (pe_callB call_len_seq (by rfl) T.z_len PySem.boot_len (pa_cons (pv 4) pa_nil)) pe_int (nomark _)))))
          (pss_cons (ps_expr (pe_bm PySem.F.plainAttrs_list PySem.F.slot_list_append PySem.F.type_list_append mt_append (pv 4) (pa_cons (pe_call G_l_head_by (hr.mono (by omega)) rfl T.m_l_head_by T.F_l_head_by.kp T.b_l_head_by .nil pass0 (pa_cons (pv 6) (pa_cons (pv 7) (pa_cons (pv 4) (pa_cons (pe_call G_l_room (hr.mono (by omega)) rfl T.m_l_room T.F_l_room.kp T.b_l_room .nil pass0 (pa_cons (pv 4) pa_nil)) pa_nil))))) pa_nil)))
          (pss_one (ps_expr (pe_bm PySem.F.plainAttrs_list PySem.F.slot_list_append PySem.F.type_list_append mt_append (pv 3) (pa_cons (pe_ix ix_list (pv 4) (pe_un un_neg pe_int) (fun _ _ => rfl)) pa_nil)))))
          (pss_one (ps_if (PW.pt (pw_or (pt_cmpR op_eq (pv 8) pe_int (nomark _)) (pw_or (pt_cmpR op_eq (pv 8) pe_int (nomark _)) (pw_or1 (PW.pt (pw_and (pt_cmpR op_eq (pv 8) pe_int (nomark _)) (pw_and (pt_cmpR (op_neD hr.units) (pv 4) (pe_lst pa_nil) (nomark _)) (pw_and1 (pt_cmpR (op_eqD hr.units) (pe_ix ix_list (pv 3) (pe_un un_neg pe_int) (fun _ _ => rfl)) (pe_ix ix_list (pv 4) (pe_un un_neg pe_int) (fun _ _ => rfl)) (nomark _))))))))))
            (pss_one (ps_expr (pe_bm PySem.F.plainAttrs_list PySem.F.slot_list_append PySem.F.type_list_append mt_append (pv 3) (pa_cons (pe_call G_l_deed_by (hr.mono (by omega)) rfl T.m_l_deed_by T.F_l_deed_by.kp T.b_l_deed_by .nil pass0 (pa_cons (pv 6) (pa_cons (pv 7) (pa_cons (pv 4) pa_nil)))) pa_nil))))
            pss_nil)))
        (pss_one (ps_if (pt_cmpR op_gt (pv 8) pe_int (nomark _))
          (pss_one (ps_set (i := 4) sc_l_rows_by.nd rfl (Or.inl rfl) (pe_slice sl_list (pv 4) po_none (po_some (pe_op op_sub (pe_un un_neg pe_int) (pe_op op_mod (pe_op op_fdiv (pv 6) pe_int) pe_int))))))
          pss_nil)))))))
      (pss_cut (ps_if (PW.pt (pw_and (pt_cmpR (op_neD hr.units) (pv 4) (pe_lst pa_nil) (nomark _)) (pw_and1 (pt_cmpR (op_eqD hr.units) (pe_ix ix_list (pv 3) (pe_un un_neg pe_int) (fun _ _ => rfl)) (pe_ix ix_list (pv 4) (pe_un un_neg pe_int) (fun _ _ => rfl)) (nomark _)))))
        (pss_one (ps_expr (pe_bm PySem.F.plainAttrs_list PySem.F.slot_list_append PySem.F.type_list_append mt_append (pv 3) (pa_cons (pe_call G_l_deed_by (hr.mono (by omega)) rfl T.m_l_deed_by T.F_l_deed_by.kp T.b_l_deed_by .nil pass0 (pa_cons (pv 2) (pa_cons (pe_op op_mod (pe_op op_sub (pe_op op_add (pv 2) pe_int) (pe_op op_mul pe_int (pe_op op_mod (pe_call G_l_cell_at (hr.mono (by omega)) rfl T.m_l_cell_at T.F_l_cell_at.kp T.b_l_cell_at .nil pass0 (pa_cons (pv 0) (pa_cons pe_int pa_nil))) pe_int))) (pv 1)) (pa_cons (pv 4) pa_nil)))) pa_nil))))
        pss_nil)
      (pss_one (ps_ret (pv 3)))))))), ?_⟩
    refine ⟨_, rfl, a, ns, 0, rfl, hS, by omega, _, _, rfl, rfl, ⟨by decide, by decide⟩, _, rfl, _, _, rfl, rfl, bpos, ?_⟩
    rw [show (ns[(0 : Int).toNat]?).getD 0 = c0 from ec0]
    refine ⟨line_le (by simp), fun q hq => ?_⟩
    have u1 : Same H (upd H q (.lst [])) := same_new hq
    have hq1 : upd H q (.lst []) q = some (.lst []) := upd_same
    generalize upd H q (.lst []) = H1 at u1 hq1 ⊢
    refine ⟨line_le (by simp), fun hl0 hhl0 => ?_⟩
    have u2 : Same H1 (upd H1 hl0 (.lst [])) := same_new hhl0
    have hh2 : upd H1 hl0 (.lst []) hl0 = some (.lst []) := upd_same
    have ne0 : hl0 ≠ q := fun z => by rw [z, hq1] at hhl0; cases hhl0
    have h00 : H hl0 = none := u1.free hhl0
    generalize upd H1 hl0 (.lst []) = H2 at u2 hh2 ⊢
    have u12 := u1.trans u2
    have dr0 : Dr (c0 / 2 % bh) (c0 % 2) bh 4 [] [] := ⟨⟨by simp, (by intro i o e; simp at e), (by intro o ho; cases ho), (by intro o ho; cases ho)⟩, ⟨by intro i o e; simp at e, by simp [dpL]⟩, by simp [opn, rwL, lps], by intro z hz; simp [opn, rwL, lps] at hz, by simp [opn, rwL], (by intro r hr; simp [opn, rwL] at hr), by rw [wsO, wsL]; exact True.intro⟩
    have rb0 : RB H H2 q hl0 (c0 / 2 % bh) (c0 % 2) bh 4 [] [] [] [] := ⟨u12, u2 _ _ hq1, hh2, h00, ne0, .nil, .nil, dr0⟩
    refine ⟨_, rfl, a, _, rfl, .inl (u12.seq hS), _, _, rfl, _, _, rfl, ⟨by decide, by decide, by split <;> omega, by split <;> omega⟩, ?_⟩
    refine for_range (lo := 4) (n := ((if (63 : Int) < ((ns.map V.int).length : Int) then (63 : Int) else ((ns.map V.int).length : Int)) - 4).toNat) (fun i σ G => ∃ (o5 o6 o7 o8 : Option V) (hl : Addr) (xs hx : List V) (os : List Op) (l : List Nd), σ = [some (.ref a), some (.int bh), some (.int (c0 / 2 % bh)), some (.ref q), some (.ref hl), o5, o6, o7, o8] ∧ RB H G q hl (c0 / 2 % bh) (c0 % 2) bh (4 + i) xs hx os l)
      ⟨none, none, none, none, hl0, [], [], [], [], rfl, rb0⟩ ?_ ?_
    · rintro i σ G hi ⟨o5, o6, o7, o8, hl, xs, hx, os, l, rfl, rb⟩
      have hlen : (4 + i : Nat) < ns.length ∧ 4 + i < 63 := by
        rw [List.length_map] at hi
        split at hi <;> omega
      rw [show (4 : Int) + (i : Int) = ((4 + i : Nat) : Int) by omega]
      obtain ⟨c, hc, ac⟩ := at_mapV (f := V.int) (xs := ns) (i := ((4 + i : Nat) : Int)) (by omega) (by omega)
      have hSG := rb.sm.seq hS
      refine ⟨_, rfl, _, rfl, a, _, _, _, rfl, rfl, hSG, ac, ?_⟩
      refine ⟨_, rfl, _, rfl, _, _, rfl, rfl, _, rfl, _, _, rfl, rfl, .inl ⟨by decide, by decide⟩, _, rfl, a, ns, 0, rfl, hSG, by omega, _, _, rfl, rfl, (show (0 : Int) < 2 by decide), ?_⟩
      rw [show (ns[(0 : Int).toNat]?).getD 0 = c0 from ec0]
      refine ⟨_, _, rfl, rfl, .inr ⟨by omega, by omega⟩, _, _, rfl, rfl, _, rfl, _, _, rfl, rfl, bpos, ?_⟩
      refine ⟨_, rfl, _, _, rfl, rfl, (show (0 : Int) < 7 by decide), ?_⟩
      refine ⟨fun σ' G' => ∃ (hl : Addr) (xs hx : List V) (os : List Op) (l : List Nd), σ' = [some (.ref a), some (.int bh), some (.int (c0 / 2 % bh)), some (.ref q), some (.ref hl), some (.int ((4 + i : Nat) : Int)), some (.int c), some (.int (numK (c0 / 2 % bh) (c0 % 2) bh (4 + i))), some (.int (c % 7))] ∧ RB H G' q hl (c0 / 2 % bh) (c0 % 2) bh (4 + i + 1) xs hx os l, ?_, ?_⟩
      · obtain ⟨lx1, lx2, lx3, lx4⟩ := rb.lens
        refine ⟨_, rfl, _, _, rfl, rfl, _, rfl, iteD (fun _ => ?_) (fun _ => ?_)⟩
        · refine ⟨_, rfl, hl, _, rfl, .inl (SqL.of rb.hh), _, _, rfl, rfl, _, rfl, iteD (fun h16 => ?_) (fun _ => ?_)⟩
          · have h16 : (hx.length : Int) < 16 := h16
            have l16 : os.length < 16 := by omega
            refine ⟨_, rfl, .inl ⟨rfl, _, SqL.of rb.hh⟩, _, rfl, _, rfl, _, rfl, _, rfl, hl, hx, os, rfl, rb.hh, rb.rh, rb.dr.ok, fun rm r1 r60 => ?_⟩
            refine ⟨c, _, hl, hx, os, rm, rfl, rb.hh, rb.rh, rb.dr.ok, l16, r1, r60, fun hq2 sz wd out G1 u1' hh1 s1 s2 w1 w2 w0 wo => ⟨hl, _, _, rfl, rfl, u1' _ _ rb.hh, line_lt (by omega), ?_⟩⟩
            have rb1 := rb.same u1'
            have kt1 : KT G1 (upd G1 hl (.lst (hx ++ [.ref hq2]))) := KT.at rb1.hh (by intro xs z; cases z)
            have hh2' : upd G1 hl (.lst (hx ++ [.ref hq2])) hl = some (.lst (hx ++ [.ref hq2])) := upd_same
            have sm2 : Same H (upd G1 hl (.lst (hx ++ [.ref hq2]))) := same_fresh rb1.sm rb1.h0
            have hq3 : upd G1 hl (.lst (hx ++ [.ref hq2])) q = some (.lst xs) := by rw [upd_ne rb.ne.symm]; exact rb1.hq
            generalize upd G1 hl (.lst (hx ++ [.ref hq2])) = G2 at kt1 hh2' sm2 hq3 ⊢
            refine ⟨_, rfl, .inl ⟨rfl, _, SqL.of hq3⟩, _, rfl, _, rfl, hl, _, _, _, rfl, rfl, SqL.of hh2', atI_last _ _, q, _, _, rfl, rfl, hq3, line_lt (by omega), ?_⟩
            have kt2 : KT G2 (upd G2 q (.lst (xs ++ [.ref hq2]))) := KT.at hq3 (by intro xs z; cases z)
            have ra : RoAt (upd G2 q (.lst (xs ++ [.ref hq2]))) (.ref hq2) (inm (-1) os, .loop (numK (c0 / 2 % bh) (c0 % 2) bh (4 + i)) sz wd out) := ⟨hq2, rfl, kt2 _ _ (kt1 _ _ hh1)⟩
            refine ⟨hl, _, _, os ++ [⟨l, numK (c0 / 2 % bh) (c0 % 2) bh (4 + i), sz, wd, out⟩], [], rfl, same_fresh sm2 hq, upd_same, by rw [upd_ne rb.ne]; exact hh2', rb.h0, rb.ne, ?_, ?_, rb.dr.head hb b100 (by omega) l16 s1 s2 w1 w2 w0 wo⟩
            · rw [opn_head]
              exact paired_snoc ((rb1.rx.kt kt1).kt kt2) ra
            · rw [hdsR_snoc]
              exact paired_snoc ((rb1.rh.kt kt1).kt kt2) ra
          · skip
            refine ⟨_, rfl, rfl, _, rfl, iteD (fun _ => ?_) (fun _ => ?_)⟩
            · skip
              have lens1 := rb.lens
              refine ⟨_, rfl, .inl ⟨rfl, _, SqL.of rb.hq⟩, _, rfl, _, rfl, _, rfl, c, _, hl, hx, os, rfl, rb.hh, rb.rh, fun dq cu uu kk w cs us G9 u9 h1 h2 h3 lc lu ow mcu => ⟨q, _, _, rfl, rfl, u9 _ _ rb.hq, line_lt (by omega), ?_⟩⟩
              obtain ⟨l', rb'⟩ := rb.deed u9 hq h1 h2 h3 lc lu ow mcu
              exact ⟨hl, _, hx, os, l', rfl, rb'⟩
            refine ⟨_, rfl, rfl, _, rfl, iteD (fun _ => ?_) (fun _ => ?_)⟩
            · skip
              have lens2 := rb.lens
              refine ⟨_, rfl, .inl ⟨rfl, _, SqL.of rb.hq⟩, _, rfl, _, rfl, _, rfl, c, _, hl, hx, os, rfl, rb.hh, rb.rh, fun dq cu uu kk w cs us G9 u9 h1 h2 h3 lc lu ow mcu => ⟨q, _, _, rfl, rfl, u9 _ _ rb.hq, line_lt (by omega), ?_⟩⟩
              obtain ⟨l', rb'⟩ := rb.deed u9 hq h1 h2 h3 lc lu ow mcu
              exact ⟨hl, _, hx, os, l', rfl, rb'⟩
            refine ⟨_, rfl, rfl, _, rfl, iteD (fun _ => ?_) (fun _ => ?_)⟩
            · refine ⟨_, rfl, line_le (by simp), fun z hz => ?_⟩
              have w1 : Same G (upd G z (.lst [])) := same_new hz
              have hw1 : upd G z (.lst []) z = some (.lst []) := upd_same
              generalize upd G z (.lst []) = G1 at w1 hw1 ⊢
              have rb1 := rb.same w1
              refine ⟨_, .list [], rep_ros rb1.hh rb1.rh, .lst hw1 .nil, ros_shaped (hds_ok (-1) os), by decide +kernel, _, rfl, ?_⟩
              rw [eqvN, show ((hdsR (-1) os).map encR).isEmpty = os.isEmpty by cases os <;> rfl]
              by_cases he : os = []
              · refine iteNo' (by rw [he]; rfl) ⟨hl, xs, hx, os, l, rfl, rb1.step⟩
              · refine iteYes' (by cases os with | nil => exact absurd rfl he | cons _ _ => rfl) ?_
                obtain ⟨lx1, lx2, lx3, lx4⟩ := rb.lens
                have op : 0 < os.length := List.length_pos_iff.mpr he
                obtain ⟨v1, hv1, av1⟩ := atI_neg1 (xs := xs) (by omega)
                obtain ⟨v2, hv2, av2⟩ := atI_neg1 (xs := hx) (by omega)
                obtain ⟨r1, hr1, ra1⟩ := pget rb1.rx hv1
                obtain ⟨r2, hr2, ra2⟩ := pget rb1.rh hv2
                refine ⟨_, rfl, _, rfl, q, _, _, _, rfl, rfl, SqL.of rb1.hq, av1, _, rfl, _, rfl, hl, _, _, _, rfl, rfl, SqL.of rb1.hh, av2, encR r1, encR r2, (ro_rep ra1).same (th_same _), (ro_rep ra2).same (th_same _), ro_shaped (rb.dr.g r1 (List.mem_of_getElem? hr1)).ok, ro_shaped (hds_ok _ _ r2 (List.mem_of_getElem? hr2)), _, rfl, ite2 (fun _ => ?_) (fun _ => ⟨hl, xs, hx, os, l, rfl, rb1.step⟩)⟩
                have lens3 := rb1.lens
                refine ⟨_, rfl, .inl ⟨rfl, _, SqL.of rb1.hq⟩, _, rfl, _, rfl, _, rfl, c, _, hl, hx, os, rfl, rb1.hh, rb1.rh, fun dq cu uu kk w cs us G9 u9 h1 h2 h3 lc lu ow mcu => ⟨q, _, _, rfl, rfl, u9 _ _ rb1.hq, line_lt (by omega), ?_⟩⟩
                obtain ⟨l', rb'⟩ := rb1.deed u9 hq h1 h2 h3 lc lu ow mcu
                exact ⟨hl, _, hx, os, l', rfl, rb'⟩
            · exact ⟨hl, xs, hx, os, l, rfl, rb.step⟩
        · skip
          refine ⟨_, rfl, rfl, _, rfl, iteD (fun _ => ?_) (fun _ => ?_)⟩
          · skip
            have lens1 := rb.lens
            refine ⟨_, rfl, .inl ⟨rfl, _, SqL.of rb.hq⟩, _, rfl, _, rfl, _, rfl, c, _, hl, hx, os, rfl, rb.hh, rb.rh, fun dq cu uu kk w cs us G9 u9 h1 h2 h3 lc lu ow mcu => ⟨q, _, _, rfl, rfl, u9 _ _ rb.hq, line_lt (by omega), ?_⟩⟩
            obtain ⟨l', rb'⟩ := rb.deed u9 hq h1 h2 h3 lc lu ow mcu
            exact ⟨hl, _, hx, os, l', rfl, rb'⟩
          refine ⟨_, rfl, rfl, _, rfl, iteD (fun _ => ?_) (fun _ => ?_)⟩
          · skip
            have lens2 := rb.lens
            refine ⟨_, rfl, .inl ⟨rfl, _, SqL.of rb.hq⟩, _, rfl, _, rfl, _, rfl, c, _, hl, hx, os, rfl, rb.hh, rb.rh, fun dq cu uu kk w cs us G9 u9 h1 h2 h3 lc lu ow mcu => ⟨q, _, _, rfl, rfl, u9 _ _ rb.hq, line_lt (by omega), ?_⟩⟩
            obtain ⟨l', rb'⟩ := rb.deed u9 hq h1 h2 h3 lc lu ow mcu
            exact ⟨hl, _, hx, os, l', rfl, rb'⟩
          refine ⟨_, rfl, rfl, _, rfl, iteD (fun _ => ?_) (fun _ => ?_)⟩
          · refine ⟨_, rfl, line_le (by simp), fun z hz => ?_⟩
            have w1 : Same G (upd G z (.lst [])) := same_new hz
            have hw1 : upd G z (.lst []) z = some (.lst []) := upd_same
            generalize upd G z (.lst []) = G1 at w1 hw1 ⊢
            have rb1 := rb.same w1
            refine ⟨_, .list [], rep_ros rb1.hh rb1.rh, .lst hw1 .nil, ros_shaped (hds_ok (-1) os), by decide +kernel, _, rfl, ?_⟩
            rw [eqvN, show ((hdsR (-1) os).map encR).isEmpty = os.isEmpty by cases os <;> rfl]
            by_cases he : os = []
            · refine iteNo' (by rw [he]; rfl) ⟨hl, xs, hx, os, l, rfl, rb1.step⟩
            · refine iteYes' (by cases os with | nil => exact absurd rfl he | cons _ _ => rfl) ?_
              obtain ⟨lx1, lx2, lx3, lx4⟩ := rb.lens
              have op : 0 < os.length := List.length_pos_iff.mpr he
              obtain ⟨v1, hv1, av1⟩ := atI_neg1 (xs := xs) (by omega)
              obtain ⟨v2, hv2, av2⟩ := atI_neg1 (xs := hx) (by omega)
              obtain ⟨r1, hr1, ra1⟩ := pget rb1.rx hv1
              obtain ⟨r2, hr2, ra2⟩ := pget rb1.rh hv2
              refine ⟨_, rfl, _, rfl, q, _, _, _, rfl, rfl, SqL.of rb1.hq, av1, _, rfl, _, rfl, hl, _, _, _, rfl, rfl, SqL.of rb1.hh, av2, encR r1, encR r2, (ro_rep ra1).same (th_same _), (ro_rep ra2).same (th_same _), ro_shaped (rb.dr.g r1 (List.mem_of_getElem? hr1)).ok, ro_shaped (hds_ok _ _ r2 (List.mem_of_getElem? hr2)), _, rfl, ite2 (fun _ => ?_) (fun _ => ⟨hl, xs, hx, os, l, rfl, rb1.step⟩)⟩
              have lens3 := rb1.lens
              refine ⟨_, rfl, .inl ⟨rfl, _, SqL.of rb1.hq⟩, _, rfl, _, rfl, _, rfl, c, _, hl, hx, os, rfl, rb1.hh, rb1.rh, fun dq cu uu kk w cs us G9 u9 h1 h2 h3 lc lu ow mcu => ⟨q, _, _, rfl, rfl, u9 _ _ rb1.hq, line_lt (by omega), ?_⟩⟩
              obtain ⟨l', rb'⟩ := rb1.deed u9 hq h1 h2 h3 lc lu ow mcu
              exact ⟨hl, _, hx, os, l', rfl, rb'⟩
          · exact ⟨hl, xs, hx, os, l, rfl, rb.step⟩
      · rintro σ' G' ⟨hl, xs, hx, os, l, rfl, rb⟩
        refine ⟨_, rfl, _, _, rfl, rfl, _, rfl, iteD (fun _ => ?_) (fun _ => ⟨_, _, _, _, hl, xs, hx, os, l, rfl, rb⟩)⟩
        refine ⟨_, rfl, _, rfl, _, rfl, _, _, rfl, rfl, ⟨by decide, by decide⟩, _, _, rfl, rfl, (show (0 : Int) < 2 by decide), _, _, rfl, rfl, _, rfl, hl, hx, rfl, SqL.of rb.hh, fun h2 hh2 => ?_⟩
        obtain ⟨lx1, lx2, lx3, lx4⟩ := rb.lens
        have e0 := Int.emod_nonneg (c / 7) (show (2 : Int) ≠ 0 by decide)
        have e1 := Int.emod_lt_of_pos (c / 7) (show (0 : Int) < 2 by decide)
        obtain ⟨j, ej⟩ := Int.eq_ofNat_of_zero_le e0
        have ecut : cutV hx none (some (-1 - c / 7 % 2)) = hx.take (hx.length - (j + 1)) := by
          rw [show -1 - c / 7 % 2 = -((j + 1 : Nat) : Int) by omega]
          exact cut_neg (by omega)
        rw [show cutV hx none (some (-1 - c / 7 % 2)) = hx.take (hx.length - (j + 1)) from ecut]
        have rb1 := rb.same (same_new (o := .lst (hx.take (hx.length - (j + 1)))) hh2)
        obtain ⟨l', d, e⟩ := rb.dr.close (n := min (j + 1) os.length) (Nat.min_le_right _ _)
        have en : os.length - min (j + 1) os.length = os.length - (j + 1) := by omega
        rw [en] at d e
        refine ⟨_, _, _, _, h2, xs, _, os.take (os.length - (j + 1)), l', rfl, rb1.sm, rb1.hq, upd_same, rb.sm.free hh2, (fun z => by rw [z, rb.hq] at hh2; cases hh2), by rw [← e]; exact rb1.rx, ?_, d⟩
        rw [← hdsR_take, ← lx2]
        exact ros_take rb1.rh _
    · rintro σ G ⟨o5, o6, o7, o8, hl, xs, hx, os, l, rfl, rb⟩
      obtain ⟨lx1, lx2, lx3, lx4⟩ := rb.lens
      have jl : 4 + ((if (63 : Int) < ((ns.map V.int).length : Int) then (63 : Int) else ((ns.map V.int).length : Int)) - 4).toNat ≤ 63 := by split <;> omega
      generalize 4 + ((if (63 : Int) < ((ns.map V.int).length : Int) then (63 : Int) else ((ns.map V.int).length : Int)) - 4).toNat = J at rb jl lx1
      have fin : ∀ {G' : Hp} {hl' : Addr} {xs' hx' : List V} {os' : List Op} {l' : List Nd} {J' : Nat}, RB H G' q hl' (c0 / 2 % bh) (c0 % 2) bh J' xs' hx' os' l' → J' ≤ 64 → Q (.ref q) G' := fun rb' hj => by
        obtain ⟨l2, e2, ok2⟩ := rb'.dr.done b100 hj
        refine k q _ l2 _ hq rb'.sm rb'.hq ?_ ok2
        rw [← e2]
        exact rb'.rx
      refine ⟨fun σ' G' => ∃ (o4 o5 o6 o7 o8 : Option V), σ' = [some (.ref a), some (.int bh), some (.int (c0 / 2 % bh)), some (.ref q), o4, o5, o6, o7, o8] ∧ Q (.ref q) G', ?_, ?_⟩
      · refine ⟨_, rfl, line_le (by simp), fun z hz => ?_⟩
        have w1 : Same G (upd G z (.lst [])) := same_new hz
        have hw1 : upd G z (.lst []) z = some (.lst []) := upd_same
        generalize upd G z (.lst []) = G1 at w1 hw1 ⊢
        have rb1 := rb.same w1
        refine ⟨_, .list [], rep_ros rb1.hh rb1.rh, .lst hw1 .nil, ros_shaped (hds_ok (-1) os), by decide +kernel, _, rfl, ?_⟩
        rw [eqvN, show ((hdsR (-1) os).map encR).isEmpty = os.isEmpty by cases os <;> rfl]
        by_cases he : os = []
        · refine iteNo' (by rw [he]; rfl) ⟨_, _, _, _, _, rfl, fin rb1 (by omega)⟩
        · refine iteYes' (by cases os with | nil => exact absurd rfl he | cons _ _ => rfl) ?_
          have op : 0 < os.length := List.length_pos_iff.mpr he
          obtain ⟨v1, hv1, av1⟩ := atI_neg1 (xs := xs) (by omega)
          obtain ⟨v2, hv2, av2⟩ := atI_neg1 (xs := hx) (by omega)
          obtain ⟨r1, hr1, ra1⟩ := pget rb1.rx hv1
          obtain ⟨r2, hr2, ra2⟩ := pget rb1.rh hv2
          refine ⟨_, rfl, _, rfl, q, _, _, _, rfl, rfl, SqL.of rb1.hq, av1, _, rfl, _, rfl, hl, _, _, _, rfl, rfl, SqL.of rb1.hh, av2, encR r1, encR r2, (ro_rep ra1).same (th_same _), (ro_rep ra2).same (th_same _), ro_shaped (rb.dr.g r1 (List.mem_of_getElem? hr1)).ok, ro_shaped (hds_ok _ _ r2 (List.mem_of_getElem? hr2)), _, rfl, ite2 (fun _ => ?_) (fun _ => ⟨_, _, _, _, _, rfl, fin rb1 (by omega)⟩)⟩
          have hS1 := rb1.sm.seq hS
          refine ⟨_, rfl, .inl ⟨rfl, _, SqL.of rb1.hq⟩, _, rfl, _, rfl, _, _, rfl, rfl, _, rfl, a, ns, 0, rfl, hS1, by omega, _, _, rfl, rfl, (show (0 : Int) < 2 by decide), ?_⟩
          rw [show (ns[(0 : Int).toNat]?).getD 0 = c0 from ec0]
          refine ⟨_, _, rfl, rfl, .inl ⟨by decide, by decide⟩, _, _, rfl, rfl, _, rfl, _, _, rfl, rfl, bpos, _, rfl, _, _, hl, hx, os, rfl, rb1.hh, rb1.rh, fun dq cu uu kk w cs us G9 u9 h1 h2 h3 lc lu ow mcu => ⟨q, _, _, rfl, rfl, u9 _ _ rb1.hq, line_lt (by omega), ?_⟩⟩
          obtain ⟨l', rb'⟩ := rb1.deed u9 hq h1 h2 h3 lc lu ow mcu
          exact ⟨_, _, _, _, _, rfl, fin rb' (by omega)⟩
      · rintro σ' G' ⟨o4, o5, o6, o7, o8, rfl, kq⟩
        exact ⟨_, rfl, kq⟩
end
end My

set_option Elab.async false
set_option linter.all false
set_option maxRecDepth 100000
set_option maxHeartbeats 4000000
namespace My
open PySem L2
local macro_rules | `(tactic| walk_at "lk") => `(tactic| first | with_reducible exact lk0 | (refine lk1 (by decide +kernel) ?_; walk_at "lk") | rfl)
theorem behR_all {c : Int} : ∀ {rs : List Ro}, behR c rs = none → ∀ z ∈ rs, z.1 ≠ c
  | [], _, z, hz => by cases hz
  | r :: rs, h, z, hz => by
    rw [behR] at h
    split at h
    · cases h
    · rename_i hr
      rcases List.mem_cons.mp hz with e | hz
      · subst e; exact hr
      · exact behR_all (by cases q : behR c rs with | none => rfl | some _ => rw [q] at h; cases h) z hz
theorem behR_hit {c : Int} {L : List Ro} {k : Nat} {z : Ro} (h : behR c (L.take k) = none) (g : L[k]? = some z) (e : z.1 = c) : behR c L = some k := by
  obtain ⟨hk, ez⟩ := List.getElem?_eq_some_iff.mp g
  have ec : L = L.take k ++ z :: L.drop (k + 1) := by
    have := (List.take_append_drop k L).symm
    rw [List.drop_eq_getElem_cons hk, ez] at this
    exact this
  rw [ec, behR_app (behR_all h), behR, if_pos e]
  simp; omega
theorem behR_miss {c : Int} {L : List Ro} {k : Nat} {z : Ro} (h : behR c (L.take k) = none) (g : L[k]? = some z) (e : z.1 ≠ c) : behR c (L.take (k + 1)) = none := behR_none fun y hy => by
  rw [List.take_add_one, g, Option.toList_some] at hy
  rcases List.mem_append.mp hy with hy | hy
  · exact behR_all h y hy
  · rw [List.mem_singleton.mp hy]; exact e
def sp_l_behind : Sp := fun vs H Q _ => ∃ (a : Addr) (xs : List V) (rs : List Ro) (i : Nat) (r : Ro), vs = [.ref a, .int (i : Int)] ∧ H a = some (.lst xs) ∧ RosAt H xs rs ∧ rs.length ≤ 100 ∧ rs[i]? = some r ∧ (behR r.1 (rs.drop (i + 1)) = none → Q (.int (-1)) H) ∧ ∀ j : Nat, behR r.1 (rs.drop (i + 1)) = some j → Q (.int ((i + 1 + j : Nat) : Int)) H
def sp_l_joined : Sp := fun vs H Q _ => ∃ (a : Addr) (xs : List V) (rs : List Ro) (N : Int), vs = [.ref a, .int N] ∧ H a = some (.lst xs) ∧ RosAt H xs rs ∧ rs.length ≤ 100 ∧ (∀ r ∈ rs, RoG r) ∧
  (joinR rs N = none → ∀ H', Same H H' → Q .non H') ∧ ∀ (ds : List Ro) (D : Addr) (ys : List V) (H' : Hp), joinR rs N = some ds → Same H H' → H D = none → H' D = some (.lst ys) → RosAt H' ys ds → Q (.ref D) H'
def sp_l_beside : Sp := fun vs H Q _ => ∃ (a b : Addr) (xs : List V) (rs : List Ro) (i : Nat), vs = [.ref a, .ref b] ∧ H a = some (.lst xs) ∧ RosAt H xs rs ∧ rs.length ≤ 100 ∧ (∀ r ∈ rs, RoOk r) ∧ xs[i]? = some (.ref b) ∧ ∀ c : Bool, Q (.bl c) H
theorem ints3 (a b c : Int) : SeqAt.shaped (.tuple [.int a, .int b, .int c]) = true := shaped_of (by simp [PyData.canLay0, PyData.canLayAll0]) (by simp [PyData.depth, PyData.depthAll])
theorem eqv3 (a b c a' b' c' : Int) : PyData.eqv (.tuple [.int a, .int b, .int c]) (.tuple [.int a', .int b', .int c']) = decide (a' = a ∧ b' = b ∧ c' = c) := by
  simp [PyData.eqv, PyData.eqvAll, Bool.decide_and, eq_comm]
  rfl
section
variable {P : Program} {w : World} {K : PySem.W.Frag} {mg : Str → Option Value} {base : Heap} {t : Adr}
theorem ok_l_behind (T : Txt K mg t) : FnOk P w K mg base CX0 1 t.f_l_behind t.d_l_behind ["_law_rows", "_law_at"] sp_l_behind := by
  refine T.F_l_behind.ok sc_l_behind (fun vs H Q E h => ?_) (fun cdv A outer s H vs Q E hr h => ?_)
  · obtain ⟨a, xs, rs, i, r, rfl, _⟩ := h
    rfl
  · obtain ⟨a, xs, rs, i, r, rfl, ha, ros, l100, hri, k0, k1⟩ := h
    have lx := Paired.length ros
    have hi : i < rs.length := (List.getElem?_eq_some_iff.mp hri).1
    have hxi : xs[i]? = some (xs[i]'(by omega)) := List.getElem?_eq_getElem _
    obtain ⟨r0, hr0, ra0⟩ := pget ros hxi
    rw [hri] at hr0
    cases hr0
    generalize xs[i]'(by omega) = v0 at hxi ra0
    obtain ⟨b, tl, rfl, hb⟩ := ra0.top
    refine ⟨_, (pss_cons (ps_for PassesOwn.never rfl (pi_range2 rfl T.z_range (pa_cons (pe_op op_add (pv 1) pe_int) (pa_cons (pe_callB call_len_seq (by rfl) T.z_len PySem.boot_len (pa_cons (pv 0) pa_nil)) pa_nil))) (pg_name (i := 2) sc_l_behind.nd rfl (Or.inl rfl) (Or.inl rfl))
        (pss_one (ps_if (pt_cmpR op_eq (pe_ix ix_tup (pe_ix ix_list (pv 0) (pv 2) (fun _ _ => rfl)) pe_int (fun _ _ => rfl)) (pe_ix ix_tup (pe_ix ix_list (pv 0) (pv 1) (fun _ _ => rfl)) pe_int (fun _ _ => rfl)) (nomark _))
          (pss_one (ps_ret (pv 2)))
          pss_nil)))
      (pss_one (ps_ret (pe_un un_neg pe_int)))), ?_⟩
    refine ⟨_, rfl, _, _, rfl, rfl, _, rfl, a, _, rfl, .inl (SqL.of ha), _, _, rfl, ⟨by omega, by omega, by omega, by omega⟩, ?_⟩
    refine for_range (lo := (i : Int) + 1) (n := (((xs.length : Nat) : Int) - ((i : Int) + 1)).toNat) (fun k σ H2 => ∃ o2 : Option V, σ = [some (.ref a), some (.int (i : Int)), o2] ∧ H2 = H ∧ behR r.1 ((rs.drop (i + 1)).take k) = none) ⟨none, rfl, rfl, by simp [behR]⟩ ?_ ?_
    · rintro k σ H2 hk ⟨o2, rfl, rfl, nb⟩
      have hk : i + 1 + k < rs.length := by omega
      rw [show (i : Int) + 1 + (k : Int) = ((i + 1 + k : Nat) : Int) by omega]
      have hxk : xs[i + 1 + k]? = some (xs[i + 1 + k]'(by omega)) := List.getElem?_eq_getElem _
      obtain ⟨r', hr', ra⟩ := pget ros hxk
      generalize xs[i + 1 + k]'(by omega) = v1 at hxk ra
      obtain ⟨b1, tl1, rfl, hb1⟩ := ra.top
      have hd : (rs.drop (i + 1))[k]? = some r' := by rw [List.getElem?_drop]; exact hr'
      refine ⟨_, rfl, _, rfl, a, _, _, _, rfl, rfl, SqL.of ha, atI_nat hxk, b1, _, _, _, rfl, rfl, SqT.of hb1, atI_nat (j := 0) rfl, _, rfl, _, rfl, a, _, _, _, rfl, rfl, SqL.of ha, atI_nat hxi, b, _, _, _, rfl, rfl, SqT.of hb, atI_nat (j := 0) rfl, rfl, _, rfl, iteD (fun hn => ?_) (fun hn => ?_)⟩
      · have hn : r'.1 = r.1 := by injection hn
        exact ⟨_, rfl, k1 k (behR_hit nb hd hn)⟩
      · have hn : r'.1 ≠ r.1 := fun z => hn (by rw [z])
        exact ⟨_, rfl, rfl, behR_miss nb hd hn⟩
    · rintro σ H2 ⟨o2, rfl, rfl, nb⟩
      rw [List.take_of_length_le (by rw [List.length_drop]; omega)] at nb
      exact ⟨_, rfl, k0 nb⟩
theorem ok_l_joined (T : Txt K mg t) : FnOk P w K mg base CX0 2 t.f_l_joined t.d_l_joined ["_law_rows", "_law_number"] sp_l_joined := by
  have G_l_loop_at := ok_l_loop_at (P := P) (w := w) (base := base) T
  have G_l_named := ok_l_named (P := P) (w := w) (base := base) T
  have G_l_behind := ok_l_behind (P := P) (w := w) (base := base) T
  refine T.F_l_joined.ok sc_l_joined (fun vs H Q E h => ?_) (fun cdv A outer s H vs Q E hr h => ?_)
  · obtain ⟨a, xs, rs, N, rfl, _⟩ := h
    rfl
  · obtain ⟨a, xs, rs, N, rfl, ha, ros, l100, rg, k0, k1⟩ := h
    have lx := Paired.length ros
    refine ⟨_, (pss_cons (ps_set (i := 2) sc_l_joined.nd rfl (Or.inl rfl) (pe_call G_l_loop_at (hr.mono (by omega)) rfl T.m_l_loop_at T.F_l_loop_at.kp T.b_l_loop_at .nil pass0 (pa_cons (pv 0) (pa_cons (pv 1) pa_nil))))
      (pss_cons (ps_if (pt_cmpR op_lt (pv 2) pe_int (nomark _))
        (pss_one (ps_ret pe_non))
        pss_nil)
      (pss_cons (ps_set (i := 3) sc_l_joined.nd rfl (Or.inl rfl) (pe_call G_l_behind (hr.mono (by omega)) rfl T.m_l_behind T.F_l_behind.kp T.b_l_behind .nil pass0 (pa_cons (pv 0) (pa_cons (pv 2) pa_nil))))
      (pss_cons (ps_if (PW.pt (pw_or (pt_cmpR op_lt (pv 3) pe_int (nomark _)) (pw_or (pt_cmpR op_ne (pe_ix ix_tup (pe_ix ix_list (pv 0) (pv 3) (fun _ _ => rfl)) pe_int (fun _ _ => rfl)) pe_str (nomark _)) (pw_or1 (pt_cmpR (op_neD hr.units) (pe_slice sl_tup (pe_ix ix_list (pv 0) (pv 3) (fun _ _ => rfl)) (po_some pe_int) (po_some pe_int)) (pe_slice sl_tup (pe_ix ix_list (pv 0) (pv 2) (fun _ _ => rfl)) (po_some pe_int) (po_some pe_int)) (nomark _))))))
        (pss_one (ps_ret pe_non))
        pss_nil)
      (pss_cons (ps_set (i := 4) sc_l_joined.nd rfl (Or.inl rfl) (pe_ix ix_tup (pe_ix ix_list (pv 0) (pv 3) (fun _ _ => rfl)) pe_int (fun _ _ => rfl)))
      (pss_cons (ps_set (i := 5) sc_l_joined.nd rfl (Or.inl rfl) (pe_slice sl_list (pv 0) po_none (po_some (pv 3))))
      (pss_cons (ps_for PassesOwn.never rfl (pi_list (pe_slice sl_list (pv 0) (po_some (pe_op op_add (pv 3) pe_int)) po_none)) (pg_name (i := 6) sc_l_joined.nd rfl (Or.inl rfl) (Or.inl rfl))
        (pss_cons (ps_set (i := 7) sc_l_joined.nd rfl (Or.inl rfl) (pe_call G_l_named (hr.mono (by omega)) rfl T.m_l_named T.F_l_named.kp T.b_l_named .nil pass0 (pa_cons (pe_slice sl_tup (pv 6) po_none (po_some pe_int)) (pa_cons (pv 4) (pa_cons (pv 1) pa_nil)))))
        (pss_one (ps_if (pt_cmpR op_eq (pe_ix ix_tup (pv 6) pe_int (fun _ _ => rfl)) pe_str (nomark _))
          (pss_one (ps_expr (pe_bm PySem.F.plainAttrs_list PySem.F.slot_list_append PySem.F.type_list_append mt_append (pv 5) (pa_cons (pe_op op_catT4 (pe_op op_catT4 (pv 7) (pe_slice sl_tup (pv 6) (po_some pe_int) (po_some pe_int))) (pe_call G_l_named (hr.mono (by omega)) rfl T.m_l_named T.F_l_named.kp T.b_l_named .nil pass0 (pa_cons (pe_slice sl_tup (pv 6) (po_some pe_int) po_none) (pa_cons (pv 4) (pa_cons (pv 1) pa_nil))))) pa_nil))))
          (pss_cons (ps_set (i := 8) sc_l_joined.nd rfl (Or.inl rfl) (pe_call G_l_named (hr.mono (by omega)) rfl T.m_l_named T.F_l_named.kp T.b_l_named .nil pass0 (pa_cons (pe_ix ix_tup (pv 6) pe_int (fun _ _ => rfl)) (pa_cons (pv 4) (pa_cons (pv 1) pa_nil)))))
          (pss_one (ps_expr (pe_bm PySem.F.plainAttrs_list PySem.F.slot_list_append PySem.F.type_list_append mt_append (pv 5) (pa_cons (pe_op op_catT4 (pe_op op_catT4 (pv 7) (pe_slice sl_tup (pv 6) (po_some pe_int) (po_some pe_int))) (pe_tup (pa_cons (pv 8) (pa_cons (pe_call G_l_named (hr.mono (by omega)) rfl T.m_l_named T.F_l_named.kp T.b_l_named .nil pass0 (pa_cons (pe_ix ix_tup (pv 6) pe_int (fun _ _ => rfl)) (pa_cons (pv 4) (pa_cons (pv 1) pa_nil)))) pa_nil)))) pa_nil)))))))))
      (pss_one (ps_ret (pv 5)))))))))), ?_⟩
    refine ⟨_, rfl, _, rfl, a, xs, rs, N, rfl, ha, ros, by omega, ?_⟩
    cases hl : loopAt N rs with
    | none => exact ⟨_, rfl, _, _, rfl, rfl, _, rfl, iteYes' (by decide) (k0 (by rw [joinR, hl]) _ (Same.refl _))⟩
    | some at' =>
      obtain ⟨ab, sz, wd, out, hat⟩ := loopAt_get hl
      have jg := joinR_get hl hat
      have hati : at' < rs.length := (List.getElem?_eq_some_iff.mp hat).1
      have hxi : xs[at']? = some (xs[at']'(by omega)) := List.getElem?_eq_getElem _
      obtain ⟨r0, hr0, ra0⟩ := pget ros hxi
      rw [hat] at hr0
      cases hr0
      generalize xs[at']'(by omega) = v0 at hxi ra0
      obtain ⟨b0, rfl, hb0⟩ := ra0
      refine ⟨_, rfl, _, _, rfl, rfl, _, rfl, iteNo' (by show decide ((at' : Int) < 0) = false; exact decide_eq_false (by omega)) ?_⟩
      refine ⟨_, rfl, _, rfl, a, xs, rs, at', _, rfl, ha, ros, l100, hat, fun hbn => ?_, fun j hj => ?_⟩
      · have hbn : behR ab (rs.drop (at' + 1)) = none := hbn
        rw [hbn] at jg
        exact ⟨_, rfl, _, _, rfl, rfl, _, rfl, iteYes' (by decide) (k0 jg _ (Same.refl _))⟩
      have hj : behR ab (rs.drop (at' + 1)) = some j := hj
      rw [hj] at jg
      have hjl := behR_lt hj
      rw [List.length_drop] at hjl
      replace jg : joinR rs N = match rs[at' + 1 + j]? with
        | some (_, .loop m szm wdm outm) => if sz = szm ∧ wd = wdm ∧ out = outm then some (rs.take (at' + 1 + j) ++ (rs.drop (at' + 1 + j + 1)).map (rnR m N)) else none
        | _ => none := jg
      have ho : at' + 1 + j < rs.length := by omega
      generalize at' + 1 + j = o at jg ho ⊢
      have hxo : xs[o]? = some (xs[o]'(by omega)) := List.getElem?_eq_getElem _
      obtain ⟨r2, hr2, ra2⟩ := pget ros hxo
      generalize xs[o]'(by omega) = v2 at hxo ra2
      rw [hr2] at jg
      refine ⟨_, rfl, _, _, rfl, rfl, _, rfl, iteNo' (by show decide ((o : Int) < 0) = false; exact decide_eq_false (by omega)) ?_⟩
      match r2, ra2, jg with
      | (ab2, .deed n2 k2 w2 cs2 us2), ⟨b2, c2, u2, e2, hb2, _, _⟩, jg =>
        subst e2
        exact ⟨_, rfl, _, rfl, a, _, _, _, rfl, rfl, SqL.of ha, atI_nat hxo, b2, _, _, _, rfl, rfl, SqT.of hb2, atI_nat (j := 1) rfl, rfl, _, rfl, iteYes' (by decide +kernel) (k0 jg _ (Same.refl _))⟩
      | (ab2, .loop m szm wdm outm), ⟨b2, e2, hb2⟩, jg =>
      subst e2
      replace jg : joinR rs N = if sz = szm ∧ wd = wdm ∧ out = outm then some (rs.take o ++ (rs.drop (o + 1)).map (rnR m N)) else none := jg
      refine ⟨_, rfl, _, rfl, a, _, _, _, rfl, rfl, SqL.of ha, atI_nat hxo, b2, _, _, _, rfl, rfl, SqT.of hb2, atI_nat (j := 1) rfl, rfl, _, rfl, iteNo' (by decide +kernel) ?_⟩
      refine ⟨_, rfl, _, rfl, a, _, _, _, rfl, rfl, SqL.of ha, atI_nat hxo, _, rfl, _, rfl, b2, _, rfl, SqT.of hb2, (by show ¬ (HT.sIx 6 0 (some 3) = 0 ∧ HT.sIx 6 6 (some 6) = 6); decide), fun p1 hp1 => ?_⟩
      have u1 : Same H (upd H p1 (.tup (cutV [.int ab2, .str "loop", .int m, .int szm, .int wdm, .int outm] (some 3) (some 6)))) := same_new hp1
      have h1 : upd H p1 (.tup (cutV [.int ab2, .str "loop", .int m, .int szm, .int wdm, .int outm] (some 3) (some 6))) p1 = some (.tup [.int szm, .int wdm, .int outm]) := upd_same
      generalize upd H p1 (.tup (cutV [.int ab2, .str "loop", .int m, .int szm, .int wdm, .int outm] (some 3) (some 6))) = H1 at u1 h1 ⊢
      refine ⟨_, rfl, _, rfl, a, _, _, _, rfl, rfl, SqL.of (u1 _ _ ha), atI_nat hxi, _, rfl, _, rfl, b0, _, rfl, SqT.of (u1 _ _ hb0), (by show ¬ (HT.sIx 6 0 (some 3) = 0 ∧ HT.sIx 6 6 (some 6) = 6); decide), fun p2 hp2 => ?_⟩
      have u2 : Same H1 (upd H1 p2 (.tup (cutV [.int ab, .str "loop", .int N, .int sz, .int wd, .int out] (some 3) (some 6)))) := same_new hp2
      have h2 : upd H1 p2 (.tup (cutV [.int ab, .str "loop", .int N, .int sz, .int wd, .int out] (some 3) (some 6))) p2 = some (.tup [.int sz, .int wd, .int out]) := upd_same
      generalize upd H1 p2 (.tup (cutV [.int ab, .str "loop", .int N, .int sz, .int wd, .int out] (some 3) (some 6))) = H2 at u2 h2 ⊢
      have s2 := u1.trans u2
      refine ⟨.tuple [.int szm, .int wdm, .int outm], .tuple [.int sz, .int wd, .int out], .tup (u2 _ _ h1) (.cons (.int _) (.cons (.int _) (.cons (.int _) .nil))), .tup h2 (.cons (.int _) (.cons (.int _) (.cons (.int _) .nil))), ints3 _ _ _, ints3 _ _ _, _, rfl, ?_⟩
      rw [eqv3]
      by_cases hc : ¬ (sz = szm ∧ wd = wdm ∧ out = outm)
      · exact iteYes' (by rw [decide_eq_false hc]; rfl) (k0 (by rw [jg, if_neg hc]) _ s2)
      have hc : sz = szm ∧ wd = wdm ∧ out = outm := Decidable.not_not.mp hc
      rw [if_pos hc] at jg
      refine iteNo' (by rw [decide_eq_true hc]; rfl) ?_
      refine ⟨_, rfl, _, rfl, a, _, _, _, rfl, rfl, SqL.of (s2 _ _ ha), atI_nat hxo, b2, _, _, _, rfl, rfl, SqT.of (s2 _ _ hb2), atI_nat (j := 2) rfl, ?_⟩
      refine ⟨_, rfl, _, rfl, _, rfl, a, xs, rfl, SqL.of (s2 _ _ ha), fun Du hDu => ?_⟩
      have D0 : H Du = none := s2.free hDu
      rw [show cutV xs none (some (o : Int)) = xs.take o from cutV_take (show o ≤ xs.length by omega)]
      have u3 : Same H2 (upd H2 Du (.lst (xs.take o))) := same_new hDu
      have hD10 : upd H2 Du (.lst (xs.take o)) Du = some (.lst (xs.take o)) := upd_same
      generalize upd H2 Du (.lst (xs.take o)) = H10 at u3 hD10 ⊢
      have s10 := s2.trans u3
      refine ⟨_, rfl, _, rfl, _, _, rfl, rfl, _, rfl, a, xs, rfl, SqL.of (s10 _ _ ha), fun sl hsl => ?_⟩
      have ec : cutV xs (some ((o : Int) + 1)) none = xs.drop (o + 1) := by
        rw [show ((o : Int) + 1) = ((o + 1 : Nat) : Int) by omega]
        exact cutV_drop (by omega)
      rw [show cutV xs (some ((o : Int) + 1)) none = xs.drop (o + 1) from ec]
      have u12 : Same H10 (upd H10 sl (.lst (xs.drop (o + 1)))) := same_new hsl
      have hs12 : upd H10 sl (.lst (xs.drop (o + 1))) sl = some (.lst (xs.drop (o + 1))) := upd_same
      have slD : sl ≠ Du := fun z => by rw [z, hD10] at hsl; cases hsl
      generalize upd H10 sl (.lst (xs.drop (o + 1))) = H12 at u12 hs12 ⊢
      have hD12 := u12 _ _ hD10
      have s12 := s10.trans u12
      refine ⟨sl, rfl, ⟨_, SqL.of hs12⟩, ?_⟩
      refine for_list (K := K) (a := sl) (xs := xs.drop (o + 1)) (fun i σ G => ∃ (o7 o8 o9 : Option V) (zs : List V), σ = [some (.ref a), some (.int N), some (.int (at' : Int)), some (.int (o : Int)), some (.int m), some (.ref Du), o7, o8, o9] ∧ KT H12 G ∧ (∀ b o, b ≠ Du → H12 b = some o → G b = some o) ∧ G Du = some (.lst (xs.take o ++ zs)) ∧ RosAt G zs (((rs.drop (o + 1)).take i).map (rnR m N)))
        ⟨none, none, none, [], rfl, fun _ _ e => e, fun _ _ _ e => e, by rw [List.append_nil]; exact hD12, .nil⟩ (fun i σ G _ ⟨_, _, _, _, _, _, kb, _⟩ => SqL.of (kb _ _ slD hs12)) ?_ ?_
      · rintro i x σ G hx ⟨o7, o8, o9, zs, rfl, kt, kb, hDG, rz⟩
        obtain ⟨r, hr', ra⟩ := pget (ros_drop ros (o + 1)) hx
        have hi : i < (rs.drop (o + 1)).length := (List.getElem?_eq_some_iff.mp hr').1
        rw [List.length_drop] at hi
        have raG := (ra.kt (KT.same s12)).kt kt
        have lz := Paired.length rz
        rw [List.length_map, List.length_take, List.length_drop] at lz
        have e : ((rs.drop (o + 1)).take (i + 1)).map (rnR m N) = ((rs.drop (o + 1)).take i).map (rnR m N) ++ [rnR m N r] := by rw [List.take_add_one, hr', Option.toList_some, List.map_append]; rfl
        have rgr := rg r (List.mem_of_mem_drop (List.mem_of_getElem? hr'))
        have fin : ∀ (G' : Hp) (v : V) (o7' o8' o9' : Option V), Same G G' → RoAt G' v (rnR m N r) → (∃ (o7 o8 o9 : Option V) (zs' : List V), [some (.ref a), some (.int N), some (.int (at' : Int)), some (.int (o : Int)), some (.int m), some (.ref Du), o7', o8', o9'] = [some (.ref a), some (.int N), some (.int (at' : Int)), some (.int (o : Int)), some (.int m), some (.ref Du), o7, o8, o9] ∧ KT H12 (upd G' Du (.lst (xs.take o ++ zs ++ [v]))) ∧ (∀ b oo, b ≠ Du → H12 b = some oo → upd G' Du (.lst (xs.take o ++ zs ++ [v])) b = some oo) ∧ upd G' Du (.lst (xs.take o ++ zs ++ [v])) Du = some (.lst (xs.take o ++ zs')) ∧ RosAt (upd G' Du (.lst (xs.take o ++ zs ++ [v]))) zs' (((rs.drop (o + 1)).take (i + 1)).map (rnR m N))) := by
          intro G' v o7' o8' o9' wG rv
          have kt' : KT G' (upd G' Du (.lst (xs.take o ++ zs ++ [v]))) := KT.at (wG _ _ hDG) (by intro xs z; cases z)
          refine ⟨o7', o8', o9', zs ++ [v], rfl, (kt.trans (KT.same wG)).trans kt', fun b' o hb' eo => by rw [upd_ne hb']; exact wG _ _ (kb _ _ hb' eo), by rw [← List.append_assoc]; exact upd_same, ?_⟩
          rw [e]
          exact paired_snoc ((rz.kt (KT.same wG)).kt kt') (RoAt.kt kt' rv)
        match r, raG, rgr, fin with
        | (ab', .loop n' sz' wd' out'), ⟨b, e', hb⟩, rgr, fin =>
          subst e'
          refine ⟨_, rfl, _, rfl, b, _, rfl, SqT.of hb, (by show ¬ (HT.sIx 6 0 none = 0 ∧ HT.sIx 6 6 (some 1) = 6); decide), fun p9 hp9 => ?_⟩
          have w1 : Same G (upd G p9 (.tup (cutV [.int ab', .str "loop", .int n', .int sz', .int wd', .int out'] none (some 1)))) := same_new hp9
          have hw1 : upd G p9 (.tup (cutV [.int ab', .str "loop", .int n', .int sz', .int wd', .int out'] none (some 1))) p9 = some (.tup [.int ab']) := upd_same
          generalize upd G p9 (.tup (cutV [.int ab', .str "loop", .int n', .int sz', .int wd', .int out'] none (some 1))) = G1 at w1 hw1 ⊢
          refine ⟨_, rfl, _, rfl, p9, [ab'], m, N, rfl, hw1, by simp, fun q9 G2 w2 hq9 => ?_⟩
          have w12 := w1.trans w2
          refine ⟨_, rfl, b, _, _, _, rfl, rfl, SqT.of (w12 _ _ hb), atI_nat (j := 1) rfl, rfl, _, rfl, iteYes' (by decide +kernel) ?_⟩
          refine ⟨_, rfl, .inl ⟨rfl, _, SqL.of (w12 _ _ hDG)⟩, _, rfl, _, rfl, _, rfl, _, rfl, b, _, rfl, SqT.of (w12 _ _ hb), (by show ¬ (HT.sIx 6 0 (some 1) = 0 ∧ HT.sIx 6 6 (some 5) = 6); decide), fun p3 hp3' => ?_⟩
          have w3 : Same G2 (upd G2 p3 (.tup (cutV [.int ab', .str "loop", .int n', .int sz', .int wd', .int out'] (some 1) (some 5)))) := same_new hp3'
          have hw3 : upd G2 p3 (.tup (cutV [.int ab', .str "loop", .int n', .int sz', .int wd', .int out'] (some 1) (some 5))) p3 = some (.tup [.str "loop", .int n', .int sz', .int wd']) := upd_same
          generalize upd G2 p3 (.tup (cutV [.int ab', .str "loop", .int n', .int sz', .int wd', .int out'] (some 1) (some 5))) = G3 at w3 hw3 ⊢
          refine ⟨q9, p3, _, _, rfl, rfl, w3 _ _ hq9, hw3, line_le (by simp), fun q4 G4 w4 hq4 => ?_⟩
          have w14 := w12.trans (w3.trans w4)
          refine ⟨_, rfl, _, rfl, b, _, rfl, SqT.of (w14 _ _ hb), (by show ¬ (HT.sIx 6 0 (some 5) = 0 ∧ HT.sIx 6 6 none = 6); decide), fun p5 hp5 => ?_⟩
          have w5 : Same G4 (upd G4 p5 (.tup (cutV [.int ab', .str "loop", .int n', .int sz', .int wd', .int out'] (some 5) none))) := same_new hp5
          have hw5 : upd G4 p5 (.tup (cutV [.int ab', .str "loop", .int n', .int sz', .int wd', .int out'] (some 5) none)) p5 = some (.tup [.int out']) := upd_same
          generalize upd G4 p5 (.tup (cutV [.int ab', .str "loop", .int n', .int sz', .int wd', .int out'] (some 5) none)) = G5 at w5 hw5 ⊢
          refine ⟨_, rfl, _, rfl, p5, [out'], m, N, rfl, hw5, by simp, fun q6 G6 w6 hq6 => ?_⟩
          refine ⟨q4, q6, _, _, rfl, rfl, w6 _ _ (w5 _ _ hq4), hq6, line_le (by simp), fun q7 G7 w7 hq7 => ?_⟩
          have w17 := w14.trans (w5.trans (w6.trans w7))
          exact ⟨Du, _, _, rfl, rfl, w17 _ _ hDG, line_lt (by simp; omega), fin _ _ _ _ _ w17 ⟨q7, rfl, hq7⟩⟩
        | (ab', .deed n' k' wo' cs' us'), ⟨b, c, u, e', hb, hc, hu⟩, rgr, fin =>
          subst e'
          refine ⟨_, rfl, _, rfl, b, _, rfl, SqT.of hb, (by show ¬ (HT.sIx 7 0 none = 0 ∧ HT.sIx 7 7 (some 1) = 7); decide), fun p9 hp9 => ?_⟩
          have w1 : Same G (upd G p9 (.tup (cutV [.int ab', .str "deed", .int n', .int k', .str wo', .ref c, .ref u] none (some 1)))) := same_new hp9
          have hw1 : upd G p9 (.tup (cutV [.int ab', .str "deed", .int n', .int k', .str wo', .ref c, .ref u] none (some 1))) p9 = some (.tup [.int ab']) := upd_same
          generalize upd G p9 (.tup (cutV [.int ab', .str "deed", .int n', .int k', .str wo', .ref c, .ref u] none (some 1))) = G1 at w1 hw1 ⊢
          refine ⟨_, rfl, _, rfl, p9, [ab'], m, N, rfl, hw1, by simp, fun q9 G2 w2 hq9 => ?_⟩
          have w12 := w1.trans w2
          refine ⟨_, rfl, b, _, _, _, rfl, rfl, SqT.of (w12 _ _ hb), atI_nat (j := 1) rfl, rfl, _, rfl, iteNo' (by decide +kernel) ?_⟩
          refine ⟨_, rfl, b, _, _, _, rfl, rfl, SqT.of (w12 _ _ hb), atI_nat (j := 5) rfl, _, rfl, _, rfl, c, cs', m, N, rfl, w12 _ _ hc, by have := rgr.2.1; omega, fun q3 G3 w3 hq3 => ?_⟩
          have w13 := w12.trans w3
          refine ⟨_, rfl, .inl ⟨rfl, _, SqL.of (w13 _ _ hDG)⟩, _, rfl, _, rfl, _, rfl, _, rfl, b, _, rfl, SqT.of (w13 _ _ hb), (by show ¬ (HT.sIx 7 0 (some 1) = 0 ∧ HT.sIx 7 7 (some 5) = 7); decide), fun p4 hp4 => ?_⟩
          have w4 : Same G3 (upd G3 p4 (.tup (cutV [.int ab', .str "deed", .int n', .int k', .str wo', .ref c, .ref u] (some 1) (some 5)))) := same_new hp4
          have hw4 : upd G3 p4 (.tup (cutV [.int ab', .str "deed", .int n', .int k', .str wo', .ref c, .ref u] (some 1) (some 5))) p4 = some (.tup [.str "deed", .int n', .int k', .str wo']) := upd_same
          generalize upd G3 p4 (.tup (cutV [.int ab', .str "deed", .int n', .int k', .str wo', .ref c, .ref u] (some 1) (some 5))) = G4 at w4 hw4 ⊢
          refine ⟨q9, p4, _, _, rfl, rfl, w4 _ _ (w3 _ _ hq9), hw4, line_le (by simp), fun q5 G5 w5 hq5 => ?_⟩
          have w15 := w13.trans (w4.trans w5)
          refine ⟨_, rfl, _, rfl, b, _, _, _, rfl, rfl, SqT.of (w15 _ _ hb), atI_nat (j := 6) rfl, _, rfl, _, rfl, u, us', m, N, rfl, w15 _ _ hu, by have := rgr.2.2; omega, fun q6 G6 w6 hq6 => ⟨line_le (by simp), fun z7 hz7 => ?_⟩⟩
          have w7 : Same G6 (upd G6 z7 (.tup [.ref q3, .ref q6])) := same_new hz7
          have hw7 : upd G6 z7 (.tup [.ref q3, .ref q6]) z7 = some (.tup [.ref q3, .ref q6]) := upd_same
          generalize upd G6 z7 (.tup [.ref q3, .ref q6]) = G7 at w7 hw7 ⊢
          refine ⟨q5, z7, _, _, rfl, rfl, w7 _ _ (w6 _ _ hq5), hw7, line_le (by simp), fun q8 G8 w8 hq8 => ?_⟩
          have w48 := w4.trans (w5.trans (w6.trans (w7.trans w8)))
          have w18 := w13.trans w48
          exact ⟨Du, _, _, rfl, rfl, w18 _ _ hDG, line_lt (by simp; omega), fin _ _ _ _ _ w18 ⟨q8, q3, q6, rfl, hq8, w48 _ _ hq3, w8 _ _ (w7 _ _ hq6)⟩⟩
      · rintro σ G ⟨o7, o8, o9, zs, rfl, kt, kb, hDG, rz⟩
        have ld : (xs.drop (o + 1)).length = (rs.drop (o + 1)).length := by rw [List.length_drop, List.length_drop, lx]
        rw [ld, List.take_length] at rz
        exact ⟨_, rfl, k1 _ Du _ G jg (fun b o e => kb _ _ (ne_of_none e D0) (s12 _ _ e)) D0 hDG (papp (((ros_take ros o).kt (KT.same s12)).kt kt) rz)⟩
theorem ok_l_beside (T : Txt K mg t) : FnOk P w K mg base CX0 2 t.f_l_beside t.d_l_beside ["_law_rows", "_law_row"] sp_l_beside := by
  have G_l_behind := ok_l_behind (P := P) (w := w) (base := base) T
  refine T.F_l_beside.ok sc_l_beside (fun vs H Q E h => ?_) (fun cdv A outer s H vs Q E hr h => ?_)
  · obtain ⟨a, b, xs, rs, i, rfl, _⟩ := h
    rfl
  · obtain ⟨a, b, xs, rs, i, rfl, ha, ros, l100, rok, hxi, k⟩ := h
    have lx := Paired.length ros
    obtain ⟨r, hri, ra⟩ := pget ros hxi
    have hd : ∀ v ∈ xs, ∃ d, Rep H v d ∧ SeqAt.shaped d = true := fun v hv => by
      obtain ⟨j, hj⟩ := List.mem_iff_getElem?.mp hv
      obtain ⟨r', hr', ra'⟩ := pget ros hj
      exact ⟨encR r', (ro_rep ra').same (th_same _), ro_shaped (rok r' (List.mem_of_getElem? hr'))⟩
    refine ⟨_, (pss_cons (ps_set (i := 2) sc_l_beside.nd rfl (Or.inl rfl) (pe_call G_l_behind (hr.mono (by omega)) rfl T.m_l_behind T.F_l_behind.kp T.b_l_behind .nil pass0 (pa_cons (pv 0) (pa_cons ((pe_bm PySem.F.plainAttrs_list PySem.F.slot_list_index PySem.F.type_list_index (mt_indexD (hu70 hr)) (pv 0) (pa_cons (pv 1) pa_nil))) pa_nil))))
      (pss_one (ps_ret (pe_and (pe_cmpR op_eq (pe_ix ix_tup (pv 1) pe_int (fun _ _ => rfl)) pe_str (nomark _)) (pe_and (pe_cmpR op_ge (pv 2) pe_int (nomark _)) (pe_and (pe_cmpR op_eq (pe_ix ix_tup (pe_ix ix_list (pv 0) (pv 2) (fun _ _ => rfl)) pe_int (fun _ _ => rfl)) pe_str (nomark _)) (pe_one (pe_cmpR op_eq (pe_ix ix_tup (pe_ix ix_list (pv 0) (pv 2) (fun _ _ => rfl)) pe_int (fun _ _ => rfl)) (pe_ix ix_tup (pv 1) pe_int (fun _ _ => rfl)) (nomark _))))))))), ?_⟩
    refine ⟨_, rfl, _, rfl, .inl ⟨rfl, _, SqL.of ha⟩, _, rfl, a, xs, b, rfl, rfl, ha, hd, List.mem_of_getElem? hxi, by omega, fun i' hi' => ?_⟩
    have hri' : rs[i']? = some (rs[i']'(by omega)) := List.getElem?_eq_getElem _
    refine ⟨a, xs, rs, i', _, rfl, ha, ros, l100, hri', fun _ => ?_, fun j hj => ?_⟩
    · match r, ra with
      | (ab, .deed n1 k1 w1 cs1 us1), ⟨b1, c1, u1, e1, hb1, _, _⟩ =>
        cases e1
        exact ⟨_, rfl, b, _, _, _, rfl, rfl, SqT.of hb1, atI_nat (j := 1) rfl, rfl, _, rfl, iteNo' (by decide +kernel) (k _)⟩
      | (ab, .loop n1 sz1 wd1 out1), ⟨b1, e1, hb1⟩ =>
        cases e1
        exact ⟨_, rfl, b, _, _, _, rfl, rfl, SqT.of hb1, atI_nat (j := 1) rfl, rfl, _, rfl, iteYes' (by decide +kernel) ⟨_, rfl, _, _, rfl, rfl, _, rfl, iteNo' (by decide +kernel) (k _)⟩⟩
    · have hjl := behR_lt hj
      rw [List.length_drop] at hjl
      have ho : i' + 1 + j < rs.length := by omega
      generalize i' + 1 + j = o at ho ⊢
      have hxo : xs[o]? = some (xs[o]'(by omega)) := List.getElem?_eq_getElem _
      obtain ⟨r2, hr2, ra2⟩ := pget ros hxo
      generalize xs[o]'(by omega) = v2 at hxo ra2
      match r, ra with
      | (ab, .deed n1 k1 w1 cs1 us1), ⟨b1, c1, u1, e1, hb1, _, _⟩ =>
        cases e1
        exact ⟨_, rfl, b, _, _, _, rfl, rfl, SqT.of hb1, atI_nat (j := 1) rfl, rfl, _, rfl, iteNo' (by decide +kernel) (k _)⟩
      | (ab, .loop n1 sz1 wd1 out1), ⟨b1, e1, hb1⟩ =>
        cases e1
        refine ⟨_, rfl, b, _, _, _, rfl, rfl, SqT.of hb1, atI_nat (j := 1) rfl, rfl, _, rfl, iteYes' (by decide +kernel) ⟨_, rfl, _, _, rfl, rfl, _, rfl, iteYes' (by show decide ((0 : Int) ≤ (o : Int)) = true; exact decide_eq_true (by omega)) ?_⟩⟩
        match r2, ra2 with
        | (ab2, .deed n2 k2 w2 cs2 us2), ⟨b2, c2, u2, e2, hb2, _, _⟩ =>
          subst e2
          exact ⟨_, rfl, _, rfl, a, _, _, _, rfl, rfl, SqL.of ha, atI_nat hxo, b2, _, _, _, rfl, rfl, SqT.of hb2, atI_nat (j := 1) rfl, rfl, _, rfl, iteNo' (by decide +kernel) (k _)⟩
        | (ab2, .loop m szm wdm outm), ⟨b2, e2, hb2⟩ =>
          subst e2
          exact ⟨_, rfl, _, rfl, a, _, _, _, rfl, rfl, SqL.of ha, atI_nat hxo, b2, _, _, _, rfl, rfl, SqT.of hb2, atI_nat (j := 1) rfl, rfl, _, rfl, iteYes' (by decide +kernel) ⟨_, rfl, _, rfl, a, _, _, _, rfl, rfl, SqL.of ha, atI_nat hxo, b2, _, _, _, rfl, rfl, SqT.of hb2, atI_nat (j := 3) rfl, _, rfl, b, _, _, _, rfl, rfl, SqT.of hb1, atI_nat (j := 3) rfl, rfl, k _⟩⟩
end
end My

set_option Elab.async false
set_option linter.all false
set_option maxRecDepth 100000
set_option maxHeartbeats 4000000
namespace My
open PySem L2
local macro_rules | `(tactic| walk_at "lk") => `(tactic| first | with_reducible exact lk0 | (refine lk1 (by decide +kernel) ?_; walk_at "lk") | rfl)
def sp_l_number_by (K : PySem.W.Frag) : Sp := fun vs H Q _ => ∃ (a b : Addr) (ns : List Int) (xs : List V) (rs : List Ro) (bh : Int), vs = [.ref a, .ref b, .int bh] ∧ SqL K H a (ns.map V.int) ∧ H b = some (.lst xs) ∧ RosAt H xs rs ∧ rs.length ≤ 100 ∧ (∀ r ∈ rs, RoG r) ∧ ∀ (z : Int) (H' : Hp), Same H H' → Q (.int z) H'
theorem at_mod {α : Type} {f : α → V} {zs : List α} (c : Int) (h : 0 < zs.length) : ∃ x, atI (zs.map f) (c % ((zs.map f).length : Int)) = some (f x) := by
  have l : (zs.map f).length = zs.length := List.length_map _
  have j0 := Int.emod_nonneg c (show ((zs.map f).length : Int) ≠ 0 by omega)
  have j1 := Int.emod_lt_of_pos c (show 0 < ((zs.map f).length : Int) by omega)
  obtain ⟨x, _, e⟩ := at_mapV (f := f) (xs := zs) j0 (by omega)
  exact ⟨x, e⟩
theorem flat_ints (zs : List Int) : (zs.map V.int).all flatV = true := by rw [List.all_map]; exact List.all_eq_true.mpr fun _ _ => rfl
section
variable {P : Program} {w : World} {K : PySem.W.Frag} {mg : Str → Option Value} {base : Heap} {t : Adr}
theorem ok_l_number_by (T : Txt K mg t) : FnOk P w K mg base CX0 3 t.f_l_number_by t.d_l_number_by ["_law_script", "_law_rows", "_law_behind_here"] (sp_l_number_by K) := by
  have G_l_cell_at := ok_l_cell_at (P := P) (w := w) (base := base) T
  have G_l_joined := ok_l_joined (P := P) (w := w) (base := base) T
  have G_l_beside := ok_l_beside (P := P) (w := w) (base := base) T
  refine T.F_l_number_by.ok sc_l_number_by (fun vs H Q E h => ?_) (fun cdv A outer s H vs Q E hr h => ?_)
  · obtain ⟨a, b, ns, xs, rs, bh, rfl, _⟩ := h
    rfl
  · obtain ⟨a, b, ns, xs, rs, bh, rfl, hS, hb, ros, l100, rg, k⟩ := h
    have rok : ∀ r ∈ rs, RoOk r := fun r hr => (rg r hr).ok
    have lx := Paired.length ros
    refine ⟨_, (pss_cons (ps_set (i := 3) sc_l_number_by.nd rfl (Or.inl rfl) (pe_op op_mod (pe_call G_l_cell_at (hr.mono (by omega)) rfl T.m_l_cell_at T.F_l_cell_at.kp T.b_l_cell_at .nil pass0 (pa_cons (pv 0) (pa_cons pe_int pa_nil))) pe_int))
      (pss_cons (ps_set (i := 4) sc_l_number_by.nd rfl (Or.inl rfl) (pe_call G_l_cell_at (hr.mono (by omega)) rfl T.m_l_cell_at T.F_l_cell_at.kp T.b_l_cell_at .nil pass0 (pa_cons (pv 0) (pa_cons pe_int pa_nil))))
      (pss_cons (ps_set (i := 5) sc_l_number_by.nd rfl (Or.inr rfl) (pe_compIf (N' := ["_law_row", "_law_rows"]) (ix := (List.replicate 1 none ++ [some 1])) rfl (clok_one (x := "_law_rows") rfl rfl rfl (by decide +kernel) (by decide +kernel)) (ixok_last (N0 := ["_law_row"]) rfl (Or.inl rfl) (by first | exact Or.inl rfl | exact Or.inr rfl | (simp [relabel]; rfl) | (with_unfolding_all exact Or.inl rfl) | (with_unfolding_all exact Or.inr rfl) | (with_unfolding_all decide))) (pi_list (pv 1)) (fun _ _ _ _ => (pg_name (i := 0) nd_comp_5 rfl (Or.inl rfl) (Or.inr rfl))) (fun _ _ _ _ => (pt_cmpR op_notN (pe_call G_l_joined (hr.mono (by omega)) rfl T.m_l_joined T.F_l_joined.kp T.b_l_joined .nil pass0 (pa_cons (pv 1) (pa_cons (pe_ix (ix_tupK (K := K) rfl) (pv 0) pe_int (fun _ _ => rfl)) pa_nil))) pe_non (nomark _))) (fun _ _ _ _ => (pe_ix (ix_tupK (K := K) rfl) (pv 0) pe_int (fun _ _ => rfl)))))
      (pss_cons (ps_setCIf (i₀ := 6) (N' := ["_law_row", "_law_goods", "_law_rows"]) (ix := (List.replicate 1 none ++ [some 5, some 1])) sc_l_number_by.nd rfl (Or.inl rfl) rfl (clok_many (cl := [("_law_rows", _), ("_law_goods", _)]) (xs := ["_law_rows", "_law_goods"]) rfl ⟨rfl, rfl, trivial⟩ rfl rfl (by decide +kernel) (by decide +kernel)) (ixok_many (N0 := ["_law_row"]) (xs := ["_law_goods", "_law_rows"]) (js := [5, 1]) ⟨⟨rfl, Or.inl rfl, (by first | exact Or.inl rfl | exact Or.inr rfl | (simp [relabel]; rfl) | (with_unfolding_all exact Or.inl rfl) | (with_unfolding_all exact Or.inr rfl) | (with_unfolding_all decide))⟩, ⟨rfl, Or.inl rfl, (by first | exact Or.inl rfl | exact Or.inr rfl | (simp [relabel]; rfl) | (with_unfolding_all exact Or.inl rfl) | (with_unfolding_all exact Or.inr rfl) | (with_unfolding_all decide))⟩, trivial⟩) (pi_list (pv 1)) (fun _ _ _ _ => (pg_name (i := 0) nd_comp_6 rfl (Or.inl rfl) (Or.inr rfl))) (fun _ _ _ _ => (PW.pt (pw_and (pt_cmpR (op_notIn_seqK (K := K) rfl) (pe_ix (ix_tupK (K := K) rfl) (pv 0) pe_int (fun _ _ => rfl)) (pv 1) (by with_unfolding_all rfl)) (pw_and1 (pt_val (pe_call G_l_beside (hr.mono (by omega)) rfl T.m_l_beside T.F_l_beside.kp T.b_l_beside .nil pass0 (pa_cons (pv 2) (pa_cons (pv 0) pa_nil)))))))) (fun _ _ _ _ => (pe_ix (ix_tupK (K := K) rfl) (pv 0) pe_int (fun _ _ => rfl))))
      (pss_cons (ps_if (PW.pt (pw_and (pt_cmpR op_lt (pv 3) pe_int (nomark _)) (pw_and1 (pt_cmpR (op_neD hr.units) (pv 5) (pe_lst pa_nil) (nomark _)))))
        (pss_one (ps_ret (pe_ix ix_list (pv 5) (pe_op op_mod (pv 4) (pe_callB call_len_seq (by rfl) T.z_len PySem.boot_len (pa_cons (pv 5) pa_nil))) (fun _ _ => rfl))))
        pss_nil)
      (pss_cons (ps_if (PW.pt (pw_and (pt_cmpR op_lt (pv 3) pe_int (nomark _)) (pw_and1 (pt_cmpR (op_neD hr.units) (pv 6) (pe_lst pa_nil) (nomark _)))))
        (pss_one (ps_ret (pe_ix ix_list (pv 6) (pe_op op_mod (pv 4) (pe_callB call_len_seq (by rfl) T.z_len PySem.boot_len (pa_cons (pv 6) pa_nil))) (fun _ _ => rfl))))
        pss_nil)
      (pss_cons (ps_if (PW.pt (pw_and (pt_cmpR op_lt (pv 3) pe_int (nomark _)) (pw_and1 (pt_cmpR (op_neD hr.units) (pv 1) (pe_lst pa_nil) (nomark _)))))
        (pss_one (ps_ret (pe_ix ix_tup (pe_ix ix_list (pv 1) (pe_op op_mod (pv 4) (pe_callB call_len_seq (by rfl) T.z_len PySem.boot_len (pa_cons (pv 1) pa_nil))) (fun _ _ => rfl)) pe_int (fun _ _ => rfl))))
        pss_nil)
      (pss_cons (ps_if (pt_cmpR op_eq (pv 3) pe_int (nomark _))
        (pss_one (ps_ret (pe_ix ix_list (pe_lst (pa_cons (pe_un un_neg pe_int) (pa_cons (pv 2) (pa_cons pe_int pa_nil)))) (pe_op op_mod (pv 4) pe_int) (fun _ _ => rfl))))
        pss_nil)
      (pss_one (ps_ret (pe_op op_sub (pe_op op_mod (pv 4) (pe_op op_sub (pe_op op_mul pe_int (pe_op op_pow pe_int pe_int)) pe_int)) (pe_op op_sub (pe_op op_pow pe_int pe_int) pe_int)))))))))))), ?_⟩
    refine ⟨_, rfl, a, ns, 1, rfl, hS, by omega, fun c1 => ⟨_, _, rfl, rfl, (show (0 : Int) < 8 by decide), ?_⟩⟩
    refine ⟨_, rfl, a, ns, 2, rfl, hS, by omega, fun c => ?_⟩
    refine ⟨_, rfl, b, rfl, ⟨_, SqL.of hb⟩, fun D hD => ?_⟩
    refine compIf_list (K := K) (a := b) (D := D) (xs := xs) (fun i ys H2 => Same H H2 ∧ H2 D = some (.lst ys) ∧ ∃ zs : List Int, ys = zs.map V.int ∧ zs.length ≤ i) ⟨same_new hD, upd_same, [], rfl, Nat.le_refl _⟩ (fun i ys H2 ⟨s2, _⟩ => SqL.of (s2 _ _ hb)) ?_ ?_
    · rintro i x ys H2 hx ⟨s2, hD2, zs, rfl, lz⟩
      obtain ⟨r, hr', ra⟩ := pget ros hx
      have hi : i < rs.length := (List.getElem?_eq_some_iff.mp hr').1
      have ra2 := ra.kt (KT.same s2)
      obtain ⟨bb, tl, rfl, hbb⟩ := ra2.top
      refine ⟨⟨rfl, True.intro⟩, ?_⟩
      refine ⟨_, rfl, _, rfl, bb, _, _, _, rfl, rfl, SqT.of hbb, atI_nat (j := 2) rfl, b, xs, rs, r.2.num, rfl, s2 _ _ hb, ros.kt (KT.same s2), l100, rg, fun _ H3 u3 => ?_, fun ds D3 ys3 H3 _ u3 _ _ _ => ?_⟩
      · refine ⟨rfl, _, rfl, ?_⟩
        exact iteNo' rfl ⟨s2.trans u3, u3 _ _ hD2, zs, rfl, by omega⟩
      · refine ⟨rfl, _, rfl, ?_⟩
        refine iteYes' rfl ?_
        exact ⟨_, rfl, bb, _, _, _, rfl, rfl, SqT.of (u3 _ _ hbb), atI_nat (j := 2) rfl, u3 _ _ hD2, line_lt (by simp; omega), same_fresh (s2.trans u3) hD, upd_same, zs ++ [r.2.num], by simp, by simp; omega⟩
    rintro ys0 H1 ⟨s1, hD1, zs, rfl, lz⟩
    refine ⟨_, rfl, b, rfl, ⟨_, SqL.of (s1 _ _ hb)⟩, fun D2 hE => ?_⟩
    have DE : H D2 = none := s1.free hE
    refine compIf_list (K := K) (a := b) (D := D2) (xs := xs) (fun i ys H2 => Same H1 H2 ∧ H2 D2 = some (.lst ys) ∧ ∃ zs : List Int, ys = zs.map V.int ∧ zs.length ≤ i) ⟨same_new hE, upd_same, [], rfl, Nat.le_refl _⟩ (fun i ys H2 ⟨s2, _⟩ => SqL.of (s2 _ _ (s1 _ _ hb))) ?_ ?_
    · rintro i x ys H2 hx ⟨s2, hE2, es, rfl, le⟩
      obtain ⟨r, hr', ra⟩ := pget ros hx
      have hi : i < rs.length := (List.getElem?_eq_some_iff.mp hr').1
      have s12 := s1.trans s2
      have ra2 := ra.kt (KT.same s12)
      obtain ⟨bb, tl, rfl, hbb⟩ := ra2.top
      refine ⟨⟨rfl, rfl, True.intro⟩, ?_⟩
      refine ⟨_, rfl, bb, _, _, _, rfl, rfl, SqT.of hbb, atI_nat (j := 2) rfl, _, rfl, D, _, rfl, .inl (SqL.of (s2 _ _ hD1)), rfl, flat_ints zs, _, rfl, ite2 (fun _ => ?_) (fun _ => ⟨s2, hE2, es, rfl, by omega⟩)⟩
      refine ⟨_, rfl, _, rfl, b, bb, xs, rs, i, rfl, s12 _ _ hb, ros.kt (KT.same s12), l100, rok, hx, fun cc => ⟨cc, rfl, ite2 (fun _ => ?_) (fun _ => ⟨s2, hE2, es, rfl, by omega⟩)⟩⟩
      exact ⟨_, rfl, bb, _, _, _, rfl, rfl, SqT.of hbb, atI_nat (j := 2) rfl, hE2, line_lt (by simp; omega), same_fresh s2 hE, upd_same, es ++ [r.2.num], by simp, by simp; omega⟩
    rintro ys1 H2 ⟨s12, hE2, ys, rfl, ly⟩
    have s2 := s1.trans s12
    have hD2 := s12 _ _ hD1
    refine ⟨_, rfl, _, _, rfl, rfl, _, rfl, iteD (fun _ => ?_) (fun _ => ?_)⟩
    · refine ⟨_, rfl, line_le (by simp), fun z1 hz01 => ?_⟩
      have v1 : Same H2 (upd H2 z1 (.lst [])) := same_new hz01
      have hv1 : upd H2 z1 (.lst []) z1 = some (.lst []) := upd_same
      generalize upd H2 z1 (.lst []) = G1 at v1 hv1 ⊢
      have t1 := s2.trans v1
      have q1 := Same.trans (Same.refl _) v1
      refine ⟨.list (zs.map PyData.int), .list [], .lst (q1 _ _ hD2) (Reps.ints zs), .lst hv1 .nil, shaped_of (by simp only [PyData.canLay0]; exact (ints_all zs).1) (by simp only [PyData.depth, (ints_all zs).2]; omega), by decide +kernel, _, rfl, ?_⟩
      rw [eqvN]
      by_cases hz1 : zs = []
      · refine iteNo' (by rw [hz1]; rfl) ?_
        refine ⟨_, rfl, _, _, rfl, rfl, _, rfl, iteD (fun _ => ?_) (fun _ => ?_)⟩
        · refine ⟨_, rfl, line_le (by simp), fun z2 hz02 => ?_⟩
          have v2 : Same G1 (upd G1 z2 (.lst [])) := same_new hz02
          have hv2 : upd G1 z2 (.lst []) z2 = some (.lst []) := upd_same
          generalize upd G1 z2 (.lst []) = G2 at v2 hv2 ⊢
          have t2 := t1.trans v2
          have q2 := Same.trans q1 v2
          refine ⟨.list (ys.map PyData.int), .list [], .lst (q2 _ _ hE2) (Reps.ints ys), .lst hv2 .nil, shaped_of (by simp only [PyData.canLay0]; exact (ints_all ys).1) (by simp only [PyData.depth, (ints_all ys).2]; omega), by decide +kernel, _, rfl, ?_⟩
          rw [eqvN]
          by_cases hz2 : ys = []
          · refine iteNo' (by rw [hz2]; rfl) ?_
            refine ⟨_, rfl, _, _, rfl, rfl, _, rfl, iteD (fun _ => ?_) (fun _ => ?_)⟩
            · refine ⟨_, rfl, line_le (by simp), fun z3 hz03 => ?_⟩
              have v3 : Same G2 (upd G2 z3 (.lst [])) := same_new hz03
              have hv3 : upd G2 z3 (.lst []) z3 = some (.lst []) := upd_same
              generalize upd G2 z3 (.lst []) = G3 at v3 hv3 ⊢
              have t3 := t2.trans v3
              have q3 := Same.trans q2 v3
              refine ⟨_, .list [], rep_ros (t3 _ _ hb) (ros.kt (KT.same t3)), .lst hv3 .nil, ros_shaped rok, by decide +kernel, _, rfl, ?_⟩
              rw [eqvN]
              by_cases hz3 : rs = []
              · refine iteNo' (by rw [hz3]; rfl) ?_
                refine ⟨_, rfl, rfl, _, rfl, iteD (fun _ => ?_) (fun _ => ?_)⟩
                · refine ⟨_, rfl, _, rfl, line_le (by simp), fun l hl => ?_⟩
                  have w1 := same_new (H := G3) (o := .lst [.int (-1), .int bh, .int 0]) hl
                  obtain ⟨x, ax⟩ := at_mod (f := V.int) (zs := [-1, bh, 0]) c (by simp)
                  exact ⟨_, rfl, _, _, rfl, rfl, (show (0 : Int) < 3 by decide), l, _, _, _, rfl, rfl, SqL.of upd_same, ax, k x _ (t3.trans w1)⟩
                · exact ⟨_, rfl, _, _, rfl, rfl, ⟨by decide, by decide, by decide⟩, _, _, rfl, rfl, .inl ⟨by decide, by decide⟩, _, _, rfl, rfl, _, _, rfl, rfl, (by show (0 : Int) < 2 * 10 ^ (30 : Int).toNat - 1; decide +kernel), _, _, rfl, rfl, ⟨by decide, by decide, by decide⟩, _, _, rfl, rfl, _, _, rfl, rfl, k _ _ t3⟩
              · refine iteYes' (by cases rs with | nil => exact absurd rfl hz3 | cons _ _ => rfl) ?_
                have l0 : 0 < xs.length := by rw [lx]; exact List.length_pos_iff.mpr hz3
                have j0 := Int.emod_nonneg c (show (xs.length : Int) ≠ 0 by omega)
                have j1 := Int.emod_lt_of_pos c (show 0 < (xs.length : Int) by omega)
                obtain ⟨v, hv, av⟩ := atI_ok j0 j1
                obtain ⟨r, hr', ra⟩ := pget ros hv
                obtain ⟨bb, tl, rfl, hbb⟩ := ra.top
                exact ⟨_, rfl, _, rfl, _, rfl, b, _, rfl, .inl (SqL.of (t3 _ _ hb)), _, _, rfl, rfl, (show 0 < (xs.length : Int) by omega), b, _, _, _, rfl, rfl, SqL.of (t3 _ _ hb), av, bb, _, _, _, rfl, rfl, SqT.of (t3 _ _ hbb), atI_nat (j := 2) rfl, k _ _ t3⟩
            · skip
              refine ⟨_, rfl, rfl, _, rfl, iteD (fun _ => ?_) (fun _ => ?_)⟩
              · refine ⟨_, rfl, _, rfl, line_le (by simp), fun l hl => ?_⟩
                have w1 := same_new (H := G2) (o := .lst [.int (-1), .int bh, .int 0]) hl
                obtain ⟨x, ax⟩ := at_mod (f := V.int) (zs := [-1, bh, 0]) c (by simp)
                exact ⟨_, rfl, _, _, rfl, rfl, (show (0 : Int) < 3 by decide), l, _, _, _, rfl, rfl, SqL.of upd_same, ax, k x _ (t2.trans w1)⟩
              · exact ⟨_, rfl, _, _, rfl, rfl, ⟨by decide, by decide, by decide⟩, _, _, rfl, rfl, .inl ⟨by decide, by decide⟩, _, _, rfl, rfl, _, _, rfl, rfl, (by show (0 : Int) < 2 * 10 ^ (30 : Int).toNat - 1; decide +kernel), _, _, rfl, rfl, ⟨by decide, by decide, by decide⟩, _, _, rfl, rfl, _, _, rfl, rfl, k _ _ t2⟩
          · refine iteYes' (by cases ys with | nil => exact absurd rfl hz2 | cons _ _ => rfl) ?_
            obtain ⟨x, ax⟩ := at_mod (f := V.int) (zs := ys) c (List.length_pos_iff.mpr hz2)
            have lp : 0 < ys.length := List.length_pos_iff.mpr hz2
            exact ⟨_, rfl, _, rfl, _, rfl, D2, _, rfl, .inl (SqL.of (q2 _ _ hE2)), _, _, rfl, rfl, (by show (0 : Int) < ((ys.map V.int).length : Int); rw [List.length_map]; omega), D2, _, _, _, rfl, rfl, SqL.of (q2 _ _ hE2), ax, k _ _ t2⟩
        · skip
          refine ⟨_, rfl, _, _, rfl, rfl, _, rfl, iteD (fun _ => ?_) (fun _ => ?_)⟩
          · refine ⟨_, rfl, line_le (by simp), fun z4 hz04 => ?_⟩
            have v4 : Same G1 (upd G1 z4 (.lst [])) := same_new hz04
            have hv4 : upd G1 z4 (.lst []) z4 = some (.lst []) := upd_same
            generalize upd G1 z4 (.lst []) = G4 at v4 hv4 ⊢
            have t4 := t1.trans v4
            have q4 := Same.trans q1 v4
            refine ⟨_, .list [], rep_ros (t4 _ _ hb) (ros.kt (KT.same t4)), .lst hv4 .nil, ros_shaped rok, by decide +kernel, _, rfl, ?_⟩
            rw [eqvN]
            by_cases hz4 : rs = []
            · refine iteNo' (by rw [hz4]; rfl) ?_
              refine ⟨_, rfl, rfl, _, rfl, iteD (fun _ => ?_) (fun _ => ?_)⟩
              · refine ⟨_, rfl, _, rfl, line_le (by simp), fun l hl => ?_⟩
                have w1 := same_new (H := G4) (o := .lst [.int (-1), .int bh, .int 0]) hl
                obtain ⟨x, ax⟩ := at_mod (f := V.int) (zs := [-1, bh, 0]) c (by simp)
                exact ⟨_, rfl, _, _, rfl, rfl, (show (0 : Int) < 3 by decide), l, _, _, _, rfl, rfl, SqL.of upd_same, ax, k x _ (t4.trans w1)⟩
              · exact ⟨_, rfl, _, _, rfl, rfl, ⟨by decide, by decide, by decide⟩, _, _, rfl, rfl, .inl ⟨by decide, by decide⟩, _, _, rfl, rfl, _, _, rfl, rfl, (by show (0 : Int) < 2 * 10 ^ (30 : Int).toNat - 1; decide +kernel), _, _, rfl, rfl, ⟨by decide, by decide, by decide⟩, _, _, rfl, rfl, _, _, rfl, rfl, k _ _ t4⟩
            · refine iteYes' (by cases rs with | nil => exact absurd rfl hz4 | cons _ _ => rfl) ?_
              have l0 : 0 < xs.length := by rw [lx]; exact List.length_pos_iff.mpr hz4
              have j0 := Int.emod_nonneg c (show (xs.length : Int) ≠ 0 by omega)
              have j1 := Int.emod_lt_of_pos c (show 0 < (xs.length : Int) by omega)
              obtain ⟨v, hv, av⟩ := atI_ok j0 j1
              obtain ⟨r, hr', ra⟩ := pget ros hv
              obtain ⟨bb, tl, rfl, hbb⟩ := ra.top
              exact ⟨_, rfl, _, rfl, _, rfl, b, _, rfl, .inl (SqL.of (t4 _ _ hb)), _, _, rfl, rfl, (show 0 < (xs.length : Int) by omega), b, _, _, _, rfl, rfl, SqL.of (t4 _ _ hb), av, bb, _, _, _, rfl, rfl, SqT.of (t4 _ _ hbb), atI_nat (j := 2) rfl, k _ _ t4⟩
          · skip
            refine ⟨_, rfl, rfl, _, rfl, iteD (fun _ => ?_) (fun _ => ?_)⟩
            · refine ⟨_, rfl, _, rfl, line_le (by simp), fun l hl => ?_⟩
              have w1 := same_new (H := G1) (o := .lst [.int (-1), .int bh, .int 0]) hl
              obtain ⟨x, ax⟩ := at_mod (f := V.int) (zs := [-1, bh, 0]) c (by simp)
              exact ⟨_, rfl, _, _, rfl, rfl, (show (0 : Int) < 3 by decide), l, _, _, _, rfl, rfl, SqL.of upd_same, ax, k x _ (t1.trans w1)⟩
            · exact ⟨_, rfl, _, _, rfl, rfl, ⟨by decide, by decide, by decide⟩, _, _, rfl, rfl, .inl ⟨by decide, by decide⟩, _, _, rfl, rfl, _, _, rfl, rfl, (by show (0 : Int) < 2 * 10 ^ (30 : Int).toNat - 1; decide +kernel), _, _, rfl, rfl, ⟨by decide, by decide, by decide⟩, _, _, rfl, rfl, _, _, rfl, rfl, k _ _ t1⟩
      · refine iteYes' (by cases zs with | nil => exact absurd rfl hz1 | cons _ _ => rfl) ?_
        obtain ⟨x, ax⟩ := at_mod (f := V.int) (zs := zs) c (List.length_pos_iff.mpr hz1)
        have lp : 0 < zs.length := List.length_pos_iff.mpr hz1
        exact ⟨_, rfl, _, rfl, _, rfl, D, _, rfl, .inl (SqL.of (q1 _ _ hD2)), _, _, rfl, rfl, (by show (0 : Int) < ((zs.map V.int).length : Int); rw [List.length_map]; omega), D, _, _, _, rfl, rfl, SqL.of (q1 _ _ hD2), ax, k _ _ t1⟩
    · skip
      refine ⟨_, rfl, _, _, rfl, rfl, _, rfl, iteD (fun _ => ?_) (fun _ => ?_)⟩
      · refine ⟨_, rfl, line_le (by simp), fun z5 hz05 => ?_⟩
        have v5 : Same H2 (upd H2 z5 (.lst [])) := same_new hz05
        have hv5 : upd H2 z5 (.lst []) z5 = some (.lst []) := upd_same
        generalize upd H2 z5 (.lst []) = G5 at v5 hv5 ⊢
        have t5 := s2.trans v5
        have q5 := Same.trans (Same.refl _) v5
        refine ⟨.list (ys.map PyData.int), .list [], .lst (q5 _ _ hE2) (Reps.ints ys), .lst hv5 .nil, shaped_of (by simp only [PyData.canLay0]; exact (ints_all ys).1) (by simp only [PyData.depth, (ints_all ys).2]; omega), by decide +kernel, _, rfl, ?_⟩
        rw [eqvN]
        by_cases hz5 : ys = []
        · refine iteNo' (by rw [hz5]; rfl) ?_
          refine ⟨_, rfl, _, _, rfl, rfl, _, rfl, iteD (fun _ => ?_) (fun _ => ?_)⟩
          · refine ⟨_, rfl, line_le (by simp), fun z6 hz06 => ?_⟩
            have v6 : Same G5 (upd G5 z6 (.lst [])) := same_new hz06
            have hv6 : upd G5 z6 (.lst []) z6 = some (.lst []) := upd_same
            generalize upd G5 z6 (.lst []) = G6 at v6 hv6 ⊢
            have t6 := t5.trans v6
            have q6 := Same.trans q5 v6
            refine ⟨_, .list [], rep_ros (t6 _ _ hb) (ros.kt (KT.same t6)), .lst hv6 .nil, ros_shaped rok, by decide +kernel, _, rfl, ?_⟩
            rw [eqvN]
            by_cases hz6 : rs = []
            · refine iteNo' (by rw [hz6]; rfl) ?_
              refine ⟨_, rfl, rfl, _, rfl, iteD (fun _ => ?_) (fun _ => ?_)⟩
              · refine ⟨_, rfl, _, rfl, line_le (by simp), fun l hl => ?_⟩
                have w1 := same_new (H := G6) (o := .lst [.int (-1), .int bh, .int 0]) hl
                obtain ⟨x, ax⟩ := at_mod (f := V.int) (zs := [-1, bh, 0]) c (by simp)
                exact ⟨_, rfl, _, _, rfl, rfl, (show (0 : Int) < 3 by decide), l, _, _, _, rfl, rfl, SqL.of upd_same, ax, k x _ (t6.trans w1)⟩
              · exact ⟨_, rfl, _, _, rfl, rfl, ⟨by decide, by decide, by decide⟩, _, _, rfl, rfl, .inl ⟨by decide, by decide⟩, _, _, rfl, rfl, _, _, rfl, rfl, (by show (0 : Int) < 2 * 10 ^ (30 : Int).toNat - 1; decide +kernel), _, _, rfl, rfl, ⟨by decide, by decide, by decide⟩, _, _, rfl, rfl, _, _, rfl, rfl, k _ _ t6⟩
            · refine iteYes' (by cases rs with | nil => exact absurd rfl hz6 | cons _ _ => rfl) ?_
              have l0 : 0 < xs.length := by rw [lx]; exact List.length_pos_iff.mpr hz6
              have j0 := Int.emod_nonneg c (show (xs.length : Int) ≠ 0 by omega)
              have j1 := Int.emod_lt_of_pos c (show 0 < (xs.length : Int) by omega)
              obtain ⟨v, hv, av⟩ := atI_ok j0 j1
              obtain ⟨r, hr', ra⟩ := pget ros hv
              obtain ⟨bb, tl, rfl, hbb⟩ := ra.top
              exact ⟨_, rfl, _, rfl, _, rfl, b, _, rfl, .inl (SqL.of (t6 _ _ hb)), _, _, rfl, rfl, (show 0 < (xs.length : Int) by omega), b, _, _, _, rfl, rfl, SqL.of (t6 _ _ hb), av, bb, _, _, _, rfl, rfl, SqT.of (t6 _ _ hbb), atI_nat (j := 2) rfl, k _ _ t6⟩
          · skip
            refine ⟨_, rfl, rfl, _, rfl, iteD (fun _ => ?_) (fun _ => ?_)⟩
            · refine ⟨_, rfl, _, rfl, line_le (by simp), fun l hl => ?_⟩
              have w1 := same_new (H := G5) (o := .lst [.int (-1), .int bh, .int 0]) hl
              obtain ⟨x, ax⟩ := at_mod (f := V.int) (zs := [-1, bh, 0]) c (by simp)
              exact ⟨_, rfl, _, _, rfl, rfl, (show (0 : Int) < 3 by decide), l, _, _, _, rfl, rfl, SqL.of upd_same, ax, k x _ (t5.trans w1)⟩
            · exact ⟨_, rfl, _, _, rfl, rfl, ⟨by decide, by decide, by decide⟩, _, _, rfl, rfl, .inl ⟨by decide, by decide⟩, _, _, rfl, rfl, _, _, rfl, rfl, (by show (0 : Int) < 2 * 10 ^ (30 : Int).toNat - 1; decide +kernel), _, _, rfl, rfl, ⟨by decide, by decide, by decide⟩, _, _, rfl, rfl, _, _, rfl, rfl, k _ _ t5⟩
        · refine iteYes' (by cases ys with | nil => exact absurd rfl hz5 | cons _ _ => rfl) ?_
          obtain ⟨x, ax⟩ := at_mod (f := V.int) (zs := ys) c (List.length_pos_iff.mpr hz5)
          have lp : 0 < ys.length := List.length_pos_iff.mpr hz5
          exact ⟨_, rfl, _, rfl, _, rfl, D2, _, rfl, .inl (SqL.of (q5 _ _ hE2)), _, _, rfl, rfl, (by show (0 : Int) < ((ys.map V.int).length : Int); rw [List.length_map]; omega), D2, _, _, _, rfl, rfl, SqL.of (q5 _ _ hE2), ax, k _ _ t5⟩
      · skip
        refine ⟨_, rfl, _, _, rfl, rfl, _, rfl, iteD (fun _ => ?_) (fun _ => ?_)⟩
        · refine ⟨_, rfl, line_le (by simp), fun z7 hz07 => ?_⟩
          have v7 : Same H2 (upd H2 z7 (.lst [])) := same_new hz07
          have hv7 : upd H2 z7 (.lst []) z7 = some (.lst []) := upd_same
          generalize upd H2 z7 (.lst []) = G7 at v7 hv7 ⊢
          have t7 := s2.trans v7
          have q7 := Same.trans (Same.refl _) v7
          refine ⟨_, .list [], rep_ros (t7 _ _ hb) (ros.kt (KT.same t7)), .lst hv7 .nil, ros_shaped rok, by decide +kernel, _, rfl, ?_⟩
          rw [eqvN]
          by_cases hz7 : rs = []
          · refine iteNo' (by rw [hz7]; rfl) ?_
            refine ⟨_, rfl, rfl, _, rfl, iteD (fun _ => ?_) (fun _ => ?_)⟩
            · refine ⟨_, rfl, _, rfl, line_le (by simp), fun l hl => ?_⟩
              have w1 := same_new (H := G7) (o := .lst [.int (-1), .int bh, .int 0]) hl
              obtain ⟨x, ax⟩ := at_mod (f := V.int) (zs := [-1, bh, 0]) c (by simp)
              exact ⟨_, rfl, _, _, rfl, rfl, (show (0 : Int) < 3 by decide), l, _, _, _, rfl, rfl, SqL.of upd_same, ax, k x _ (t7.trans w1)⟩
            · exact ⟨_, rfl, _, _, rfl, rfl, ⟨by decide, by decide, by decide⟩, _, _, rfl, rfl, .inl ⟨by decide, by decide⟩, _, _, rfl, rfl, _, _, rfl, rfl, (by show (0 : Int) < 2 * 10 ^ (30 : Int).toNat - 1; decide +kernel), _, _, rfl, rfl, ⟨by decide, by decide, by decide⟩, _, _, rfl, rfl, _, _, rfl, rfl, k _ _ t7⟩
          · refine iteYes' (by cases rs with | nil => exact absurd rfl hz7 | cons _ _ => rfl) ?_
            have l0 : 0 < xs.length := by rw [lx]; exact List.length_pos_iff.mpr hz7
            have j0 := Int.emod_nonneg c (show (xs.length : Int) ≠ 0 by omega)
            have j1 := Int.emod_lt_of_pos c (show 0 < (xs.length : Int) by omega)
            obtain ⟨v, hv, av⟩ := atI_ok j0 j1
            obtain ⟨r, hr', ra⟩ := pget ros hv
            obtain ⟨bb, tl, rfl, hbb⟩ := ra.top
            exact ⟨_, rfl, _, rfl, _, rfl, b, _, rfl, .inl (SqL.of (t7 _ _ hb)), _, _, rfl, rfl, (show 0 < (xs.length : Int) by omega), b, _, _, _, rfl, rfl, SqL.of (t7 _ _ hb), av, bb, _, _, _, rfl, rfl, SqT.of (t7 _ _ hbb), atI_nat (j := 2) rfl, k _ _ t7⟩
        · skip
          refine ⟨_, rfl, rfl, _, rfl, iteD (fun _ => ?_) (fun _ => ?_)⟩
          · refine ⟨_, rfl, _, rfl, line_le (by simp), fun l hl => ?_⟩
            have w1 := same_new (H := H2) (o := .lst [.int (-1), .int bh, .int 0]) hl
            obtain ⟨x, ax⟩ := at_mod (f := V.int) (zs := [-1, bh, 0]) c (by simp)
            exact ⟨_, rfl, _, _, rfl, rfl, (show (0 : Int) < 3 by decide), l, _, _, _, rfl, rfl, SqL.of upd_same, ax, k x _ (s2.trans w1)⟩
          · exact ⟨_, rfl, _, _, rfl, rfl, ⟨by decide, by decide, by decide⟩, _, _, rfl, rfl, .inl ⟨by decide, by decide⟩, _, _, rfl, rfl, _, _, rfl, rfl, (by show (0 : Int) < 2 * 10 ^ (30 : Int).toNat - 1; decide +kernel), _, _, rfl, rfl, ⟨by decide, by decide, by decide⟩, _, _, rfl, rfl, _, _, rfl, rfl, k _ _ s2⟩
end
end My

set_option Elab.async false
set_option linter.all false
set_option maxRecDepth 100000
set_option maxHeartbeats 4000000
namespace My
open PySem L2
local macro_rules | `(tactic| walk_at "lk") => `(tactic| first | with_reducible exact lk0 | (refine lk1 (by decide +kernel) ?_; walk_at "lk") | rfl)
theorem isi_own {K : PySem.W.Frag} {C D : Addr} {b : Bool} (h : PySem.W.kitOne K (.ref C) (.ref D) = some b) : ∀ u, RelV (.ref D) u → PySem.W.kitOne K (.ref C) u = some b := by
  intro u z
  obtain rfl : u = Value.ref D := z
  exact h
theorem RsOk.joinR {l : List Nd} {N w : Int} {path : List Nat} {sz wd out : Int} {bd : List Nd} (ok : RsOk l) (hp : PathAt path l (.loop N sz wd out bd)) : joinR (rwL (-1) l) N = (mvP (.join N) w path l).map (rwL (-1)) :=
  joinR_at hp ok.nd ok.m1 ok.ws (fun y hy e => ok.m1 (by rw [← e]; exact hy))
def sp_l_ref : Sp := fun vs H Q _ => ∃ (q tp mv : Addr) (fr N : Int) (xs : List V) (l : List Nd), vs = [.ref q, .ref mv] ∧ H q = some (.tup [.int fr, .ref tp]) ∧ H tp = some (.tup xs) ∧ NdsAt H l xs ∧ RsOk l ∧ H mv = some (.tup [.str "join", .int N]) ∧ joinR (rwL (-1) l) N = none ∧ ∀ H', Same H H' → Q (.bl true) H'
theorem no_path {l : List Nd} {N w : Int} {path : List Nat} {sz wd out : Int} {bd t : List Nd} (ok : RsOk l) (h : joinR (rwL (-1) l) N = none) (hp : PathAt path l (.loop N sz wd out bd)) (e : mvP (.join N) w path l = some t) : False := by
  rw [ok.joinR (w := w) hp, e] at h
  cases h
section
variable {P : Program} {w : World} {K : PySem.W.Frag} {mg : Str → Option Value} {base : Heap} {t : Adr}
theorem ok_l_refused (T : Txt K mg t) : FnOk P w K mg base CX0 132 t.f_l_refused t.d_l_refused ["_law_nest_here", "_law_move"] sp_l_ref := by
  have G_moved := ok_moved (P := P) (w := w) (base := base) T
  have GH_l_whole := okH_l_whole (P := P) (w := w) (base := base) T
  refine T.F_l_refused.ok sc_l_refused (fun vs H Q E h => ?_) (fun cdv A outer s H vs Q E hr h => ?_)
  · obtain ⟨q, tp, mv, fr, N, xs, l, rfl, _⟩ := h
    rfl
  · obtain ⟨q, tp, mv, fr, N, xs, l, rfl, hq, htp, nds, ok, hmv, hn, k⟩ := h
    refine ⟨_, (pss_cons (ps_tryED ⟨rfl, rfl⟩ (px_callD G_moved (hr.mono (by omega)) rfl T.m_moved T.F_moved.kp T.b_moved (pa_cons (pv 0) (pa_cons (pv 1) pa_nil))))
      (pss_one (ps_ret pe_bl))), ?_⟩
    refine ⟨_, rfl, _, rfl, q, tp, mv, fr, .join N, xs, l, rfl, hq, htp, nds, ok.len, ok.ok, (by have := ok.dp; omega), hmv, fun path t' sz wd out bd r tp' xs' H' hp et => (no_path ok hn hp et).elim, fun _ dx H1 u1 hdx => ⟨t.C_NoMove, _, rfl, (ph_hitD (i := 2) rfl T.m_NoMove T.em_NoMove_NoMove sc_l_refused.nd rfl rfl (fun _ => (pss_cons (ps_if (PW.pt (pw_or (pt_not (pt_val (pe_callH GH_l_whole ((hr.mono (by omega)).held _) rfl T.m_l_whole T.F_l_whole.kp T.b_l_whole .nil pass0 (pa_cons (pe_fldG (K := K) rfl (pv 2) rfl) pa_nil)))) (pw_or1 (pt_cmpR op_ne (pe_fldG (K := K) rfl (pv 2) rfl) pe_int (nomark _)))))
        (pss_one (ps_ret pe_bl))
        pss_nil)
      (pss_one (ps_ret (pe_and (pe_not (pe_callB (call_isiG (K := K) rfl) (by rfl) T.z_isinstance PyProof.Rows.boot_isinstance (pa_cons (pv 2) (pa_cons (pe_glob (v := V.ref t.C_Clash) rfl T.m_Clash rfl) pa_nil)))) (pe_one (pe_not (pe_callB (call_isiG (K := K) rfl) (by rfl) T.z_isinstance PyProof.Rows.boot_isinstance (pa_cons (pv 2) (pa_cons (pe_glob (v := V.ref t.C_NoText) rfl T.m_NoText rfl) pa_nil))))))))))), fun ea hea => ?_⟩⟩
    have ne : dx ≠ ea := fun z => by rw [z, hea] at hdx; cases hdx
    have u2 : Same H1 (upd H1 ea (.ext (xcG ea t.C_NoMove (some dx)))) := same_new hea
    have he2 : upd H1 ea (.ext (xcG ea t.C_NoMove (some dx))) ea = some (.ext (xcG ea t.C_NoMove (some dx))) := upd_same
    have hd2 := u2 _ _ hdx
    have u12 := u1.trans u2
    show _
    refine ⟨_, rfl, ea, t.C_NoMove, dx, [("place", .int 0)], .int 0, rfl, he2, hd2, rfl, T.xg_NoMove_place, 0, rfl, true, rfl, iteF ?_⟩
    refine ⟨_, rfl, ea, t.C_NoMove, dx, [("place", .int 0)], .int 0, rfl, he2, hd2, rfl, T.xg_NoMove_place, rfl, _, rfl, iteNo' (by decide) ?_⟩
    refine ⟨_, rfl, ea, t.C_NoMove, some dx, _, false, rfl, he2, T.xc_NoMove, isi_own T.kx_NoMove_Clash, ?_⟩
    refine ⟨false, rfl, true, rfl, iteT ?_⟩
    exact ⟨_, rfl, ea, t.C_NoMove, some dx, _, false, rfl, he2, T.xc_NoMove, isi_own T.kx_NoMove_NoText, false, rfl, k _ u12⟩
theorem ok_l_refused_by_any (T : Txt K mg t) : FnOk P w K mg base CX0 132 t.f_l_refused_by_any t.d_l_refused_by_any ["_law_nest_here", "_law_move"] sp_l_ref := by
  have G_moved := ok_moved (P := P) (w := w) (base := base) T
  refine T.F_l_refused_by_any.ok sc_l_refused_by_any (fun vs H Q E h => ?_) (fun cdv A outer s H vs Q E hr h => ?_)
  · obtain ⟨q, tp, mv, fr, N, xs, l, rfl, _⟩ := h
    rfl
  · obtain ⟨q, tp, mv, fr, N, xs, l, rfl, hq, htp, nds, ok, hmv, hn, k⟩ := h
    refine ⟨_, (pss_cons (ps_tryED ⟨rfl, rfl⟩ (px_callD G_moved (hr.mono (by omega)) rfl T.m_moved T.F_moved.kp T.b_moved (pa_cons (pv 0) (pa_cons (pv 1) pa_nil))))
      (pss_one (ps_ret pe_bl))), ?_⟩
    refine ⟨_, rfl, _, rfl, q, tp, mv, fr, .join N, xs, l, rfl, hq, htp, nds, ok.len, ok.ok, (by have := ok.dp; omega), hmv, fun path t' sz wd out bd r tp' xs' H' hp et => (no_path ok hn hp et).elim, fun _ dx H1 u1 hdx => ⟨t.C_NoMove, _, rfl, (ph_hitD (i := 2) rfl T.m_LoomError T.em_NoMove_LoomError sc_l_refused_by_any.nd rfl rfl (fun _ => (pss_one (ps_ret (pe_callB (call_isiG (K := K) rfl) (by rfl) T.z_isinstance PyProof.Rows.boot_isinstance (pa_cons (pv 2) (pa_cons (pe_bltn (v := V.ty "ValueError") rfl T.z_ValueError PyProof.Rows.Boot.«ValueError» rfl) pa_nil))))))), fun ea hea => ?_⟩⟩
    have u2 : Same H1 (upd H1 ea (.ext (xcG ea t.C_NoMove (some dx)))) := same_new hea
    exact ⟨_, rfl, ea, t.C_NoMove, some dx, _, true, rfl, upd_same, T.xc_NoMove, isi_bt T.xm_NoMove_ValueError (by decide +kernel), k _ (u1.trans u2)⟩
end
end My

set_option Elab.async false
set_option linter.all false
set_option maxRecDepth 100000
set_option maxHeartbeats 4000000
namespace My
open PySem L2
local macro_rules | `(tactic| walk_at "lk") => `(tactic| first | with_reducible exact lk0 | (refine lk1 (by decide +kernel) ?_; walk_at "lk") | rfl)
def spLaw (K : PySem.W.Frag) : Sp := fun vs H Q _ => ∃ (a : Addr) (ns : List Int), vs = [.ref a] ∧ SqL K H a (ns.map V.int) ∧ ns.length ≤ 63 ∧ ∀ H', Q (.bl true) H'
mutual
/-- a nest as data -/
def encN : Nd → PyData
  | .deed n k w cs us => deedD n k w cs us
  | .loop n sz wd out bd => loopD n sz wd out (encL bd)
def encL : List Nd → List PyData
  | [] => []
  | x :: r => encN x :: encL r
end
mutual
theorem nd_rep {H : Hp} : ∀ {x : Nd} {v : V}, NdAt H x v → Rep (TH H) v (encN x)
  | .deed n k w cs us, v, h => by
    rw [NdAt] at h
    obtain ⟨b, c, u, rfl, h1, h2, h3⟩ := h
    rw [encN]
    exact .tup (th_of h1) (.cons (.str _) (.cons (.int _) (.cons (.int _) (.cons (.str _) (.cons (rt_ints h2) (.cons (rt_ints h3) .nil))))))
  | .loop n sz wd out bd, v, h => by
    rw [NdAt] at h
    obtain ⟨b, p, xs, rfl, h1, h2, h3⟩ := h
    rw [encN]
    exact .tup (th_of h1) (.cons (.str _) (.cons (.int _) (.cons (.int _) (.cons (.int _) (.cons (.int _) (.cons (.tup (th_of h2) (nds_rep h3)) .nil))))))
theorem nds_rep {H : Hp} : ∀ {l : List Nd} {xs : List V}, NdsAt H l xs → Reps (TH H) xs (encL l)
  | [], xs, h => by rw [NdsAt] at h; subst h; exact .nil
  | x :: r, xs, h => by
    rw [NdsAt] at h
    obtain ⟨v, vr, rfl, h1, h2⟩ := h
    rw [encL]
    exact .cons (nd_rep h1) (nds_rep h2)
end
mutual
theorem wr_N : ∀ (x : Nd) (a : Int), Wr a (encN x) ((rwN a x).map encR)
  | .deed n k w cs us, a => by rw [encN, rwN]; exact .deed a n k w cs us
  | .loop n sz wd out bd, a => by rw [encN, rwN, List.map_cons]; exact .loop a n sz wd out _ _ (wr_L bd n)
theorem wr_L : ∀ (l : List Nd) (a : Int), WrL a (encL l) ((rwL a l).map encR)
  | [], a => by rw [encL, rwL]; exact .nil a
  | x :: r, a => by rw [encL, rwL, List.map_append]; exact .cons a _ _ _ _ (wr_N x a) (wr_L r a)
end
mutual
theorem ns_N : ∀ (x : Nd) (a : Int), (∀ r ∈ rwN a x, RoOk r) → NsOk (2 * dpN x + 2) [encN x]
  | .deed n k w cs us, a, h => by
    rw [encN]
    exact (nsok_deed (h (a, .deed n k w cs us) (by rw [rwN]; exact .head _))).le (by omega)
  | .loop n sz wd out bd, a, h => by
    rw [encN, dpN]
    exact (nsok_loop (ns_L bd n fun r hr => h r (by rw [rwN]; exact .tail _ hr))).le (by omega)
theorem ns_L : ∀ (l : List Nd) (a : Int), (∀ r ∈ rwL a l, RoOk r) → NsOk (2 * dpL l + 2) (encL l)
  | [], a, _ => by rw [encL]; exact NsOk.nil _
  | x :: r, a, h => by
    rw [encL, dpL]
    exact ((ns_N x a fun z hz => h z (by rw [rwL]; exact List.mem_append_left _ hz)).le (by omega)).cons ((ns_L r a fun z hz => h z (by rw [rwL]; exact List.mem_append_right _ hz)).le (by omega))
end
theorem encR_rn {o w : Int} : ∀ (r : Ro), RoOk r → RoOk (rnR o w r)
  | (a, .loop ..), _ => True.intro
  | (a, .deed ..), h => h
theorem joinR_ok {rs ds : List Ro} {N : Int} (h : joinR rs N = some ds) (ho : ∀ r ∈ rs, RoOk r) : (∀ r ∈ ds, RoOk r) ∧ ds.length ≤ rs.length + 2 := by
  cases hl : loopAt N rs with
  | none => rw [joinR, hl] at h; cases h
  | some i =>
    obtain ⟨ab, sz, wd, out, e⟩ := loopAt_get hl
    rw [joinR_get hl e] at h
    cases hj : behR ab (rs.drop (i + 1)) with
    | none => rw [hj] at h; cases h
    | some j =>
      rw [hj] at h
      simp only at h
      split at h
      · split at h
        · cases h
          refine ⟨fun r hr => ?_, ?_⟩
          · rcases List.mem_append.mp hr with hr | hr
            · exact ho r (List.mem_of_mem_take hr)
            · obtain ⟨r', h', rfl⟩ := List.mem_map.mp hr
              exact encR_rn r' (ho r' (List.mem_of_mem_drop h'))
          · simp
            omega
        · cases h
      · cases h
theorem join_dp {N w : Int} : ∀ {path : List Nat} {l t : List Nd}, mvP (.join N) w path l = some t → dpL t ≤ dpL l
  | [], l, t, e => by cases e
  | [p], l, t, e => by
    rw [mvP] at e
    cases q : l[p]? with
    | none => rw [q] at e; cases e
    | some x =>
      rw [q] at e
      obtain ⟨u, hu, rfl⟩ := Option.map_eq_some_iff.mp e
      obtain ⟨y, hy, rfl⟩ := Option.map_eq_some_iff.mp hu
      have ec := cut_at q
      have e1 : dpL l = max (dpL (l.take p)) (max (dpN x) (dpL (l.drop (p + 1)))) := by rw [← dpL_mid, ← ec]
      have hd : max (dpN y) (dpL ((l.drop (p + 1)).drop 1)) ≤ max (dpN x) (dpL (l.drop (p + 1))) := by
        generalize l.drop (p + 1) = r at hy
        cases r with
        | nil => cases x <;> cases hy
        | cons z r' =>
          cases x with
          | deed n k v cs us => cases hy
          | loop n sz wd out bd =>
            cases z with
            | deed n k v cs us => cases hy
            | loop m szm wdm outm bdm =>
              rw [jnd] at hy
              split at hy
              · cases hy
                simp only [dpN, dpL, dpL_app, dp_renL, List.drop_succ_cons, List.drop_zero]
                omega
              · cases hy
      rw [dpL_mid]
      omega
  | p :: q :: r, l, t, e => by
    rw [mvP] at e
    cases z : l[p]? with
    | none => rw [z] at e; cases e
    | some x =>
      rw [z] at e
      cases x with
      | deed n k v cs us => cases e
      | loop n sz wd out bd =>
        obtain ⟨bd', hb, rfl⟩ := Option.map_eq_some_iff.mp e
        have ih := join_dp hb
        have ec := cut_at z
        have e1 : dpL l = max (dpL (l.take p)) (max (dpN (.loop n sz wd out bd)) (dpL (l.drop (p + 1)))) := by rw [← dpL_mid, ← ec]
        rw [dpN] at e1
        rw [dpL_mid, dpN]
        omega
section
variable {P : Program} {w : World} {K : PySem.W.Frag} {mg : Str → Option Value} {base : Heap} {t : Adr}
theorem ok_law (T : Txt K mg t) : FnOk P w K mg base CX0 133 t.f_law t.d_law ["_law_script"] (spLaw K) := by
  have G_l_cell_at := ok_l_cell_at (P := P) (w := w) (base := base) T
  have G_l_rows_by := ok_l_rows_by (P := P) (w := w) (base := base) T
  have G_l_number_by := ok_l_number_by (P := P) (w := w) (base := base) T
  have G_l_joined := ok_l_joined (P := P) (w := w) (base := base) T
  have G_l_nest := ok_l_nest (P := P) (w := w) (base := base) T
  have G_l_refused := ok_l_refused (P := P) (w := w) (base := base) T
  have G_l_refused_by_any := ok_l_refused_by_any (P := P) (w := w) (base := base) T
  have G_moved := ok_moved (P := P) (w := w) (base := base) T
  have G_l_written := ok_l_written (P := P) (w := w) (base := base) T
  refine T.F_law.ok sc_law (fun vs H Q E h => ?_) (fun cdv A outer s H vs Q E hr h => ?_)
  · obtain ⟨a, zs, rfl, _⟩ := h
    rfl
  · obtain ⟨a, zs, rfl, hS, l63, k⟩ := h
    refine ⟨_, (pss_cons (ps_set (i := 1) sc_law.nd rfl (Or.inl rfl) (pe_op op_add pe_int (pe_op op_mod (pe_call G_l_cell_at (hr.mono (by omega)) rfl T.m_l_cell_at T.F_l_cell_at.kp T.b_l_cell_at .nil pass0 (pa_cons (pv 0) (pa_cons pe_int pa_nil))) (pe_op op_add (pe_op op_pow pe_int pe_int) pe_int))))
      (pss_cons (ps_set (i := 2) sc_law.nd rfl (Or.inl rfl) (pe_call G_l_rows_by (hr.mono (by omega)) rfl T.m_l_rows_by T.F_l_rows_by.kp T.b_l_rows_by .nil pass0 (pa_cons (pv 0) (pa_cons (pv 1) pa_nil))))
      (pss_cons (ps_set (i := 3) sc_law.nd rfl (Or.inl rfl) (pe_call G_l_number_by (hr.mono (by omega)) rfl T.m_l_number_by T.F_l_number_by.kp T.b_l_number_by .nil pass0 (pa_cons (pv 0) (pa_cons (pv 2) (pa_cons (pv 1) pa_nil)))))
      (pss_cons (ps_set (i := 4) sc_law.nd rfl (Or.inl rfl) (pe_call G_l_joined (hr.mono (by omega)) rfl T.m_l_joined T.F_l_joined.kp T.b_l_joined .nil pass0 (pa_cons (pv 2) (pa_cons (pv 3) pa_nil))))
      (pss_cons (ps_for PassesOwn.never rfl (pi_range1 rfl T.z_range (pa_cons pe_int pa_nil)) (pg_name (i := 5) sc_law.nd rfl (Or.inl rfl) (Or.inl rfl))
        (pss_cons (ps_set (i := 6) sc_law.nd rfl (Or.inl rfl) (pe_call G_l_nest (hr.mono (by omega)) rfl T.m_l_nest T.F_l_nest.kp T.b_l_nest .nil pass0 (pa_cons (pv 2) (pa_cons (pv 1) pa_nil))))
        (pss_one (ps_if (pt_cmpR op_isN (pv 4) pe_non (nomark _))
          (pss_one (ps_if (PW.pt (pw_or (pt_not (pt_val (pe_call G_l_refused (hr.mono (by omega)) rfl T.m_l_refused T.F_l_refused.kp T.b_l_refused .nil pass0 (pa_cons (pv 6) (pa_cons (pe_tup (pa_cons pe_str (pa_cons (pv 3) pa_nil))) pa_nil))))) (pw_or1 (pt_not (pt_val (pe_call G_l_refused_by_any (hr.mono (by omega)) rfl T.m_l_refused_by_any T.F_l_refused_by_any.kp T.b_l_refused_by_any .nil pass0 (pa_cons (pv 6) (pa_cons (pe_tup (pa_cons pe_str (pa_cons (pv 3) pa_nil))) pa_nil))))))))
            (pss_one (ps_ret pe_bl))
            pss_nil))
          (pss_cons (ps_set (i := 7) sc_law.nd rfl (Or.inl rfl) (pe_call G_moved (hr.mono (by omega)) rfl T.m_moved T.F_moved.kp T.b_moved .nil passND (pa_cons (pv 6) (pa_cons (pe_tup (pa_cons pe_str (pa_cons (pv 3) pa_nil))) pa_nil))))
          (pss_one (ps_if (PW.pt (pw_or (pt_cmpR (op_neD hr.units) (pe_call G_l_written (hr.mono (by omega)) rfl T.m_l_written T.F_l_written.kp T.b_l_written .nil pass0 (pa_cons (pv 7) (pa_cons (pe_callB call_len_seq (by rfl) T.z_len PySem.boot_len (pa_cons (pv 4) pa_nil)) pa_nil))) (pv 4) (nomark _)) (pw_or1 (pt_cmpR op_ne (pe_ix ix_tup (pv 7) pe_int (fun _ _ => rfl)) (pv 1) (nomark _)))))
            (pss_one (ps_ret pe_bl))
            pss_nil)))))))
      (pss_one (ps_ret pe_bl))))))), ?_⟩
    refine ⟨_, rfl, a, zs, 3, rfl, hS, by decide, fun c3 => ⟨_, _, rfl, rfl, ⟨by decide, by decide, by decide⟩, _, _, rfl, rfl, _, _, rfl, rfl, (by show (0 : Int) < 10 ^ (30 : Int).toNat + 1; decide +kernel), _, _, rfl, rfl, ?_⟩⟩
    have h100 : 100 ≤ 100 + c3 % (10 ^ (30 : Int).toNat + 1) := by
      have := Int.emod_nonneg c3 (show (10 : Int) ^ (30 : Int).toNat + 1 ≠ 0 by decide +kernel)
      omega
    refine ⟨_, rfl, _, rfl, a, zs, (100 + c3 % (10 ^ (30 : Int).toNat + 1)), rfl, hS, h100, fun q xs l H1 hq0 u1 hq ros ok => ?_⟩
    refine ⟨_, rfl, _, rfl, _, rfl, a, q, zs, xs, rwL (-1) l, (100 + c3 % (10 ^ (30 : Int).toNat + 1)), rfl, u1.seq hS, hq, ros, ok.rl, ok.ro, fun N H2 u2 => ?_⟩
    have u12 := u1.trans u2
    have dp := ok.dp
    refine ⟨_, rfl, _, rfl, q, xs, rwL (-1) l, N, rfl, u2 _ _ hq, ros.kt (KT.same u2), ok.rl, ok.ro, fun hn H3 u3 => ?_, fun ds D ys H3 hs u3 hD0 hD rd => ?_⟩
    · have u23 := u2.trans u3
      refine ⟨_, rfl, by decide, by decide, ?_⟩
      refine for_range (n := 2) (fun i σ G => ∃ (o5 o6 o7 : Option V), σ = [some (.ref a), some (.int (100 + c3 % (10 ^ (30 : Int).toNat + 1))), some (.ref q), some (.int N), some .non, o5, o6, o7] ∧ Same H3 G) ⟨none, none, none, rfl, Same.refl _⟩ ?_ ?_
      · rintro i σ G hi ⟨o5, o6, o7, rfl, sG⟩
        have uG := u23.trans sG
        refine ⟨_, rfl, _, rfl, q, xs, rwL (-1) l, (100 + c3 % (10 ^ (30 : Int).toNat + 1)), rfl, uG _ _ hq, ros.kt (KT.same uG), ok.rl, fun nq tp ys' G1 v1 hnq htp nds => ?_⟩
        rw [bdy_rows ok.nd ok.m1] at nds
        refine ⟨_, rfl, rfl, _, rfl, iteYes' rfl ?_⟩
        refine ⟨_, rfl, _, rfl, line_le (by simp), fun m hm => ?_⟩
        have v2 : Same G1 (upd G1 m (.tup [.str "join", .int N])) := same_new hm
        have hm2 : upd G1 m (.tup [.str "join", .int N]) m = some (.tup [.str "join", .int N]) := upd_same
        generalize upd G1 m (.tup [.str "join", .int N]) = G2 at v2 hm2 ⊢
        refine ⟨nq, tp, m, (100 + c3 % (10 ^ (30 : Int).toNat + 1)), N, ys', l, rfl, v2 _ _ hnq, v2 _ _ htp, nds.kt (KT.same v2), ok, hm2, hn, fun G3 v3 => ⟨true, rfl, iteF ?_⟩⟩
        have v23 := v2.trans v3
        refine ⟨_, rfl, _, rfl, line_le (by simp), fun m4 hm4 => ?_⟩
        have v4 : Same G3 (upd G3 m4 (.tup [.str "join", .int N])) := same_new hm4
        have hm5 : upd G3 m4 (.tup [.str "join", .int N]) m4 = some (.tup [.str "join", .int N]) := upd_same
        generalize upd G3 m4 (.tup [.str "join", .int N]) = G4 at v4 hm5 ⊢
        have v24 := v23.trans v4
        refine ⟨nq, tp, m4, (100 + c3 % (10 ^ (30 : Int).toNat + 1)), N, ys', l, rfl, v24 _ _ hnq, v24 _ _ htp, nds.kt (KT.same v24), ok, hm5, hn, fun G5 v5 => ⟨true, rfl, iteF ?_⟩⟩
        exact ⟨_, _, _, rfl, sG.trans (v1.trans (v24.trans v5))⟩
      · rintro σ G ⟨o5, o6, o7, rfl, sG⟩
        exact k _
    · obtain ⟨rok, dlen⟩ := joinR_ok hs (fun r hr => (ok.ro r hr).ok)
      have rl := ok.rl
      have u23 := u2.trans u3
      have lyd := Paired.length rd
      refine ⟨_, rfl, by decide, by decide, ?_⟩
      refine for_range (n := 2) (fun i σ G => ∃ (o5 o6 o7 : Option V), σ = [some (.ref a), some (.int (100 + c3 % (10 ^ (30 : Int).toNat + 1))), some (.ref q), some (.int N), some (.ref D), o5, o6, o7] ∧ Same H3 G) ⟨none, none, none, rfl, Same.refl _⟩ ?_ ?_
      · rintro i σ G hi ⟨o5, o6, o7, rfl, sG⟩
        have uG := u23.trans sG
        refine ⟨_, rfl, _, rfl, q, xs, rwL (-1) l, (100 + c3 % (10 ^ (30 : Int).toNat + 1)), rfl, uG _ _ hq, ros.kt (KT.same uG), ok.rl, fun nq tp ys' G1 v1 hnq htp nds => ?_⟩
        rw [bdy_rows ok.nd ok.m1] at nds
        refine ⟨_, rfl, rfl, _, rfl, iteNo' rfl ?_⟩
        refine ⟨_, rfl, _, rfl, line_le (by simp), fun m hm => ?_⟩
        have v2 : Same G1 (upd G1 m (.tup [.str "join", .int N])) := same_new hm
        have hm2 : upd G1 m (.tup [.str "join", .int N]) m = some (.tup [.str "join", .int N]) := upd_same
        generalize upd G1 m (.tup [.str "join", .int N]) = G2 at v2 hm2 ⊢
        refine ⟨nq, tp, m, (100 + c3 % (10 ^ (30 : Int).toNat + 1)), .join N, ys', l, rfl, v2 _ _ hnq, v2 _ _ htp, nds.kt (KT.same v2), ok.len, ok.ok, by omega, hm2, fun path t' sz wd out bd r tp2 xs2 G3 hp et v3 hr2 htp2 nd2 => ?_, fun hx => ?_⟩
        · have er : rwL (-1) t' = ds := by
            have := ok.joinR (N := N) (w := (100 + c3 % (10 ^ (30 : Int).toNat + 1))) hp
            rw [hs, et] at this
            exact (Option.some.inj this).symm
          have v13 := v1.trans (v2.trans v3)
          have hDG : G3 D = some (.lst ys) := v13 _ _ (sG _ _ hD)
          have rdG := rd.kt (KT.same (sG.trans v13))
          have lt := rw_len t' (-1)
          have lx2 := nd2.len
          have dt := join_dp et
          rw [er] at lt
          have lm : (ds.map encR).length = ds.length := List.length_map _
          refine ⟨_, rfl, _, rfl, D, _, rfl, .inl (SqL.of hDG), r, tp2, _, xs2, encL t', ds.map encR, ?_, hr2, htp2, nds_rep nd2, ?_, (ns_L t' (-1) (by rw [er]; exact rok)).le (by omega), by omega, by omega, fun D9 ys9 G4 hD9 v4 hy9 rep9 => ?_⟩
          · show [V.ref r, V.int ((ys.length : Nat) : Int)] = [V.ref r, V.int (((ds.map encR).length : Nat) : Int)]
            rw [lm, lyd]
          · rw [← er]; exact wr_L t' (-1)
          have clay : PyData.canLay0 (.list (ds.map encR)) = true := by simp only [PyData.canLay0]; exact (nsok_ros rok).1
          refine ⟨_, rfl, .list (ds.map encR), .list (ds.map encR), .lst hy9 (rep9.same (th_same _)), rep_ros (v4 _ _ hDG) (rdG.kt (KT.same v4)), ros_shaped rok, ros_shaped rok, _, rfl, ?_⟩
          rw [SeqAt.eqv_refl _ clay]
          refine iteF ?_
          refine ⟨_, rfl, r, _, _, _, rfl, rfl, SqT.of (v4 _ _ hr2), atI_nat (j := 0) rfl, _, rfl, rfl, _, rfl, iteNS (by show V.int ((100 + c3 % (10 ^ (30 : Int).toNat + 1)) + 0) = V.int (100 + c3 % (10 ^ (30 : Int).toNat + 1)); rw [Int.add_zero]) ?_⟩
          exact ⟨_, _, _, rfl, sG.trans (v13.trans v4)⟩
        · exfalso
          rcases hx with hx | ⟨path, sz, wd, out, bd, hp, e⟩
          · rw [joinR_none (N := N) (a := -1) hx] at hs; cases hs
          · rw [ok.joinR (N := N) (w := (100 + c3 % (10 ^ (30 : Int).toNat + 1))) hp, e] at hs; cases hs
      · rintro σ G ⟨o5, o6, o7, rfl, sG⟩
        exact k _
end
end My

set_option Elab.async false
set_option linter.all false
set_option maxRecDepth 100000
set_option maxHeartbeats 4000000
/-! The head lays a twin of each constant that it meets, and of the largest ones its equation is quadratic in the constants within (some 30 MB). A constant that bears the twin's name already keeps it from laying that one. -/
def PySem.W.Fast.tw2084740893702895610 : Unit := ()
def PySem.W.Fast.tw5996974632738134072 : Unit := ()
def PySem.W.Fast.tw15054561839329106911 : Unit := ()
def PySem.W.Fast.tw16463330417870904660 : Unit := ()
def PySem.W.Fast.tw15180146664607043965 : Unit := ()
def PySem.W.Fast.tw10812350076937211096 : Unit := ()
def PySem.W.Fast.tw5227036380483048493 : Unit := ()
def PySem.W.Fast.tw18432750811556413135 : Unit := ()
def PySem.W.Fast.tw13715236247869871424 : Unit := ()
def PySem.W.Fast.tw6769245905729721789 : Unit := ()
def PySem.W.Fast.tw9390005387366045280 : Unit := ()
def PySem.W.Fast.tw15342370079389619847 : Unit := ()
def PySem.W.Fast.tw2766773641407833792 : Unit := ()
def PySem.W.Fast.tw4718665230815415075 : Unit := ()
def PySem.W.Fast.tw13049343488740436261 : Unit := ()
def PySem.W.Fast.tw13769317436746206241 : Unit := ()
def PySem.W.Fast.tw12735297929217865443 : Unit := ()
def PySem.W.Fast.tw17179430192125296274 : Unit := ()
def PySem.W.Fast.tw13042286457623427850 : Unit := ()
def PySem.W.Fast.tw1076807297246965296 : Unit := ()
namespace My
open PySem L2
theorem all_mk {l : PySem.W.OpenLaw} {w : World} {K : PySem.W.Frag} {h : Heap} {mg : Str → Option Value} {fa : Addr} (X : K.In h) (G : h.Ns mainGlobals mg) (hfa : mg "law" = some (.ref fa))
    {C_LoomError C_NoText C_NoMove C_Clash : Addr}
    (aC_LoomError : PySem.W.nsIn K mainGlobals "LoomError" = some (some (.ref C_LoomError)))
    (aC_NoText : PySem.W.nsIn K mainGlobals "NoText" = some (some (.ref C_NoText)))
    (aC_NoMove : PySem.W.nsIn K mainGlobals "NoMove" = some (some (.ref C_NoMove)))
    (aC_Clash : PySem.W.nsIn K mainGlobals "Clash" = some (some (.ref C_Clash)))
    {f0 : Addr} {od0 an0 : Option Addr} {sl0 : Array (Option Value)} {oc0 kV0 dc0 pm0 cd0 ct0 : Value}
    (a0 : PySem.W.findIn K (.ref C_NoMove) "__init__" = some (some (.ref f0)))
    (l0 : K.lookup f0 = some ⟨oc0, od0, .func (PySem.W.fnOf "__init__" "NoMove.__init__" (defArgs s_NoMove_init) (defBody s_NoMove_init) (defScope s_NoMove_init) .none kV0 dc0 pm0 an0 cd0 ct0), sl0⟩)
    (c0 : PySem.W.codeIn K cd0 "NoMove.__init__" = true)
    (k0 : PySem.W.keepIn K (.ref f0) = true)
    (i0 : PySem.W.isFn K (.ref f0) = true)
    {f1 : Addr} {od1 an1 : Option Addr} {sl1 : Array (Option Value)} {oc1 kV1 dc1 pm1 cd1 ct1 : Value}
    (a1 : PySem.W.findIn K (.ref C_Clash) "__init__" = some (some (.ref f1)))
    (l1 : K.lookup f1 = some ⟨oc1, od1, .func (PySem.W.fnOf "__init__" "Clash.__init__" (defArgs s_Clash_init) (defBody s_Clash_init) (defScope s_Clash_init) .none kV1 dc1 pm1 an1 cd1 ct1), sl1⟩)
    (c1 : PySem.W.codeIn K cd1 "Clash.__init__" = true)
    (k1 : PySem.W.keepIn K (.ref f1) = true)
    (i1 : PySem.W.isFn K (.ref f1) = true)
    {f2 : Addr} {od2 an2 : Option Addr} {sl2 : Array (Option Value)} {oc2 kV2 dc2 pm2 cd2 ct2 : Value}
    (a2 : PySem.W.nsIn K mainGlobals "is_loop" = some (some (.ref f2)))
    (l2 : K.lookup f2 = some ⟨oc2, od2, .func (PySem.W.fnOf "is_loop" "is_loop" (defArgs s_is_loop) (defBody s_is_loop) (defScope s_is_loop) .none kV2 dc2 pm2 an2 cd2 ct2), sl2⟩)
    (c2 : PySem.W.codeIn K cd2 "is_loop" = true)
    (k2 : PySem.W.keepIn K (.ref f2) = true)
    {f3 : Addr} {od3 an3 : Option Addr} {sl3 : Array (Option Value)} {oc3 kV3 dc3 pm3 cd3 ct3 : Value}
    (a3 : PySem.W.nsIn K mainGlobals "body_of" = some (some (.ref f3)))
    (l3 : K.lookup f3 = some ⟨oc3, od3, .func (PySem.W.fnOf "body_of" "body_of" (defArgs s_body_of) (defBody s_body_of) (defScope s_body_of) .none kV3 dc3 pm3 an3 cd3 ct3), sl3⟩)
    (c3 : PySem.W.codeIn K cd3 "body_of" = true)
    (k3 : PySem.W.keepIn K (.ref f3) = true)
    {f4 : Addr} {od4 an4 : Option Addr} {sl4 : Array (Option Value)} {oc4 kV4 dc4 pm4 cd4 ct4 : Value}
    (a4 : PySem.W.nsIn K mainGlobals "with_body" = some (some (.ref f4)))
    (l4 : K.lookup f4 = some ⟨oc4, od4, .func (PySem.W.fnOf "with_body" "with_body" (defArgs s_with_body) (defBody s_with_body) (defScope s_with_body) .none kV4 dc4 pm4 an4 cd4 ct4), sl4⟩)
    (c4 : PySem.W.codeIn K cd4 "with_body" = true)
    (k4 : PySem.W.keepIn K (.ref f4) = true)
    {f5 : Addr} {od5 an5 : Option Addr} {sl5 : Array (Option Value)} {oc5 kV5 dc5 pm5 cd5 ct5 : Value}
    (a5 : PySem.W.nsIn K mainGlobals "moved" = some (some (.ref f5)))
    (l5 : K.lookup f5 = some ⟨oc5, od5, .func (PySem.W.fnOf "moved" "moved" (defArgs s_moved) (defBody s_moved) (defScope s_moved) .none kV5 dc5 pm5 an5 cd5 ct5), sl5⟩)
    (c5 : PySem.W.codeIn K cd5 "moved" = true)
    (k5 : PySem.W.keepIn K (.ref f5) = true)
    {f6 : Addr} {od6 an6 : Option Addr} {sl6 : Array (Option Value)} {oc6 kV6 dc6 pm6 cd6 ct6 : Value}
    (a6 : PySem.W.nsIn K mainGlobals "path_to" = some (some (.ref f6)))
    (l6 : K.lookup f6 = some ⟨oc6, od6, .func (PySem.W.fnOf "path_to" "path_to" (defArgs s_path_to) (defBody s_path_to) (defScope s_path_to) .none kV6 dc6 pm6 an6 cd6 ct6), sl6⟩)
    (c6 : PySem.W.codeIn K cd6 "path_to" = true)
    (k6 : PySem.W.keepIn K (.ref f6) = true)
    {f7 : Addr} {od7 an7 : Option Addr} {sl7 : Array (Option Value)} {oc7 kV7 dc7 pm7 cd7 ct7 : Value}
    (a7 : PySem.W.nsIn K mainGlobals "moved_along" = some (some (.ref f7)))
    (l7 : K.lookup f7 = some ⟨oc7, od7, .func (PySem.W.fnOf "moved_along" "moved_along" (defArgs s_moved_along) (defBody s_moved_along) (defScope s_moved_along) .none kV7 dc7 pm7 an7 cd7 ct7), sl7⟩)
    (c7 : PySem.W.codeIn K cd7 "moved_along" = true)
    (k7 : PySem.W.keepIn K (.ref f7) = true)
    {f8 : Addr} {od8 an8 : Option Addr} {sl8 : Array (Option Value)} {oc8 kV8 dc8 pm8 cd8 ct8 : Value}
    (a8 : PySem.W.nsIn K mainGlobals "moved_at" = some (some (.ref f8)))
    (l8 : K.lookup f8 = some ⟨oc8, od8, .func (PySem.W.fnOf "moved_at" "moved_at" (defArgs s_moved_at) (defBody s_moved_at) (defScope s_moved_at) .none kV8 dc8 pm8 an8 cd8 ct8), sl8⟩)
    (c8 : PySem.W.codeIn K cd8 "moved_at" = true)
    (k8 : PySem.W.keepIn K (.ref f8) = true)
    {f9 : Addr} {od9 an9 : Option Addr} {sl9 : Array (Option Value)} {oc9 kV9 dc9 pm9 cd9 ct9 : Value}
    (a9 : PySem.W.nsIn K mainGlobals "swapped" = some (some (.ref f9)))
    (l9 : K.lookup f9 = some ⟨oc9, od9, .func (PySem.W.fnOf "swapped" "swapped" (defArgs s_swapped) (defBody s_swapped) (defScope s_swapped) .none kV9 dc9 pm9 an9 cd9 ct9), sl9⟩)
    (c9 : PySem.W.codeIn K cd9 "swapped" = true)
    (k9 : PySem.W.keepIn K (.ref f9) = true)
    {f10 : Addr} {od10 an10 : Option Addr} {sl10 : Array (Option Value)} {oc10 kV10 dc10 pm10 cd10 ct10 : Value}
    (a10 : PySem.W.nsIn K mainGlobals "cut_by" = some (some (.ref f10)))
    (l10 : K.lookup f10 = some ⟨oc10, od10, .func (PySem.W.fnOf "cut_by" "cut_by" (defArgs s_cut_by) (defBody s_cut_by) (defScope s_cut_by) .none kV10 dc10 pm10 an10 cd10 ct10), sl10⟩)
    (c10 : PySem.W.codeIn K cd10 "cut_by" = true)
    (k10 : PySem.W.keepIn K (.ref f10) = true)
    {f11 : Addr} {od11 an11 : Option Addr} {sl11 : Array (Option Value)} {oc11 kV11 dc11 pm11 cd11 ct11 : Value}
    (a11 : PySem.W.nsIn K mainGlobals "joined_with" = some (some (.ref f11)))
    (l11 : K.lookup f11 = some ⟨oc11, od11, .func (PySem.W.fnOf "joined_with" "joined_with" (defArgs s_joined_with) (defBody s_joined_with) (defScope s_joined_with) .none kV11 dc11 pm11 an11 cd11 ct11), sl11⟩)
    (c11 : PySem.W.codeIn K cd11 "joined_with" = true)
    (k11 : PySem.W.keepIn K (.ref f11) = true)
    {f12 : Addr} {od12 an12 : Option Addr} {sl12 : Array (Option Value)} {oc12 kV12 dc12 pm12 cd12 ct12 : Value}
    (a12 : PySem.W.nsIn K mainGlobals "renumbered" = some (some (.ref f12)))
    (l12 : K.lookup f12 = some ⟨oc12, od12, .func (PySem.W.fnOf "renumbered" "renumbered" (defArgs s_renumbered) (defBody s_renumbered) (defScope s_renumbered) .none kV12 dc12 pm12 an12 cd12 ct12), sl12⟩)
    (c12 : PySem.W.codeIn K cd12 "renumbered" = true)
    (k12 : PySem.W.keepIn K (.ref f12) = true)
    {f13 : Addr} {od13 an13 : Option Addr} {sl13 : Array (Option Value)} {oc13 kV13 dc13 pm13 cd13 ct13 : Value}
    (a13 : PySem.W.nsIn K mainGlobals "renumbered_node" = some (some (.ref f13)))
    (l13 : K.lookup f13 = some ⟨oc13, od13, .func (PySem.W.fnOf "renumbered_node" "renumbered_node" (defArgs s_renumbered_node) (defBody s_renumbered_node) (defScope s_renumbered_node) .none kV13 dc13 pm13 an13 cd13 ct13), sl13⟩)
    (c13 : PySem.W.codeIn K cd13 "renumbered_node" = true)
    (k13 : PySem.W.keepIn K (.ref f13) = true)
    {f14 : Addr} {od14 an14 : Option Addr} {sl14 : Array (Option Value)} {oc14 kV14 dc14 pm14 cd14 ct14 : Value}
    (a14 : PySem.W.nsIn K mainGlobals "instead_in" = some (some (.ref f14)))
    (l14 : K.lookup f14 = some ⟨oc14, od14, .func (PySem.W.fnOf "instead_in" "instead_in" (defArgs s_instead_in) (defBody s_instead_in) (defScope s_instead_in) .none kV14 dc14 pm14 an14 cd14 ct14), sl14⟩)
    (c14 : PySem.W.codeIn K cd14 "instead_in" = true)
    (k14 : PySem.W.keepIn K (.ref f14) = true)
    {f15 : Addr} {od15 an15 : Option Addr} {sl15 : Array (Option Value)} {oc15 kV15 dc15 pm15 cd15 ct15 : Value}
    (a15 : PySem.W.nsIn K mainGlobals "instead" = some (some (.ref f15)))
    (l15 : K.lookup f15 = some ⟨oc15, od15, .func (PySem.W.fnOf "instead" "instead" (defArgs s_instead) (defBody s_instead) (defScope s_instead) .none kV15 dc15 pm15 an15 cd15 ct15), sl15⟩)
    (c15 : PySem.W.codeIn K cd15 "instead" = true)
    (k15 : PySem.W.keepIn K (.ref f15) = true)
    {f16 : Addr} {od16 an16 : Option Addr} {sl16 : Array (Option Value)} {oc16 kV16 dc16 pm16 cd16 ct16 : Value}
    (a16 : PySem.W.nsIn K mainGlobals "_law_cell_at" = some (some (.ref f16)))
    (l16 : K.lookup f16 = some ⟨oc16, od16, .func (PySem.W.fnOf "_law_cell_at" "_law_cell_at" (defArgs s_l_cell_at) (defBody s_l_cell_at) (defScope s_l_cell_at) .none kV16 dc16 pm16 an16 cd16 ct16), sl16⟩)
    (c16 : PySem.W.codeIn K cd16 "_law_cell_at" = true)
    (k16 : PySem.W.keepIn K (.ref f16) = true)
    {f17 : Addr} {od17 an17 : Option Addr} {sl17 : Array (Option Value)} {oc17 kV17 dc17 pm17 cd17 ct17 : Value}
    (a17 : PySem.W.nsIn K mainGlobals "_law_whole" = some (some (.ref f17)))
    (l17 : K.lookup f17 = some ⟨oc17, od17, .func (PySem.W.fnOf "_law_whole" "_law_whole" (defArgs s_l_whole) (defBody s_l_whole) (defScope s_l_whole) .none kV17 dc17 pm17 an17 cd17 ct17), sl17⟩)
    (c17 : PySem.W.codeIn K cd17 "_law_whole" = true)
    (k17 : PySem.W.keepIn K (.ref f17) = true)
    {f18 : Addr} {od18 an18 : Option Addr} {sl18 : Array (Option Value)} {oc18 kV18 dc18 pm18 cd18 ct18 : Value}
    (a18 : PySem.W.nsIn K mainGlobals "_law_head_by" = some (some (.ref f18)))
    (l18 : K.lookup f18 = some ⟨oc18, od18, .func (PySem.W.fnOf "_law_head_by" "_law_head_by" (defArgs s_l_head_by) (defBody s_l_head_by) (defScope s_l_head_by) .none kV18 dc18 pm18 an18 cd18 ct18), sl18⟩)
    (c18 : PySem.W.codeIn K cd18 "_law_head_by" = true)
    (k18 : PySem.W.keepIn K (.ref f18) = true)
    {f19 : Addr} {od19 an19 : Option Addr} {sl19 : Array (Option Value)} {oc19 kV19 dc19 pm19 cd19 ct19 : Value}
    (a19 : PySem.W.nsIn K mainGlobals "_law_deed_by" = some (some (.ref f19)))
    (l19 : K.lookup f19 = some ⟨oc19, od19, .func (PySem.W.fnOf "_law_deed_by" "_law_deed_by" (defArgs s_l_deed_by) (defBody s_l_deed_by) (defScope s_l_deed_by) .none kV19 dc19 pm19 an19 cd19 ct19), sl19⟩)
    (c19 : PySem.W.codeIn K cd19 "_law_deed_by" = true)
    (k19 : PySem.W.keepIn K (.ref f19) = true)
    {f20 : Addr} {od20 an20 : Option Addr} {sl20 : Array (Option Value)} {oc20 kV20 dc20 pm20 cd20 ct20 : Value}
    (a20 : PySem.W.nsIn K mainGlobals "_law_room" = some (some (.ref f20)))
    (l20 : K.lookup f20 = some ⟨oc20, od20, .func (PySem.W.fnOf "_law_room" "_law_room" (defArgs s_l_room) (defBody s_l_room) (defScope s_l_room) .none kV20 dc20 pm20 an20 cd20 ct20), sl20⟩)
    (c20 : PySem.W.codeIn K cd20 "_law_room" = true)
    (k20 : PySem.W.keepIn K (.ref f20) = true)
    {f21 : Addr} {od21 an21 : Option Addr} {sl21 : Array (Option Value)} {oc21 kV21 dc21 pm21 cd21 ct21 : Value}
    (a21 : PySem.W.nsIn K mainGlobals "_law_rows_by" = some (some (.ref f21)))
    (l21 : K.lookup f21 = some ⟨oc21, od21, .func (PySem.W.fnOf "_law_rows_by" "_law_rows_by" (defArgs s_l_rows_by) (defBody s_l_rows_by) (defScope s_l_rows_by) .none kV21 dc21 pm21 an21 cd21 ct21), sl21⟩)
    (c21 : PySem.W.codeIn K cd21 "_law_rows_by" = true)
    (k21 : PySem.W.keepIn K (.ref f21) = true)
    {f22 : Addr} {od22 an22 : Option Addr} {sl22 : Array (Option Value)} {oc22 kV22 dc22 pm22 cd22 ct22 : Value}
    (a22 : PySem.W.nsIn K mainGlobals "_law_nest" = some (some (.ref f22)))
    (l22 : K.lookup f22 = some ⟨oc22, od22, .func (PySem.W.fnOf "_law_nest" "_law_nest" (defArgs s_l_nest) (defBody s_l_nest) (defScope s_l_nest) .none kV22 dc22 pm22 an22 cd22 ct22), sl22⟩)
    (c22 : PySem.W.codeIn K cd22 "_law_nest" = true)
    (k22 : PySem.W.keepIn K (.ref f22) = true)
    {f23 : Addr} {od23 an23 : Option Addr} {sl23 : Array (Option Value)} {oc23 kV23 dc23 pm23 cd23 ct23 : Value}
    (a23 : PySem.W.nsIn K mainGlobals "_law_wholes" = some (some (.ref f23)))
    (l23 : K.lookup f23 = some ⟨oc23, od23, .func (PySem.W.fnOf "_law_wholes" "_law_wholes" (defArgs s_l_wholes) (defBody s_l_wholes) (defScope s_l_wholes) .none kV23 dc23 pm23 an23 cd23 ct23), sl23⟩)
    (c23 : PySem.W.codeIn K cd23 "_law_wholes" = true)
    (k23 : PySem.W.keepIn K (.ref f23) = true)
    {f24 : Addr} {od24 an24 : Option Addr} {sl24 : Array (Option Value)} {oc24 kV24 dc24 pm24 cd24 ct24 : Value}
    (a24 : PySem.W.nsIn K mainGlobals "_law_is_node" = some (some (.ref f24)))
    (l24 : K.lookup f24 = some ⟨oc24, od24, .func (PySem.W.fnOf "_law_is_node" "_law_is_node" (defArgs s_l_is_node) (defBody s_l_is_node) (defScope s_l_is_node) .none kV24 dc24 pm24 an24 cd24 ct24), sl24⟩)
    (c24 : PySem.W.codeIn K cd24 "_law_is_node" = true)
    (k24 : PySem.W.keepIn K (.ref f24) = true)
    {f25 : Addr} {od25 an25 : Option Addr} {sl25 : Array (Option Value)} {oc25 kV25 dc25 pm25 cd25 ct25 : Value}
    (a25 : PySem.W.nsIn K mainGlobals "_law_written" = some (some (.ref f25)))
    (l25 : K.lookup f25 = some ⟨oc25, od25, .func (PySem.W.fnOf "_law_written" "_law_written" (defArgs s_l_written) (defBody s_l_written) (defScope s_l_written) .none kV25 dc25 pm25 an25 cd25 ct25), sl25⟩)
    (c25 : PySem.W.codeIn K cd25 "_law_written" = true)
    (k25 : PySem.W.keepIn K (.ref f25) = true)
    {f26 : Addr} {od26 an26 : Option Addr} {sl26 : Array (Option Value)} {oc26 kV26 dc26 pm26 cd26 ct26 : Value}
    (a26 : PySem.W.nsIn K mainGlobals "_law_loop_at" = some (some (.ref f26)))
    (l26 : K.lookup f26 = some ⟨oc26, od26, .func (PySem.W.fnOf "_law_loop_at" "_law_loop_at" (defArgs s_l_loop_at) (defBody s_l_loop_at) (defScope s_l_loop_at) .none kV26 dc26 pm26 an26 cd26 ct26), sl26⟩)
    (c26 : PySem.W.codeIn K cd26 "_law_loop_at" = true)
    (k26 : PySem.W.keepIn K (.ref f26) = true)
    {f27 : Addr} {od27 an27 : Option Addr} {sl27 : Array (Option Value)} {oc27 kV27 dc27 pm27 cd27 ct27 : Value}
    (a27 : PySem.W.nsIn K mainGlobals "_law_refused" = some (some (.ref f27)))
    (l27 : K.lookup f27 = some ⟨oc27, od27, .func (PySem.W.fnOf "_law_refused" "_law_refused" (defArgs s_l_refused) (defBody s_l_refused) (defScope s_l_refused) .none kV27 dc27 pm27 an27 cd27 ct27), sl27⟩)
    (c27 : PySem.W.codeIn K cd27 "_law_refused" = true)
    (k27 : PySem.W.keepIn K (.ref f27) = true)
    {f28 : Addr} {od28 an28 : Option Addr} {sl28 : Array (Option Value)} {oc28 kV28 dc28 pm28 cd28 ct28 : Value}
    (a28 : PySem.W.nsIn K mainGlobals "_law_refused_by_any" = some (some (.ref f28)))
    (l28 : K.lookup f28 = some ⟨oc28, od28, .func (PySem.W.fnOf "_law_refused_by_any" "_law_refused_by_any" (defArgs s_l_refused_by_any) (defBody s_l_refused_by_any) (defScope s_l_refused_by_any) .none kV28 dc28 pm28 an28 cd28 ct28), sl28⟩)
    (c28 : PySem.W.codeIn K cd28 "_law_refused_by_any" = true)
    (k28 : PySem.W.keepIn K (.ref f28) = true)
    {f29 : Addr} {od29 an29 : Option Addr} {sl29 : Array (Option Value)} {oc29 kV29 dc29 pm29 cd29 ct29 : Value}
    (a29 : PySem.W.nsIn K mainGlobals "_law_named" = some (some (.ref f29)))
    (l29 : K.lookup f29 = some ⟨oc29, od29, .func (PySem.W.fnOf "_law_named" "_law_named" (defArgs s_l_named) (defBody s_l_named) (defScope s_l_named) .none kV29 dc29 pm29 an29 cd29 ct29), sl29⟩)
    (c29 : PySem.W.codeIn K cd29 "_law_named" = true)
    (k29 : PySem.W.keepIn K (.ref f29) = true)
    {f30 : Addr} {od30 an30 : Option Addr} {sl30 : Array (Option Value)} {oc30 kV30 dc30 pm30 cd30 ct30 : Value}
    (a30 : PySem.W.nsIn K mainGlobals "_law_behind" = some (some (.ref f30)))
    (l30 : K.lookup f30 = some ⟨oc30, od30, .func (PySem.W.fnOf "_law_behind" "_law_behind" (defArgs s_l_behind) (defBody s_l_behind) (defScope s_l_behind) .none kV30 dc30 pm30 an30 cd30 ct30), sl30⟩)
    (c30 : PySem.W.codeIn K cd30 "_law_behind" = true)
    (k30 : PySem.W.keepIn K (.ref f30) = true)
    {f31 : Addr} {od31 an31 : Option Addr} {sl31 : Array (Option Value)} {oc31 kV31 dc31 pm31 cd31 ct31 : Value}
    (a31 : PySem.W.nsIn K mainGlobals "_law_joined" = some (some (.ref f31)))
    (l31 : K.lookup f31 = some ⟨oc31, od31, .func (PySem.W.fnOf "_law_joined" "_law_joined" (defArgs s_l_joined) (defBody s_l_joined) (defScope s_l_joined) .none kV31 dc31 pm31 an31 cd31 ct31), sl31⟩)
    (c31 : PySem.W.codeIn K cd31 "_law_joined" = true)
    (k31 : PySem.W.keepIn K (.ref f31) = true)
    {f32 : Addr} {od32 an32 : Option Addr} {sl32 : Array (Option Value)} {oc32 kV32 dc32 pm32 cd32 ct32 : Value}
    (a32 : PySem.W.nsIn K mainGlobals "_law_beside" = some (some (.ref f32)))
    (l32 : K.lookup f32 = some ⟨oc32, od32, .func (PySem.W.fnOf "_law_beside" "_law_beside" (defArgs s_l_beside) (defBody s_l_beside) (defScope s_l_beside) .none kV32 dc32 pm32 an32 cd32 ct32), sl32⟩)
    (c32 : PySem.W.codeIn K cd32 "_law_beside" = true)
    (k32 : PySem.W.keepIn K (.ref f32) = true)
    {f33 : Addr} {od33 an33 : Option Addr} {sl33 : Array (Option Value)} {oc33 kV33 dc33 pm33 cd33 ct33 : Value}
    (a33 : PySem.W.nsIn K mainGlobals "_law_number_by" = some (some (.ref f33)))
    (l33 : K.lookup f33 = some ⟨oc33, od33, .func (PySem.W.fnOf "_law_number_by" "_law_number_by" (defArgs s_l_number_by) (defBody s_l_number_by) (defScope s_l_number_by) .none kV33 dc33 pm33 an33 cd33 ct33), sl33⟩)
    (c33 : PySem.W.codeIn K cd33 "_law_number_by" = true)
    (k33 : PySem.W.keepIn K (.ref f33) = true)
    {f34 : Addr} {od34 an34 : Option Addr} {sl34 : Array (Option Value)} {oc34 kV34 dc34 pm34 cd34 ct34 : Value}
    (a34 : PySem.W.nsIn K mainGlobals "law" = some (some (.ref f34)))
    (l34 : K.lookup f34 = some ⟨oc34, od34, .func (PySem.W.fnOf "law" "law" (defArgs s_law) (defBody s_law) (defScope s_law) .none kV34 dc34 pm34 an34 cd34 ct34), sl34⟩)
    (c34 : PySem.W.codeIn K cd34 "law" = true)
    (k34 : PySem.W.keepIn K (.ref f34) = true)
    {pt_NO_OUTER : Tok}
    (aP_NO_OUTER : PySem.W.nsIn K mainGlobals "NO_OUTER" = some (some (.int (-1) pt_NO_OUTER)))
    (xe_NoMove : PySem.W.excInI K C_NoMove f0 [.type "ValueError", .type "Exception", .type "BaseException", .type "object"] "ValueError.__new__" = true)
    (kc_NoMove : PySem.W.keepIn K (.ref C_NoMove) = true)
    (sx_NoMove : PySem.W.findIn K (.ref C_NoMove) "__setattr__" = some (some (.builtin "object.__setattr__")))
    (xo_NoMove : PySem.W.excOver K C_NoMove = true)
    (xh_NoMove : (PySem.W.clsIn K C_NoMove).any (·.hasDict) = true)
    (na_NoMove_place : PySem.W.findIn K (.ref C_NoMove) "place" = some none)
    (xm_NoMove_ValueError : PySem.W.mroIn K C_NoMove (.type "ValueError") = some true)
    (x1_NoMove : PySem.W.findIn K (.ref C_NoMove) "__getattribute__" = some (some (.builtin "BaseException.__getattribute__")))
    (x2_NoMove : PySem.W.findIn K (.ref C_NoMove) "__getattr__" = some none)
    (x3_NoMove : PySem.W.mroIn K C_NoMove (.type "BaseException") = some true)
    (x4_NoMove : PySem.W.mroIn K C_NoMove (.type "object") = some true)
    (x5_NoMove : PySem.W.findIn K (.ref C_NoMove) "__class__" = some (some (.builtin "object.__class__")))
    (x6_NoMove : PySem.W.specialIn K (.builtin "object.__class__") "__get__" = some (some (.builtin "getset_descriptor.__get__")))
    (x7_NoMove : PySem.W.takesIn K (.builtin "object.__class__") = some true)
    (cs_Clash : PySem.W.isClsIn K C_Clash = true)
    (ct_Clash : PySem.W.typeIn K (.ref C_Clash) = some (.type "type"))
    (mr_NoMove_Clash : PySem.W.mroIn K C_NoMove (.ref C_Clash) = some false)
    (ne_NoMove_Clash : (Value.ref C_NoMove == Value.ref C_Clash) = false)
    (cs_NoText : PySem.W.isClsIn K C_NoText = true)
    (ct_NoText : PySem.W.typeIn K (.ref C_NoText) = some (.type "type"))
    (mr_NoMove_NoText : PySem.W.mroIn K C_NoMove (.ref C_NoText) = some false)
    (ne_NoMove_NoText : (Value.ref C_NoMove == Value.ref C_NoText) = false)
    (cs_NoMove : PySem.W.isClsIn K C_NoMove = true)
    (ct_NoMove : PySem.W.typeIn K (.ref C_NoMove) = some (.type "type"))
    (mr_NoMove_NoMove : PySem.W.mroIn K C_NoMove (.ref C_NoMove) = some true)
    (eb_NoMove : PySem.W.mroIn K C_NoMove (.type "BaseException") = some true)
    (cs_LoomError : PySem.W.isClsIn K C_LoomError = true)
    (ct_LoomError : PySem.W.typeIn K (.ref C_LoomError) = some (.type "type"))
    (mr_NoMove_LoomError : PySem.W.mroIn K C_NoMove (.ref C_LoomError) = some true)
    (eb_LoomError : PySem.W.mroIn K C_LoomError (.type "BaseException") = some true)
    (z_enumerate : PySem.W.nsIn K mainGlobals "enumerate" = some none)
    (z_len : PySem.W.nsIn K mainGlobals "len" = some none)
    (z_tuple : PySem.W.nsIn K mainGlobals "tuple" = some none)
    (z_isinstance : PySem.W.nsIn K mainGlobals "isinstance" = some none)
    (z_bool : PySem.W.nsIn K mainGlobals "bool" = some none)
    (z_int : PySem.W.nsIn K mainGlobals "int" = some none)
    (z_min : PySem.W.nsIn K mainGlobals "min" = some none)
    (z_range : PySem.W.nsIn K mainGlobals "range" = some none)
    (z_max : PySem.W.nsIn K mainGlobals "max" = some none)
    (z_reversed : PySem.W.nsIn K mainGlobals "reversed" = some none)
    (z_str : PySem.W.nsIn K mainGlobals "str" = some none)
    (z_ValueError : PySem.W.nsIn K mainGlobals "ValueError" = some none)
    : ∃ fd : FuncData, (∀ (s : Shared) (v : Value), BindsTo s fd ⟨[v], []⟩ [("_law_script", v)]) ∧ ∀ base : Heap, K.In base → base.Ns mainGlobals mg → FnOk l.prog w K mg base CX0 133 fa fd ["_law_script"] (spLaw K) := by
  have e := hfa.symm.trans (PySem.W.mg_of X G a34)
  cases e
  have F0 := fun_mk (st := s_NoMove_init) l0 c0 k0
  have b0 := F0.binds (ps := ["self", "place"]) fun _ _ _ _ _ _ us hl => match us, hl with | [_, _], _ => rfl
  have F1 := fun_mk (st := s_Clash_init) l1 c1 k1
  have b1 := F1.binds (ps := ["self", "first", "second", "array", "cell"]) fun _ _ _ _ _ _ us hl => match us, hl with | [_, _, _, _, _], _ => rfl
  have F2 := fun_mk (st := s_is_loop) l2 c2 k2
  have b2 := F2.binds (ps := ["node"]) fun _ _ _ _ _ _ us hl => match us, hl with | [_], _ => rfl
  have F3 := fun_mk (st := s_body_of) l3 c3 k3
  have b3 := F3.binds (ps := ["loop"]) fun _ _ _ _ _ _ us hl => match us, hl with | [_], _ => rfl
  have F4 := fun_mk (st := s_with_body) l4 c4 k4
  have b4 := F4.binds (ps := ["loop", "body"]) fun _ _ _ _ _ _ us hl => match us, hl with | [_, _], _ => rfl
  have F5 := fun_mk (st := s_moved) l5 c5 k5
  have b5 := F5.binds (ps := ["nest", "move"]) fun _ _ _ _ _ _ us hl => match us, hl with | [_, _], _ => rfl
  have F6 := fun_mk (st := s_path_to) l6 c6 k6
  have b6 := F6.binds (ps := ["number", "body"]) fun _ _ _ _ _ _ us hl => match us, hl with | [_, _], _ => rfl
  have F7 := fun_mk (st := s_moved_along) l7 c7 k7
  have b7 := F7.binds (ps := ["path", "body", "move", "fresh"]) fun _ _ _ _ _ _ us hl => match us, hl with | [_, _, _, _], _ => rfl
  have F8 := fun_mk (st := s_moved_at) l8 c8 k8
  have b8 := F8.binds (ps := ["place", "body", "move", "fresh"]) fun _ _ _ _ _ _ us hl => match us, hl with | [_, _, _, _], _ => rfl
  have F9 := fun_mk (st := s_swapped) l9 c9 k9
  have b9 := F9.binds (ps := ["loop"]) fun _ _ _ _ _ _ us hl => match us, hl with | [_], _ => rfl
  have F10 := fun_mk (st := s_cut_by) l10 c10 k10
  have b10 := F10.binds (ps := ["tile", "loop", "fresh"]) fun _ _ _ _ _ _ us hl => match us, hl with | [_, _, _], _ => rfl
  have F11 := fun_mk (st := s_joined_with) l11 c11 k11
  have b11 := F11.binds (ps := ["behind", "loop"]) fun _ _ _ _ _ _ us hl => match us, hl with | [_, _], _ => rfl
  have F12 := fun_mk (st := s_renumbered) l12 c12 k12
  have b12 := F12.binds (ps := ["body", "old", "new"]) fun _ _ _ _ _ _ us hl => match us, hl with | [_, _, _], _ => rfl
  have F13 := fun_mk (st := s_renumbered_node) l13 c13 k13
  have b13 := F13.binds (ps := ["node", "old", "new"]) fun _ _ _ _ _ _ us hl => match us, hl with | [_, _, _], _ => rfl
  have F14 := fun_mk (st := s_instead_in) l14 c14 k14
  have b14 := F14.binds (ps := ["numbers", "old", "new"]) fun _ _ _ _ _ _ us hl => match us, hl with | [_, _, _], _ => rfl
  have F15 := fun_mk (st := s_instead) l15 c15 k15
  have b15 := F15.binds (ps := ["number", "old", "new"]) fun _ _ _ _ _ _ us hl => match us, hl with | [_, _, _], _ => rfl
  have F16 := fun_mk (st := s_l_cell_at) l16 c16 k16
  have b16 := F16.binds (ps := ["_law_script", "_law_k"]) fun _ _ _ _ _ _ us hl => match us, hl with | [_, _], _ => rfl
  have F17 := fun_mk (st := s_l_whole) l17 c17 k17
  have b17 := F17.binds (ps := ["_law_found"]) fun _ _ _ _ _ _ us hl => match us, hl with | [_], _ => rfl
  have F18 := fun_mk (st := s_l_head_by) l18 c18 k18
  have b18 := F18.binds (ps := ["_law_cell", "_law_number", "_law_heads", "_law_room_here"]) fun _ _ _ _ _ _ us hl => match us, hl with | [_, _, _, _], _ => rfl
  have F19 := fun_mk (st := s_l_deed_by) l19 c19 k19
  have b19 := F19.binds (ps := ["_law_cell", "_law_number", "_law_heads"]) fun _ _ _ _ _ _ us hl => match us, hl with | [_, _, _], _ => rfl
  have F20 := fun_mk (st := s_l_room) l20 c20 k20
  have b20 := F20.binds (ps := ["_law_heads"]) fun _ _ _ _ _ _ us hl => match us, hl with | [_], _ => rfl
  have F21 := fun_mk (st := s_l_rows_by) l21 c21 k21
  have b21 := F21.binds (ps := ["_law_script", "_law_behind_here"]) fun _ _ _ _ _ _ us hl => match us, hl with | [_, _], _ => rfl
  have F22 := fun_mk (st := s_l_nest) l22 c22 k22
  have b22 := F22.binds (ps := ["_law_rows", "_law_behind_here"]) fun _ _ _ _ _ _ us hl => match us, hl with | [_, _], _ => rfl
  have F23 := fun_mk (st := s_l_wholes) l23 c23 k23
  have b23 := F23.binds (ps := ["_law_found"]) fun _ _ _ _ _ _ us hl => match us, hl with | [_], _ => rfl
  have F24 := fun_mk (st := s_l_is_node) l24 c24 k24
  have b24 := F24.binds (ps := ["_law_node"]) fun _ _ _ _ _ _ us hl => match us, hl with | [_], _ => rfl
  have F25 := fun_mk (st := s_l_written) l25 c25 k25
  have b25 := F25.binds (ps := ["_law_found", "_law_most"]) fun _ _ _ _ _ _ us hl => match us, hl with | [_, _], _ => rfl
  have F26 := fun_mk (st := s_l_loop_at) l26 c26 k26
  have b26 := F26.binds (ps := ["_law_rows", "_law_number"]) fun _ _ _ _ _ _ us hl => match us, hl with | [_, _], _ => rfl
  have F27 := fun_mk (st := s_l_refused) l27 c27 k27
  have b27 := F27.binds (ps := ["_law_nest_here", "_law_move"]) fun _ _ _ _ _ _ us hl => match us, hl with | [_, _], _ => rfl
  have F28 := fun_mk (st := s_l_refused_by_any) l28 c28 k28
  have b28 := F28.binds (ps := ["_law_nest_here", "_law_move"]) fun _ _ _ _ _ _ us hl => match us, hl with | [_, _], _ => rfl
  have F29 := fun_mk (st := s_l_named) l29 c29 k29
  have b29 := F29.binds (ps := ["_law_some", "_law_old", "_law_new"]) fun _ _ _ _ _ _ us hl => match us, hl with | [_, _, _], _ => rfl
  have F30 := fun_mk (st := s_l_behind) l30 c30 k30
  have b30 := F30.binds (ps := ["_law_rows", "_law_at"]) fun _ _ _ _ _ _ us hl => match us, hl with | [_, _], _ => rfl
  have F31 := fun_mk (st := s_l_joined) l31 c31 k31
  have b31 := F31.binds (ps := ["_law_rows", "_law_number"]) fun _ _ _ _ _ _ us hl => match us, hl with | [_, _], _ => rfl
  have F32 := fun_mk (st := s_l_beside) l32 c32 k32
  have b32 := F32.binds (ps := ["_law_rows", "_law_row"]) fun _ _ _ _ _ _ us hl => match us, hl with | [_, _], _ => rfl
  have F33 := fun_mk (st := s_l_number_by) l33 c33 k33
  have b33 := F33.binds (ps := ["_law_script", "_law_rows", "_law_behind_here"]) fun _ _ _ _ _ _ us hl => match us, hl with | [_, _, _], _ => rfl
  have F34 := fun_mk (st := s_law) l34 c34 k34
  have b34 := F34.binds (ps := ["_law_script"]) fun _ _ _ _ _ _ us hl => match us, hl with | [_], _ => rfl
  exact ⟨_, fun s v => .of_eq rfl, fun base _ _ => ok_law (t := ⟨C_LoomError, C_NoText, C_NoMove, C_Clash, f0, _, f1, _, f2, _, f3, _, f4, _, f5, _, f6, _, f7, _, f8, _, f9, _, f10, _, f11, _, f12, _, f13, _, f14, _, f15, _, f16, _, f17, _, f18, _, f19, _, f20, _, f21, _, f22, _, f23, _, f24, _, f25, _, f26, _, f27, _, f28, _, f29, _, f30, _, f31, _, f32, _, f33, _, fa, _⟩) ⟨F0, b0, F1, b1, F2, PySem.W.mg_of X G a2, b2, F3, PySem.W.mg_of X G a3, b3, F4, PySem.W.mg_of X G a4, b4, F5, PySem.W.mg_of X G a5, b5, F6, PySem.W.mg_of X G a6, b6, F7, PySem.W.mg_of X G a7, b7, F8, PySem.W.mg_of X G a8, b8, F9, PySem.W.mg_of X G a9, b9, F10, PySem.W.mg_of X G a10, b10, F11, PySem.W.mg_of X G a11, b11, F12, PySem.W.mg_of X G a12, b12, F13, PySem.W.mg_of X G a13, b13, F14, PySem.W.mg_of X G a14, b14, F15, PySem.W.mg_of X G a15, b15, F16, PySem.W.mg_of X G a16, b16, F17, PySem.W.mg_of X G a17, b17, F18, PySem.W.mg_of X G a18, b18, F19, PySem.W.mg_of X G a19, b19, F20, PySem.W.mg_of X G a20, b20, F21, PySem.W.mg_of X G a21, b21, F22, PySem.W.mg_of X G a22, b22, F23, PySem.W.mg_of X G a23, b23, F24, PySem.W.mg_of X G a24, b24, F25, PySem.W.mg_of X G a25, b25, F26, PySem.W.mg_of X G a26, b26, F27, PySem.W.mg_of X G a27, b27, F28, PySem.W.mg_of X G a28, b28, F29, PySem.W.mg_of X G a29, b29, F30, PySem.W.mg_of X G a30, b30, F31, PySem.W.mg_of X G a31, b31, F32, PySem.W.mg_of X G a32, b32, F33, PySem.W.mg_of X G a33, b33, F34, PySem.W.mg_of X G a34, b34, ⟨_, PySem.W.mg_of X G aP_NO_OUTER, ⟨_, rfl⟩⟩, PySem.W.mg_of X G aC_Clash, PySem.W.mg_of X G aC_LoomError, PySem.W.mg_of X G aC_NoMove, PySem.W.mg_of X G aC_NoText, ⟨xe_NoMove, kc_NoMove⟩, ⟨sx_NoMove, xo_NoMove, xh_NoMove, na_NoMove_place⟩, ⟨⟨x1_NoMove, x2_NoMove, x3_NoMove, x4_NoMove, x5_NoMove, x6_NoMove, x7_NoMove⟩, xh_NoMove, na_NoMove_place⟩, xm_NoMove_ValueError, ⟨x1_NoMove, x2_NoMove, x3_NoMove, x4_NoMove, x5_NoMove, x6_NoMove, x7_NoMove⟩, kit_false ne_NoMove_Clash cs_Clash ct_Clash mr_NoMove_Clash, kit_false ne_NoMove_NoText cs_NoText ct_NoText mr_NoMove_NoText, exm_of eb_NoMove cs_NoMove ct_NoMove mr_NoMove_NoMove, exm_of eb_LoomError cs_LoomError ct_LoomError mr_NoMove_LoomError, PySem.W.mg_none_of X G z_enumerate, PySem.W.mg_none_of X G z_len, PySem.W.mg_none_of X G z_tuple, PySem.W.mg_none_of X G z_isinstance, PySem.W.mg_none_of X G z_bool, PySem.W.mg_none_of X G z_int, PySem.W.mg_none_of X G z_min, PySem.W.mg_none_of X G z_range, PySem.W.mg_none_of X G z_max, PySem.W.mg_none_of X G z_reversed, PySem.W.mg_none_of X G z_str, PySem.W.mg_none_of X G z_ValueError⟩⟩
theorem walk {l : PySem.W.OpenLaw} {q : Program} {loose : List Str} {XP : (Str → Option Value) → Heap → Prop} {YP : World → Heap → Prop} {d : DefRec} {K : Params → PySem.W.Frag} (hn : l.most = some 63) (hdf : d.params.defaults = [])
    (hY : ∀ (w : World) (h : Heap), YP w h → (K w.params).In h)
    (F : ∀ (w : World) (mg : Str → Option Value) (fa : Addr) (h : Heap), (K w.params).In h → h.Ns mainGlobals mg → mg d.name = some (.ref fa) →
      ∃ fd : FuncData, (∀ (s : Shared) (u : Value), BindsTo s fd ⟨[u], []⟩ [("_law_script", u)]) ∧ ∀ base : Heap, (K w.params).In base → base.Ns mainGlobals mg → FnOk l.prog w (K w.params) mg base CX0 133 fa fd ["_law_script"] (spLaw (K w.params))) :
    PySem.W.WalkO q loose XP YP l.row.toRowW d [] (fun f vs => PySem.call f vs) :=
  L2.walk_of (n := 63) (k := 133) (x := "_law_script") (CX := fun _ => CX0) (sp := fun w => spLaw (K w.params)) hn (by decide) hdf ⟨rfl, by decide, by decide⟩ hY F (fun _ _ a ns hl _ hS => ⟨a, ns, rfl, hS, hl, fun _ => rfl⟩) fun _ _ _ _ _ z => z
end My
open PySem PySem.W PyProof.Rows
set_option maxRecDepth 100000 in
set_option maxHeartbeats 0 in
theorem PySem.Challenge.cw_arrayloom_k53_loops_joined_holds : PySem.Challenge.rw_arrayloom_k53_loops_joined.Holds := by
  w_on; o_law; k_head; (case hw => w_witness2)
  k_fill
  refine My.walk (l := PySem.Challenge.rw_arrayloom_k53_loops_joined) rfl rfl (fun w h Y => PySem.W.kIn_of Y) ?F
  case F =>
    intro w mg fa h KX G hmg
    refine' My.all_mk KX G hmg ?aC_LoomError ?aC_NoText ?aC_NoMove ?aC_Clash ?a0 ?l0 ?c0 ?k0 ?i0 ?a1 ?l1 ?c1 ?k1 ?i1 ?a2 ?l2 ?c2 ?k2 ?a3 ?l3 ?c3 ?k3 ?a4 ?l4 ?c4 ?k4 ?a5 ?l5 ?c5 ?k5 ?a6 ?l6 ?c6 ?k6 ?a7 ?l7 ?c7 ?k7 ?a8 ?l8 ?c8 ?k8 ?a9 ?l9 ?c9 ?k9 ?a10 ?l10 ?c10 ?k10 ?a11 ?l11 ?c11 ?k11 ?a12 ?l12 ?c12 ?k12 ?a13 ?l13 ?c13 ?k13 ?a14 ?l14 ?c14 ?k14 ?a15 ?l15 ?c15 ?k15 ?a16 ?l16 ?c16 ?k16 ?a17 ?l17 ?c17 ?k17 ?a18 ?l18 ?c18 ?k18 ?a19 ?l19 ?c19 ?k19 ?a20 ?l20 ?c20 ?k20 ?a21 ?l21 ?c21 ?k21 ?a22 ?l22 ?c22 ?k22 ?a23 ?l23 ?c23 ?k23 ?a24 ?l24 ?c24 ?k24 ?a25 ?l25 ?c25 ?k25 ?a26 ?l26 ?c26 ?k26 ?a27 ?l27 ?c27 ?k27 ?a28 ?l28 ?c28 ?k28 ?a29 ?l29 ?c29 ?k29 ?a30 ?l30 ?c30 ?k30 ?a31 ?l31 ?c31 ?k31 ?a32 ?l32 ?c32 ?k32 ?a33 ?l33 ?c33 ?k33 ?a34 ?l34 ?c34 ?k34 ?aP_NO_OUTER ?xe_NoMove ?kc_NoMove ?sx_NoMove ?xo_NoMove ?xh_NoMove ?na_NoMove_place ?xm_NoMove_ValueError ?x1_NoMove ?x2_NoMove ?x3_NoMove ?x4_NoMove ?x5_NoMove ?x6_NoMove ?x7_NoMove ?cs_Clash ?ct_Clash ?mr_NoMove_Clash ?ne_NoMove_Clash ?cs_NoText ?ct_NoText ?mr_NoMove_NoText ?ne_NoMove_NoText ?cs_NoMove ?ct_NoMove ?mr_NoMove_NoMove ?eb_NoMove ?cs_LoomError ?ct_LoomError ?mr_NoMove_LoomError ?eb_LoomError ?z_enumerate ?z_len ?z_tuple ?z_isinstance ?z_bool ?z_int ?z_min ?z_range ?z_max ?z_reversed ?z_str ?z_ValueError
    (case aC_LoomError => k_is)
    (case aC_NoText => k_is)
    (case aC_NoMove => k_is)
    (case aC_Clash => k_is)
    (case a0 => k_is)
    (case l0 => k_is)
    (case c0 => k_is)
    (case k0 => k_is)
    (case i0 => k_is)
    (case a1 => k_is)
    (case l1 => k_is)
    (case c1 => k_is)
    (case k1 => k_is)
    (case i1 => k_is)
    (case a2 => k_is)
    (case l2 => k_is)
    (case c2 => k_is)
    (case k2 => k_is)
    (case a3 => k_is)
    (case l3 => k_is)
    (case c3 => k_is)
    (case k3 => k_is)
    (case a4 => k_is)
    (case l4 => k_is)
    (case c4 => k_is)
    (case k4 => k_is)
    (case a5 => k_is)
    (case l5 => k_is)
    (case c5 => k_is)
    (case k5 => k_is)
    (case a6 => k_is)
    (case l6 => k_is)
    (case c6 => k_is)
    (case k6 => k_is)
    (case a7 => k_is)
    (case l7 => k_is)
    (case c7 => k_is)
    (case k7 => k_is)
    (case a8 => k_is)
    (case l8 => k_is)
    (case c8 => k_is)
    (case k8 => k_is)
    (case a9 => k_is)
    (case l9 => k_is)
    (case c9 => k_is)
    (case k9 => k_is)
    (case a10 => k_is)
    (case l10 => k_is)
    (case c10 => k_is)
    (case k10 => k_is)
    (case a11 => k_is)
    (case l11 => k_is)
    (case c11 => k_is)
    (case k11 => k_is)
    (case a12 => k_is)
    (case l12 => k_is)
    (case c12 => k_is)
    (case k12 => k_is)
    (case a13 => k_is)
    (case l13 => k_is)
    (case c13 => k_is)
    (case k13 => k_is)
    (case a14 => k_is)
    (case l14 => k_is)
    (case c14 => k_is)
    (case k14 => k_is)
    (case a15 => k_is)
    (case l15 => k_is)
    (case c15 => k_is)
    (case k15 => k_is)
    (case a16 => k_is)
    (case l16 => k_is)
    (case c16 => k_is)
    (case k16 => k_is)
    (case a17 => k_is)
    (case l17 => k_is)
    (case c17 => k_is)
    (case k17 => k_is)
    (case a18 => k_is)
    (case l18 => k_is)
    (case c18 => k_is)
    (case k18 => k_is)
    (case a19 => k_is)
    (case l19 => k_is)
    (case c19 => k_is)
    (case k19 => k_is)
    (case a20 => k_is)
    (case l20 => k_is)
    (case c20 => k_is)
    (case k20 => k_is)
    (case a21 => k_is)
    (case l21 => k_is)
    (case c21 => k_is)
    (case k21 => k_is)
    (case a22 => k_is)
    (case l22 => k_is)
    (case c22 => k_is)
    (case k22 => k_is)
    (case a23 => k_is)
    (case l23 => k_is)
    (case c23 => k_is)
    (case k23 => k_is)
    (case a24 => k_is)
    (case l24 => k_is)
    (case c24 => k_is)
    (case k24 => k_is)
    (case a25 => k_is)
    (case l25 => k_is)
    (case c25 => k_is)
    (case k25 => k_is)
    (case a26 => k_is)
    (case l26 => k_is)
    (case c26 => k_is)
    (case k26 => k_is)
    (case a27 => k_is)
    (case l27 => k_is)
    (case c27 => k_is)
    (case k27 => k_is)
    (case a28 => k_is)
    (case l28 => k_is)
    (case c28 => k_is)
    (case k28 => k_is)
    (case a29 => k_is)
    (case l29 => k_is)
    (case c29 => k_is)
    (case k29 => k_is)
    (case a30 => k_is)
    (case l30 => k_is)
    (case c30 => k_is)
    (case k30 => k_is)
    (case a31 => k_is)
    (case l31 => k_is)
    (case c31 => k_is)
    (case k31 => k_is)
    (case a32 => k_is)
    (case l32 => k_is)
    (case c32 => k_is)
    (case k32 => k_is)
    (case a33 => k_is)
    (case l33 => k_is)
    (case c33 => k_is)
    (case k33 => k_is)
    (case a34 => k_is)
    (case l34 => k_is)
    (case c34 => k_is)
    (case k34 => k_is)
    (case aP_NO_OUTER => k_is)
    (case xe_NoMove => first | kernel_rfl | rfl | decide | k_is)
    (case kc_NoMove => k_is)
    (case sx_NoMove => k_is)
    (case xo_NoMove => first | kernel_rfl | rfl | decide | k_is)
    (case xh_NoMove => first | kernel_rfl | rfl | decide | k_is)
    (case na_NoMove_place => k_is)
    (case xm_NoMove_ValueError => k_is)
    (case x1_NoMove => k_is)
    (case x2_NoMove => k_is)
    (case x3_NoMove => k_is)
    (case x4_NoMove => k_is)
    (case x5_NoMove => k_is)
    (case x6_NoMove => k_is)
    (case x7_NoMove => k_is)
    (case cs_Clash => k_is)
    (case ct_Clash => k_is)
    (case mr_NoMove_Clash => k_is)
    (case ne_NoMove_Clash => first | rfl | decide)
    (case cs_NoText => k_is)
    (case ct_NoText => k_is)
    (case mr_NoMove_NoText => k_is)
    (case ne_NoMove_NoText => first | rfl | decide)
    (case cs_NoMove => k_is)
    (case ct_NoMove => k_is)
    (case mr_NoMove_NoMove => k_is)
    (case eb_NoMove => k_is)
    (case cs_LoomError => k_is)
    (case ct_LoomError => k_is)
    (case mr_NoMove_LoomError => k_is)
    (case eb_LoomError => k_is)
    (case z_enumerate => k_is)
    (case z_len => k_is)
    (case z_tuple => k_is)
    (case z_isinstance => k_is)
    (case z_bool => k_is)
    (case z_int => k_is)
    (case z_min => k_is)
    (case z_range => k_is)
    (case z_max => k_is)
    (case z_reversed => k_is)
    (case z_str => k_is)
    (case z_ValueError => k_is)
