import PyProof.Rows.All
import Wide.All
import OpenK.AllK
import Wide.FinOn
import Lean
import PyProof.EqAt
import PyProof.EqKinds
import PyProof.TupleCall
import KE.KDictLaws
import KE.KDictList
import KE.KDictOf
import KE.KEqDict
import KE.KIntText
import KE.KTabLook
import KE.KTryMore
import KE.KUnpack
import PyProof.AttrMissHeap
import PyProof.AutoListH
import PyProof.CompUse
import PyProof.ConsumeWalk
import PyProof.Conv_int_bool
import PyProof.DictItems
import PyProof.DictValues
import PyProof.DictWalks
import PyProof.Draws
import PyProof.EnumFor
import PyProof.EnumMake
import PyProof.EnumStmt
import PyProof.ExcClass3
import PyProof.ExcInit
import PyProof.FString4
import PyProof.FString5
import PyProof.FactsAll.list_3
import PyProof.FactsAll.set
import PyProof.FactsAll.subtypes_5
import PyProof.FactsAll.zip
import PyProof.NeKinds
import PyProof.P3Eq
import PyProof.RangeIter
import PyProof.ReprHeads
import PyProof.ReprLen
import PyProof.Rows.CatFin
import PyProof.Rows.ReprOcc
import PyProof.Rows.SeqMore2
import PyProof.Rows.SetFrom
import PyProof.Rows.StrClose3
import PyProof.Rows.StrInSeq3
import PyProof.Rows.StrNews
import PyProof.Rows.StrNews2
import PyProof.Rows.StrPartPair
import PyProof.Rows.TupIter
import PyProof.SetRoads
import PyProof.StrLawsIn
import PyProof.StrLawsLast
import PyProof.StrLawsRepr
import PyProof.StrLawsTight
import PyProof.StrWalks
import PyProof.SumAny
import PyProof.TupleKey
import PyProof.WalkInts
import PyProof.Walks
import PySem.Challenge.RW_arrayloom_k83_programs_shown
-- CHANGE: your row's module here, as the last of these rows
set_option Elab.async false
set_option linter.all false
set_option maxRecDepth 100000
/-! THE HAND LAYER, for ints, bools, texts, own classes, LISTS and tuples (index, slices, in, append, pop ..), calls, loops. Paste it whole ahead of your own text; what your proof does not reach may be deleted. -/
namespace L2
open PySem PySem.Spec PyProof.Rows

/-- a key: an int or a str -/
abbrev Key := Sum Int Str
def keyIs : Key → Value → Bool
  | .inl k, v => Value.isInt k v
  | .inr x, v => Value.isStrOf x v
def keyH (w : World) : Key → Int
  | .inl k => hashInt k
  | .inr x => hashStr w x
theorem keyIs_shape : ∀ {k : Key} {v : Value}, keyIs k v = true → (∃ i t, k = Sum.inl i ∧ v = Value.int i t) ∨ (∃ x t, k = Sum.inr x ∧ v = Value.str x t)
  | .inl i, v, h => by
    obtain ⟨t, e⟩ := Value.isInt_shape (k := i) (v := v) h
    exact .inl ⟨i, t, rfl, e⟩
  | .inr x, v, h => by
    obtain ⟨t, e⟩ := Value.isStrOf_shape (x := x) (v := v) h
    exact .inr ⟨x, t, rfl, e⟩
theorem keyIs_int (i : Int) (t : Tok) : keyIs (.inl i) (.int i t) = true := by simp [keyIs, Value.isInt]
theorem keyIs_str (x : Str) (t : Tok) : keyIs (.inr x) (.str x t) = true := by simp [keyIs, Value.isStrOf]
theorem key_ll (a b : Int) : decide ((Sum.inl a : Key) = Sum.inl b) = (a == b) := by
  by_cases e : a = b
  · subst e; simp
  · have h : ¬ (Sum.inl a : Key) = Sum.inl b := fun q => e (Sum.inl.inj q)
    rw [decide_eq_false h]
    exact (beq_eq_false_iff_ne.mpr e).symm
theorem key_rr (a b : Str) : decide ((Sum.inr a : Key) = Sum.inr b) = decide (a = b) := by
  by_cases e : a = b
  · subst e; simp
  · have h : ¬ (Sum.inr a : Key) = Sum.inr b := fun q => e (Sum.inr.inj q)
    rw [decide_eq_false h, decide_eq_false e]
theorem key_lr (a : Int) (b : Str) : decide ((Sum.inl a : Key) = Sum.inr b) = false := decide_eq_false (fun q => nomatch q)
theorem key_rl (a : Str) (b : Int) : decide ((Sum.inr a : Key) = Sum.inl b) = false := decide_eq_false (fun q => nomatch q)

def mixKind (prog : Program) (w : World) : PySem.KeyKind prog w Key where
  is := keyIs
  hash := keyH w
  inj := fun v a b ha hb => by
    rcases keyIs_shape ha with ⟨i, t, rfl, rfl⟩ | ⟨x, t, rfl, rfl⟩
    · rcases keyIs_shape hb with ⟨j, u, rfl, e⟩ | ⟨y, u, rfl, e⟩
      · injection e with e1 _; rw [e1]
      · exact nomatch e
    · rcases keyIs_shape hb with ⟨j, u, rfl, e⟩ | ⟨y, u, rfl, e⟩
      · exact nomatch e
      · injection e with e1 _; rw [e1]
  byValue := fun k v h => by
    rcases keyIs_shape h with ⟨i, t, rfl, rfl⟩ | ⟨x, t, rfl, rfl⟩ <;> rfl
  pyHash := fun hv h => by
    rcases keyIs_shape hv with ⟨i, t, rfl, rfl⟩ | ⟨x, t, rfl, rfl⟩
    · exact wpAny_pyHash_int h
    · exact wpAny_pyHash_str h
  eqBool := fun hu hv h => by
    rcases keyIs_shape hu with ⟨i, t, rfl, rfl⟩ | ⟨x, t, rfl, rfl⟩
    · rcases keyIs_shape hv with ⟨j, u, rfl, rfl⟩ | ⟨y, u, rfl, rfl⟩
      · rw [key_ll] at h; exact wpAny_eqBool_int h
      · rw [key_lr] at h; exact SeqAt.EqAt.int_str i t y u _ _ _ _ h
    · rcases keyIs_shape hv with ⟨j, u, rfl, rfl⟩ | ⟨y, u, rfl, rfl⟩
      · rw [key_rl] at h; exact SeqAt.EqAt.str_int x t j u _ _ _ _ h
      · rw [key_rr] at h; exact wpAny_eqBool_str h
  «strs» := fun k x t v h => by
    rcases keyIs_shape h with ⟨i, u, rfl, e⟩ | ⟨y, u, rfl, e⟩
    · exact nomatch e
    · injection e with e1 _
      subst e1
      cases v <;> rfl

theorem mixKind_int (prog : Program) (w : World) (i : Int) (t : Tok) : (mixKind prog w).is (.inl i) (.int i t) = true := keyIs_int i t
theorem mixKind_str (prog : Program) (w : World) (x : Str) (t : Tok) : (mixKind prog w).is (.inr x) (.str x t) = true := keyIs_str x t
end L2

namespace L2
open PySem PySem.Spec PyProof.Rows

/-- a value, without the heap -/
inductive V where
  | non | bl (b : Bool) | int (i : Int) | str (x : Str) | byt (b : Array UInt8) | flt (b : UInt64) | ref (a : Addr) | ty (n : String)
  deriving DecidableEq

def RelV : V → Value → Prop
  | .non, u => u = Value.none
  | .bl b, u => u = Value.bool b
  | .int i, u => ∃ t, u = Value.int i t
  | .str x, u => ∃ t, u = Value.str x t
  | .byt b, u => ∃ t, u = Value.bytes b t
  | .flt b, u => ∃ t, u = Value.float b t
  | .ref a, u => u = Value.ref a
  | .ty n, u => u = Value.type n

abbrev Vals : List V → List Value → Prop := Paired RelV
theorem Vals.length {xs : List V} {us : List Value} (r : Vals xs us) : xs.length = us.length := Paired.length r
theorem Vals.get : ∀ {xs : List V} {us : List Value} {i : Nat} {x : V}, Vals xs us → xs[i]? = some x → ∃ u, us[i]? = some u ∧ RelV x u
  | _, _, _, _, .nil, e => by simp at e
  | _, _, 0, _, .cons r _, e => by simp at e; subst e; exact ⟨_, rfl, r⟩
  | _, _, i + 1, x, .cons _ t, e => by
    obtain ⟨u, h1, h2⟩ := Vals.get (i := i) (x := x) t (by simpa using e)
    exact ⟨u, by simpa using h1, h2⟩
theorem Vals.append : ∀ {xs ys : List V} {us ws : List Value}, Vals xs us → Vals ys ws → Vals (xs ++ ys) (us ++ ws)
  | _, _, _, _, .nil, s => s
  | _, _, _, _, .cons r t, s => .cons r (Vals.append t s)
theorem Vals.take : ∀ {xs : List V} {us : List Value} (n : Nat), Vals xs us → Vals (xs.take n) (us.take n)
  | _, _, 0, _ => .nil
  | _, _, _ + 1, .nil => .nil
  | _, _, n + 1, .cons r t => .cons r (Vals.take n t)
theorem Vals.drop : ∀ {xs : List V} {us : List Value} (n : Nat), Vals xs us → Vals (xs.drop n) (us.drop n)
  | _, _, 0, r => r
  | _, _, _ + 1, .nil => .nil
  | _, _, n + 1, .cons _ t => Vals.drop n t
def RelO : Option V → Option Value → Prop
  | some v, some u => RelV v u
  | none, none => True
  | _, _ => False
def KV {κ : Type} : List (κ × V) → List (κ × Value) → Prop := Paired fun (p : κ × V) (q : κ × Value) => p.1 = q.1 ∧ RelV p.2 q.2

/-- a key of a dict (00_mix): an int or a text -/
def kV : Key → V
  | .inl i => .int i
  | .inr x => .str x

/-- what stands at a tracked address -/
inductive HO where
  /-- a list -/
  | lst (xs : List V)
  /-- a tuple (never changes) -/
  | tup (xs : List V)
  /-- a dict whose keys are ints and texts; one whose keys are tuples of ints and texts (the empty one is both) -/
  | dK (kvs : List (Key × V)) | dT (kvs : List (List Key × V))
  /-- a set of ints: its members, its size -/
  | set (S : Int → Bool) (n : Nat)
  /-- an instance of the class at C, its dict at dx, its attributes -/
  | ins (C dx : Addr) (fs : List (Str × V))
  /-- the dict of the instance at x -/
  | own (x : Addr)
  /-- the dict of an exception -/
  | xd (fs : List (Str × V))
  /-- a bound method, f of x -/
  | met (f x : Addr)
  /-- a range object lo, lo + 1, .. below hi -/
  | rng (lo hi : Int)
  /-- a thing that is known to the object (the script; a dict while a loop walks it): read, never written while it is so -/
  | frz (o : Obj) (u : HO)
  /-- a code object's table -/
  | tbl (ps : Array Value)
  /-- any other thing, by what is true of its one object (a def of one's own: SetO a S n := HO.ext fun h => ..) -/
  | ext (φ : Heap → Prop)

abbrev Hp := Addr → Option HO
def upd (H : Hp) (a : Addr) (o : HO) : Hp := fun b => if b = a then some o else H b
theorem upd_same {H : Hp} {a : Addr} {o : HO} : upd H a o a = some o := by unfold upd; rw [if_pos rfl]
theorem upd_ne {H : Hp} {a b : Addr} {o : HO} (h : b ≠ a) : upd H a o b = H b := by unfold upd; rw [if_neg h]
theorem upd_upd {H : Hp} {a : Addr} {o u : HO} : upd (upd H a o) a u = upd H a u := by
  funext b; unfold upd; split <;> rfl
/-- two objects of different content stand apart -/
theorem ne_of {H : Hp} {a b : Addr} {o u : HO} (h : H a = some o) (h' : H b = some u) (d : o ≠ u) : a ≠ b := by
  intro e; subst e; rw [h] at h'; exact d (Option.some.inj h')
theorem ne_of_none {H : Hp} {a b : Addr} {o : HO} (h : H a = some o) (h' : H b = none) : a ≠ b := by
  intro e; subst e; rw [h] at h'; cases h'

section
variable (P : Program) (w : World)
def ObjOk (H : Hp) (h : Heap) (a : Addr) : HO → Prop
  | .lst xs => xs.length ≤ sizeLine ∧ ∃ (its : List Value) (n : Nat), Vals xs its ∧ h.get? a = some { cls := .type "list", data := .seq its.toArray n }
  | .tup xs => xs.length ≤ sizeLine ∧ ∃ its : List Value, Vals xs its ∧ IsTup h a its.toArray
  | .dK kvs => kvs.length ≤ sizeLine ∧ (a == sysModules) = false ∧ ∃ vs, KV kvs vs ∧ h.DictOf (mixKind P w) a vs
  | .dT kvs => kvs.length ≤ sizeLine ∧ (a == sysModules) = false ∧ ∃ xs : List (List Key × Addr × Value),
      Paired (fun (p : List Key × V) (q : List Key × Addr × Value) => p.1 = q.1 ∧ H q.2.1 = some (.tup (p.1.map kV)) ∧ RelV p.2 q.2.2) kvs xs ∧
      ∃ o es ep, h.get? a = some o ∧ o.ExactDict ∧ o.data = .dict es ep ∧ es.toList = xs.map (entryOfKey (tupleKind (mixKind P w))) ∧ (xs.map (·.1)).Nodup
  | .set S n => h.SetOf (intKind P w) a S n
  | .ins C dx fs => H dx = some (.own a) ∧ fs.length ≤ 1000 ∧ dx ≠ a ∧ h.get? a = some (PySem.W.instObj C dx) ∧
      ∃ mA, h.Ns1 dx mA ∧ (∀ f, RelO (fs.lookup f) (mA f)) ∧ PySem.Within mA (fs.map (·.1))
  | .own _ => ∃ o, h.get? a = some o
  | .xd fs => ∃ mA, h.Ns1 a mA ∧ ∀ f, RelO (fs.lookup f) (mA f)
  | .rng lo hi => ∃ t u v, h.get? a = some { cls := .type "range", data := .fields #[.int lo t, .int hi u, .int 1 v] }
  | .frz o u => h.get? a = some o ∧ ObjOk H h a u
  | .tbl ps => h.get? a = some { cls := .none, data := .fields ps }
  | .met f x => h.get? a = some (PySem.W.methodObj (.ref f) (.ref x))
  | .ext φ => φ h ∧ (∃ o, h.get? a = some o) ∧ ∀ h1 h2 : Heap, φ h1 → (∀ o, h1.get? a = some o → h2.get? a = some o) → φ h2
/-- the abstract heap is held -/
def HOk (H : Hp) (h : Heap) : Prop := ∀ a o, H a = some o → ObjOk P w H h a o
end

section
variable {P : Program} {w : World} {H H' : Hp} {h h' : Heap} {a : Addr} {o : HO}
theorem ObjOk.lt (x : ObjOk P w H h a o) : a < h.objs.size := by
  cases o with
  | lst xs => obtain ⟨_, _, _, _, e⟩ := x; exact Heap.lt_size e
  | tup xs => obtain ⟨_, _, _, p⟩ := x; exact p.lt
  | dK kvs => obtain ⟨_, _, _, _, o, _, _, e, _⟩ := x; exact Heap.lt_size e
  | dT kvs => obtain ⟨_, _, _, _, o, _, _, e, _⟩ := x; exact Heap.lt_size e
  | set S n => obtain ⟨o, _, _, _, e, _⟩ := x; exact Heap.lt_size e
  | ins C dx fs => obtain ⟨_, _, _, e, _⟩ := x; exact Heap.lt_size e
  | own y => obtain ⟨_, e⟩ := x; exact Heap.lt_size e
  | xd fs => obtain ⟨_, ⟨_, _, _, e, _⟩, _⟩ := x; exact Heap.lt_size e
  | rng lo hi => obtain ⟨_, _, _, e⟩ := x; exact Heap.lt_size e
  | frz ob u => obtain ⟨e, _⟩ := x; exact Heap.lt_size e
  | tbl ps => exact Heap.lt_size (show h.get? a = some _ from x)
  | met f y => exact Heap.lt_size (show h.get? a = some _ from x)
  | ext φ => obtain ⟨_, ⟨_, e⟩, _⟩ := x; exact Heap.lt_size e
theorem Paired.mapP {α β : Type} {F G : α → β → Prop} : ∀ {l₁ : List α} {l₂ : List β}, Paired F l₁ l₂ → (∀ a b, F a b → G a b) → Paired G l₁ l₂
  | _, _, .nil, _ => .nil
  | _, _, .cons r t, f => .cons (f _ _ r) (Paired.mapP t f)
/-- what an object's description leans on: its own object, its own dict, the tuples -/
theorem ObjOk.stay (x : ObjOk P w H h a o) (k : ∀ b u, (b = a ∨ H b = some (.own a)) → h.get? b = some u → h'.get? b = some u)
    (ho : ∀ b, H b = some (.own a) → H' b = some (.own a)) (ht : ∀ b xs, H b = some (.tup xs) → H' b = some (.tup xs)) : ObjOk P w H' h' a o := by
  induction o with
  | lst xs => obtain ⟨z, its, n, r, e⟩ := x; exact ⟨z, its, n, r, k _ _ (.inl rfl) e⟩
  | tup xs => obtain ⟨z, its, r, ob, e, c⟩ := x; exact ⟨z, its, r, ob, k _ _ (.inl rfl) e, c⟩
  | dK kvs => obtain ⟨z, y, vs, r, ob, es, ep, e, c⟩ := x; exact ⟨z, y, vs, r, ob, es, ep, k _ _ (.inl rfl) e, c⟩
  | dT kvs =>
    obtain ⟨z, y, xs, r, ob, es, ep, e, c⟩ := x
    exact ⟨z, y, xs, Paired.mapP r fun p q z => ⟨z.1, ht _ _ z.2.1, z.2.2⟩, ob, es, ep, k _ _ (.inl rfl) e, c⟩
  | set S n => obtain ⟨ob, es, ep, t, e, c⟩ := x; exact ⟨ob, es, ep, t, k _ _ (.inl rfl) e, c⟩
  | ins C dx fs =>
    obtain ⟨d, z, ne, e, mA, ⟨od, es, ep, e2, c⟩, r⟩ := x
    exact ⟨ho _ d, z, ne, k _ _ (.inl rfl) e, mA, ⟨od, es, ep, k _ _ (.inr d) e2, c⟩, r⟩
  | own y => obtain ⟨ob, e⟩ := x; exact ⟨ob, k _ _ (.inl rfl) e⟩
  | xd fs => obtain ⟨mA, ⟨od, es, ep, e, c⟩, r⟩ := x; exact ⟨mA, ⟨od, es, ep, k _ _ (.inl rfl) e, c⟩, r⟩
  | rng lo hi => obtain ⟨t, u, v, e⟩ := x; exact ⟨t, u, v, k _ _ (.inl rfl) e⟩
  | frz ob u ih => obtain ⟨e, q⟩ := x; exact ⟨k _ _ (.inl rfl) e, ih q⟩
  | tbl ps =>
    have e : h.get? a = some { cls := .none, data := .fields ps } := x
    show h'.get? a = some { cls := .none, data := .fields ps }
    exact k a _ (.inl rfl) e
  | met f y =>
    have e : h.get? a = some (PySem.W.methodObj (.ref f) (.ref y)) := x
    show h'.get? a = some (PySem.W.methodObj (.ref f) (.ref y))
    exact k a _ (.inl rfl) e
  | ext φ => obtain ⟨p, ⟨o, e⟩, st⟩ := x; exact ⟨st _ _ p fun o q => k _ _ (.inl rfl) q, ⟨o, k _ _ (.inl rfl) e⟩, st⟩
theorem HOk.lt (x : HOk P w H h) (e : H a = some o) : a < h.objs.size := (x a o e).lt
theorem HOk.fresh (x : HOk P w H h) (e : h.objs.size ≤ a) : H a = none := by
  cases q : H a with
  | none => rfl
  | some u => exact absurd (Nat.lt_of_lt_of_le (x.lt q) e) (Nat.lt_irrefl _)
/-- every object of the heap is kept -/
theorem HOk.kept (x : HOk P w H h) (k : ∀ b u, h.get? b = some u → h'.get? b = some u) : HOk P w H h' := fun a o e =>
  (x a o e).stay (fun b u _ q => k b u q) (fun _ q => q) fun _ _ q => q
/-- a new object is laid and tracked -/
theorem HOk.laid (x : HOk P w H h) (k : ∀ b u, h.get? b = some u → h'.get? b = some u) (hp : h.objs.size ≤ a) (new : ObjOk P w (upd H a o) h' a o) : HOk P w (upd H a o) h' := fun b u e => by
  have hn := x.fresh hp
  by_cases hb : b = a
  · subst hb; rw [upd_same] at e; cases e; exact new
  · rw [upd_ne hb] at e
    exact (x b u e).stay (fun c v _ q => k c v q) (fun c q => by rw [upd_ne (ne_of_none q hn)]; exact q) fun c xs q => by rw [upd_ne (ne_of_none q hn)]; exact q
end

/-- what may be read as u: it is u, or a known u -/
def Rd (H : Hp) (a : Addr) (u : HO) : Prop := H a = some u ∨ ∃ o, H a = some (.frz o u)
theorem Rd.ok {P : Program} {w : World} {H : Hp} {h : Heap} {a : Addr} {u : HO} (r : Rd H a u) (x : HOk P w H h) : ObjOk P w H h a u := by
  rcases r with r | ⟨o, r⟩
  · exact x a u r
  · obtain ⟨_, q⟩ := x a _ r
    exact q
/-- what may be written -/
def Mut : Option HO → Prop
  | some (.lst _) => True
  | some (.dK _) => True
  | some (.dT _) => True
  | some (.set _ _) => True
  | some (.ins _ _ _) => True
  | some (.ext _) => True
  | _ => False
section
variable {P : Program} {w : World} {H : Hp} {h h' : Heap} {x e : Addr} {o' : HO}
/-- the object at e is changed: x itself, or the dict of the instance x -/
theorem HOk.write (ok : HOk P w H h) (mu : Mut (H x)) (he : e = x ∨ H e = some (.own x)) (k : ∀ b u, b ≠ e → h.get? b = some u → h'.get? b = some u) (heo : ∃ u, h'.get? e = some u)
    (new : ObjOk P w (upd H x o') h' x o') : HOk P w (upd H x o') h' := fun b u q => by
  have nown : ∀ c y, H c = some (.own y) → c ≠ x := fun c y r z => by subst z; rw [r] at mu; exact mu
  have ntup : ∀ c xs, H c = some (.tup xs) → c ≠ x := fun c xs r z => by subst z; rw [r] at mu; exact mu
  by_cases hb : b = x
  · subst hb; rw [upd_same] at q; cases q; exact new
  · rw [upd_ne hb] at q
    by_cases hbe : b = e
    · have q' : H b = some (.own x) := by
        rcases he with z | z
        · exact absurd (hbe.trans z) hb
        · rw [hbe]; exact z
      rw [q] at q'; cases q'
      obtain ⟨v, hv⟩ := heo
      exact ⟨v, by rw [hbe]; exact hv⟩
    · refine (ok b u q).stay (fun c v hc r => k c v ?_ r) (fun c r => by rw [upd_ne (nown c b r)]; exact r) fun c xs r => by rw [upd_ne (ntup c xs r)]; exact r
      rcases hc with rfl | hc
      · exact hbe
      · rintro rfl
        rcases he with z | z
        · exact nown c b hc z
        · rw [hc] at z; cases z; exact hb rfl
end

/-! ### kept unless tracked; of the frames at fs (the callers') the slots may change (an exception that passes writes there); of the records at ex (iterators) nothing is said -/
structure Un (fs ex : List Addr) (H H' : Hp) (h h' : Heap) : Prop where
  keep : ∀ b o, h.get? b = some o → H b = none → b ∉ fs → b ∉ ex → h'.get? b = some o
  slot : ∀ b o, h.get? b = some o → H b = none → b ∈ fs → b ∉ ex → ∃ sl, h'.get? b = some { o with slots := sl }
  free : ∀ b o, h.get? b = some o → H b = none → b ∉ ex → H' b = none
  there : ∀ b o, h.get? b = some o → b ∉ ex → ∃ o', h'.get? b = some o'
  tups : ∀ b xs, H b = some (.tup xs) → H' b = some (.tup xs)
  frzs : ∀ b o u, H b = some (.frz o u) → H' b = some (.frz o u)
  tbls : ∀ b ps, H b = some (.tbl ps) → ∃ more, H' b = some (.tbl (ps ++ more))
section
variable {fs fs' ex ex' : List Addr} {H H1 H2 : Hp} {h h1 h2 h' : Heap} {a x e : Addr} {o : HO}
theorem Un.any (u : Un fs ex H H1 h h1) {b : Addr} {ob : Obj} (q : h.get? b = some ob) (n : H b = none) (hx : b ∉ ex) : ∃ sl, h1.get? b = some { ob with slots := sl } := by
  by_cases hb : b ∈ fs
  · exact u.slot b ob q n hb hx
  · exact ⟨ob.slots, u.keep b ob q n hb hx⟩
theorem Un.kept (k : ∀ b u, h.get? b = some u → h'.get? b = some u) : Un fs ex H H h h' :=
  ⟨fun b ob q _ _ _ => k b ob q, fun b ob q _ _ _ => ⟨ob.slots, k b ob q⟩, fun _ _ _ n _ => n, fun b ob q _ => ⟨ob, k b ob q⟩, fun _ _ q => q, fun _ _ _ q => q, fun _ ps q => ⟨#[], by rw [q]; simp⟩⟩
theorem Un.refl : Un fs ex H H h h := Un.kept fun _ _ q => q
theorem Un.laid (k : ∀ b u, h.get? b = some u → h'.get? b = some u) (hp : h.objs.size ≤ a) (hn : H a = none) : Un fs ex H (upd H a o) h h' where
  keep := fun b u q _ _ _ => k b u q
  slot := fun b u q _ _ _ => ⟨u.slots, k b u q⟩
  free := fun b u q n _ => by rw [upd_ne (Nat.ne_of_lt (Nat.lt_of_lt_of_le (Heap.lt_size q) hp))]; exact n
  there := fun b u q _ => ⟨u, k b u q⟩
  tups := fun b xs q => by rw [upd_ne (ne_of_none q hn)]; exact q
  frzs := fun b u xs q => by rw [upd_ne (ne_of_none q hn)]; exact q
  tbls := fun b ps q => ⟨#[], by rw [upd_ne (ne_of_none q hn), q]; simp⟩
theorem Un.write (mu : Mut (H x)) (he : e = x ∨ H e = some (.own x)) (k : ∀ b u, b ≠ e → h.get? b = some u → h'.get? b = some u) (heo : ∃ u, h'.get? e = some u) : Un fs ex H (upd H x o) h h' := by
  have hx : ∀ b, H b = none → b ≠ x := fun b n z => by subst z; rw [n] at mu; exact mu
  have hb : ∀ b, H b = none → b ≠ e := fun b n z => by
    subst z
    rcases he with r | r
    · exact hx b n r
    · rw [n] at r; cases r
  have hm : ∀ b u, H b = some u → ¬ Mut (some u) → b ≠ x := fun b u q nm z => by subst z; rw [q] at mu; exact nm mu
  refine ⟨fun b u q n _ _ => k b u (hb b n) q, fun b u q n _ _ => ⟨u.slots, k b u (hb b n) q⟩, fun b u q n _ => by rw [upd_ne (hx b n)]; exact n, fun b u q _ => ?_,
    fun b xs q => by rw [upd_ne (hm b _ q fun z => z)]; exact q, fun b u xs q => by rw [upd_ne (hm b _ q fun z => z)]; exact q, fun b ps q => ⟨#[], by rw [upd_ne (hm b _ q fun z => z), q]; simp⟩⟩
  by_cases hbe : b = e
  · subst hbe; exact heo
  · exact ⟨u, k b u hbe q⟩
end

/-! ### the heap without what is tracked -/
def trk (h : Heap) (H : Hp) : List Addr := (List.range h.objs.size).filter fun a => (H a).isSome
def hidT (h : Heap) (H : Hp) : Heap := PySem.W.hideAll h (trk h H)
theorem hidT_size (h : Heap) (H : Hp) : (hidT h H).objs.size = h.objs.size := PySem.W.hideAll_size _ _
theorem hidT_get {h : Heap} {H : Hp} {b : Addr} {o : Obj} (e : h.get? b = some o) (n : H b = none) : (hidT h H).get? b = some o :=
  PySem.W.hideAll_get _ e fun hm => by
    have q : (H b).isSome = true := (List.mem_filter.mp hm).2
    rw [n] at q; simp at q
theorem of_hidT {h : Heap} {H : Hp} {b : Addr} {o : Obj} (e : (hidT h H).get? b = some o) : h.get? b = some o ∧ H b = none := by
  have e' : h.get? b = some o := PySem.W.of_hideAll (trk h H) e
  refine ⟨e', ?_⟩
  cases q : H b with
  | none => rfl
  | some x =>
    have hm : b ∈ trk h H := List.mem_filter.mpr ⟨List.mem_range.mpr (Heap.lt_size e'), by simp [q]⟩
    have z : (hidT h H).get? b = none := PySem.W.hideAll_none (trk h H) hm
    rw [z] at e; cases e

/-! ### OpenK's ledger, filled with every new object but one -/
end L2

namespace L2
open PySem PySem.Spec PyProof.Rows

/-- the module's facts, over the base: the heap at the law's entry without what is tracked there -/
structure Mod (K : PySem.W.Frag) (mg : Str → Option Value) (base : Heap) : Prop where
  kin : K.In base
  glob : base.Ns mainGlobals mg
  blt : ∃ mb, base.Ns builtinsNs mb ∧ ∀ x : Str, x ≠ "__name__" → mb x = bootBuiltins x
  nolimit : base.NoLimit

/-- the context: a def's body (or a comprehension's block) running. base: fixed through the whole law; s₀, H₀: the entry; outer: the frames whose slots others may change (a def's callers); stack: all frames that run;
   ex: iterators that were made ahead of the entry and are walked here (a comprehension's); fn: the names whose cells were made at the entry (a def: all; a comprehension's block: its own); calm: not within an except suite; pn: pins that every state bears; xe: what is wanted of an exception that leaves the code -/
structure Cx where
  prog : Program
  w : World
  K : PySem.W.Frag
  mg : Str → Option Value
  base : Heap
  A : Around
  N : List Str
  s₀ : Shared
  H₀ : Hp
  env : Env
  outer : List Env
  stack : List Env
  ex : List Addr
  fn : Str → Bool
  calm : Bool
  pn : List (Addr × Obj)
  xe : Value → Shared → Prop
/-- the callers' frames -/
def frs (l : List Env) : List Addr := l.filterMap (·.frame)
abbrev Cx.fs (X : Cx) : List Addr := frs X.outer

def Vis (sc : Scope) (x : Str) : Prop := sc.names.lookup x = some .local ∨ sc.names.lookup x = some .cell ∨ sc.names.lookup x = some .free
def Loc (sc : Scope) (x : Str) : Prop := sc.names.lookup x = some .local ∨ sc.names.lookup x = some .cell
def Look (env : Env) (h : Heap) (m : Str → Option Value) (x : Str) (u : Value) : Prop :=
  (env.kindOf x = some .local ∧ m x = some u) ∨ ((env.kindOf x = some .cell ∨ env.kindOf x = some .free) ∧ ∃ c, env.cells.lookup x = some c ∧ h.IsCell c (some u))

structure Cx.Ok (X : Cx) : Prop where
  mod : Mod X.K X.mg X.base
  kind : X.env.scope.kind = .function
  glob : X.env.globals = mainGlobals
  blt : X.env.builtins = builtinsNs
  above : X.s₀.heap.objs.size ≤ X.env.locals
  inj : ∀ x y c, X.env.cells.lookup x = some c → X.env.cells.lookup y = some c → x = y
  has : ∀ x, (X.env.kindOf x = some .cell ∨ X.env.kindOf x = some .free) → ∃ c, X.env.cells.lookup x = some c
  cab : ∀ x c, X.fn x = true → X.env.cells.lookup x = some c → X.s₀.heap.objs.size ≤ c
  hd : X.calm = true → X.A.handled = none
  frames : X.A.frames = some X.stack
  stk : X.stack = X.outer ∨ (X.stack = X.env :: X.outer ∧ X.env.frame = some X.env.locals)
  exf : ∀ b ∈ X.ex, b ≠ X.env.locals ∧ ∀ x c, X.env.cells.lookup x = some c → c ≠ b
  bs : ∀ b o, X.base.get? b = some o → X.s₀.heap.get? b = some o ∧ X.H₀ b = none
  bsz : X.base.objs.size ≤ X.s₀.heap.objs.size
  noex : ∀ b o, X.base.get? b = some o → b ∉ X.ex
  exfs : ∀ b ∈ X.ex, b ∉ X.fs
  funs : X.s₀.heap.FunFrames X.base X.outer
  frf : ∀ b ∈ X.fs, X.H₀ b = none

structure Inv (X : Cx) (pins : List (Addr × Obj)) (σ : List (Option V)) (H : Hp) (s : Shared) : Prop where
  ok : X.Ok
  os : s.os = X.s₀.os
  bare : AllBare s.gens
  base : Un X.fs X.ex X.H₀ H X.s₀.heap s.heap
  loc : ∃ m, s.heap.Ns X.env.locals m ∧ ∀ (i : Nat) (x : Str) (v : V), X.N[i]? = some x → σ[i]? = some (some v) → Vis X.env.scope x → ∃ u, RelV v u ∧ Look X.env s.heap m x u
  cell : ∀ x c, X.env.cells.lookup x = some c → ∃ v, s.heap.IsCell c v
  free : H X.env.locals = none
  freeC : ∀ x c, X.env.cells.lookup x = some c → H c = none
  pin : ∀ p ∈ X.pn ++ pins, s.heap.get? p.1 = some p.2 ∧ H p.1 = none ∧ p.1 ≠ X.env.locals ∧ p.1 ∉ X.fs ∧ ∀ v, p.2.data ≠ .cell v
  hok : HOk X.prog X.w H s.heap
  len : σ.length = X.N.length

section
variable {X : Cx} {pins : List (Addr × Obj)} {σ : List (Option V)} {H H' : Hp} {s : Shared} {h' : Heap}

theorem Cx.Ok.nofr (ok : X.Ok) {b : Addr} {o : Obj} (e : X.base.get? b = some o) : b ∉ X.fs := fun hb => by
  have := (ok.funs.mem hb).1
  rw [e] at this; cases this
theorem Inv.bs (I : Inv X pins σ H s) : ∀ b o, X.base.get? b = some o → s.heap.get? b = some o ∧ H b = none := fun b o e =>
  ⟨I.base.keep b o (I.ok.bs b o e).1 (I.ok.bs b o e).2 (I.ok.nofr e) (I.ok.noex b o e), I.base.free b o (I.ok.bs b o e).1 (I.ok.bs b o e).2 (I.ok.noex b o e)⟩
theorem Inv.bk (I : Inv X pins σ H s) : ∀ b o, X.base.get? b = some o → s.heap.get? b = some o := fun b o e => (I.bs b o e).1
theorem Inv.mod (I : Inv X pins σ H s) : Mod X.K X.mg X.base := I.ok.mod
theorem Inv.kIn (I : Inv X pins σ H s) : X.K.In s.heap := I.ok.mod.kin.keeps I.bk
theorem Inv.lt (I : Inv X pins σ H s) : X.env.locals < s.heap.objs.size := let ⟨_, hn, _⟩ := I.loc; hn.lt
theorem Inv.sz (I : Inv X pins σ H s) : X.s₀.heap.objs.size ≤ s.heap.objs.size := Nat.le_trans I.ok.above (Nat.le_of_lt I.lt)
theorem Inv.nofs (I : Inv X pins σ H s) {a : Addr} (h : s.heap.objs.size ≤ a) : a ∉ X.fs := fun hb => by
  obtain ⟨_, o, ho, _⟩ := I.ok.funs.mem hb
  exact absurd (Nat.lt_of_lt_of_le (Heap.lt_size ho) (Nat.le_trans I.sz h)) (Nat.lt_irrefl _)
theorem Inv.cne (I : Inv X pins σ H s) : ∀ x c, X.env.cells.lookup x = some c → c ≠ X.env.locals := fun x c e z => by
  obtain ⟨v, o, ho, hd⟩ := I.cell x c e
  obtain ⟨m, ⟨o', es, ep, ho', hd', _⟩, _⟩ := I.loc
  rw [z, ho'] at ho; cases ho; rw [hd'] at hd; cases hd
theorem Inv.funs (I : Inv X pins σ H s) : s.heap.FunFrames X.base X.outer := by
  have all : ∀ (l : List Env), (∀ b ∈ frs l, b ∈ X.fs) → X.s₀.heap.FunFrames X.base l → s.heap.FunFrames X.base l := by
    intro l
    induction l with
    | nil => intro _ _; trivial
    | cons env r ih =>
      intro hs hl
      obtain ⟨hk, ⟨L, o, hf, hn, ho, hd⟩, hr⟩ := hl
      have hL : L ∈ X.fs := hs L (by unfold frs; rw [List.filterMap_cons, hf]; exact List.mem_cons_self)
      obtain ⟨sl, e⟩ := I.base.slot L o ho (I.ok.frf L hL) hL fun z => I.ok.exfs L z hL
      exact ⟨hk, ⟨L, _, hf, hn, e, hd⟩, ih (fun b hb => hs b (by unfold frs; rw [List.filterMap_cons, hf]; exact List.mem_cons_of_mem _ hb)) hr⟩
  exact all X.outer (fun _ hb => hb) I.ok.funs

/-- the frames that run, for a call -/
theorem Inv.stack (I : Inv X pins σ H s) : s.heap.FunFrames X.base X.stack := by
  rcases I.ok.stk with e | ⟨e, hf⟩
  · rw [e]; exact I.funs
  · rw [e]
    obtain ⟨m, hn, _⟩ := I.loc
    refine .cons (by rw [I.ok.kind]; decide) hf hn ?_ I.funs
    exact Heap.get?_none_of_le (Nat.le_trans I.ok.bsz I.ok.above)
theorem Inv.stkSub (I : Inv X pins σ H s) : ∀ b ∈ frs X.stack, b ∈ X.env.locals :: X.fs := fun b hb => by
  rcases I.ok.stk with e | ⟨e, hf⟩
  · rw [e] at hb; exact List.mem_cons_of_mem _ hb
  · rw [e] at hb
    unfold frs at hb
    rw [List.filterMap_cons, hf] at hb
    exact hb
theorem Inv.stkFree (I : Inv X pins σ H s) : ∀ b ∈ frs X.stack, H b = none := fun b hb => by
  rcases List.mem_cons.mp (I.stkSub b hb) with e | hb
  · rw [e]; exact I.free
  · obtain ⟨_, o, ho, _⟩ := I.ok.funs.mem hb
    exact I.base.free b o ho (I.ok.frf b hb) fun z => I.ok.exfs b z hb

/-- THE STEP: the untracked objects but the frame and the records at ch are kept (the callers' frames up to slots), the frame's map is kept, the new abstract heap is held -/
theorem Inv.step {g' : Array GenState} {t' : Nat} {d' : Drawn} {ch : List Addr} (I : Inv X pins σ H s)
    (hch : ∀ b ∈ ch, (b ∈ X.ex ∨ X.s₀.heap.objs.size ≤ b) ∧ b ≠ X.env.locals ∧ (∀ x c, X.env.cells.lookup x = some c → c ≠ b) ∧ ∀ p ∈ X.pn ++ pins, p.1 ≠ b)
    (keep : ∀ b o, b ≠ X.env.locals → b ∉ X.fs → b ∉ ch → s.heap.get? b = some o → H b = none → h'.get? b = some o)
    (slot : ∀ b o, b ≠ X.env.locals → b ∈ X.fs → b ∉ ch → s.heap.get? b = some o → H b = none → ∃ sl, h'.get? b = some { o with slots := sl }) (free : ∀ b o, b ∉ ch → s.heap.get? b = some o → H b = none → H' b = none)
    (there : ∀ b o, b ∉ ch → s.heap.get? b = some o → ∃ o', h'.get? b = some o')
    (tups : ∀ b xs, H b = some (.tup xs) → H' b = some (.tup xs)) (frzs : ∀ b o u, H b = some (.frz o u) → H' b = some (.frz o u)) (tbls : ∀ b ps, H b = some (.tbl ps) → ∃ more, H' b = some (.tbl (ps ++ more)))
    (ns : ∀ m, s.heap.Ns X.env.locals m → h'.Ns X.env.locals m) (hok : HOk X.prog X.w H' h') (hg : AllBare g') :
    Inv X pins σ H' { s with heap := h', gens := g', drawn := d', toks := t' } := by
  have neL : ∀ b o, X.s₀.heap.get? b = some o → b ≠ X.env.locals := fun b o e => Nat.ne_of_lt (Nat.lt_of_lt_of_le (Heap.lt_size e) I.ok.above)
  have neC : ∀ b o, X.s₀.heap.get? b = some o → b ∉ X.ex → b ∉ ch := fun b o e hx hb => by
    rcases (hch b hb).1 with z | z
    · exact hx z
    · exact absurd (Nat.lt_of_lt_of_le (Heap.lt_size e) z) (Nat.lt_irrefl _)
  have cellK : ∀ x c, X.env.cells.lookup x = some c → ∀ v, s.heap.IsCell c v → h'.IsCell c v := fun x c e v ⟨o, ho, hd⟩ => by
    have nch : c ∉ ch := fun z => (hch c z).2.2.1 x c e rfl
    by_cases hc : c ∈ X.fs
    · obtain ⟨sl, q⟩ := slot c o (I.cne x c e) hc nch ho (I.freeC x c e)
      exact ⟨_, q, hd⟩
    · exact ⟨o, keep c o (I.cne x c e) hc nch ho (I.freeC x c e), hd⟩
  refine ⟨I.ok, I.os, hg, ⟨fun b o e n hb hx => ?_, fun b o e n hb hx => ?_, fun b o e n hx => ?_, fun b o e hx => ?_, fun b xs e => tups b xs (I.base.tups b xs e), fun b o xs e => frzs b o xs (I.base.frzs b o xs e), fun b ps e => ?_⟩, ?_, fun x c e => ?_, ?_, fun x c e => ?_, fun p hp => ?_, hok, I.len⟩
  · exact keep b o (neL b o e) hb (neC b o e hx) (I.base.keep b o e n hb hx) (I.base.free b o e n hx)
  · obtain ⟨sl, e1⟩ := I.base.slot b o e n hb hx
    obtain ⟨sl', e2⟩ := slot b _ (neL b o e) hb (neC b o e hx) e1 (I.base.free b o e n hx)
    exact ⟨sl', e2⟩
  · obtain ⟨o', e1⟩ := I.base.there b o e hx
    exact free b o' (neC b o e hx) e1 (I.base.free b o e n hx)
  · obtain ⟨o', e1⟩ := I.base.there b o e hx
    exact there b o' (neC b o e hx) e1
  · obtain ⟨m1, e1⟩ := I.base.tbls b ps e
    obtain ⟨m2, e2⟩ := tbls b _ e1
    exact ⟨m1 ++ m2, by rw [e2, Array.append_assoc]⟩
  · obtain ⟨m, hn, hl⟩ := I.loc
    refine ⟨m, ns m hn, fun i x v e1 e2 e3 => ?_⟩
    obtain ⟨u, r, l⟩ := hl i x v e1 e2 e3
    refine ⟨u, r, ?_⟩
    rcases l with l | ⟨k, c, e, z⟩
    · exact .inl l
    · exact .inr ⟨k, c, e, cellK x c e _ z⟩
  · obtain ⟨v, z⟩ := I.cell x c e
    exact ⟨v, cellK x c e v z⟩
  · obtain ⟨m, ⟨o, _, _, ho, _⟩, _⟩ := I.loc
    exact free _ o (fun z => (hch _ z).2.1 rfl) ho I.free
  · obtain ⟨v, o, ho, hd⟩ := I.cell x c e
    exact free c o (fun z => (hch c z).2.2.1 x c e rfl) ho (I.freeC x c e)
  · obtain ⟨e, n, ne, nf, d⟩ := I.pin p hp
    have nch : p.1 ∉ ch := fun z => (hch p.1 z).2.2.2 p hp rfl
    exact ⟨keep p.1 p.2 ne nf nch e n, free p.1 p.2 nch e n, ne, nf, d⟩
/-- .. where the frame's own object is kept too -/
theorem Inv.un {t' : Nat} (I : Inv X pins σ H s) (u : Un X.fs [] H H' s.heap h') (hok : HOk X.prog X.w H' h') : Inv X pins σ H' { s with heap := h', toks := t' } := by
  obtain ⟨m, ⟨o, es, ep, ho, r⟩, _⟩ := id I.loc
  obtain ⟨sl, hL⟩ := u.any ho I.free (by simp)
  exact I.step (g' := s.gens) (d' := s.drawn) (ch := []) (fun _ z => nomatch z) (fun b o _ hb _ e n => u.keep b o e n hb (by simp)) (fun b o _ hb _ e n => u.slot b o e n hb (by simp)) (fun b o _ e n => u.free b o e n (by simp)) (fun b o _ e => u.there b o e (by simp)) u.tups u.frzs u.tbls (fun m' hm => by
    obtain ⟨o', es', ep', ho', r'⟩ := hm
    rw [ho] at ho'; cases ho'
    exact ⟨_, es', ep', hL, r'⟩) hok I.bare
/-- behind a call (or a comprehension's block): the slots of this frame may have changed too, the records at ch may have turned -/
theorem Inv.call {g' : Array GenState} {t' : Nat} {d' : Drawn} {ch : List Addr} (I : Inv X pins σ H s) (u : Un (frs X.stack) ch H H' s.heap h') (hok : HOk X.prog X.w H' h') (hg : AllBare g')
    (hch : ∀ b ∈ ch, (b ∈ X.ex ∨ X.s₀.heap.objs.size ≤ b) ∧ b ≠ X.env.locals ∧ (∀ x c, X.env.cells.lookup x = some c → c ≠ b) ∧ ∀ p ∈ X.pn ++ pins, p.1 ≠ b) :
    Inv X pins σ H' { s with heap := h', gens := g', drawn := d', toks := t' } := by
  obtain ⟨m, ⟨o, es, ep, ho, r⟩, _⟩ := id I.loc
  obtain ⟨sl, hL⟩ := u.any ho I.free fun z => (hch _ z).2.1 rfl
  exact I.step (ch := ch) hch (fun b o hL hb hc e n => u.keep b o e n (fun z => (List.mem_cons.mp (I.stkSub b z)).elim hL hb) hc) (fun b o _ _ hc e n => u.any e n hc) (fun b o hc e n => u.free b o e n hc) (fun b o hc e => u.there b o e hc) u.tups u.frzs u.tbls (fun m' hm => by
    obtain ⟨o', es', ep', ho', r'⟩ := hm
    rw [ho] at ho'; cases ho'
    exact ⟨_, es', ep', hL, r'⟩) hok hg
/-- an untracked record of ours (an iterator) has turned -/
theorem Inv.turned {t' : Nat} {it : Addr} (I : Inv X pins σ H s) (k : ∀ b o, b ≠ it → s.heap.get? b = some o → h'.get? b = some o) (hn : H it = none) (hL : it ≠ X.env.locals)
    (h1 : it ∈ X.ex ∨ X.s₀.heap.objs.size ≤ it) (h2 : ∀ x c, X.env.cells.lookup x = some c → c ≠ it) (h3 : ∀ p ∈ X.pn ++ pins, p.1 ≠ it) : Inv X pins σ H { s with heap := h', toks := t' } := by
  have nit : ∀ b u, H b = some u → b ≠ it := fun b u e z => by rw [z, hn] at e; cases e
  refine I.step (g' := s.gens) (d' := s.drawn) (ch := [it]) (fun b hb => ?_) (fun b o _ _ hc e _ => k b o (fun z => hc (by simp [z])) e) (fun b o _ _ hc e _ => ⟨o.slots, k b o (fun z => hc (by simp [z])) e⟩) (fun _ _ _ _ n => n)
    (fun b o hc e => ⟨o, k b o (fun z => hc (by simp [z])) e⟩) (fun _ _ e => e) (fun _ _ _ e => e) (fun b ps e => ⟨#[], by rw [e]; simp⟩) (fun m hm => ?_) (fun b u e => ?_) I.bare
  · have e : b = it := by simpa using hb
    subst e
    exact ⟨h1, hL, h2, h3⟩
  · obtain ⟨o, es, ep, ho, r⟩ := hm
    exact ⟨o, es, ep, k _ o (Ne.symm hL) ho, r⟩
  · refine (I.hok b u e).stay (fun c v hc q => k c v ?_ q) (fun _ q => q) fun _ _ q => q
    rcases hc with z | z
    · rw [z]; exact nit b u e
    · exact nit c _ z
theorem Inv.tok (I : Inv X pins σ H s) (t : Nat) : Inv X pins σ H { s with toks := t } := I.un (h' := s.heap) (t' := t) Un.refl I.hok
/-- all objects kept -/
theorem Inv.kept {t' : Nat} (I : Inv X pins σ H s) (k : ∀ b u, s.heap.get? b = some u → h'.get? b = some u) : Inv X pins σ H { s with heap := h', toks := t' } := I.un (Un.kept k) (I.hok.kept k)
/-- a new object laid and tracked -/
theorem Inv.laid {a : Addr} {o : HO} {t' : Nat} (I : Inv X pins σ H s) (k : ∀ b u, s.heap.get? b = some u → h'.get? b = some u) (hp : s.heap.objs.size ≤ a) (new : ObjOk X.prog X.w (upd H a o) h' a o) :
    Inv X pins σ (upd H a o) { s with heap := h', toks := t' } := I.un (Un.laid k hp (I.hok.fresh hp)) (I.hok.laid k hp new)
/-- an object written -/
theorem Inv.write {x e : Addr} {o : HO} {t' : Nat} (I : Inv X pins σ H s) (mu : Mut (H x)) (he : e = x ∨ H e = some (.own x)) (k : ∀ b u, b ≠ e → s.heap.get? b = some u → h'.get? b = some u) (heo : ∃ u, h'.get? e = some u)
    (new : ObjOk X.prog X.w (upd H x o) h' x o) : Inv X pins σ (upd H x o) { s with heap := h', toks := t' } := I.un (Un.write mu he k heo) (I.hok.write mu he k heo new)
/-- forgetting slots, pins -/
theorem Inv.weak {σ' : List (Option V)} (I : Inv X pins σ H s) (hl : σ'.length = σ.length) (w : ∀ (i : Nat) v, σ'[i]? = some (some v) → σ[i]? = some (some v)) : Inv X pins σ' H s :=
  ⟨I.ok, I.os, I.bare, I.base, let ⟨m, hn, hl'⟩ := I.loc; ⟨m, hn, fun i x v e1 e2 e3 => hl' i x v e1 (w i v e2) e3⟩, I.cell, I.free, I.freeC, I.pin, I.hok, hl.trans I.len⟩
theorem Inv.pins_of {pins' : List (Addr × Obj)} (I : Inv X pins σ H s) (h : ∀ p ∈ pins', s.heap.get? p.1 = some p.2 ∧ H p.1 = none ∧ p.1 ≠ X.env.locals ∧ p.1 ∉ X.fs ∧ ∀ v, p.2.data ≠ .cell v) : Inv X pins' σ H s :=
  ⟨I.ok, I.os, I.bare, I.base, I.loc, I.cell, I.free, I.freeC, fun p hp => (List.mem_append.mp hp).elim (fun z => I.pin p (List.mem_append_left _ z)) (h p), I.hok, I.len⟩

theorem nodup_ix {N : List Str} (hN : N.Nodup) {i j : Nat} {x : Str} (a : N[i]? = some x) (b : N[j]? = some x) : i = j := by
  obtain ⟨h1, e1⟩ := List.getElem?_eq_some_iff.mp a
  obtain ⟨h2, e2⟩ := List.getElem?_eq_some_iff.mp b
  exact (List.getElem_inj hN).mp (e1.trans e2.symm)

/-- a name is stored; what changed -/
theorem store_ok2 {M : Model} {A : Around} {E : Value → Shared → Prop} {i : Nat} {x : Str} {v : V} {u : Value} {Q : Unit → Shared → Prop} (I : Inv X pins σ H s) (hN : X.N.Nodup) (hi : X.N[i]? = some x) (hx : Loc X.env.scope x) (r : RelV v u)
    (h : ∀ s', Inv X pins (σ.set i (some v)) H s' → (∃ a, Heap.SameBut a s.heap s'.heap ∧ (a = X.env.locals ∨ X.env.cells.lookup x = some a)) → Q () s') (hf : X.fn x = true ∨ X.env.scope.names.lookup x = some .local := by first | exact .inl rfl | exact .inr rfl | assumption) : wpAny M A (storeName X.env x u) Q E s := by
  obtain ⟨m, hn, hl⟩ := id I.loc
  have hcls : (X.env.scope.kind == .class || (X.env.scope.kind == .module && X.env.locals != X.env.globals)) = false := by rw [I.ok.kind]; rfl
  have hiσ : i < σ.length := by rw [I.len]; exact (List.getElem?_eq_some_iff.mp hi).1
  have cne := I.cne
  have tracked : ∀ {a : Addr} {h' : Heap}, (∃ o, s.heap.get? a = some o ∧ H a = none) → Heap.SameBut a s.heap h' → HOk X.prog X.w H h' := fun {a h'} ha hs b ob e => by
    obtain ⟨_, _, hfree⟩ := ha
    refine (I.hok b ob e).stay (fun c w' hc q => (hs.2 c ?_).trans q) (fun _ q => q) fun _ _ q => q
    rintro rfl
    rcases hc with rfl | hc
    · rw [hfree] at e; cases e
    · rw [hfree] at hc; cases hc
  rcases hx with hk | hk
  · refine wpAny_storeName_local hk hn (fun h' hn' hs => ?_) hcls
    obtain ⟨oL, _, _, hoL, _⟩ := id hn
    refine h _ ⟨I.ok, I.os, I.bare, ⟨fun b o e n hb hx => ?_, fun b o e n hb hx => ?_, I.base.free, fun b o e hx => ?_, I.base.tups, I.base.frzs, I.base.tbls⟩, ⟨_, hn', fun j y v' e1 e2 e3 => ?_⟩, fun y c e => ?_, I.free, I.freeC, fun p hp => ?_, tracked ⟨oL, hoL, I.free⟩ hs, by simpa using I.len⟩ ⟨_, hs, .inl rfl⟩
    · exact (hs.2 b (Nat.ne_of_lt (Nat.lt_of_lt_of_le (Heap.lt_size e) I.ok.above))).trans (I.base.keep b o e n hb hx)
    · obtain ⟨sl, e1⟩ := I.base.slot b o e n hb hx
      exact ⟨sl, (hs.2 b (Nat.ne_of_lt (Nat.lt_of_lt_of_le (Heap.lt_size e) I.ok.above))).trans e1⟩
    · obtain ⟨o', e1⟩ := I.base.there b o e hx
      exact ⟨o', (hs.2 b (Nat.ne_of_lt (Nat.lt_of_lt_of_le (Heap.lt_size e) I.ok.above))).trans e1⟩
    · by_cases hj : j = i
      · subst hj
        rw [hi] at e1; cases e1
        rw [List.getElem?_set_self hiσ] at e2
        cases e2
        exact ⟨u, r, .inl ⟨hk, by simp⟩⟩
      · rw [List.getElem?_set_ne (Ne.symm hj)] at e2
        obtain ⟨u', r', q⟩ := hl j y v' e1 e2 e3
        refine ⟨u', r', ?_⟩
        rcases q with ⟨k, e⟩ | ⟨k, c, e, z⟩
        · refine .inl ⟨k, ?_⟩
          have : y ≠ x := fun e => hj (nodup_ix hN e1 (e ▸ hi))
          simp [this, e]
        · exact .inr ⟨k, c, e, z.sameBut hs (cne y c e)⟩
    · obtain ⟨w', z⟩ := I.cell y c e
      exact ⟨w', z.sameBut hs (cne y c e)⟩
    · obtain ⟨e, n, ne, nf, d⟩ := I.pin p hp
      exact ⟨(hs.2 p.1 ne).trans e, n, ne, nf, d⟩
  · have hfn : X.fn x = true := by
      rcases hf with z | z
      · exact z
      · rw [z] at hk; cases hk
    obtain ⟨c, hc⟩ := I.ok.has x (.inl hk)
    obtain ⟨w', z⟩ := I.cell x c hc
    refine wpAny_storeName_cell I.ok.kind hk hc z (fun h' hc' hs => ?_)
    obtain ⟨oc, hoc, hocd⟩ := id z
    refine h { s with heap := h' } ⟨I.ok, I.os, I.bare, ⟨fun b o e n hb hx => ?_, fun b o e n hb hx => ?_, I.base.free, fun b o e hx => ?_, I.base.tups, I.base.frzs, I.base.tbls⟩, ⟨m, hn.sameBut hs (Ne.symm (cne x c hc)), fun j y v' e1 e2 e3 => ?_⟩, fun y c' e => ?_, I.free, I.freeC, fun p hp => ?_, tracked ⟨oc, hoc, I.freeC x c hc⟩ hs, by simpa using I.len⟩ ⟨c, hs, .inr hc⟩
    · exact (hs.2 b (Nat.ne_of_lt (Nat.lt_of_lt_of_le (Heap.lt_size e) (I.ok.cab x c hfn hc)))).trans (I.base.keep b o e n hb hx)
    · obtain ⟨sl, e1⟩ := I.base.slot b o e n hb hx
      exact ⟨sl, (hs.2 b (Nat.ne_of_lt (Nat.lt_of_lt_of_le (Heap.lt_size e) (I.ok.cab x c hfn hc)))).trans e1⟩
    · obtain ⟨o', e1⟩ := I.base.there b o e hx
      exact ⟨o', (hs.2 b (Nat.ne_of_lt (Nat.lt_of_lt_of_le (Heap.lt_size e) (I.ok.cab x c hfn hc)))).trans e1⟩
    · by_cases hj : j = i
      · subst hj
        rw [hi] at e1; cases e1
        rw [List.getElem?_set_self hiσ] at e2
        cases e2
        exact ⟨u, r, .inr ⟨.inl hk, c, hc, hc'⟩⟩
      · rw [List.getElem?_set_ne (Ne.symm hj)] at e2
        obtain ⟨u', r', q⟩ := hl j y v' e1 e2 e3
        refine ⟨u', r', ?_⟩
        rcases q with q | ⟨k, c', e, z'⟩
        · exact .inl q
        · refine .inr ⟨k, c', e, z'.sameBut hs ?_⟩
          rintro rfl
          exact hj (nodup_ix hN e1 (I.ok.inj _ _ _ e hc ▸ hi))
    · by_cases hcc : c' = c
      · subst hcc; exact ⟨_, hc'⟩
      · obtain ⟨w2, z2⟩ := I.cell y c' e
        exact ⟨w2, z2.sameBut hs hcc⟩
    · obtain ⟨e, n, ne, nf, d⟩ := I.pin p hp
      refine ⟨(hs.2 p.1 ?_).trans e, n, ne, nf, d⟩
      intro q
      rw [q, hoc] at e
      have q' : oc = p.2 := Option.some.inj e
      exact d w' (by rw [← q']; exact hocd)
theorem store_ok {M : Model} {A : Around} {E : Value → Shared → Prop} {i : Nat} {x : Str} {v : V} {u : Value} {Q : Unit → Shared → Prop} (I : Inv X pins σ H s) (hN : X.N.Nodup) (hi : X.N[i]? = some x) (hx : Loc X.env.scope x) (r : RelV v u)
    (h : ∀ s', Inv X pins (σ.set i (some v)) H s' → Q () s') (hf : X.fn x = true ∨ X.env.scope.names.lookup x = some .local := by first | exact .inl rfl | exact .inr rfl | assumption) : wpAny M A (storeName X.env x u) Q E s :=
  store_ok2 I hN hi hx r (fun s' I' _ => h s' I') hf
/-- behind a call or a block, the state as it is -/
theorem Inv.call' {s' : Shared} {ch : List Addr} (I : Inv X pins σ H s) (ho : s'.os = s.os) (u : Un (frs X.stack) ch H H' s.heap s'.heap) (hok : HOk X.prog X.w H' s'.heap) (hg : AllBare s'.gens)
    (hch : ∀ b ∈ ch, (b ∈ X.ex ∨ X.s₀.heap.objs.size ≤ b) ∧ b ≠ X.env.locals ∧ (∀ x c, X.env.cells.lookup x = some c → c ≠ b) ∧ ∀ p ∈ X.pn ++ pins, p.1 ≠ b) : Inv X pins σ H' s' := by
  obtain ⟨h', g', d', t', o'⟩ := s'
  have e : o' = s.os := ho
  subst e
  exact I.call (g' := g') (t' := t') (d' := d') u hok hg hch
end

/-! ### the judgements -/
/-- an exception: its class, its own dict's address (where it has one), the abstract heap behind it -/
abbrev XK := Value → Option Addr → Hp → Prop
abbrev St := List (Option V)
abbrev VK := V → Hp → Prop
/-- an expression's reading; a test's; an argument list's -/
abbrev TE := St → Hp → VK → Prop
abbrev TT := St → Hp → (Bool → Hp → Prop) → Prop
abbrev TA := St → Hp → (List V → Hp → Prop) → Prop
/-- what is wanted behind a statement -/
structure Ends where
  nx : St → Hp → Prop
  rt : VK
  bk : St → Hp → Prop := fun _ _ => False
  ct : St → Hp → Prop := fun _ _ => False
abbrev TS := Ends → St → Hp → Prop

def EP (X : Cx) (pins : List (Addr × Obj)) (σ : St) (Q : VK) (u : Value) (s' : Shared) : Prop := ∃ v H', Inv X pins σ H' s' ∧ RelV v u ∧ Q v H'
def TP (X : Cx) (pins : List (Addr × Obj)) (σ : St) (Q : Bool → Hp → Prop) (b : Bool) (s' : Shared) : Prop := ∃ H', Inv X pins σ H' s' ∧ Q b H'
def AP (X : Cx) (pins : List (Addr × Obj)) (σ : St) (Q : List V → Hp → Prop) (us : List Value) (s' : Shared) : Prop := ∃ vs H', Inv X pins σ H' s' ∧ Vals vs us ∧ Q vs H'
def SP (X : Cx) (pins : List (Addr × Obj)) (D : Ends) (f : Flow) (s' : Shared) : Prop :=
  match f with
  | .next => ∃ σ' H', Inv X pins σ' H' s' ∧ D.nx σ' H'
  | .brk => ∃ σ' H', Inv X pins σ' H' s' ∧ D.bk σ' H'
  | .cont => ∃ σ' H', Inv X pins σ' H' s' ∧ D.ct σ' H'
  | .ret u => ∃ v σ' H', Inv X pins σ' H' s' ∧ RelV v u ∧ D.rt v H'

def PE (X : Cx) (e : Expr) (t : TE) : Prop :=
  ∀ (pins : List (Addr × Obj)) (s : Shared) (σ : St) (H : Hp) (Q : VK), Inv X pins σ H s → t σ H Q → wpAny (model X.prog X.w) X.A (eval e X.env) (EP X pins σ Q) X.xe s
def PT (X : Cx) (e : Expr) (t : TT) : Prop :=
  ∀ (pins : List (Addr × Obj)) (s : Shared) (σ : St) (H : Hp) (Q : Bool → Hp → Prop), Inv X pins σ H s → t σ H Q → wpAny (model X.prog X.w) X.A (isTrue e X.env (eval e X.env)) (TP X pins σ Q) X.xe s
/-- a test whatever its 'whole' is (and, or) -/
def PW (X : Cx) (e : Expr) (t : TT) : Prop :=
  ∀ (whole : Sem Value) (pins : List (Addr × Obj)) (s : Shared) (σ : St) (H : Hp) (Q : Bool → Hp → Prop), Inv X pins σ H s → t σ H Q → wpAny (model X.prog X.w) X.A (isTrue e X.env whole) (TP X pins σ Q) X.xe s
theorem PW.pt {X : Cx} {e : Expr} {t : TT} (h : PW X e t) : PT X e t := h _
/-- an argument list (no star), from the left -/
def PA (X : Cx) (es : List Expr) (t : TA) : Prop :=
  ∀ (pos : Pos) (pins : List (Addr × Obj)) (s : Shared) (σ : St) (H : Hp) (Q : List V → Hp → Prop), Inv X pins σ H s → t σ H Q → wpAny (model X.prog X.w) X.A (spliced (backTo pos (starEach es X.env))) (AP X pins σ Q) X.xe s
def PS (X : Cx) (st : Stmt) (t : TS) : Prop :=
  ∀ (pins : List (Addr × Obj)) (s : Shared) (σ : St) (H : Hp) (D : Ends), Inv X pins σ H s → t D σ H → wpAny (model X.prog X.w) X.A (exec st X.env) (SP X pins D) X.xe s
def PSs (X : Cx) (st : List Stmt) (t : TS) : Prop :=
  ∀ (pins : List (Addr × Obj)) (s : Shared) (σ : St) (H : Hp) (D : Ends), Inv X pins σ H s → t D σ H → wpAny (model X.prog X.w) X.A (execs st X.env) (SP X pins D) X.xe s
/-- weaken the end -/
theorem thn {α : Type} {t : Sem α} {Q Q' : α → Shared → Prop} {M : Model} {A : Around} {E : Value → Shared → Prop} {s : Shared} (h : wpAny M A t Q E s) (hQ : ∀ a s, Q a s → Q' a s) : wpAny M A t Q' E s := wpAny_mono h hQ fun _ _ x => x
end L2

namespace L2
open PySem PySem.Spec PyProof.Rows
section
variable {X : Cx}

/-! ### names and constants -/
def tVar (i : Nat) : TE := fun σ H Q => ∃ v, σ[i]? = some (some v) ∧ Q v H
def tC (v : V) : TE := fun _ H Q => Q v H
theorem pe_var {i : Nat} {x : Str} {pos : Pos} (hN : X.N[i]? = some x) (hv : Vis X.env.scope x) (hd : (x == ("__debug__" : Str)) = false := by decide) (hcd : (x == ("__classdict__" : Str)) = false := by decide) : PE X (.Name x pos) (tVar i) := by
  intro pins s σ H Q I h
  obtain ⟨v, e, h⟩ := h
  obtain ⟨m, hn, hl⟩ := I.loc
  obtain ⟨u, r, l⟩ := hl i x v hN e hv
  have fin : EP X pins σ Q u s := ⟨v, H, I, r, h⟩
  rcases l with ⟨hk, hm⟩ | ⟨hk, c, hc, hcell⟩
  · exact wpAny_Name (wpAny_loadName_local I.ok.kind hk hn hm fin) hd
  · rcases hk with hk | hk
    · exact wpAny_Name (wpAny_loadName_cell I.ok.kind hk hc hcell fin) hd
    · exact wpAny_Name (wpAny_loadName_free I.ok.kind hk hc hcell fin hcd) hd
theorem pe_int {i j pos} : PE X (.Constant (.int i) j pos) (tC (.int i)) := fun _ _ _ H _ I h => wpAny_Constant_int ⟨.int i, H, I.tok _, ⟨_, rfl⟩, h⟩
theorem pe_bl {b j pos} : PE X (.Constant (.bool b) j pos) (tC (.bl b)) := fun _ _ _ H _ I h => Constant_bool ⟨.bl b, H, I, rfl, h⟩
theorem pe_str {x j pos} : PE X (.Constant (.str x) j pos) (tC (.str x)) := fun _ _ _ H _ I h => Calls.Constant_str ⟨.str x, H, I.tok _, ⟨_, rfl⟩, h⟩

/-- a global name of the def -/
def Gl (X : Cx) (x : Str) : Prop := X.env.kindOf x = some .globalImplicit
theorem ld_glob {E : Value → Shared → Prop} {pins : List (Addr × Obj)} {s : Shared} {σ : St} {H : Hp} {x : Str} {u : Value} {pos : Pos} {Q : Value → Shared → Prop} (I : Inv X pins σ H s) (hg : Gl X x) (hm : X.mg x = some u) (h : Q u s)
    (hd : (x == ("__debug__" : Str)) = false := by decide) : wpAny (model X.prog X.w) X.A (eval (.Name x pos) X.env) Q E s :=
  Calls.Name_function_global I.ok.kind hg (Calls.loadGlobal_global (by rw [I.ok.glob]; exact I.mod.glob.keeps I.bk) hm h) hd
theorem ld_blt {E : Value → Shared → Prop} {pins : List (Addr × Obj)} {s : Shared} {σ : St} {H : Hp} {x : Str} {u : Value} {pos : Pos} {Q : Value → Shared → Prop} (I : Inv X pins σ H s) (hg : Gl X x) (hm : X.mg x = none) (hv : bootBuiltins x = some u) (h : Q u s)
    (hn : x ≠ "__name__" := by decide) (hd : (x == ("__debug__" : Str)) = false := by decide) : wpAny (model X.prog X.w) X.A (eval (.Name x pos) X.env) Q E s := by
  obtain ⟨mb, h1, h2⟩ := I.mod.blt
  exact Calls.Name_function_global I.ok.kind hg (Calls.loadGlobal_builtin (by rw [I.ok.glob]; exact I.mod.glob.keeps I.bk) hm (by rw [I.ok.blt]; exact h1.keeps I.bk) ((h2 x hn).trans hv) h) hd
theorem pe_bltn {x : Str} {v : V} {u : Value} {pos : Pos} (hg : Gl X x) (hm : X.mg x = none) (hv : bootBuiltins x = some u) (r : RelV v u) (hn : x ≠ "__name__" := by decide) (hd : (x == ("__debug__" : Str)) = false := by decide) : PE X (.Name x pos) (tC v) :=
  fun _ _ _ H _ I h => ld_blt I hg hm hv ⟨v, H, I, r, h⟩ hn hd

/-! ### arithmetic -/
variable {a b : Expr} {ta tb : TE} {pos : Pos}
/-! ### comparisons -/
/-- a comparison as a value, as a test -/
def tB (t : TE) : TT := fun σ H Q => t σ H fun x H1 => ∃ c, x = .bl c ∧ Q c H1
/-- an expression whose value is a bool, as a test -/
theorem pt_val {e : Expr} {t : TE} (h : PE X e t) (he : ∀ whole, isTrue e X.env whole = (do let v ← whole; standAt e.pos; holding [v] (truthy v)) := by intro _; rfl) : PT X e (tB t) := by
  intro pins s σ H Q I hw
  refine isTrue_plain (thn (h pins s σ H _ I hw) ?_) (he _)
  rintro v s1 ⟨x, H1, I1, r1, q1⟩
  obtain ⟨d, rfl, q⟩ := q1
  cases r1
  exact wpAny_truthy_bool ⟨H1, I1, q⟩

/-! ### and, or, not -/
variable {tA tB' : TT} {rest : List Expr}
def tAnd (t u : TT) : TT := fun σ H Q => t σ H fun c H1 => if c = true then u σ H1 Q else Q false H1
def tOr (t u : TT) : TT := fun σ H Q => t σ H fun c H1 => if c = true then Q true H1 else u σ H1 Q
def tNot (t : TT) : TT := fun σ H Q => t σ H fun c H1 => Q (!c) H1
theorem pw_and1 (ha : PT X a tA) : PW X (.BoolOp .And [a] pos) tA := by
  intro wh pins s σ H Q I h
  refine isTrue_and (thn (ha pins s σ H Q I h) fun c s1 e => ?_)
  cases c with
  | true => exact isTrue_and_nil e
  | false => exact e
theorem pw_or1 (ha : PT X a tA) : PW X (.BoolOp .Or [a] pos) tA := by
  intro wh pins s σ H Q I h
  refine isTrue_or (thn (ha pins s σ H Q I h) fun c s1 e => ?_)
  cases c with
  | false => exact isTrue_or_nil e
  | true => exact e
theorem pw_and (ha : PT X a tA) (hb : PW X (.BoolOp .And (b :: rest) pos) tB') : PW X (.BoolOp .And (a :: b :: rest) pos) (tAnd tA tB') := by
  intro wh pins s σ H Q I h
  refine isTrue_and (thn (ha pins s σ H _ I h) ?_)
  rintro c s1 ⟨H1, I1, q1⟩
  cases c with
  | true => exact hb wh pins s1 σ H1 Q I1 q1
  | false => exact ⟨H1, I1, q1⟩
theorem pw_or (ha : PT X a tA) (hb : PW X (.BoolOp .Or (b :: rest) pos) tB') : PW X (.BoolOp .Or (a :: b :: rest) pos) (tOr tA tB') := by
  intro wh pins s σ H Q I h
  refine isTrue_or (thn (ha pins s σ H _ I h) ?_)
  rintro c s1 ⟨H1, I1, q1⟩
  cases c with
  | true => exact ⟨H1, I1, q1⟩
  | false => exact hb wh pins s1 σ H1 Q I1 q1
theorem pt_not (ha : PT X a tA) : PT X (.UnaryOp .Not a pos) (tNot tA) := by
  intro pins s σ H Q I h
  exact isTrue_not (ha pins s σ H (fun c H1 => Q (!c) H1) I h)
/-- .. as values (bools) -/
def tAndV (ta tb : TE) : TE := fun σ H Q => ta σ H fun x H1 => ∃ c, x = .bl c ∧ if c = true then tb σ H1 Q else Q (.bl false) H1
def tOrV (ta tb : TE) : TE := fun σ H Q => ta σ H fun x H1 => ∃ c, x = .bl c ∧ if c = true then Q (.bl true) H1 else tb σ H1 Q
theorem pe_one {op} {t : TE} (h : PE X a t) : PE X (.BoolOp op [a] pos) t := fun pins s σ H Q I hw => BoolOp_one (h pins s σ H Q I hw)
theorem pe_and (ha : PE X a ta) (hb : PE X (.BoolOp .And (b :: rest) pos) tb) : PE X (.BoolOp .And (a :: b :: rest) pos) (tAndV ta tb) := by
  intro pins s σ H Q I h
  refine BoolOp_and (thn (ha pins s σ H _ I h) ?_)
  rintro v s1 ⟨x, H1, I1, r1, q1⟩
  obtain ⟨c, rfl, q1⟩ := q1
  cases r1
  refine wpAny_truthy_bool ?_
  cases c with
  | true => exact hb pins s1 σ H1 Q I1 q1
  | false => exact ⟨.bl false, H1, I1, rfl, q1⟩
theorem pe_or (ha : PE X a ta) (hb : PE X (.BoolOp .Or (b :: rest) pos) tb) : PE X (.BoolOp .Or (a :: b :: rest) pos) (tOrV ta tb) := by
  intro pins s σ H Q I h
  refine BoolOp_or (thn (ha pins s σ H _ I h) ?_)
  rintro v s1 ⟨x, H1, I1, r1, q1⟩
  obtain ⟨c, rfl, q1⟩ := q1
  cases r1
  refine wpAny_truthy_bool ?_
  cases c with
  | false => exact hb pins s1 σ H1 Q I1 q1
  | true => exact ⟨.bl true, H1, I1, rfl, q1⟩
end
end L2

namespace L2
open PySem PySem.Spec PyProof.Rows

/-! ### a list, a tuple that is read: tracked, frozen, or an object of the module -/
def SqL (K : PySem.W.Frag) (H : Hp) (a : Addr) (xs : List V) : Prop :=
  Rd H a (.lst xs) ∨
    ∃ (o : Obj) (its : Array Value) (n : Nat), K.lookup a = some o ∧ o.cls = .type "list" ∧ o.dict = none ∧ o.data = .seq its n ∧ its.size ≤ sizeLine ∧ Vals xs its.toList
def SqT (K : PySem.W.Frag) (H : Hp) (a : Addr) (xs : List V) : Prop :=
  Rd H a (.tup xs) ∨
    ∃ (o : Obj) (its : Array Value) (n : Nat), K.lookup a = some o ∧ o.cls = .type "tuple" ∧ o.data = .seq its n ∧ its.size ≤ sizeLine ∧ Vals xs its.toList
def absV : Value → Option V
  | .none => some .non
  | .bool b => some (.bl b)
  | .int i _ => some (.int i)
  | .str x _ => some (.str x)
  | .bytes b _ => some (.byt b)
  | .float b _ => some (.flt b)
  | .ref a => some (.ref a)
  | .type n => some (.ty n)
  | _ => none
theorem RelV.abs {x : V} {u : Value} (r : RelV x u) : absV u = some x := by
  cases x with
  | non => cases r; rfl
  | bl _ => cases r; rfl
  | int _ => obtain ⟨t, rfl⟩ := r; rfl
  | str _ => obtain ⟨t, rfl⟩ := r; rfl
  | byt _ => obtain ⟨t, rfl⟩ := r; rfl
  | flt _ => obtain ⟨t, rfl⟩ := r; rfl
  | ref _ => cases r; rfl
  | ty _ => cases r; rfl
theorem RelV.inj {x y : V} {u : Value} (r : RelV x u) (q : RelV y u) : x = y := Option.some.inj (r.abs.symm.trans q.abs)
theorem Vals.inj : ∀ {xs ys : List V} {us : List Value}, Vals xs us → Vals ys us → xs = ys
  | _, _, _, .nil, .nil => rfl
  | _, _, _, .cons r t, .cons r' t' => by rw [r.inj r', Vals.inj t t']
section
variable {X : Cx} {pins : List (Addr × Obj)} {σ : St} {H : Hp} {s : Shared} {a : Addr} {xs ys : List V}
theorem SqL.of {K : PySem.W.Frag} (h : H a = some (.lst xs)) : SqL K H a xs := .inl (.inl h)
theorem SqT.of {K : PySem.W.Frag} (h : H a = some (.tup xs)) : SqT K H a xs := .inl (.inl h)
theorem Inv.list (I : Inv X pins σ H s) (h : SqL X.K H a xs) : ∃ its : List Value, Vals xs its ∧ PlainL s.heap a its.toArray ∧ xs.length ≤ sizeLine := by
  rcases h with h | ⟨o, its, n, hk, hc, hd, hs, hz, r⟩
  · obtain ⟨z, its, n, r, e⟩ := h.ok I.hok
    exact ⟨its, r, ⟨_, n, e, rfl, rfl, rfl⟩, z⟩
  · refine ⟨its.toList, r, ⟨o, n, I.kIn a o hk, hc, hd, by simpa using hs⟩, ?_⟩
    have e := r.length
    simp only [Array.length_toList] at e
    omega
theorem Inv.tuple (I : Inv X pins σ H s) (h : SqT X.K H a xs) : ∃ its : List Value, Vals xs its ∧ IsTup s.heap a its.toArray ∧ xs.length ≤ sizeLine := by
  rcases h with h | ⟨o, its, n, hk, hc, hs, hz, r⟩
  · obtain ⟨z, its, r, p⟩ := h.ok I.hok
    exact ⟨its, r, p, z⟩
  · refine ⟨its.toList, r, ⟨o, I.kIn a o hk, hc, n, by simpa using hs⟩, ?_⟩
    have e := r.length
    simp only [Array.length_toList] at e
    omega
theorem Inv.list_inj (I : Inv X pins σ H s) (h : SqL X.K H a xs) (h' : SqL X.K H a ys) : xs = ys := by
  obtain ⟨its, r, ⟨o, n, e, _, _, d⟩, _⟩ := I.list h
  obtain ⟨its', r', ⟨o', n', e', _, _, d'⟩, _⟩ := I.list h'
  rw [e] at e'; cases e'
  rw [d] at d'
  injection d' with d1 _
  have : its = its' := by simpa using congrArg Array.toList d1
  subst this
  exact r.inj r'
theorem Inv.tuple_inj (I : Inv X pins σ H s) (h : SqT X.K H a xs) (h' : SqT X.K H a ys) : xs = ys := by
  obtain ⟨its, r, ⟨o, e, _, n, d⟩, _⟩ := I.tuple h
  obtain ⟨its', r', ⟨o', e', _, n', d'⟩, _⟩ := I.tuple h'
  rw [e] at e'; cases e'
  rw [d] at d'
  injection d' with d1 _
  have : its = its' := by simpa using congrArg Array.toList d1
  subst this
  exact r.inj r'
end

/-! ### another wish about exceptions -/
abbrev Cx.wish (X : Cx) (E : Value → Shared → Prop) : Cx := { X with xe := E }
/-- no exception leaves -/
abbrev Cx.nox (X : Cx) : Cx := X.wish fun _ _ => False
theorem Cx.Ok.wish {X : Cx} (ok : X.Ok) (E : Value → Shared → Prop) : (X.wish E).Ok :=
  ⟨ok.mod, ok.kind, ok.glob, ok.blt, ok.above, ok.inj, ok.has, ok.cab, ok.hd, ok.frames, ok.stk, ok.exf, ok.bs, ok.bsz, ok.noex, ok.exfs, ok.funs, ok.frf⟩
theorem Cx.Ok.unwish {X : Cx} {E : Value → Shared → Prop} (ok : (X.wish E).Ok) : X.Ok :=
  ⟨ok.mod, ok.kind, ok.glob, ok.blt, ok.above, ok.inj, ok.has, ok.cab, ok.hd, ok.frames, ok.stk, ok.exf, ok.bs, ok.bsz, ok.noex, ok.exfs, ok.funs, ok.frf⟩
section
variable {X : Cx} {pins : List (Addr × Obj)} {σ : St} {H : Hp} {s : Shared} {E : Value → Shared → Prop}
theorem Inv.wish (I : Inv X pins σ H s) (E : Value → Shared → Prop) : Inv (X.wish E) pins σ H s := ⟨I.ok.wish E, I.os, I.bare, I.base, I.loc, I.cell, I.free, I.freeC, I.pin, I.hok, I.len⟩
theorem Inv.unwish (I : Inv (X.wish E) pins σ H s) : Inv X pins σ H s := ⟨I.ok.unwish, I.os, I.bare, I.base, I.loc, I.cell, I.free, I.freeC, I.pin, I.hok, I.len⟩
theorem SP.unwish {D : Ends} {f : Flow} {s' : Shared} (h : SP (X.wish E) pins D f s') : SP X pins D f s' := by
  cases f with
  | next => obtain ⟨σ', H', I, q⟩ := h; exact ⟨σ', H', I.unwish, q⟩
  | brk => obtain ⟨σ', H', I, q⟩ := h; exact ⟨σ', H', I.unwish, q⟩
  | cont => obtain ⟨σ', H', I, q⟩ := h; exact ⟨σ', H', I.unwish, q⟩
  | ret u => obtain ⟨v, σ', H', I, r, q⟩ := h; exact ⟨v, σ', H', I.unwish, r, q⟩
theorem PSs.nox {st : List Stmt} {t : TS} (h : PSs X.nox st t) : PSs X st t := fun pins s σ H D I hw =>
  wpAny_mono (h pins s σ H D (I.wish _) hw) (fun _ _ q => q.unwish) fun _ _ z => False.elim z
end

/-! ### blocks and small statements -/
section
variable {X : Cx} {st : Stmt} {rest : List Stmt} {t u : TS} {e : Expr} {te : TE} {pos : Pos}
def tNext : TS := fun D σ H => D.nx σ H
def tSeq (t u : TS) : TS := fun D σ H => t { D with nx := u D } σ H
theorem pss_nil : PSs X [] tNext := fun _ _ σ H _ I h => wpAny_execs_nil ⟨σ, H, I, h⟩
theorem pss_cons (h1 : PS X st t) (h2 : PSs X rest u) : PSs X (st :: rest) (tSeq t u) := by
  intro pins s σ H D I h
  refine wpAny_execs_cons (thn (h1 pins s σ H { D with nx := u D } I h) fun f s1 q => ?_)
  cases f with
  | next =>
    obtain ⟨σ', H', I', q⟩ := q
    exact h2 pins s1 σ' H' D I' q
  | ret v => exact q
  | brk => exact q
  | cont => exact q
theorem pss_one (h1 : PS X st t) : PSs X [st] t := by
  intro pins s σ H D I h
  refine wpAny_execs_cons (thn (h1 pins s σ H D I h) fun f s1 q => ?_)
  cases f with
  | next => exact wpAny_execs_nil q
  | ret v => exact q
  | brk => exact q
  | cont => exact q
/-- in a def's body nothing is shown -/
theorem Inv.quiet {pins : List (Addr × Obj)} {σ : St} {H : Hp} {s : Shared} (I : Inv X pins σ H s) : interactive X.env = false := by simp [interactive, I.ok.kind]
/-- an expression whose value is dropped -/
def tDrop (te : TE) : TS := fun D σ H => te σ H fun _ H1 => D.nx σ H1
theorem ps_expr (he : PE X e te) (hs : swapsWith e none pos.line X.env = pure false := by rfl) : PS X (.Expr e pos) (tDrop te) := by
  intro pins s σ H D I h
  exact wpAny_Expr_any (thn (he pins s σ H _ I h) (by rintro v s1 ⟨x, H1, I1, r1, q1⟩; exact ⟨σ, H1, I1, q1⟩)) I.quiet hs
def tRet (te : TE) : TS := fun D σ H => te σ H D.rt
theorem ps_ret (he : PE X e te) : PS X (.Return (some e) pos) (tRet te) := by
  intro pins s σ H D I h
  exact wpAny_Return_some (thn (he pins s σ H _ I h) (by rintro v s1 ⟨x, H1, I1, r1, q1⟩; exact ⟨x, σ, H1, I1, r1, q1⟩))
def tIfS (c : TT) (t u : TS) : TS := fun D σ H => c σ H fun b H1 => if b = true then t D σ H1 else u D σ H1
theorem ps_if {c : Expr} {a b : List Stmt} {tc : TT} (hc : PT X c tc) (ha : PSs X a t) (hb : PSs X b u) : PS X (.If c a b pos) (tIfS tc t u) := by
  intro pins s σ H D I h
  refine wpAny_If (thn (hc pins s σ H _ I h) ?_)
  rintro d s1 ⟨H1, I1, q1⟩
  cases d with
  | true => exact ha pins s1 σ H1 D I1 q1
  | false => exact hb pins s1 σ H1 D I1 q1
/-- code that the proof never comes to -/
def tNever : TS := fun _ _ _ => False
theorem ps_never : PS X st tNever := fun _ _ _ _ _ _ h => h.elim
end

/-! ### targets -/
abbrev TG := V → St → Hp → (St → Hp → Prop) → Prop
abbrev TGs := List V → St → Hp → (St → Hp → Prop) → Prop
def PG (X : Cx) (target : Expr) (t : TG) : Prop :=
  ∀ (pins : List (Addr × Obj)) (s : Shared) (σ : St) (H : Hp) (v : V) (u : Value) (Q : St → Hp → Prop), Inv X pins σ H s → RelV v u → t v σ H Q →
    wpAny (model X.prog X.w) X.A (assign target X.env u) (fun _ s' => ∃ σ' H', Inv X pins σ' H' s' ∧ Q σ' H') X.xe s
/-- several targets, one after another -/
def PGs (X : Cx) (ts : List Expr) (t : TGs) : Prop :=
  ∀ (pins : List (Addr × Obj)) (s : Shared) (σ : St) (H : Hp) (vs : List V) (us : List Value) (Q : St → Hp → Prop), Inv X pins σ H s → Vals vs us → t vs σ H Q →
    wpAny (model X.prog X.w) X.A (assignInOrder ((assignEach ts X.env).map (·.2)) us) (fun _ s' => ∃ σ' H', Inv X pins σ' H' s' ∧ Q σ' H') X.xe s
section
variable {X : Cx} {pos : Pos}
def gName (i : Nat) : TG := fun v σ H Q => Q (σ.set i (some v)) H
theorem pg_name {i : Nat} {x : Str} (hN : X.N.Nodup) (hi : X.N[i]? = some x) (hx : Loc X.env.scope x) (hf : X.fn x = true ∨ X.env.scope.names.lookup x = some .local := by first | exact .inl rfl | exact .inr rfl | assumption) : PG X (.Name x pos) (gName i) := by
  intro pins s σ H v u Q I r h
  exact wpAny_assign_Name (store_ok I hN hi hx r (fun s' I' => ⟨_, H, I', h⟩) hf)
def gNil : TGs := fun vs σ H Q => vs = [] ∧ Q σ H
def gCons (t : TG) (u : TGs) : TGs := fun vs σ H Q => ∃ v r, vs = v :: r ∧ t v σ H fun σ' H' => u r σ' H' Q
theorem pgs_nil : PGs X [] gNil := by
  intro pins s σ H vs us Q I r h
  obtain ⟨e, h⟩ := h
  subst e
  cases r
  exact assignInOrder_nil ⟨σ, H, I, h⟩
theorem pgs_cons {e : Expr} {es : List Expr} {t : TG} {u : TGs} (h1 : PG X e t) (h2 : PGs X es u)
    (hs : (assignEach (e :: es) X.env).map (·.2) = assign e X.env :: (assignEach es X.env).map (·.2) := by rfl) : PGs X (e :: es) (gCons t u) := by
  intro pins s σ H vs us Q I r h
  obtain ⟨v, vr, e1, h⟩ := h
  subst e1
  cases r with
  | cons r rr =>
    rw [hs]
    refine assignInOrder_cons (thn (h1 pins s σ H _ _ _ I r h) ?_)
    rintro _ s1 ⟨σ1, H1, I1, q1⟩
    exact h2 pins s1 σ1 H1 _ _ Q I1 rr q1
/-- (a, b, ..) = a tuple of that length -/
def gTup (K : PySem.W.Frag) (n : Nat) (t : TGs) : TG := fun v σ H Q => ∃ a xs, v = .ref a ∧ SqT K H a xs ∧ xs.length = n ∧ t xs σ H Q
theorem pg_tup {es : List Expr} {k : Nat} {t : TGs} {n : Nat} (hc : X.calm = true) (h : PGs X es t)
    (hn : (assignEach es X.env).length = n := by rfl) (hst : (assignEach es X.env).findIdx? (·.1) = none := by rfl) : PG X (.Tuple es k pos) (gTup X.K n t) := by
  intro pins s σ H v u Q I r hw
  obtain ⟨a, xs, e1, hq, hl, hw⟩ := hw
  subst e1
  cases r
  obtain ⟨its, rv, ht, hz⟩ := I.tuple hq
  refine assign_Tuple_tuple (I.ok.hd hc) ht (by simp [hn, ← hl, rv.length]) hst fun h' hx => ?_
  have I1 : Inv X pins σ H { s with heap := h' } := I.kept (t' := s.toks) fun b o e => hx b o (Nat.ne_of_lt (Heap.lt_size e)) e
  exact h pins _ σ H xs _ Q I1 (by simpa using rv) hw
/-- target = value -/
def tAsg (te : TE) (g : TG) : TS := fun D σ H => te σ H fun x H1 => g x σ H1 D.nx
theorem ps_asg {tg e : Expr} {te : TE} {g : TG} (he : PE X e te) (hg : PG X tg g) (hs : swapsWithSole [tg] e pos.line X.env = pure false := by rfl) (hw : swappedStores [tg] e X.env = pure none := by rfl)
    (h1 : (assignEach [tg] X.env).map (·.2) = [assign tg X.env] := by rfl) : PS X (.Assign [tg] e pos) (tAsg te g) := by
  intro pins s σ H D I h
  refine wpAny_Assign_stores (thn (he pins s σ H _ I h) ?_) hs hw
  rintro v s1 ⟨x, H1, I1, r1, q1⟩
  rw [h1]
  exact thn (hg pins s1 σ H1 x v _ I1 r1 q1) fun _ s2 q => q
/-- name = value -/
theorem ps_set {i : Nat} {x : Str} {e : Expr} {te : TE} {pos' : Pos} (hN : X.N.Nodup) (hi : X.N[i]? = some x) (hx : Loc X.env.scope x) (he : PE X e te) (hs : swapsWith e (some (.Name x pos')) pos.line X.env = pure false := by rfl) (hf : X.fn x = true ∨ X.env.scope.names.lookup x = some .local := by first | exact .inl rfl | exact .inr rfl | assumption) :
    PS X (.Assign [.Name x pos'] e pos) (tAsg te (gName i)) := by
  intro pins s σ H D I h
  refine wpAny_Assign_Name (thn (he pins s σ H _ I h) ?_) hs
  rintro v s1 ⟨y, H1, I1, r1, q1⟩
  exact store_ok I1 hN hi hx r1 (fun s2 I2 => ⟨_, H1, I2, q1⟩) hf
end

/-! ### while -/
section
variable {X : Cx} {pos : Pos}
end

/-! ### what a loop or a comprehension walks -/
/-- at turn i: it yields x (the heap may grow), or it stops -/
structure It where
  go : Nat → Hp → Prop
  yld : Nat → Hp → V → Hp → Prop
  stop : Nat → Hp → Prop
/-- the iterator's own objects may turn: they are not the frame's, not pinned, younger than the entry (or a comprehension's own) -/
def FpOk (X : Cx) (pins : List (Addr × Obj)) (H : Hp) (b : Addr) : Prop :=
  H b = none ∧ b ≠ X.env.locals ∧ b ∉ X.fs ∧ (b ∈ X.ex ∨ X.s₀.heap.objs.size ≤ b) ∧ (∀ x c, X.env.cells.lookup x = some c → c ≠ b) ∧ ∀ p ∈ X.pn ++ pins, p.1 ≠ b
theorem Inv.fpOk {X : Cx} {pins : List (Addr × Obj)} {σ : St} {H H' : Hp} {s : Shared} {b : Addr} (I : Inv X pins σ H s) (hb : s.heap.objs.size ≤ b) (hn : H' b = none) : FpOk X pins H' b := by
  refine ⟨hn, Nat.ne_of_gt (Nat.lt_of_lt_of_le I.lt hb), I.nofs hb, .inr (Nat.le_trans I.sz hb), fun x c e z => ?_, fun p hp z => ?_⟩
  · obtain ⟨v, q⟩ := I.cell x c e
    exact absurd (Nat.lt_of_lt_of_le q.lt (by rw [z]; exact hb)) (Nat.lt_irrefl _)
  · exact absurd (Nat.lt_of_lt_of_le (Heap.lt_size (I.pin p hp).1) (by rw [z]; exact hb)) (Nat.lt_irrefl _)
structure Turn (P : Program) (w : World) (K : PySem.W.Frag) (tg : Expr) (J : It) (fp : List Addr) (it : Addr) (tn : Nat → Heap → Prop) : Prop where
  mem : it ∈ fp
  obj : ∀ i h, tn i h → ∀ b ∈ fp, ∃ o, h.get? b = some o ∧ ∀ v, o.data ≠ .cell v
  keep : ∀ i h h', tn i h → (∀ b ∈ fp, ∀ o, h.get? b = some o → h'.get? b = some o) → tn i h'
  item : ∀ (X : Cx), X.prog = P → X.w = w → X.K = K → X.calm = true → ∀ (i : Nat) (pins : List (Addr × Obj)) (s : Shared) (σ : St) (H : Hp) (E : Value → Shared → Prop), Inv X pins σ H s → (∀ b ∈ fp, FpOk X pins H b) → tn i s.heap → J.go i H →
    wpAny (model P w) X.A (pyNext (.ref it)) (fun r s1 => ∃ u, r = some u ∧
      wpAny (model P w) X.A (letOwnedTupleGo tg (.ref it) u) (fun _ s2 => ∃ x H', Inv X pins σ H' s2 ∧ RelV x u ∧ J.yld i H x H' ∧ tn (i + 1) s2.heap ∧ ∀ b ∈ fp, H' b = none) E s1) E s
  done : ∀ (X : Cx), X.prog = P → X.w = w → X.K = K → X.calm = true → ∀ (i : Nat) (pins : List (Addr × Obj)) (s : Shared) (σ : St) (H : Hp) (E : Value → Shared → Prop), Inv X pins σ H s → (∀ b ∈ fp, FpOk X pins H b) → tn i s.heap → J.stop i H →
    wpAny (model P w) X.A (pyNext (.ref it)) (fun r s1 => r = none ∧ Inv X pins σ H s1) E s
  self : ∀ (A : Around) (i : Nat) (s : Shared) (Q : Value → Shared → Prop) (E : Value → Shared → Prop), tn i s.heap → Q (.ref it) s → wpAny (model P w) A (pyIter (.ref it)) Q E s
abbrev TI := St → Hp → (It → Hp → Prop) → Prop
/-- an iterator has come -/
def PIE (X : Cx) (pins : List (Addr × Obj)) (σ : St) (tg : Expr) (R : It → Hp → Prop) (itv : Value) (s2 : Shared) : Prop :=
  ∃ (it : Addr) (fp : List Addr) (tn : Nat → Heap → Prop) (J : It) (H' : Hp), itv = .ref it ∧ Inv X pins σ H' s2 ∧ Turn X.prog X.w X.K tg J fp it tn ∧ tn 0 s2.heap ∧ (∀ b ∈ fp, FpOk X pins H' b) ∧ R J H'
def PI (X : Cx) (tg iter : Expr) (wi : TI) : Prop :=
  ∀ (pins : List (Addr × Obj)) (s : Shared) (σ : St) (H : Hp) (R : It → Hp → Prop), Inv X pins σ H s → wi σ H R →
    wpAny (model X.prog X.w) X.A (eval iter X.env) (fun v s1 => wpAny (model X.prog X.w) X.A (pyIter v) (PIE X pins σ tg R) X.xe s1) X.xe s

/-- the step ahead of the store is nothing for an iterator that keeps no tuple -/
theorem go_of {M : Model} {A : Around} {E : Value → Shared → Prop} {s : Shared} {tg : Expr} {it : Addr} {u : Value} {o : Obj} {n : String} {vs : Array Value} {Q : Unit → Shared → Prop} (ho : s.heap.get? it = some o) (hc : o.cls = .type n) (hd : o.data = .fields vs)
    (hn : ["enumerate", "zip", "dict_itemiterator", "dict_reverseitemiterator", "odict_iterator", "itertools.zip_longest", "itertools.pairwise"].contains n = false) (hQ : Q () s) : wpAny M A (letOwnedTupleGo tg (.ref it) u) Q E s := by
  unfold letOwnedTupleGo
  cases tg <;> first
    | exact wpAny_pure hQ
    | (cases u <;> first
        | exact wpAny_pure hQ
        | (refine wpAny_bind (wpAny_load ho ?_)
           rw [hc, hd]
           show wpAny M A (if (["enumerate", "zip", "dict_itemiterator", "dict_reverseitemiterator", "odict_iterator", "itertools.zip_longest", "itertools.pairwise"].contains n && vs[0]? == some (rawInt _)) = true then _ else _) Q E s
           rw [if_neg (by intro h; rw [hn, Bool.false_and] at h; cases h)]
           exact wpAny_pure hQ))

/-- the list at a, as it stands at each turn (a loop may append to it) -/
def Itl (K : PySem.W.Frag) (a : Addr) : It :=
  ⟨fun i H => ∃ xs x, SqL K H a xs ∧ xs[i]? = some x, fun i H x H' => H' = H ∧ ∀ xs, SqL K H a xs → xs[i]? = some x, fun i H => ∃ xs, SqL K H a xs ∧ xs.length ≤ i⟩
def Itt (K : PySem.W.Frag) (a : Addr) : It :=
  ⟨fun i H => ∃ xs x, SqT K H a xs ∧ xs[i]? = some x, fun i H x H' => H' = H ∧ ∀ xs, SqT K H a xs → xs[i]? = some x, fun i H => ∃ xs, SqT K H a xs ∧ xs.length ≤ i⟩
/-- lo, lo + 1, .. (n of them) -/
def Itr (lo : Int) (n : Nat) : It := ⟨fun i _ => i < n, fun i H x H' => H' = H ∧ x = .int (lo + i), fun i _ => n ≤ i⟩
theorem turn_list {P : Program} {w : World} {K : PySem.W.Frag} {tg : Expr} (a it : Addr) : Turn P w K tg (Itl K a) [it] it (fun i h => h.IsListIter it a i) where
  mem := by simp
  obj := fun i h st b hb => by
    have e : b = it := by simpa using hb
    subst e
    obtain ⟨o, e, c, d⟩ := st
    exact ⟨o, e, fun v z => by rw [d] at z; cases z⟩
  keep := fun i h h' st k => st.at fun o e => k it (by simp) o e
  item := by
    intro X hP hw hK hc i pins s σ H E I hf st hg
    subst hP hw hK
    obtain ⟨xs, x, hq, hx⟩ := hg
    obtain ⟨its, rv, p, hz⟩ := I.list hq
    obtain ⟨u, hu, ru⟩ := rv.get hx
    obtain ⟨f0, f1, f2, f3, f4, f5⟩ := hf it (by simp)
    refine wpAny_pyNext_list_item st p.isList (x := u) (by simpa using hu) fun h' st' sb => ?_
    have I1 : Inv X pins σ H { s with heap := h' } := I.turned (t' := s.toks) (fun b o hb e => (sb.2 b hb).trans e) f0 f1 f3 f4 f5
    obtain ⟨o, e, c, d⟩ := id st'
    exact ⟨u, rfl, go_of (s := { s with heap := h' }) e c d (by decide) ⟨x, H, I1, ru, ⟨rfl, fun ys hy => by rw [I.list_inj hy hq]; exact hx⟩, st', fun b hb => (hf b hb).1⟩⟩
  done := by
    intro X hP hw hK hc i pins s σ H E I hf st hg
    subst hP hw hK
    obtain ⟨xs, hq, hx⟩ := hg
    obtain ⟨its, rv, p, hz⟩ := I.list hq
    obtain ⟨f0, f1, f2, f3, f4, f5⟩ := hf it (by simp)
    have hl := rv.length
    exact wpAny_pyNext_list_end (I.ok.hd hc) st p.isList (by simp; omega) fun h' eb => ⟨rfl, I.turned (t' := s.toks) (fun b o hb e => eb b o hb e) f0 f1 f3 f4 f5⟩
  self := fun _ _ _ _ _ st h => wpAny_pyIter_listiter st h
theorem turn_tuple {P : Program} {w : World} {K : PySem.W.Frag} {tg : Expr} (a it : Addr) : Turn P w K tg (Itt K a) [it] it (fun i h => h.IsTupleIter it a i) where
  mem := by simp
  obj := fun i h st b hb => by
    have e : b = it := by simpa using hb
    subst e
    obtain ⟨o, e, c, d⟩ := st
    exact ⟨o, e, fun v z => by rw [d] at z; cases z⟩
  keep := fun i h h' st k => st.at fun o e => k it (by simp) o e
  item := by
    intro X hP hw hK hc i pins s σ H E I hf st hg
    subst hP hw hK
    obtain ⟨xs, x, hq, hx⟩ := hg
    obtain ⟨its, rv, p, hz⟩ := I.tuple hq
    obtain ⟨u, hu, ru⟩ := rv.get hx
    obtain ⟨f0, f1, f2, f3, f4, f5⟩ := hf it (by simp)
    refine wpAny_pyNext_tuple_item st (show s.heap.IsTuple a its.toArray from p) (x := u) (by simpa using hu) fun h' st' sb => ?_
    have I1 : Inv X pins σ H { s with heap := h' } := I.turned (t' := s.toks) (fun b o hb e => (sb.2 b hb).trans e) f0 f1 f3 f4 f5
    obtain ⟨o, e, c, d⟩ := id st'
    exact ⟨u, rfl, go_of (s := { s with heap := h' }) e c d (by decide) ⟨x, H, I1, ru, ⟨rfl, fun ys hy => by rw [I.tuple_inj hy hq]; exact hx⟩, st', fun b hb => (hf b hb).1⟩⟩
  done := by
    intro X hP hw hK hc i pins s σ H E I hf st hg
    subst hP hw hK
    obtain ⟨xs, hq, hx⟩ := hg
    obtain ⟨its, rv, p, hz⟩ := I.tuple hq
    obtain ⟨f0, f1, f2, f3, f4, f5⟩ := hf it (by simp)
    have hl := rv.length
    exact wpAny_pyNext_tuple_end (I.ok.hd hc) st (show s.heap.IsTuple a its.toArray from p) (by simp; omega) fun h' eb => ⟨rfl, I.turned (t' := s.toks) (fun b o hb e => eb b o hb e) f0 f1 f3 f4 f5⟩
  self := fun _ _ _ _ _ st h => wpAny_pyIter_tupleiter st h
theorem turn_range {P : Program} {w : World} {K : PySem.W.Frag} {tg : Expr} (it : Addr) (lo : Int) (n : Nat) : Turn P w K tg (Itr lo n) [it] it (fun i h => IsRangeIter h it (lo + (i : Nat) * 1) ((n : Int) - (i : Nat)) 1) where
  mem := by simp
  obj := fun i h st b hb => by
    have e : b = it := by simpa using hb
    subst e
    exact ⟨_, st, fun v z => by
      have z' : Data.fields _ = Data.cell v := z
      cases z'⟩
  keep := fun i h h' st k => k it (by simp) _ st
  item := by
    intro X hP hw hK hc i pins s σ H E I hf st hg
    subst hP hw hK
    obtain ⟨f0, f1, f2, f3, f4, f5⟩ := hf it (by simp)
    have W := Walks.range (prog := X.prog) (w := X.w) (I.ok.hd hc) it lo 1 n
    refine W.item i s _ _ hg st fun v h' tk hv st' kk => ?_
    obtain ⟨t, rfl⟩ := hv
    have I1 : Inv X pins σ H { s with heap := h', toks := tk } := I.turned (fun b o hb e => kk b o (by simpa using hb) e) f0 f1 f3 f4 f5
    refine ⟨_, rfl, go_of (s := { s with heap := h', toks := tk }) (n := "range_iterator") st' rfl rfl (by decide) ⟨.int (lo + i), H, I1, ⟨t, ?_⟩, ⟨rfl, rfl⟩, st', fun b hb => (hf b hb).1⟩⟩
    rw [Int.mul_one]
  done := by
    intro X hP hw hK hc i pins s σ H E I hf st hg
    subst hP hw hK
    obtain ⟨f0, f1, f2, f3, f4, f5⟩ := hf it (by simp)
    exact wpAny_pyNext_range_end (I.ok.hd hc) st (by have : n ≤ i := hg; omega) fun h' eb => ⟨rfl, I.turned (t' := s.toks) (fun b o hb e => eb b o hb e) f0 f1 f3 f4 f5⟩
  self := fun _ _ _ _ _ st h => wpAny_pyIter_rangeiter st h
end L2

namespace L2
open PySem PySem.Spec PyProof.Rows
section
variable {X : Cx} {tg : Expr}
def iList (K : PySem.W.Frag) (tl : TE) : TI := fun σ H R => tl σ H fun x H1 => ∃ a, x = .ref a ∧ (∃ xs, SqL K H1 a xs) ∧ R (Itl K a) H1
def iTup (K : PySem.W.Frag) (tl : TE) : TI := fun σ H R => tl σ H fun x H1 => ∃ a, x = .ref a ∧ (∃ xs, SqT K H1 a xs) ∧ R (Itt K a) H1
theorem pi_list {l : Expr} {tl : TE} (hl : PE X l tl) : PI X tg l (iList X.K tl) := by
  intro pins s σ H R I h
  refine thn (hl pins s σ H _ I h) ?_
  rintro v s1 ⟨x, H1, I1, r1, q1⟩
  obtain ⟨a, e, ⟨xs, hq⟩, q⟩ := q1
  subst e
  cases r1
  obtain ⟨its, rv, p, hz⟩ := I1.list hq
  refine wpAny_pyIter_list p.isList ?_
  refine ⟨s1.heap.objs.size, [s1.heap.objs.size], _, _, H1, rfl, I1.kept (t' := s1.toks) fun b o e => Heap.get?_push_of_some _ e, turn_list a _, ⟨_, Heap.get?_push_size _ rfl, rfl, rfl⟩, fun b hb => ?_, q⟩
  have e : b = s1.heap.objs.size := by simpa using hb
  subst e
  exact I1.fpOk (Nat.le_refl _) (I1.hok.fresh (Nat.le_refl _))
theorem pi_tup {l : Expr} {tl : TE} (hl : PE X l tl) : PI X tg l (iTup X.K tl) := by
  intro pins s σ H R I h
  refine thn (hl pins s σ H _ I h) ?_
  rintro v s1 ⟨x, H1, I1, r1, q1⟩
  obtain ⟨a, e, ⟨xs, hq⟩, q⟩ := q1
  subst e
  cases r1
  obtain ⟨its, rv, p, hz⟩ := I1.tuple hq
  refine wpAny_pyIter_tuple (show s1.heap.IsTuple a its.toArray from p) ?_
  refine ⟨s1.heap.objs.size, [s1.heap.objs.size], _, _, H1, rfl, I1.kept (t' := s1.toks) fun b o e => Heap.get?_push_of_some _ e, turn_tuple a _, ⟨_, Heap.get?_push_size _ rfl, rfl, rfl⟩, fun b hb => ?_, q⟩
  have e : b = s1.heap.objs.size := by simpa using hb
  subst e
  exact I1.fpOk (Nat.le_refl _) (I1.hok.fresh (Nat.le_refl _))
/-- a range object just made, walked -/
theorem range_it {pins : List (Addr × Obj)} {σ : St} {H : Hp} {s : Shared} {R : It → Hp → Prop} {E : Value → Shared → Prop} {lo hi : Int} {t u v : Tok} {tk : Nat} (I : Inv X pins σ H s) (h1 : -(2 ^ 62) ≤ lo) (h2 : lo < 2 ^ 62) (h3 : -(2 ^ 62) ≤ hi) (h4 : hi < 2 ^ 62)
    (q : R (Itr lo (hi - lo).toNat) H) : wpAny (model X.prog X.w) X.A (pyIter (.ref s.heap.objs.size)) (PIE X pins σ tg R) E { s with heap := s.heap.push { cls := .type "range", data := .fields #[.int lo t, .int hi u, .int 1 v] }, toks := tk } := by
  refine wpAny_pyIter_range (IsRange.new ..) (small_one h1 h2 h3 h4) ?_
  have I1 : Inv X pins σ H { s with heap := s.heap.push { cls := .type "range", data := .fields #[.int lo t, .int hi u, .int 1 v] }, toks := tk } := I.kept fun b o e => Heap.get?_push_of_some _ e
  refine ⟨(s.heap.push { cls := .type "range", data := .fields #[.int lo t, .int hi u, .int 1 v] }).objs.size, [(s.heap.push { cls := .type "range", data := .fields #[.int lo t, .int hi u, .int 1 v] }).objs.size], _, _, H, rfl,
    I1.kept (t' := tk) fun b o e => Heap.get?_push_of_some _ e, turn_range _ lo (hi - lo).toNat, ?_, fun b hb => ?_, q⟩
  · have e1 : lo + ((0 : Nat) : Int) * 1 = lo := by simp
    have e2 : (((hi - lo).toNat : Nat) : Int) - ((0 : Nat) : Int) = Builtin.Range.rangeSize lo hi 1 := by rw [rangeSize_one]; split <;> omega
    show IsRangeIter _ _ (lo + ((0 : Nat) : Int) * 1) ((((hi - lo).toNat : Nat) : Int) - ((0 : Nat) : Int)) 1
    rw [e1, e2]
    exact Heap.get?_push_size _ rfl
  · have e : b = (s.heap.push { cls := .type "range", data := .fields #[.int lo t, .int hi u, .int 1 v] }).objs.size := by simpa using hb
    subst e
    exact I1.fpOk (Nat.le_refl _) (I1.hok.fresh (Nat.le_refl _))
def iRng1 (ta : TA) : TI := fun σ H R => ta σ H fun vs H1 => ∃ j : Int, vs = [.int j] ∧ -(2 ^ 62) ≤ j ∧ j < 2 ^ 62 ∧ R (Itr 0 j.toNat) H1
theorem pi_range1 {a : Expr} {ta : TA} {p pos : Pos} (hg : Gl X "range") (hm : X.mg "range" = none) (ha : PA X [a] ta) (hs : starEach [a] X.env = [(false, eval a X.env)] := by rfl) : PI X tg (.Call (.Name "range" p) [a] [] pos) (iRng1 ta) := by
  intro pins s σ H R I h
  refine Call_ (ld_blt I hg hm boot_range (PyProof.Rows.callWith_type1 (thn (ha pos pins s σ H _ I h) ?_) hs rfl))
  rintro us s1 ⟨vs, H1, I1, r1, q1⟩
  obtain ⟨j, e, q1, q2, q⟩ := q1
  subst e
  cases r1 with
  | cons r rr =>
    cases rr
    obtain ⟨t, rfl⟩ := r
    exact call_range_1 (range_it I1 (by omega) (by omega) q1 q2 (by simpa using q))
/-! ### for -/
/-- W: the invariant by the turn and a measure; N: what the body is to reach -/
def tFor (wi : TI) (g : TG) (tb : TS) : TS := fun D σ H => wi σ H fun J H1 => ∃ W : Nat → Nat → St → Hp → Prop, (∃ m, W 0 m σ H1) ∧ ∀ i m σ H, W i m σ H →
  (J.stop i H ∧ D.nx σ H) ∨ (J.go i H ∧ ∃ N : St → Hp → Prop, (∀ σ' H', N σ' H' → ∃ m', m' < m ∧ W (i + 1) m' σ' H') ∧ ∀ x H', J.yld i H x H' → g x σ H' fun σ2 H2 => tb { D with nx := N, ct := N, bk := D.nx } σ2 H2)
/-- the records at fp as they stand -/
def pinsAt (fp : List Addr) (h : Heap) : List (Addr × Obj) := fp.filterMap fun b => (h.get? b).map fun o => (b, o)
theorem mem_pinsAt {fp : List Addr} {h : Heap} {b : Addr} {o : Obj} (hb : b ∈ fp) (e : h.get? b = some o) : (b, o) ∈ pinsAt fp h := List.mem_filterMap.mpr ⟨b, hb, by rw [e]; rfl⟩
theorem of_pinsAt {fp : List Addr} {h : Heap} {p : Addr × Obj} (hp : p ∈ pinsAt fp h) : p.1 ∈ fp ∧ h.get? p.1 = some p.2 := by
  obtain ⟨b, hb, e⟩ := List.mem_filterMap.mp hp
  cases q : h.get? b with
  | none => rw [q] at e; cases e
  | some o =>
    rw [q] at e
    have e' : (b, o) = p := Option.some.inj e
    subst e'
    exact ⟨hb, q⟩
theorem Inv.pinned {pins : List (Addr × Obj)} {σ : St} {H : Hp} {s : Shared} {fp : List Addr} (I : Inv X pins σ H s) (hf : ∀ b ∈ fp, FpOk X pins H b) (ho : ∀ b ∈ fp, ∃ o, s.heap.get? b = some o ∧ ∀ v, o.data ≠ .cell v) : Inv X (pins ++ pinsAt fp s.heap) σ H s :=
  I.pins_of fun p hp => (List.mem_append.mp hp).elim (fun z => I.pin p (List.mem_append_right _ z)) fun z => by
    obtain ⟨hb, e⟩ := of_pinsAt z
    obtain ⟨f0, f1, f2, _⟩ := hf p.1 hb
    obtain ⟨o, e', d⟩ := ho p.1 hb
    rw [e] at e'; cases e'
    exact ⟨e, f0, f1, f2, d⟩
theorem Inv.unpinned {pins pl : List (Addr × Obj)} {σ : St} {H : Hp} {s : Shared} (I : Inv X (pins ++ pl) σ H s) : Inv X pins σ H s := I.pins_of fun p hp => I.pin p (List.mem_append_right _ (List.mem_append_left _ hp))
theorem ps_for {iter : Expr} {body : List Stmt} {wi : TI} {g : TG} {tb : TS} {pos : Pos} (hp : PassesOwn (model X.prog X.w) X.A X.env X.xe) (hc : X.calm = true) (hi : PI X tg iter wi) (hg : PG X tg g) (hb : PSs X body tb)
    (hs : ∀ x, foldedSetIterable iter X.env x = pure x := by intro _; rfl) : PS X (.For tg iter body [] pos) (tFor wi g tb) := by
  intro pins s σ H D I h
  refine wpAny_For (thn (hi pins s σ H _ I h) fun v s1 h1 => thn h1 fun itv s2 h2 => ?_) hs
  obtain ⟨it, fp, tn, J, H2, e, I2, T, st2, f2, W, ⟨m0, w0⟩, turn⟩ := h2
  subst e
  -- what stays true of the iterator's objects through the loop
  have stat : ∀ {H' : Hp}, (∀ b ∈ fp, H' b = none) → ∀ b ∈ fp, FpOk X pins H' b := fun hn b hb => ⟨hn b hb, (f2 b hb).2⟩
  refine codeAny_forLoop_any (fun n s' => ∃ i σ' H', Inv X pins σ' H' s' ∧ tn i s'.heap ∧ (∀ b ∈ fp, H' b = none) ∧ W i n σ' H') ?_ m0 ⟨0, σ, H2, I2, st2, fun b hb => (f2 b hb).1, w0⟩
  rintro n s3 ⟨i, σ3, H3, I3, st3, fr3, w3⟩
  rcases turn i n σ3 H3 w3 with ⟨stop, qn⟩ | ⟨go, N, hN, step⟩
  · refine wpAny_passesOwn hp (thn (T.done X rfl rfl rfl hc i pins s3 σ3 H3 X.xe I3 (stat fr3) st3 stop) ?_)
    rintro r s4 ⟨hr, I4⟩
    subst hr
    exact wpAny_execs_nil ⟨σ3, H3, I4, qn⟩
  · refine wpAny_passesOwn hp (thn (T.item X rfl rfl rfl hc i pins s3 σ3 H3 X.xe I3 (stat fr3) st3 go) ?_)
    rintro r s4 ⟨u, hr, h4⟩
    subst hr
    refine wpAny_passesOwn hp (thn h4 ?_)
    rintro _ s5 ⟨x, H5, I5, r5, y5, st5, fr5⟩
    have I5' := I5.pinned (stat fr5) (T.obj _ _ st5)
    refine wpAny_passesOwn hp (thn (hg _ s5 σ3 H5 x u _ I5' r5 (step x H5 y5)) ?_)
    rintro _ s6 ⟨σ6, H6, I6, q6⟩
    refine wpAny_passesOwn hp (thn (hb _ s6 σ6 H6 _ I6 q6) fun f s7 q7 => ?_)
    have again : ∀ {σ7 : St} {H7 : Hp}, Inv X (pins ++ pinsAt fp s5.heap) σ7 H7 s7 → N σ7 H7 → ∃ m, m < n ∧ ∃ i σ' H', Inv X pins σ' H' s7 ∧ tn i s7.heap ∧ (∀ b ∈ fp, H' b = none) ∧ W i m σ' H' := fun {σ7 H7} I7 n7 => by
      obtain ⟨m', hm, w7⟩ := hN σ7 H7 n7
      refine ⟨m', hm, i + 1, σ7, H7, I7.unpinned, T.keep _ _ _ st5 fun b hb o e => (I7.pin (b, o) (List.mem_append_right _ (List.mem_append_right _ (mem_pinsAt hb e)))).1, fun b hb => ?_, w7⟩
      obtain ⟨o, e, d⟩ := T.obj _ _ st5 b hb
      exact (I7.pin (b, o) (List.mem_append_right _ (List.mem_append_right _ (mem_pinsAt hb e)))).2.1
    cases f with
    | next => obtain ⟨σ7, H7, I7, n7⟩ := q7; exact again I7 n7
    | cont => obtain ⟨σ7, H7, I7, n7⟩ := q7; exact again I7 n7
    | brk => obtain ⟨σ7, H7, I7, q7⟩ := q7; exact ⟨σ7, H7, I7.unpinned, q7⟩
    | ret v => obtain ⟨x7, σ7, H7, I7, r7, q7⟩ := q7; exact ⟨x7, σ7, H7, I7.unpinned, r7, q7⟩
end

/-! ### the forms one uses -/
/-- over a list that the body leaves as it is -/
theorem for_list {K : PySem.W.Frag} {a : Addr} {xs : List V} {g : TG} {tb : TS} {D : Ends} {σ : St} {H : Hp} (Pv : Nat → St → Hp → Prop) (h0 : Pv 0 σ H) (hl : ∀ i σ H, i ≤ xs.length → Pv i σ H → SqL K H a xs)
    (hs : ∀ i x σ H, xs[i]? = some x → Pv i σ H → g x σ H fun σ2 H2 => tb { D with nx := Pv (i + 1), ct := Pv (i + 1), bk := D.nx } σ2 H2) (hd : ∀ σ H, Pv xs.length σ H → D.nx σ H) :
    ∃ W : Nat → Nat → St → Hp → Prop, (∃ m, W 0 m σ H) ∧ ∀ i m σ H, W i m σ H →
      ((Itl K a).stop i H ∧ D.nx σ H) ∨ ((Itl K a).go i H ∧ ∃ N : St → Hp → Prop, (∀ σ' H', N σ' H' → ∃ m', m' < m ∧ W (i + 1) m' σ' H') ∧ ∀ x H', (Itl K a).yld i H x H' → g x σ H' fun σ2 H2 => tb { D with nx := N, ct := N, bk := D.nx } σ2 H2) := by
  refine ⟨fun i m σ H => m = xs.length - i ∧ i ≤ xs.length ∧ Pv i σ H, ⟨xs.length, by simp, Nat.zero_le _, h0⟩, ?_⟩
  rintro i m σ H ⟨rfl, hi, p⟩
  have q := hl i σ H hi p
  by_cases hlt : i < xs.length
  · refine .inr ⟨⟨xs, xs[i], q, by simp [hlt]⟩, Pv (i + 1), fun σ' H' p' => ⟨xs.length - (i + 1), by omega, rfl, hlt, p'⟩, fun x H' y => ?_⟩
    obtain ⟨e, y⟩ := y
    subst e
    exact hs i x σ _ (y xs q) p
  · have e : i = xs.length := by omega
    subst e
    exact .inl ⟨⟨xs, q, Nat.le_refl _⟩, hd σ H p⟩
theorem for_tup {K : PySem.W.Frag} {a : Addr} {xs : List V} {g : TG} {tb : TS} {D : Ends} {σ : St} {H : Hp} (Pv : Nat → St → Hp → Prop) (h0 : Pv 0 σ H) (hl : ∀ i σ H, i ≤ xs.length → Pv i σ H → SqT K H a xs)
    (hs : ∀ i x σ H, xs[i]? = some x → Pv i σ H → g x σ H fun σ2 H2 => tb { D with nx := Pv (i + 1), ct := Pv (i + 1), bk := D.nx } σ2 H2) (hd : ∀ σ H, Pv xs.length σ H → D.nx σ H) :
    ∃ W : Nat → Nat → St → Hp → Prop, (∃ m, W 0 m σ H) ∧ ∀ i m σ H, W i m σ H →
      ((Itt K a).stop i H ∧ D.nx σ H) ∨ ((Itt K a).go i H ∧ ∃ N : St → Hp → Prop, (∀ σ' H', N σ' H' → ∃ m', m' < m ∧ W (i + 1) m' σ' H') ∧ ∀ x H', (Itt K a).yld i H x H' → g x σ H' fun σ2 H2 => tb { D with nx := N, ct := N, bk := D.nx } σ2 H2) := by
  refine ⟨fun i m σ H => m = xs.length - i ∧ i ≤ xs.length ∧ Pv i σ H, ⟨xs.length, by simp, Nat.zero_le _, h0⟩, ?_⟩
  rintro i m σ H ⟨rfl, hi, p⟩
  have q := hl i σ H hi p
  by_cases hlt : i < xs.length
  · refine .inr ⟨⟨xs, xs[i], q, by simp [hlt]⟩, Pv (i + 1), fun σ' H' p' => ⟨xs.length - (i + 1), by omega, rfl, hlt, p'⟩, fun x H' y => ?_⟩
    obtain ⟨e, y⟩ := y
    subst e
    exact hs i x σ _ (y xs q) p
  · have e : i = xs.length := by omega
    subst e
    exact .inl ⟨⟨xs, q, Nat.le_refl _⟩, hd σ H p⟩
theorem for_range {lo : Int} {n : Nat} {g : TG} {tb : TS} {D : Ends} {σ : St} {H : Hp} (Pv : Nat → St → Hp → Prop) (h0 : Pv 0 σ H)
    (hs : ∀ i σ H, i < n → Pv i σ H → g (.int (lo + i)) σ H fun σ2 H2 => tb { D with nx := Pv (i + 1), ct := Pv (i + 1), bk := D.nx } σ2 H2) (hd : ∀ σ H, Pv n σ H → D.nx σ H) :
    ∃ W : Nat → Nat → St → Hp → Prop, (∃ m, W 0 m σ H) ∧ ∀ i m σ H, W i m σ H →
      ((Itr lo n).stop i H ∧ D.nx σ H) ∨ ((Itr lo n).go i H ∧ ∃ N : St → Hp → Prop, (∀ σ' H', N σ' H' → ∃ m', m' < m ∧ W (i + 1) m' σ' H') ∧ ∀ x H', (Itr lo n).yld i H x H' → g x σ H' fun σ2 H2 => tb { D with nx := N, ct := N, bk := D.nx } σ2 H2) := by
  refine ⟨fun i m σ H => m = n - i ∧ i ≤ n ∧ Pv i σ H, ⟨n, by simp, Nat.zero_le _, h0⟩, ?_⟩
  rintro i m σ H ⟨rfl, hi, p⟩
  by_cases hlt : i < n
  · refine .inr ⟨hlt, Pv (i + 1), fun σ' H' p' => ⟨n - (i + 1), by omega, rfl, hlt, p'⟩, fun x H' y => ?_⟩
    obtain ⟨e, y⟩ := y
    subst e y
    exact hs i σ _ hlt p
  · have e : i = n := by omega
    subst e
    exact .inl ⟨Nat.le_refl _, hd σ H p⟩
end L2

namespace L2
open PySem PySem.Spec PyProof.Rows

abbrev R2 := V → V → Hp → VK → Prop
/-- a two-place operation on values: f is binaryOp op, inplaceOp op or compareOp op -/
def OpR (X : Cx) (f : Value → Value → Sem Value) (r : R2) : Prop :=
  ∀ (pins : List (Addr × Obj)) (s : Shared) (σ : St) (H : Hp) (x y : V) (v u : Value) (Q : VK), Inv X pins σ H s → RelV x v → RelV y u → r x y H Q →
    wpAny (model X.prog X.w) X.A (f v u) (EP X pins σ Q) X.xe s
/-- a one-place operation -/
def UnR (X : Cx) (f : Value → Sem Value) (r : V → Hp → VK → Prop) : Prop :=
  ∀ (pins : List (Addr × Obj)) (s : Shared) (σ : St) (H : Hp) (x : V) (v : Value) (Q : VK), Inv X pins σ H s → RelV x v → r x H Q →
    wpAny (model X.prog X.w) X.A (f v) (EP X pins σ Q) X.xe s
/-- a call of a value that is known (a builtin, a type) with values -/
def CallR (X : Cx) (f : Value) (r : List V → Hp → VK → Prop) : Prop :=
  ∀ (pins : List (Addr × Obj)) (s : Shared) (σ : St) (H : Hp) (xs : List V) (us : List Value) (Q : VK), Inv X pins σ H s → Vals xs us → r xs H Q →
    wpAny (model X.prog X.w) X.A (call f us) (EP X pins σ Q) X.xe s
def tOp (r : R2) (ta tb : TE) : TE := fun σ H Q => ta σ H fun x H1 => tb σ H1 fun y H2 => r x y H2 Q
def tUn (r : V → Hp → VK → Prop) (ta : TE) : TE := fun σ H Q => ta σ H fun x H1 => r x H1 Q
/-- ints in, under C, and a value out -/
def rI (C : Int → Int → Prop) (g : Int → Int → V) : R2 := fun x y H Q => ∃ i j, x = .int i ∧ y = .int j ∧ C i j ∧ Q (g i j) H
def rI0 (g : Int → Int → V) : R2 := fun x y H Q => ∃ i j, x = .int i ∧ y = .int j ∧ Q (g i j) H
def rU (g : Int → V) : V → Hp → VK → Prop := fun x H Q => ∃ i, x = .int i ∧ Q (g i) H

section
variable {X : Cx} {a b c : Expr} {ta tb tc : TE} {pos : Pos}

theorem binT (ha : PE X a ta) (hb : PE X b tb) {pins : List (Addr × Obj)} {s : Shared} {σ : St} {H : Hp} {R : V → V → Hp → Prop} (I : Inv X pins σ H s)
    (h : ta σ H fun x H1 => tb σ H1 fun y H2 => R x y H2) {Q : Value → Shared → Prop} {f : Value → Value → Sem Value}
    (hf : ∀ v u s2 x y H2, Inv X pins σ H2 s2 → RelV x v → RelV y u → R x y H2 → wpAny (model X.prog X.w) X.A (f v u) Q X.xe s2) :
    wpAny (model X.prog X.w) X.A (eval a X.env) (fun v s₁ => wpAny (model X.prog X.w) X.A (eval b X.env) (fun u s₂ => wpAny (model X.prog X.w) X.A (f v u) Q X.xe s₂) X.xe s₁) X.xe s := by
  refine thn (ha pins s σ H _ I h) ?_
  rintro v s1 ⟨x, H1, I1, r1, q1⟩
  refine thn (hb pins s1 σ H1 _ I1 q1) ?_
  rintro u s2 ⟨y, H2, I2, r2, q2⟩
  exact hf v u s2 x y H2 I2 r1 r2 q2

theorem pe_op {op : Operator} {r : R2} (ho : OpR X (binaryOp op) r) (ha : PE X a ta) (hb : PE X b tb) : PE X (.BinOp a op b pos) (tOp r ta tb) := by
  intro pins s σ H Q I h
  exact wpAny_BinOp (binT ha hb I h fun v u s2 x y H2 I2 rx ry q => ho pins s2 σ H2 x y v u Q I2 rx ry q)
theorem pe_un {op : UnaryOp} {r : V → Hp → VK → Prop} (ho : UnR X (unaryOp op) r) (ha : PE X a ta) : PE X (.UnaryOp op a pos) (tUn r ta) := by
  intro pins s σ H Q I h
  exact UnaryOp_ (thn (ha pins s σ H _ I h) (by rintro v s1 ⟨x, H1, I1, r1, q1⟩; exact ho pins s1 σ H1 x v Q I1 r1 q1))
/-! ### ints -/
theorem opI {f : Value → Value → Sem Value} {C : Int → Int → Prop} {g : Int → Int → Int}
    (rule : ∀ (i j : Int) (t u : Tok) (s : Shared) (Q : Value → Shared → Prop) (E : Value → Shared → Prop), C i j → Q (.int (g i j) s.toks) { s with toks := s.toks + 1 } → wpAny (model X.prog X.w) X.A (f (.int i t) (.int j u)) Q E s) :
    OpR X f (rI C fun i j => .int (g i j)) := by
  intro pins s σ H x y v u Q I rx ry h
  obtain ⟨i, j, rfl, rfl, hc, q⟩ := h
  obtain ⟨t, rfl⟩ := rx
  obtain ⟨t', rfl⟩ := ry
  exact rule i j t t' s _ _ hc ⟨.int (g i j), H, I.tok _, ⟨_, rfl⟩, q⟩
theorem opI0 {f : Value → Value → Sem Value} {g : Int → Int → Int}
    (rule : ∀ (i j : Int) (t u : Tok) (s : Shared) (Q : Value → Shared → Prop) (E : Value → Shared → Prop), Q (.int (g i j) s.toks) { s with toks := s.toks + 1 } → wpAny (model X.prog X.w) X.A (f (.int i t) (.int j u)) Q E s) :
    OpR X f (rI0 fun i j => .int (g i j)) := by
  intro pins s σ H x y v u Q I rx ry h
  obtain ⟨i, j, rfl, rfl, q⟩ := h
  obtain ⟨t, rfl⟩ := rx
  obtain ⟨t', rfl⟩ := ry
  exact rule i j t t' s _ _ ⟨.int (g i j), H, I.tok _, ⟨_, rfl⟩, q⟩
theorem opB0 {f : Value → Value → Sem Value} {g : Int → Int → Bool}
    (rule : ∀ (i j : Int) (t u : Tok) (s : Shared) (Q : Value → Shared → Prop) (E : Value → Shared → Prop), Q (.bool (g i j)) s → wpAny (model X.prog X.w) X.A (f (.int i t) (.int j u)) Q E s) :
    OpR X f (rI0 fun i j => .bl (g i j)) := by
  intro pins s σ H x y v u Q I rx ry h
  obtain ⟨i, j, rfl, rfl, q⟩ := h
  obtain ⟨t, rfl⟩ := rx
  obtain ⟨t', rfl⟩ := ry
  exact rule i j t t' s _ _ ⟨.bl (g i j), H, I, rfl, q⟩

def CDiv (i j : Int) : Prop := 0 < j ∧ j < 1073741824
def CPow (i j : Int) : Prop := 0 ≤ j ∧ j ≤ 1000000 ∧ i.natAbs < 2 ^ 64
def CMul (i j : Int) : Prop := (-(2 ^ 64) < i ∧ i < 2 ^ 64) ∨ (-(2 ^ 64) < j ∧ j < 2 ^ 64)
theorem CMul.ok {i j : Int} (h : CMul i j) : IntMulOk i j := by
  rcases h with ⟨h1, h2⟩ | ⟨h1, h2⟩
  · exact .of_left (intBits_le_64 h1 h2)
  · exact .of_right (intBits_le_64 h1 h2)
theorem op_add : OpR X (binaryOp .Add) (rI0 fun i j => .int (i + j)) := opI0 fun _ _ _ _ _ _ _ q => add_int q
theorem op_sub : OpR X (binaryOp .Sub) (rI0 fun i j => .int (i - j)) := opI0 fun _ _ _ _ _ _ _ q => sub_int q
theorem op_mul : OpR X (binaryOp .Mult) (rI CMul fun i j => .int (i * j)) := opI fun _ _ _ _ _ _ _ hc q => mul_int q hc.ok
/-- // by a positive divisor -/
theorem op_fdiv : OpR X (binaryOp .FloorDiv) (rI CDiv fun i j => .int (i / j)) := opI fun i j _ _ _ _ _ hc q => by
  have h1 : (0 : Int) < j := hc.1
  have h2 : j < 1073741824 := hc.2
  exact floordiv_int (by omega) (by rw [Int.fdiv_eq_ediv_of_nonneg i (by omega)]; exact q) (.inl (PyProof.noPylong_small (by omega)))
/-- % by a positive divisor of any size -/
theorem op_mod : OpR X (binaryOp .Mod) (rI (fun _ j => 0 < j) fun i j => .int (i % j)) := opI fun i j _ _ _ _ _ hc q => by
  have h1 : (0 : Int) < j := hc
  exact mod_int' (by omega) (by rw [Int.fmod_eq_emod_of_nonneg i (by omega)]; exact q)
theorem op_pow : OpR X (binaryOp .Pow) (rI CPow fun i j => .int (i ^ j.toNat)) := opI fun _ _ _ _ _ _ _ hc q => pow_int_small hc.1 hc.2.1 hc.2.2 q
theorem unI {f : Value → Sem Value} {g : Int → Int}
    (rule : ∀ (i : Int) (t : Tok) (s : Shared) (Q : Value → Shared → Prop) (E : Value → Shared → Prop), Q (.int (g i) s.toks) { s with toks := s.toks + 1 } → wpAny (model X.prog X.w) X.A (f (.int i t)) Q E s) :
    UnR X f (rU fun i => .int (g i)) := by
  intro pins s σ H x v Q I rx h
  obtain ⟨i, rfl, q⟩ := h
  obtain ⟨t, rfl⟩ := rx
  exact rule i t s _ _ ⟨.int (g i), H, I.tok _, ⟨_, rfl⟩, q⟩
theorem un_neg : UnR X (unaryOp .USub) (rU fun i => .int (-i)) := unI fun _ _ _ _ _ q => neg_int q
/-! ### bools among ints: n += (a < b) -/
end

/-! ### comparisons -/
/-- the scalars that == tells apart as data does -/
def scal : V → V → Bool
  | .non, .non => true | .non, .int _ => true | .int _, .non => true | .non, .bl _ => true | .bl _, .non => true | .non, .str _ => true | .str _, .non => true
  | .int _, .int _ => true | .bl _, .bl _ => true | .str _, .str _ => true | .byt _, .byt _ => true
  | .int _, .str _ => true | .str _, .int _ => true | .bl _, .str _ => true | .str _, .bl _ => true
  | _, _ => false
def rEq : R2 := fun x y H Q => scal x y = true ∧ Q (.bl (decide (x = y))) H
def rNe : R2 := fun x y H Q => scal x y = true ∧ Q (.bl (!decide (x = y))) H

theorem dec_int {i j : Int} : decide (V.int i = V.int j) = (i == j) := by
  rw [Bool.eq_iff_iff]
  simp
theorem dec_bl {i j : Bool} : decide (V.bl i = V.bl j) = (i == j) := by
  rw [Bool.eq_iff_iff]
  simp
theorem dec_str {i j : Str} : decide (V.str i = V.str j) = (i == j) := by
  rw [Bool.eq_iff_iff]
  simp
theorem dec_byt {i j : Array UInt8} : decide (V.byt i = V.byt j) = (i.toList == j.toList) := by
  rw [Bool.eq_iff_iff]
  cases i
  cases j
  simp

section
variable {X : Cx} {a b c : Expr} {ta tb tc : TE} {pos : Pos}
theorem fin_bl {pins : List (Addr × Obj)} {σ : St} {H : Hp} {s : Shared} {Q : VK} {k k' : Bool} (I : Inv X pins σ H s) (q : Q (.bl k) H) (e : k = k') : EP X pins σ Q (.bool k') s := by
  subst e
  exact ⟨.bl k, H, I, rfl, q⟩
theorem op_eq : OpR X (compareOp .Eq) rEq := by
  intro pins s σ H x y v u Q I rx ry h
  obtain ⟨hs, q⟩ := h
  cases x with
  | non =>
    cases rx
    cases y with
    | non => cases ry; exact PySem.EqNone.eq_none_none (fin_bl I q (by simp))
    | bl j => cases ry; exact PySem.EqNone.eq_none_bool (fin_bl I q (by simp))
    | int j => obtain ⟨t', rfl⟩ := ry; exact PySem.EqNone.eq_none_int (fin_bl I q (by simp))
    | str j => obtain ⟨t', rfl⟩ := ry; exact PySem.EqNone.eq_none_str (fin_bl I q (by simp))
    | _ => exact absurd (show false = true from hs) Bool.false_ne_true
  | bl i =>
    cases rx
    cases y with
    | non => cases ry; exact PySem.EqNone.eq_bool_none (fin_bl I q (by simp))
    | bl j => cases ry; exact eq_bool (fin_bl I q dec_bl)
    | str j => obtain ⟨t', rfl⟩ := ry; exact PySem.EqMixed.eq_bool_str (fin_bl I q (by simp))
    | _ => exact absurd (show false = true from hs) Bool.false_ne_true
  | int i =>
    obtain ⟨t, rfl⟩ := rx
    cases y with
    | non => cases ry; exact PySem.EqNone.eq_int_none (fin_bl I q (by simp))
    | int j => obtain ⟨t', rfl⟩ := ry; exact eq_int (fin_bl I q dec_int)
    | str j => obtain ⟨t', rfl⟩ := ry; exact PySem.EqMixed.eq_int_str (fin_bl I q (by simp))
    | _ => exact absurd (show false = true from hs) Bool.false_ne_true
  | str i =>
    obtain ⟨t, rfl⟩ := rx
    cases y with
    | non => cases ry; exact PySem.EqNone.eq_str_none (fin_bl I q (by simp))
    | bl j => cases ry; exact PySem.EqMixed.eq_str_bool (fin_bl I q (by simp))
    | int j => obtain ⟨t', rfl⟩ := ry; exact PySem.EqMixed.eq_str_int (fin_bl I q (by simp))
    | str j => obtain ⟨t', rfl⟩ := ry; exact eq_str (fin_bl I q dec_str)
    | _ => exact absurd (show false = true from hs) Bool.false_ne_true
  | byt i =>
    obtain ⟨t, rfl⟩ := rx
    cases y with
    | byt j => obtain ⟨t', rfl⟩ := ry; exact PySem.W.eq_bytes (fin_bl I q dec_byt)
    | _ => exact absurd (show false = true from hs) Bool.false_ne_true
  | _ => cases y <;> exact absurd (show false = true from hs) Bool.false_ne_true
theorem op_ne : OpR X (compareOp .NotEq) rNe := by
  intro pins s σ H x y v u Q I rx ry h
  obtain ⟨hs, q⟩ := h
  cases x with
  | non =>
    cases rx
    cases y with
    | non => cases ry; exact PySem.EqNone.ne_none_none (fin_bl I q (by simp))
    | bl j => cases ry; exact PySem.EqNone.ne_none_bool (fin_bl I q (by simp))
    | int j => obtain ⟨t', rfl⟩ := ry; exact PySem.EqNone.ne_none_int (fin_bl I q (by simp))
    | str j => obtain ⟨t', rfl⟩ := ry; exact PySem.EqNone.ne_none_str (fin_bl I q (by simp))
    | _ => exact absurd (show false = true from hs) Bool.false_ne_true
  | bl i =>
    cases rx
    cases y with
    | non => cases ry; exact PySem.EqNone.ne_bool_none (fin_bl I q (by simp))
    | bl j => cases ry; exact ne_bool (fin_bl I q (congrArg not dec_bl))
    | str j => obtain ⟨t', rfl⟩ := ry; exact PySem.EqMixed.ne_bool_str (fin_bl I q (by simp))
    | _ => exact absurd (show false = true from hs) Bool.false_ne_true
  | int i =>
    obtain ⟨t, rfl⟩ := rx
    cases y with
    | non => cases ry; exact PySem.EqNone.ne_int_none (fin_bl I q (by simp))
    | int j => obtain ⟨t', rfl⟩ := ry; exact ne_int (fin_bl I q (congrArg not dec_int))
    | str j => obtain ⟨t', rfl⟩ := ry; exact PySem.EqMixed.ne_int_str (fin_bl I q (by simp))
    | _ => exact absurd (show false = true from hs) Bool.false_ne_true
  | str i =>
    obtain ⟨t, rfl⟩ := rx
    cases y with
    | non => cases ry; exact PySem.EqNone.ne_str_none (fin_bl I q (by simp))
    | bl j => cases ry; exact PySem.EqMixed.ne_str_bool (fin_bl I q (by simp))
    | int j => obtain ⟨t', rfl⟩ := ry; exact PySem.EqMixed.ne_str_int (fin_bl I q (by simp))
    | str j => obtain ⟨t', rfl⟩ := ry; exact ne_str (fin_bl I q (congrArg not dec_str))
    | _ => exact absurd (show false = true from hs) Bool.false_ne_true
  | byt i =>
    obtain ⟨t, rfl⟩ := rx
    cases y with
    | byt j => obtain ⟨t', rfl⟩ := ry; exact PySem.W.ne_bytes (fin_bl I q (congrArg not dec_byt))
    | _ => exact absurd (show false = true from hs) Bool.false_ne_true
  | _ => cases y <;> exact absurd (show false = true from hs) Bool.false_ne_true

theorem op_lt : OpR X (compareOp .Lt) (rI0 fun i j => .bl (decide (i < j))) := opB0 fun _ _ _ _ _ _ _ q => lt_int q
theorem op_le : OpR X (compareOp .LtE) (rI0 fun i j => .bl (decide (i ≤ j))) := opB0 fun _ _ _ _ _ _ _ q => le_int q
theorem op_gt : OpR X (compareOp .Gt) (rI0 fun i j => .bl (decide (j < i))) := opB0 fun _ _ _ _ _ _ _ q => gt_int q
/-- the one string within the other -/
theorem op_in_str : OpR X (compareOp .In) (fun x y H Q => ∃ i j, x = .str i ∧ y = .str j ∧ Q (.bl (!(Builtin.Str.occurrences j i 0 j.length 1).isEmpty)) H) := by
  intro pins s σ H x y v u Q I rx ry h
  obtain ⟨i, j, rfl, rfl, q⟩ := h
  obtain ⟨t, rfl⟩ := rx
  obtain ⟨t', rfl⟩ := ry
  exact in_str (fin_bl I q rfl)

theorem nomark (b : Expr) {op : CmpOp} (h : op ≠ .In := by decide) (h2 : op ≠ .NotIn := by decide) : behindInMarks op b = false := by
  have e1 : (op == CmpOp.In) = false := by cases op <;> first | rfl | exact absurd rfl h
  have e2 : (op == CmpOp.NotIn) = false := by cases op <;> first | rfl | exact absurd rfl h2
  cases b <;> simp [behindInMarks, e1, e2]
/-- a comparison as a value; hm: nomark b, or (for in, not in) by with_unfolding_all rfl -/
theorem pe_cmpR {op : CmpOp} {r : R2} (ho : OpR X (compareOp op) r) (ha : PE X a ta) (hb : PE X b tb) (hm : behindInMarks op b = false) : PE X (.Compare a [op] [b] pos) (tOp r ta tb) := by
  intro pins s σ H Q I h
  exact wpAny_Compare1 (binT ha hb I h fun v u s2 x y H2 I2 rx ry q => ho pins s2 σ H2 x y v u Q I2 rx ry q) hm
/-- a reading of a value as a test -/
def tTest (t : TE) : TT := fun σ H Q => t σ H fun x H' => ∃ k, x = .bl k ∧ Q k H'
theorem pt_cmpR {op : CmpOp} {r : R2} (ho : OpR X (compareOp op) r) (ha : PE X a ta) (hb : PE X b tb) (hm : behindInMarks op b = false) : PT X (.Compare a [op] [b] pos) (tTest (tOp r ta tb)) := by
  intro pins s σ H Q I h
  refine wpAny_isTrue_Compare1 (thn (ha pins s σ H _ I h) fun v s1 ⟨x, H1, I1, r1, q1⟩ => thn (hb pins s1 σ H1 _ I1 q1) fun u s2 ⟨y, H2, I2, r2, q2⟩ =>
    thn (ho pins s2 σ H2 x y v u _ I2 r1 r2 q2) fun c s3 ⟨z, H3, I3, r3, k, e, q3⟩ => ?_) hm
  subst e
  cases r3
  exact wpAny_truthy_bool ⟨H3, I3, q3⟩
/-- a op1 b op2 c -/
def tChain (r r' : R2) (ta tb tc : TE) : TE := fun σ H Q => ta σ H fun x H1 => tb σ H1 fun y H2 => r x y H2 fun z H3 => ∃ k, z = .bl k ∧
  (if k = true then tc σ H3 fun w' H4 => r' y w' H4 Q else Q (.bl false) H3)
theorem pe_chain {op op' : CmpOp} {r r' : R2} (ho : OpR X (compareOp op) r) (ho' : OpR X (compareOp op') r') (ha : PE X a ta) (hb : PE X b tb) (hc : PE X c tc)
    (hm : lastMarks [op, op'] [b, c] = false := by with_unfolding_all rfl) : PE X (.Compare a [op, op'] [b, c] pos) (tChain r r' ta tb tc) := by
  intro pins s σ H Q I h
  refine Compare_chain (thn (ha pins s σ H _ I h) fun v s1 ⟨x, H1, I1, r1, q1⟩ => chain_link (thn (hb pins s1 σ H1 _ I1 q1) fun u s2 ⟨y, H2, I2, r2, q2⟩ =>
    thn (ho pins s2 σ H2 x y v u _ I2 r1 r2 q2) fun d s3 ⟨z, H3, I3, r3, k, e, q3⟩ => ?_)) hm
  subst e
  cases r3
  refine wpAny_truthy_bool ?_
  cases k with
  | false => exact ite_ff ⟨.bl false, H3, I3, rfl, q3⟩
  | true => exact ite_tt (chain_last (thn (hc pins s3 σ H3 _ I3 q3) (by rintro w' s4 ⟨z', H4, I4, r4, q4⟩; exact ho' pins s4 σ H4 y z' u w' Q I4 r2 r4 q4)))
theorem pt_chain {op op' : CmpOp} {r r' : R2} (ho : OpR X (compareOp op) r) (ho' : OpR X (compareOp op') r') (ha : PE X a ta) (hb : PE X b tb) (hc : PE X c tc)
    (hm : lastMarks [op, op'] [b, c] = false := by with_unfolding_all rfl) : PT X (.Compare a [op, op'] [b, c] pos) (tTest (tChain r r' ta tb tc)) := by
  intro pins s σ H Q I h
  refine isTrue_chain (thn (ha pins s σ H _ I h) fun v s1 ⟨x, H1, I1, r1, q1⟩ => test_link (thn (hb pins s1 σ H1 _ I1 q1) fun u s2 ⟨y, H2, I2, r2, q2⟩ =>
    thn (ho pins s2 σ H2 x y v u _ I2 r1 r2 q2) fun d s3 ⟨z, H3, I3, r3, k, e, q3⟩ => ?_)) hm
  subst e
  cases r3
  refine wpAny_truthy_bool ?_
  cases k with
  | false =>
    obtain ⟨k', e', q'⟩ := q3
    cases e'
    exact ite_ff ⟨H3, I3, q'⟩
  | true =>
    refine ite_tt (test_last (thn (hc pins s3 σ H3 _ I3 q3) ?_))
    rintro w' s4 ⟨z', H4, I4, r4, q4⟩
    refine thn (ho' pins s4 σ H4 y z' u w' _ I4 r2 r4 q4) ?_
    rintro d' s5 ⟨z2, H5, I5, r5, k2, e2, q5⟩
    subst e2
    cases r5
    exact wpAny_truthy_bool ⟨H5, I5, q5⟩

/-! ### truth -/
theorem line63 : (sizeLine : Nat) < 2 ^ 63 := by rw [sizeLine_eq]; decide
/-! ### strs and bytes -/
theorem op_add_str : OpR X (binaryOp .Add) (fun x y H Q => ∃ i j, x = .str i ∧ y = .str j ∧ i.length + j.length ≤ sizeLine ∧ Q (.str (i ++ j)) H) := by
  intro pins s σ H x y v u Q I rx ry h
  obtain ⟨i, j, rfl, rfl, hz, q⟩ := h
  obtain ⟨t, rfl⟩ := rx
  obtain ⟨t', rfl⟩ := ry
  exact add_str (fun t' tk => ⟨.str (i ++ j), H, I.tok _, ⟨_, rfl⟩, q⟩) hz
/-! ### scalar builtins, by CallR -/
theorem vals1 {x : V} {us : List Value} (r : Vals [x] us) : ∃ u, us = [u] ∧ RelV x u := by
  cases r with
  | cons r1 r2 => cases r2; exact ⟨_, rfl, r1⟩
theorem vals2 {x y : V} {us : List Value} (r : Vals [x, y] us) : ∃ u w', us = [u, w'] ∧ RelV x u ∧ RelV y w' := by
  cases r with
  | cons r1 r2 =>
    cases r2 with
    | cons r3 r4 => cases r4; exact ⟨_, _, rfl, r1, r3⟩
theorem call_str_int : CallR X (.type "str") (fun xs H Q => ∃ i, xs = [.int i] ∧ i.natAbs.log2 < 1920 ∧ Q (.str (toString i)) H) := by
  intro pins s σ H xs us Q I r h
  obtain ⟨i, rfl, hz, q⟩ := h
  obtain ⟨u, rfl, t, rfl⟩ := vals1 r
  exact PySem.P.str_of_int hz ⟨.str _, H, I.tok _, ⟨_, rfl⟩, q⟩
end
end L2

namespace L2
open PySem PySem.Spec PyProof.Rows

/-! ### an instance, its attributes a map -/
structure ObjM (h : Heap) (x dx C : Addr) (mA : Str → Option Value) : Prop where
  obj : h.get? x = some (PySem.W.instObj C dx)
  ns : h.Ns1 dx mA
  ne : dx ≠ x

theorem lookIn_ns {h : Heap} {dx : Addr} {mA : Str → Option Value} (n : h.Ns1 dx mA) : ∃ od, h.get? dx = some od ∧ ∀ name, PySem.W.lookIn name od = some (mA name) := by
  obtain ⟨o, es, ep, ho, hd, hk, _, hm⟩ := n
  refine ⟨o, ho, fun name => ?_⟩
  have e := hm name
  unfold nsFind findBy at e
  rw [← Array.find?_toList] at e
  unfold PySem.W.lookIn
  rw [hd]
  dsimp only
  split
  · rename_i y q
    rw [q] at e
    exact congrArg some e
  · rename_i q
    rw [q] at e
    have a : es.toList.any (·.refKey) = false := by
      rw [List.any_eq_false]
      intro y hy
      obtain ⟨z, t, hkey⟩ := hk y (Array.mem_toList_iff.mp hy)
      simp [DictEntry.refKey, hkey]
    have a' : ¬ es.toList.any (·.refKey) = true := by rw [a]; exact Bool.false_ne_true
    rw [if_neg a']
    exact congrArg some e

theorem ObjM.look {h : Heap} {x dx C : Addr} {mA : Str → Option Value} (I : ObjM h x dx C mA) : ∃ od, PySem.W.InstAt h x (PySem.W.instObj C dx) C (some od) ∧ ∀ name, PySem.W.lookIn name od = some (mA name) :=
  let ⟨od, ho, hl⟩ := lookIn_ns I.ns
  ⟨od, ⟨I.obj, rfl, rfl, ho⟩, hl⟩

section
variable {prog : Program} {w : World} {A : Around} {E : Value → Shared → Prop} {s : Shared} {K : PySem.W.Frag} {x dx C f : Addr} {mA : Str → Option Value} {name : Str} {v : Value}

theorem get_map {expr : Bool} {Q : Value → Shared → Prop} (X : K.In s.heap) (I : ObjM s.heap x dx C mA) (hg : PySem.W.plainGet K C name = true) (hh : PySem.W.hasDictIn K C = true)
    (ha : PySem.W.findIn K (.ref C) name = some none) (hv : mA name = some v) (hv' : PySem.W.handedIn v = true) (h : Q v { s with toks := s.toks + 1 }) :
    wpAny (model prog w) A (getAttr (.ref x) name expr) Q E s := by
  obtain ⟨od, J, hl⟩ := I.look
  exact PySem.W.get_value X J (PySem.W.plainGet_of hg).1 (PySem.W.findObj_own hh ha rfl (by rw [hl, hv])) hv' h

theorem get_meth {pl : Sem Bool} {Q : Value × List Value → Shared → Prop} (X : K.In s.heap) (I : ObjM s.heap x dx C mA) (hg : PySem.W.plainGet K C name = true)
    (hf : PySem.W.findIn K (.ref C) name = some (some (.ref f))) (ht : PySem.W.isFn K (.ref f) = true) (hv : mA name = none) (h : Q (.ref f, [.ref x]) s) :
    wpAny (model prog w) A (getMethod (.ref x) name pl) Q E s := by
  obtain ⟨od, J, hl⟩ := I.look
  exact PySem.W.method_fn X J (PySem.W.plainGet_of hg).1 (PySem.W.plainGet_of hg).2 hf (beq_iff_eq.mp ht) (by show (PySem.W.lookIn name od).map (·.isSome) = some false; rw [hl, hv]; rfl) h

theorem set_map {ns : List Str} {Q : Unit → Shared → Prop} (X : K.In s.heap) (I : ObjM s.heap x dx C mA)
    (hs : PySem.W.findIn K (.ref C) "__setattr__" = some (some (.builtin "object.__setattr__"))) (hp : PySem.W.plainOver K C = true) (ht : PySem.W.takerIn K C name = some none) (hh : PySem.W.hasDictIn K C = true)
    (hw : PySem.Within mA ns) (hsz : ns.length ≤ sizeLine)
    (h : ∀ h', ObjM h' x dx C (fun y => if y = name then some v else mA y) → Heap.SameBut dx s.heap h' → Q () { s with heap := h', toks := s.toks + 2 }) :
    wpAny (model prog w) A (setAttr (.ref x) name v) Q E s := by
  obtain ⟨od, J, hl⟩ := I.look
  refine PySem.W.set_plain X J hs (PySem.W.osa_open (s := { s with toks := s.toks + 1 }) (r := none) X J hp ht fun b => ?_)
  obtain ⟨cd, hc, hd'⟩ := PySem.W.any_some hh
  have hx : s.heap.get? x = some ⟨.ref C, some dx, .plain, #[]⟩ := I.obj
  refine wpAny_bind (wpAny_pure (wpAny_bind (wpAny_bind (wpAny_loadPart hx (wpAny_bind (PySem.W.Looks.here (s := { s with toks := s.toks + 1 }) (PySem.W.looks_clsIn X hc) ?_))))))
  rw [hd']
  refine wpAny_pure (a := some dx) (wpAny_bind (wpAny_pure (wpAny_bind ?_)))
  refine wpAny_nsSet1 (s := { s with toks := s.toks + 1 }) I.ns fun h' hn2 hs2 => ?_
  obtain ⟨oD, esD, epD, hoD, hdD, hcD⟩ := hn2.count (PySem.Within.cons name v hw)
  refine wpAny_bind (wpAny_lookBehind hoD (by rw [hdD]; exact pastItsLine_dict (Nat.le_trans hcD (by rw [List.length_cons]; omega))) ?_)
  exact wpAny_pure (h _ ⟨(hs2.2 _ (Ne.symm I.ne)).trans I.obj, hn2, I.ne⟩ hs2)

/-- C(..): the dict at the heap's end, the instance behind it; then its __init__ -/
theorem make_map {R : Result → Shared → Prop} {vs : List Value} {kw : List (Str × Value)} (X : K.In s.heap) (hm : PySem.W.makesIn K C = true)
    (hi : PySem.W.findIn K (.ref C) "__init__" = some (some (.ref f))) (hf : PySem.W.typeIn K (.ref f) = some (.type "function"))
    (h : codeAny (model prog w) (A.under (.builtin "type.__call__" ⟨.ref C :: vs, kw⟩)) (.call (.ref f) ⟨.ref (s.heap.objs.size + 1) :: vs, kw⟩) (PySem.W.InitBack (s.heap.objs.size + 1) R)
      { s with heap := (s.heap.push PySem.W.emptyDict).push (PySem.W.instObj C s.heap.objs.size) }) :
    codeAny (model prog w) A (.call (.ref C) ⟨vs, kw⟩) R s := by
  obtain ⟨hh, g, d, t, os⟩ := s
  exact PySem.W.make_core (PySem.W.makes_of X hm) (PySem.W.looks_findIn X hi) (fun self => PySem.W.bind_fn X self hf) (.inl rfl) h
end

/-! ### the attributes as a list of pairs -/
def putF (f : Str) (v : V) : List (Str × V) → List (Str × V)
  | [] => [(f, v)]
  | (g, x) :: r => if g = f then (g, v) :: r else (g, x) :: putF f v r
theorem lookup_putF (f g : Str) (v : V) : ∀ fs : List (Str × V), (putF f v fs).lookup g = if g = f then some v else fs.lookup g
  | [] => by
    show List.lookup g [(f, v)] = _
    by_cases h : g = f
    · have hb : (g == f) = true := beq_iff_eq.mpr h
      simp only [List.lookup, hb, if_pos h]
    · have hb : (g == f) = false := beq_eq_false_iff_ne.mpr h
      simp only [List.lookup, hb, if_neg h]
  | (k, x) :: r => by
    have ih := lookup_putF f g v r
    rw [show putF f v ((k, x) :: r) = (if k = f then (k, v) :: r else (k, x) :: putF f v r) from rfl]
    by_cases hk : k = f
    · rw [if_pos hk]
      by_cases h : g = k
      · have hb : (g == k) = true := beq_iff_eq.mpr h
        simp only [List.lookup, hb, if_pos (h.trans hk)]
      · have hb : (g == k) = false := beq_eq_false_iff_ne.mpr h
        simp only [List.lookup, hb, if_neg (fun e : g = f => h (e.trans hk.symm))]
    · rw [if_neg hk]
      by_cases h : g = k
      · have hb : (g == k) = true := beq_iff_eq.mpr h
        simp only [List.lookup, hb, if_neg (fun e : g = f => hk (h.symm.trans e))]
      · have hb : (g == k) = false := beq_eq_false_iff_ne.mpr h
        simp only [List.lookup, hb]
        exact ih
theorem keys_putF (f : Str) (v : V) : ∀ fs : List (Str × V), f ∈ (putF f v fs).map (·.1) ∧ ∀ g, g ∈ fs.map (·.1) → g ∈ (putF f v fs).map (·.1)
  | [] => ⟨by simp [putF], fun g h => by simp at h⟩
  | (k, x) :: r => by
    obtain ⟨i1, i2⟩ := keys_putF f v r
    rw [show putF f v ((k, x) :: r) = (if k = f then (k, v) :: r else (k, x) :: putF f v r) from rfl]
    by_cases hk : k = f
    · rw [if_pos hk]
      subst hk
      exact ⟨by simp, fun g h => by simpa using h⟩
    · rw [if_neg hk]
      refine ⟨?_, fun g h => ?_⟩
      · rw [List.map_cons]
        exact List.mem_cons_of_mem _ i1
      · rw [List.map_cons] at h ⊢
        rcases List.mem_cons.mp h with e | e
        · exact List.mem_cons.mpr (.inl e)
        · exact List.mem_cons_of_mem _ (i2 g e)
theorem length_putF (f : Str) (v : V) : ∀ fs : List (Str × V), (putF f v fs).length ≤ fs.length + 1
  | [] => by simp [putF]
  | (k, x) :: r => by
    have ih := length_putF f v r
    rw [show putF f v ((k, x) :: r) = (if k = f then (k, v) :: r else (k, x) :: putF f v r) from rfl]
    by_cases hk : k = f
    · rw [if_pos hk, List.length_cons, List.length_cons]; omega
    · rw [if_neg hk, List.length_cons, List.length_cons]; omega

theorem RelO.some_of {v : V} {o : Option Value} (r : RelO (some v) o) : ∃ u, o = some u ∧ RelV v u := by
  cases o with
  | none => exact (show False from r).elim
  | some u => exact ⟨u, rfl, r⟩
theorem RelO.none_of {o : Option Value} (r : RelO none o) : o = none := by
  cases o with
  | none => rfl
  | some u => exact (show False from r).elim
theorem handed_of {v : V} {u : Value} (r : RelV v u) : PySem.W.handedIn u = true := by
  cases v with
  | non => cases (show u = Value.none from r); rfl
  | bl b => cases (show u = Value.bool b from r); rfl
  | int i => obtain ⟨t, e⟩ := (show ∃ t, u = Value.int i t from r); cases e; rfl
  | str x => obtain ⟨t, e⟩ := (show ∃ t, u = Value.str x t from r); cases e; rfl
  | byt b => obtain ⟨t, e⟩ := (show ∃ t, u = Value.bytes b t from r); cases e; rfl
  | flt b => obtain ⟨t, e⟩ := (show ∃ t, u = Value.float b t from r); cases e; rfl
  | ref a => cases (show u = Value.ref a from r); rfl
  | ty n => cases (show u = Value.type n from r); rfl

section
variable {P : Program} {w : World} {H H' : Hp} {h h' : Heap} {a C dx : Addr} {fs fs' : List (Str × V)}
theorem ins_get (hok : HOk P w H h) (e : H a = some (.ins C dx fs)) : ∃ mA, ObjM h a dx C mA ∧ (∀ f, RelO (fs.lookup f) (mA f)) ∧ PySem.Within mA (fs.map (·.1)) ∧ fs.length ≤ 1000 ∧ H dx = some (.own a) := by
  obtain ⟨d, z, ne, ob, mA, n, r, q⟩ := (show ObjOk P w H h a (.ins C dx fs) from hok a _ e)
  exact ⟨mA, ⟨ob, n, ne⟩, r, q, z, d⟩
end

/-! ### what of the text a class must have -/
structure Cls (K : PySem.W.Frag) (C : Addr) : Prop where
  pg : PySem.W.plainGet K C Str.empty = true
  hd : PySem.W.hasDictIn K C = true
  po : PySem.W.plainOver K C = true
  sa : PySem.W.findIn K (.ref C) "__setattr__" = some (some (.builtin "object.__setattr__"))
theorem Cls.get {K : PySem.W.Frag} {C : Addr} (c : Cls K C) (f : Str) : PySem.W.plainGet K C f = true := c.pg
/-- no class of it has the name -/
def NoAttr (K : PySem.W.Frag) (C : Addr) (f : Str) : Prop := PySem.W.findIn K (.ref C) f = some none
theorem NoAttr.taker {K : PySem.W.Frag} {C : Addr} {f : Str} (n : NoAttr K C f) : PySem.W.takerIn K C f = some none := by
  unfold PySem.W.takerIn
  rw [show PySem.W.findIn K (.ref C) f = some none from n]
  rfl
/-- a method: a plain def of the class or of one above it -/
structure Meth (K : PySem.W.Frag) (C : Addr) (m : Str) (f : Addr) : Prop where
  at_ : PySem.W.findIn K (.ref C) m = some (some (.ref f))
  fn : PySem.W.isFn K (.ref f) = true
  kp : PySem.W.keepIn K (.ref f) = true

section
variable {X : Cx} {pins : List (Addr × Obj)} {σ : St} {H : Hp} {s : Shared} {a C dx : Addr} {fs : List (Str × V)} {f : Str} {v : V} {A : Around} {E : Value → Shared → Prop}

theorem getattr_ok {b : Bool} {Q : Value → Shared → Prop} (I : Inv X pins σ H s) (e : H a = some (.ins C dx fs)) (c : Cls X.K C) (n : NoAttr X.K C f) (l : fs.lookup f = some v)
    (h : ∀ u s', Inv X pins σ H s' → RelV v u → Q u s') : wpAny (model X.prog X.w) A (getAttr (.ref a) f b) Q E s := by
  obtain ⟨mA, O, r, _, _, _⟩ := ins_get I.hok e
  obtain ⟨u, hu, ru⟩ := RelO.some_of (v := v) (o := mA f) (by rw [← l]; exact r f)
  exact get_map I.kIn O (c.get f) c.hd n hu (handed_of ru) (h u _ (I.tok _) ru)

theorem getmeth_ok {m : Str} {g : Addr} {pl : Sem Bool} {Q : Value × List Value → Shared → Prop} (I : Inv X pins σ H s) (e : H a = some (.ins C dx fs)) (c : Cls X.K C) (k : Meth X.K C m g) (l : fs.lookup m = none)
    (h : Q (.ref g, [.ref a]) s) : wpAny (model X.prog X.w) A (getMethod (.ref a) m pl) Q E s := by
  obtain ⟨mA, O, r, _, _, _⟩ := ins_get I.hok e
  have hn : mA m = none := RelO.none_of (by rw [← l]; exact r m)
  exact get_meth I.kIn O (c.get m) k.at_ k.fn hn h

theorem setattr_ok {y : V} {u : Value} {Q : Unit → Shared → Prop} (I : Inv X pins σ H s) (e : H a = some (.ins C dx fs)) (c : Cls X.K C) (n : NoAttr X.K C f) (hl : fs.length < 1000) (ry : RelV y u)
    (h : ∀ s', Inv X pins σ (upd H a (.ins C dx (putF f y fs))) s' → Q () s') : wpAny (model X.prog X.w) A (setAttr (.ref a) f u) Q E s := by
  obtain ⟨mA, O, r, wi, _, ho⟩ := ins_get I.hok e
  have hz : (fs.map (·.1)).length ≤ sizeLine := by rw [List.length_map, sizeLine_eq]; omega
  refine set_map I.kIn O c.sa c.po n.taker c.hd wi hz fun h' O' sb => h _ ?_
  have hd : ∃ o, h'.get? dx = some o := let ⟨o, _, _, e', _⟩ := O'.ns; ⟨o, e'⟩
  refine I.write (x := a) (e := dx) (by rw [e]; exact True.intro) (.inr ho) (fun b q hb z => (sb.2 b hb).trans z) hd ?_
  refine ⟨by rw [upd_ne O.ne]; exact ho, ?_, O.ne, O'.obj, _, O'.ns, fun g => ?_, fun g hg => ?_⟩
  · have := length_putF f y fs; omega
  · show RelO ((putF f y fs).lookup g) (if g = f then some u else mA g)
    rw [lookup_putF]
    by_cases q : g = f
    · rw [if_pos q, if_pos q]; exact ry
    · rw [if_neg q, if_neg q]; exact r g
  · by_cases q : g = f
    · rw [q]; exact (keys_putF f y fs).1
    · refine (keys_putF f y fs).2 g (wi g fun z => hg ?_)
      show (if g = f then some u else mA g) = none
      rw [if_neg q]; exact z

/-- a new instance, tracked, without attributes -/
theorem Inv.made (I : Inv X pins σ H s) : Inv X pins σ (upd (upd H s.heap.objs.size (.own (s.heap.objs.size + 1))) (s.heap.objs.size + 1) (.ins C s.heap.objs.size []))
    { s with heap := (s.heap.push PySem.W.emptyDict).push (PySem.W.instObj C s.heap.objs.size) } := by
  have e1 : (s.heap.push PySem.W.emptyDict).get? s.heap.objs.size = some PySem.W.emptyDict := Heap.get?_push_size s.heap rfl
  have e2 : ((s.heap.push PySem.W.emptyDict).push (PySem.W.instObj C s.heap.objs.size)).get? (s.heap.objs.size + 1) = some (PySem.W.instObj C s.heap.objs.size) := by
    have := Heap.get?_push_size (s.heap.push PySem.W.emptyDict) (o := PySem.W.instObj C s.heap.objs.size) rfl
    rwa [Heap.size_push] at this
  have e3 : (s.heap.push PySem.W.emptyDict).Ns s.heap.objs.size (fun _ => none) := ⟨PySem.W.emptyDict, #[], _, e1, rfl, (fun e he => absurd he (by simp)), fun _ => rfl⟩
  have I1 := I.laid (a := s.heap.objs.size) (o := .own (s.heap.objs.size + 1)) (h' := s.heap.push PySem.W.emptyDict) (t' := s.toks) (fun b u q => Heap.get?_push_of_some _ q) (Nat.le_refl _) ⟨_, e1⟩
  refine I1.laid (a := s.heap.objs.size + 1) (o := .ins C s.heap.objs.size []) (t' := s.toks) (fun b u q => Heap.get?_push_of_some _ q) (Nat.le_of_eq (Heap.size_push _ _)) ?_
  have ne : s.heap.objs.size ≠ s.heap.objs.size + 1 := Nat.ne_of_lt (Nat.lt_succ_self _)
  refine ⟨by rw [upd_ne ne, upd_same], Nat.zero_le _, ne, e2, fun _ => none, (Heap.Ns1.of_empty e3).at fun o q => Heap.get?_push_of_some _ q, fun _ => True.intro, fun y hy => absurd rfl hy⟩

/-- e.f where nothing but the object is asked: through attributeBase (super) and the last hold -/
theorem attr_of {prog : Program} {w : World} {env : Env} {e : Expr} {f : Str} {pos : Pos} {s : Shared} {Q : Value → Shared → Prop} (hb : attributeBase e f env (eval e env) = eval e env)
    (h : wpAny (model prog w) A (eval e env) (fun o s₁ => wpAny (model prog w) A (getAttr o f true) Q E s₁) E s) : wpAny (model prog w) A (eval (.Attribute e f pos) env) Q E s :=
  Attribute_any_ h (by rw [arm_eval_Attribute, hb])
end

/-! ### readings and rules -/
/-- e.f, an attribute of the instance -/
def tFld (K : PySem.W.Frag) (ta : TE) (f : Str) : TE := fun σ H Q => ta σ H fun x H1 => ∃ a C dx fs v, x = .ref a ∧ H1 a = some (.ins C dx fs) ∧ Cls K C ∧ NoAttr K C f ∧ fs.lookup f = some v ∧ Q v H1
/-- e.f = value -/
def sFld (K : PySem.W.Frag) (ta tv : TE) (f : Str) : TS := fun D σ H => tv σ H fun y H1 => ta σ H1 fun x H2 => ∃ a C dx fs, x = .ref a ∧ H2 a = some (.ins C dx fs) ∧ Cls K C ∧ NoAttr K C f ∧ fs.length < 1000 ∧
  D.nx σ (upd H2 a (.ins C dx (putF f y fs)))
section
variable {X : Cx} {o e value : Expr} {f : Str} {pos pos' tpos : Pos} {ta tv : TE}
theorem pe_fld (he : PE X e ta) (hb : attributeBase e f X.env (eval e X.env) = eval e X.env) : PE X (.Attribute e f pos) (tFld X.K ta f) := by
  intro pins s σ H Q I h
  refine attr_of hb (thn (he pins s σ H _ I h) ?_)
  rintro u s1 ⟨x, H1, I1, rx, a, C, dx, fs, v, ex, ea, c, n, l, q⟩
  subst ex
  obtain rfl : u = Value.ref a := rx
  exact getattr_ok I1 ea c n l fun u' s2 I2 ru => ⟨v, H1, I2, ru, q⟩
theorem ps_fld (ha : PE X o ta) (hv : PE X value tv) (hs : swapsWith value (some (.Attribute o f pos')) pos.line X.env = pure false) : PS X (.Assign [.Attribute o f pos'] value pos) (sFld X.K ta tv f) := by
  intro pins s σ H D I h
  refine plainObj_wpAny_Assign_Attribute (thn (hv pins s σ H _ I h) ?_) hs
  rintro u s1 ⟨y, H1, I1, ry, q⟩
  refine thn (ha pins s1 σ H1 _ I1 q) ?_
  rintro ov s2 ⟨x, H2, I2, rx, a, C, dx, fs, ex, ea, c, n, l, q2⟩
  subst ex
  obtain rfl : ov = Value.ref a := rx
  exact setattr_ok I2 ea c n l ry fun s3 I3 => ⟨σ, _, I3, q2⟩
end

/-! ### isinstance -/
section
variable {X : Cx} {pins : List (Addr × Obj)} {σ : St} {H : Hp} {s : Shared} {A : Around} {E : Value → Shared → Prop} {Q : Value → Shared → Prop} {c : Value} {b : Bool}
/-- the type of a value, as the fragment's deciders take it; for an instance its class -/
inductive TyOf (K : PySem.W.Frag) (H : Hp) : V → Value → Prop where
  | non : TyOf K H .non (.type "NoneType")
  | bl (x : Bool) : TyOf K H (.bl x) (.type "bool")
  | int (i : Int) : TyOf K H (.int i) (.type "int")
  | str (x : Str) : TyOf K H (.str x) (.type "str")
  | flt (x : UInt64) : TyOf K H (.flt x) (.type "float")
  | lst {a : Addr} {xs : List V} (e : H a = some (.lst xs)) : TyOf K H (.ref a) (.type "list")
  | frz {a : Addr} {o : Obj} {xs : List V} (e : H a = some (.frz o (.lst xs))) : TyOf K H (.ref a) (.type "list")
  | tup {a : Addr} {xs : List V} (e : H a = some (.tup xs)) : TyOf K H (.ref a) (.type "tuple")
  | dK {a : Addr} {kvs : List (Key × V)} (e : H a = some (.dK kvs)) : TyOf K H (.ref a) (.type "dict")
  | dT {a : Addr} {kvs : List (List Key × V)} (e : H a = some (.dT kvs)) : TyOf K H (.ref a) (.type "dict")
  | ins {a C dx : Addr} {fs : List (Str × V)} (e : H a = some (.ins C dx fs)) (cl : Cls K C) (ha : PySem.W.findIn K (.ref C) "__class__" = some (some (.builtin "object.__class__")))
      (hn : PySem.W.specialIn K (.builtin "object.__class__") "__get__" = some (some (.builtin "getset_descriptor.__get__"))) (htk : PySem.W.takesIn K (.builtin "object.__class__") = some true)
      (hm : PySem.W.mroIn K C (.type "object") = some true) : TyOf K H (.ref a) (.ref C)
/-- isinstance(x, c) for one class c, a built-in or an own one: kitOne's answer -/
theorem isinst_ok {x : V} {u t : Value} (I : Inv X pins σ H s) (rx : RelV x u) (ty : TyOf X.K H x t) (e : PySem.W.kitOne X.K t c = some b) (h : ∀ tk, Q (.bool b) { s with toks := tk }) :
    wpAny (model X.prog X.w) A (call (.builtin "isinstance") [u, c]) Q E s := by
  cases ty with
  | non => cases (show u = Value.none from rx); exact PySem.W.kia_one PySem.W.kitx_none I.kIn True.intro e (fun z => nomatch z) h
  | bl y => cases (show u = Value.bool y from rx); exact PySem.W.kia_one PySem.W.kitx_bool I.kIn True.intro e (fun z => nomatch z) h
  | int i => obtain ⟨t, q⟩ := (show ∃ t, u = Value.int i t from rx); cases q; exact PySem.W.kia_one PySem.W.kitx_int I.kIn True.intro e (fun z => nomatch z) h
  | str y => obtain ⟨t, q⟩ := (show ∃ t, u = Value.str y t from rx); cases q; exact PySem.W.kia_one PySem.W.kitx_str I.kIn True.intro e (fun z => nomatch z) h
  | flt y => obtain ⟨t, q⟩ := (show ∃ t, u = Value.float y t from rx); cases q; exact PySem.W.kia_one PySem.W.kitx_float I.kIn True.intro e (fun z => nomatch z) h
  | @lst a xs ea =>
    cases (show u = Value.ref a from rx)
    obtain ⟨_, _, n, _, h1⟩ := (show ObjOk X.prog X.w H s.heap a (.lst xs) from I.hok a _ ea)
    exact PySem.W.kia_one PySem.W.kitx_list I.kIn ⟨_, h1, rfl⟩ e (fun z => nomatch z) h
  | @frz a ob xs ea =>
    cases (show u = Value.ref a from rx)
    obtain ⟨_, _, _, n, _, h1⟩ := (show ObjOk X.prog X.w H s.heap a (.frz ob (.lst xs)) from I.hok a _ ea)
    exact PySem.W.kia_one PySem.W.kitx_list I.kIn ⟨_, h1, rfl⟩ e (fun z => nomatch z) h
  | @tup a xs ea =>
    cases (show u = Value.ref a from rx)
    obtain ⟨_, _, _, p⟩ := (show ObjOk X.prog X.w H s.heap a (.tup xs) from I.hok a _ ea)
    obtain ⟨o, h1, h2, _⟩ := p
    exact PySem.W.kia_one PySem.W.kitx_tuple I.kIn ⟨o, h1, h2⟩ e (fun z => nomatch z) h
  | @dK a kvs ea =>
    cases (show u = Value.ref a from rx)
    obtain ⟨_, _, vs, _, p⟩ := (show ObjOk X.prog X.w H s.heap a (.dK kvs) from I.hok a _ ea)
    obtain ⟨o, es, ep, h1, h2, _⟩ := p
    exact PySem.W.kia_one PySem.W.kitx_dict I.kIn ⟨o, h1, h2.1⟩ e (fun z => nomatch z) h
  | @dT a kvs ea =>
    cases (show u = Value.ref a from rx)
    obtain ⟨_, _, xs, _, o, es, ep, h1, h2, _⟩ := (show ObjOk X.prog X.w H s.heap a (.dT kvs) from I.hok a _ ea)
    exact PySem.W.kia_one PySem.W.kitx_dict I.kIn ⟨o, h1, h2.1⟩ e (fun z => nomatch z) h
  | @ins a C dx fs ea cl ha hn htk hm =>
    cases (show u = Value.ref a from rx)
    obtain ⟨mA, O, _⟩ := ins_get I.hok ea
    obtain ⟨od, J, _⟩ := O.look
    exact PySem.W.kia_one (PySem.W.kitx_own (cl.get _) cl.hd ha hn htk hm) I.kIn J e (fun z => nomatch z) h
end
end L2

namespace L2
open PySem PySem.Spec PyProof.Rows

/-! ### room -/
structure Room (k : Nat) (A : Around) : Prop where
  hd : A.handled = none
  dp : A.depth + 3 * k + 5 < recursionLimit
  un : A.units + 16 * k + 200 < cLine
  gd : A.guards = some []
theorem Room.mono {j k : Nat} {A : Around} (r : Room k A) (h : j ≤ k) : Room j A := ⟨r.hd, by have := r.dp; omega, by have := r.un; omega, r.gd⟩
theorem Room.deeper {k : Nat} {A : Around} (r : Room (k + 1) A) (env : Env) : Room k (A.deeper env) :=
  ⟨r.hd, by have := r.dp; show A.depth + 1 + 3 * k + 5 < _; omega, by have := r.un; show A.units + 3 + 16 * k + 200 < _; omega, r.gd⟩
theorem make_depth {A : Around} {C : Addr} {us : List Value} {kw : List (Str × Value)} : (A.under (.builtin "type.__call__" ⟨.ref C :: us, kw⟩)).depth = A.depth + 1 := by
  first | rfl | simp [Around.under, Code.weight, Code.isCreation, Code.isGuard, Code.isCaller, Code.frames, Code.isFrame, guardIds]
theorem make_units {A : Around} {C : Addr} {us : List Value} {kw : List (Str × Value)} : (A.under (.builtin "type.__call__" ⟨.ref C :: us, kw⟩)).units = A.units + 1 := by
  first | rfl | simp [Around.under, Code.cUnits, Code.frames, Code.isFrame]
theorem make_guards {A : Around} {C : Addr} {us : List Value} {kw : List (Str × Value)} : (A.under (.builtin "type.__call__" ⟨.ref C :: us, kw⟩)).guards = A.guards := by
  show pushGuards (Code.guards (.builtin "type.__call__" ⟨.ref C :: us, kw⟩)) A.guards = A.guards
  have h : Code.isGuard (.builtin "type.__call__" ⟨.ref C :: us, kw⟩) = false := by first | rfl | (simp [Code.isGuard, guardIds]) | decide
  unfold Code.guards
  rw [h]
  cases A.guards <;> rfl
theorem Room.make {k : Nat} {A : Around} (r : Room (k + 1) A) (C : Addr) (us : List Value) (kw : List (Str × Value)) : Room k (A.under (.builtin "type.__call__" ⟨.ref C :: us, kw⟩)) :=
  ⟨r.hd, by have := r.dp; rw [make_depth]; omega, by have := r.un; rw [make_units]; omega, by rw [make_guards]; exact r.gd⟩
theorem Room.depth {k : Nat} {A : Around} (r : Room k A) : A.depth < recursionLimit := by have := r.dp; omega
theorem Room.units {k : Nat} {A : Around} (r : Room k A) : A.units + 64 < cLine := by have := r.un; omega
/-! ### argument lists and displays -/
def tNil : TA := fun _ H Q => Q [] H
def tCons (ta : TE) (tr : TA) : TA := fun σ H Q => ta σ H fun x H1 => tr σ H1 fun xs H2 => Q (x :: xs) H2
section
variable {X : Cx} {e : Expr} {es : List Expr} {te : TE} {t : TA} {pos : Pos}
theorem pa_nil : PA X [] tNil := fun _ _ _ _ H Q I h => Calls.spliced_nil ⟨[], H, I, .nil, h⟩
theorem pa_cons (ha : PE X e te) (hr : PA X es t) (hs : starEach (e :: es) X.env = (false, eval e X.env) :: starEach es X.env := by rfl) : PA X (e :: es) (tCons te t) := by
  intro pos pins s σ H Q I h
  rw [hs]
  show wpAny _ _ (spliced ((false, eval e X.env) :: backTo pos (starEach es X.env))) _ _ s
  refine Calls.spliced_cons (thn (ha pins s σ H _ I h) ?_)
  rintro u s1 ⟨x, H1, I1, r1, q1⟩
  exact thn (hr pos pins s1 σ H1 _ I1 q1) (by rintro us s2 ⟨xs, H2, I2, r2, q2⟩; exact ⟨x :: xs, H2, I2, .cons r1 r2, q2⟩)

/-- a tuple, a list of written items -/
def tTup (t : TA) : TE := fun σ H Q => t σ H fun xs H1 => xs.length ≤ sizeLine ∧ ∀ p, H1 p = none → Q (.ref p) (upd H1 p (.tup xs))
def tLst (t : TA) : TE := fun σ H Q => t σ H fun xs H1 => xs.length ≤ sizeLine ∧ ∀ p, H1 p = none → Q (.ref p) (upd H1 p (.lst xs))
theorem pe_tup {x1} (h : PA X es t) : PE X (.Tuple es x1 pos) (tTup t) := by
  intro pins s σ H Q I hq
  refine wpAny_Tuple_spliced (thn (h pos pins s σ H _ I hq) fun us s1 ⟨xs, H1, I1, r, z, q⟩ => ⟨by rw [← r.length]; exact z, ?_⟩)
  have hf : H1 s1.heap.objs.size = none := I1.hok.fresh (Nat.le_refl _)
  refine ⟨.ref s1.heap.objs.size, upd H1 s1.heap.objs.size (.tup xs), I1.laid (t' := s1.toks) (fun b u e => Heap.get?_push_of_some _ e) (Nat.le_refl _) ?_, rfl, q _ hf⟩
  exact ⟨z, us, r, ⟨_, Heap.get?_push_size _ rfl, rfl, _, rfl⟩⟩
theorem pe_lst (h : PA X es t) : PE X (.List es pos) (tLst t) := by
  intro pins s σ H Q I hq
  refine wpAny_List_spliced (thn (h pos pins s σ H _ I hq) fun us s1 ⟨xs, H1, I1, r, z, q⟩ => ⟨by rw [← r.length]; exact z, ?_⟩)
  have hf : H1 s1.heap.objs.size = none := I1.hok.fresh (Nat.le_refl _)
  refine ⟨.ref s1.heap.objs.size, upd H1 s1.heap.objs.size (.lst xs), I1.laid (t' := s1.toks) (fun b u e => Heap.get?_push_of_some _ e) (Nat.le_refl _) ?_, rfl, q _ hf⟩
  exact ⟨z, us, 0, r, Heap.get?_push_size _ rfl⟩
end

/-! ### what a def promises -/
/-- a def's promise: the bound arguments in the parameters' order, the heap, the wanted end, the wanted exception -/
abbrev Sp := List V → Hp → VK → XK → Prop
/-- how an exception lies behind a call (file 08 gives it): the callers' frames, abstract heap and state ahead of the call, the wish, the exception, the state -/
abbrev CXT := List Env → Hp → Shared → XK → Value → Shared → Prop

/-- the state at a call -/
structure Env0 (P : Program) (w : World) (K : PySem.W.Frag) (mg : Str → Option Value) (base : Heap) (A : Around) (outer : List Env) (s : Shared) (H : Hp) : Prop where
  frames : A.frames = some outer
  mod : Mod K mg base
  bs : ∀ b o, base.get? b = some o → s.heap.get? b = some o ∧ H b = none
  bsz : base.objs.size ≤ s.heap.objs.size
  funs : s.heap.FunFrames base outer
  frf : ∀ b ∈ frs outer, H b = none
  hok : HOk P w H s.heap
  bare : AllBare s.gens
/-- a call's end -/
def CE (outer : List Env) (P : Program) (w : World) (H : Hp) (s : Shared) (Q : VK) (u : Value) (s' : Shared) : Prop :=
  ∃ v H', s'.os = s.os ∧ AllBare s'.gens ∧ Un (frs outer) [] H H' s.heap s'.heap ∧ HOk P w H' s'.heap ∧ RelV v u ∧ Q v H'
def CR (CX : CXT) (outer : List Env) (P : Program) (w : World) (H : Hp) (s : Shared) (Q : VK) (E : XK) (r : Result) (s' : Shared) : Prop :=
  match r with
  | .ok (.ret u) => CE outer P w H s Q u s'
  | .ok _ => False
  | .error e => CX outer H s E e s'
structure FnOk (P : Program) (w : World) (K : PySem.W.Frag) (mg : Str → Option Value) (base : Heap) (CX : CXT) (k : Nat) (f : Addr) (fd : FuncData) (ps : List Str) (sp : Sp) : Prop where
  len : ∀ vs H Q E, sp vs H Q E → vs.length = ps.length
  run : ∀ (A : Around) (outer : List Env) (s : Shared) (H : Hp) (args : Args) (us : List Value) (vs : List V) (Q : VK) (E : XK), Room k A → Env0 P w K mg base A outer s H → BindsTo s fd args (ps.zip us) → Vals vs us → sp vs H Q E →
    codeAny (model P w) A (.call (.ref f) args) (CR CX outer P w H s Q E) s
theorem FnOk.mono {P : Program} {w : World} {K : PySem.W.Frag} {mg : Str → Option Value} {base : Heap} {CX : CXT} {j k : Nat} {f : Addr} {fd : FuncData} {ps : List Str} {sp : Sp} (F : FnOk P w K mg base CX j f fd ps sp) (h : j ≤ k) :
    FnOk P w K mg base CX k f fd ps sp := ⟨F.len, fun A outer s H args us vs Q E hr => F.run A outer s H args us vs Q E (hr.mono h)⟩
theorem Env0.make {P : Program} {w : World} {K : PySem.W.Frag} {mg : Str → Option Value} {base : Heap} {A : Around} {outer : List Env} {s : Shared} {H : Hp} (e : Env0 P w K mg base A outer s H) (C : Addr) (us : List Value) (kw : List (Str × Value)) :
    Env0 P w K mg base (A.under (.builtin "type.__call__" ⟨.ref C :: us, kw⟩)) outer s H := ⟨by first | exact e.frames | (simpa [Around.under, Code.envs, Code.isFrame, pushEnvs] using e.frames), e.mod, e.bs, e.bsz, e.funs, e.frf, e.hok, e.bare⟩
section
variable {X : Cx} {pins : List (Addr × Obj)} {σ : St} {H : Hp} {s s' : Shared}
/-- from a body: what a callee wants -/
theorem Inv.env0 (I : Inv X pins σ H s) : Env0 X.prog X.w X.K X.mg X.base X.A X.stack s H :=
  ⟨I.ok.frames, I.ok.mod, I.bs, Nat.le_trans I.ok.bsz I.sz, I.stack, I.stkFree, I.hok, I.bare⟩
/-- behind a call -/
theorem Inv.after {Q : VK} {u : Value} (I : Inv X pins σ H s) (h : CE X.stack X.prog X.w H s Q u s') : EP X pins σ Q u s' := by
  obtain ⟨v, H', os, bare, un, hok, r, q⟩ := h
  obtain ⟨hh, g, d, t, os'⟩ := s'
  obtain rfl : os' = s.os := os
  exact ⟨v, H', I.call (h' := hh) (g' := g) (d' := d) (t' := t) (ch := []) un hok bare (fun b z => absurd z (by simp)), r, q⟩
end

/-! ### calls -/
/-- f(..): the written arguments, then the defaults dvs; E: what is wanted of an exception -/
def tCall (sp : Sp) (dvs : List V) (E : XK) (t : TA) : TE := fun σ H Q => t σ H fun vs H1 => sp (vs ++ dvs) H1 Q E
/-- o.m(..) of an instance of the class at C -/
def tMeth (C : Addr) (m : Str) (sp : Sp) (dvs : List V) (E : XK) (ta : TE) (t : TA) : TE := fun σ H Q => ta σ H fun x H1 => ∃ a dx fs, x = .ref a ∧ H1 a = some (.ins C dx fs) ∧ fs.lookup m = none ∧
  t σ H1 fun vs H2 => sp (x :: (vs ++ dvs)) H2 Q E
/-- C(..): a new instance and its dict, then __init__ -/
def tMake (C : Addr) (sp : Sp) (dvs : List V) (E : XK) (t : TA) : TE := fun σ H Q => t σ H fun vs H1 => ∀ x dx, H1 x = none → H1 dx = none → dx ≠ x →
  sp (.ref x :: (vs ++ dvs)) (upd (upd H1 dx (.own x)) x (.ins C dx [])) (fun v H2 => v = .non ∧ Q (.ref x) H2) E

/-- how the parameters are bound: us the positional arguments, kw the keywords' values by name, ds the defaults that fill up -/
def Binds (K : PySem.W.Frag) (fd : FuncData) (ps : List Str) (ds : List Value) : Prop :=
  ∀ (s : Shared) (us : List Value), K.In s.heap → (us ++ ds).length = ps.length → BindsTo s fd ⟨us, []⟩ (ps.zip (us ++ ds))
/-- every parameter is given -/
theorem Binds.all {K : PySem.W.Frag} {fd : FuncData} {ps : List Str} (h : ∀ us : List Value, us.length = ps.length → bindArgs fd ⟨us, []⟩ = pure (ps.zip us)) : Binds K fd ps [] := fun s us _ hl => by
  rw [List.append_nil] at hl ⊢
  exact .of_eq (h us hl)

/-- an exception of a callee reaches what this body wants of exceptions -/
def Passes (CX : CXT) (X : Cx) (E : XK) : Prop := ∀ (pins : List (Addr × Obj)) (σ : St) (H : Hp) (s : Shared) (e : Value) (s' : Shared), Inv X pins σ H s → CX X.stack H s E e s' → X.xe e s'

section
variable {X : Cx} {CX : CXT} {k : Nat} {f C : Addr} {fd : FuncData} {ps : List Str} {sp : Sp} {dvs : List V} {ds : List Value} {E : XK} {x m : Str} {p pos apos : Pos} {e o : Expr} {es : List Expr} {ta : TE} {t : TA}

/-- the callee runs -/
theorem run_fn {pins : List (Addr × Obj)} {σ : St} {H : Hp} {s : Shared} {Q : VK} {us : List Value} {vs : List V} (F : FnOk X.prog X.w X.K X.mg X.base CX k f fd ps sp) (hr : Room k X.A) (hb : Binds X.K fd ps ds) (hd : Vals dvs ds) (hx : Passes CX X E)
    (I : Inv X pins σ H s) (r : Vals vs us) (h : sp (vs ++ dvs) H Q E) : wpAny (model X.prog X.w) X.A (call (.ref f) us) (EP X pins σ Q) X.xe s := by
  have r2 : Vals (vs ++ dvs) (us ++ ds) := r.append hd
  have hl : (us ++ ds).length = ps.length := by rw [← r2.length]; exact F.len _ _ _ _ h
  refine wpAny_call (codeAny_mono (F.run X.A X.stack s H ⟨us, []⟩ (us ++ ds) (vs ++ dvs) Q E hr I.env0 (hb s us I.kIn hl) r2 h) fun r s' hq => ?_)
  cases r with
  | error e => exact hx pins σ H s e s' I hq
  | ok fl =>
    cases fl with
    | ret u => exact I.after hq
    | next => exact False.elim hq
    | brk => exact False.elim hq
    | cont => exact False.elim hq

theorem pe_call (F : FnOk X.prog X.w X.K X.mg X.base CX k f fd ps sp) (hr : Room k X.A) (hg : Gl X x) (hm : X.mg x = some (.ref f)) (hk : PySem.W.keepIn X.K (.ref f) = true) (hb : Binds X.K fd ps ds) (hd : Vals dvs ds) (hx : Passes CX X E)
    (ha : PA X (e :: es) t) (hdb : (x == ("__debug__" : Str)) = false := by decide) (he : starEach (e :: es) X.env = (false, eval e X.env) :: starEach es X.env := by rfl) (hpl : (backTo pos (starEach es X.env)).any (·.1) = false := by rfl) :
    PE X (.Call (.Name x p) (e :: es) [] pos) (tCall sp dvs E t) := by
  intro pins s σ H Q I h
  refine wpAny_Call_Name_kw (ld_glob I hg hm ?_ hdb)
  refine PySem.W.callWith_K (h₀ := X.base) I.ok.mod.kin hk (thn (ha pos pins s σ H _ I h) fun us s1 ⟨vs, H1, I1, r, q⟩ => ⟨I1.kIn, ?_⟩) he hpl
  exact run_fn F hr hb hd hx I1 r q
/-- o.m() -/
theorem pe_meth0 {pl : Sem Bool} (he : PE X o ta) (c : Cls X.K C) (hm : Meth X.K C m f) (F : FnOk X.prog X.w X.K X.mg X.base CX k f fd ps sp) (hr : Room k X.A) (hb : Binds X.K fd ps ds) (hd : Vals dvs ds) (hx : Passes CX X E)
    (ht : eval (.Call (.Attribute o m apos) [] [] pos) X.env = (do
      let ov ← eval o X.env
      standAt apos.atName
      let (f, first) ← holding [ov] (getMethod ov m pl)
      callWith pos f first (backTo pos (starEach [] X.env)) (backToKw pos (keywordEach [] X.env))) := by rfl) :
    PE X (.Call (.Attribute o m apos) [] [] pos) (tMeth C m sp dvs E ta tNil) := by
  intro pins s σ H Q I h
  refine PySem.W.methodCall_KW (pl := pl) (thn (he pins s σ H _ I h) ?_) ht
  rintro u s1 ⟨x, H1, I1, rx, a, dx, fs, ex, ea, l, q⟩
  subst ex
  obtain rfl : u = Value.ref a := rx
  refine getmeth_ok I1 ea c hm l ?_
  exact PySem.W.callWith_K0 (first := [.ref a]) I1.kIn hm.kp (run_fn (us := [.ref a]) (vs := [.ref a]) F hr hb hd hx I1 (.cons rfl .nil) q)

/-- what a class must have to be made -/
structure Mk (K : PySem.W.Frag) (C f : Addr) : Prop where
  makes : PySem.W.makesIn K C = true
  init : PySem.W.findIn K (.ref C) "__init__" = some (some (.ref f))
  fn : PySem.W.isFn K (.ref f) = true
  kp : PySem.W.keepIn K (.ref C) = true

theorem run_make {pins : List (Addr × Obj)} {σ : St} {H : Hp} {s : Shared} {Q : VK} {us : List Value} {vs : List V} (M : Mk X.K C f) (F : FnOk X.prog X.w X.K X.mg X.base CX k f fd ps sp) (hr : Room (k + 1) X.A) (hb : Binds X.K fd ps ds) (hd : Vals dvs ds)
    (hx : Passes CX X E) (I : Inv X pins σ H s) (r : Vals vs us)
    (h : ∀ x dx, H x = none → H dx = none → dx ≠ x → sp (.ref x :: (vs ++ dvs)) (upd (upd H dx (.own x)) x (.ins C dx [])) (fun v H2 => v = .non ∧ Q (.ref x) H2) E) :
    wpAny (model X.prog X.w) X.A (call (.ref C) us) (EP X pins σ Q) X.xe s := by
  have hq := h (s.heap.objs.size + 1) s.heap.objs.size (I.hok.fresh (Nat.le_succ _)) (I.hok.fresh (Nat.le_refl _)) (Nat.ne_of_lt (Nat.lt_succ_self _))
  have I2 := Inv.made (C := C) I
  have r2 : Vals (V.ref (s.heap.objs.size + 1) :: (vs ++ dvs)) (Value.ref (s.heap.objs.size + 1) :: (us ++ ds)) := .cons rfl (r.append hd)
  have hl : (Value.ref (s.heap.objs.size + 1) :: us ++ ds).length = ps.length := by
    have e := r2.length
    rw [F.len _ _ _ _ hq] at e
    exact e.symm
  refine wpAny_call (make_map (f := f) I.kIn M.makes M.init (beq_iff_eq.mp M.fn) (codeAny_mono (F.run _ X.stack _ _ ⟨Value.ref (s.heap.objs.size + 1) :: us, []⟩ (Value.ref (s.heap.objs.size + 1) :: (us ++ ds)) _ _ E (hr.make C us [])
    (I2.env0.make C us []) (hb _ (Value.ref (s.heap.objs.size + 1) :: us) I2.kIn hl) r2 hq) fun r s' hq' => ?_))
  cases r with
  | error e => exact hx pins σ _ _ e s' I2 hq'
  | ok fl =>
    cases fl with
    | ret u =>
      obtain ⟨v, H', I3, rv, ev, q3⟩ := I2.after hq'
      subst ev
      exact ⟨rv, ⟨V.ref (s.heap.objs.size + 1), H', I3, rfl, q3⟩⟩
    | next => exact False.elim hq'
    | brk => exact False.elim hq'
    | cont => exact False.elim hq'
theorem pe_make (M : Mk X.K C f) (F : FnOk X.prog X.w X.K X.mg X.base CX k f fd ps sp) (hr : Room (k + 1) X.A) (hg : Gl X x) (hm : X.mg x = some (.ref C)) (hb : Binds X.K fd ps ds) (hd : Vals dvs ds) (hx : Passes CX X E)
    (ha : PA X (e :: es) t) (hdb : (x == ("__debug__" : Str)) = false := by decide) (he : starEach (e :: es) X.env = (false, eval e X.env) :: starEach es X.env := by rfl) (hpl : (backTo pos (starEach es X.env)).any (·.1) = false := by rfl) :
    PE X (.Call (.Name x p) (e :: es) [] pos) (tMake C sp dvs E t) := by
  intro pins s σ H Q I h
  refine wpAny_Call_Name_kw (ld_glob I hg hm ?_ hdb)
  refine PySem.W.callWith_K (h₀ := X.base) I.ok.mod.kin M.kp (thn (ha pos pins s σ H _ I h) fun us s1 ⟨vs, H1, I1, r, q⟩ => ⟨I1.kIn, ?_⟩) he hpl
  exact run_make M F hr hb hd hx I1 r q
end

/-! ### keywords -/
section
variable {X : Cx} {CX : CXT} {k : Nat} {f C : Addr} {fd : FuncData} {ps ks : List Str} {sp : Sp} {E : XK} {x m : Str} {p pos apos kpos : Pos} {e o : Expr} {es : List Expr} {kws : List Keyword} {te ta : TE} {t tk : TA} {nm : Option Str}
variable {g : List Value → List Value → List Value} {gV : List V → List V → List V}
end

/-! ### a def's body keeps its promise -/
/-- names: the parameters first -/
structure FnScope (N P : List Str) (sc : Scope) : Prop where
  kind : sc.kind = .function
  co : sc.isCoroutine = false
  gen : sc.isGenerator = false
  nd : N.Nodup
  pre : N.take P.length = P
  par : ∀ x ∈ P, sc.names.lookup x = some .local ∨ sc.names.lookup x = some .cell
  nofree : ∀ y ∈ sc.names, y.2 ≠ .free

theorem bindL_out {kindOf : Str → Option NameKind} {x : Str} : ∀ {binds : List (Str × Value)} {m : Str → Option Value}, (∀ v, (x, v) ∉ binds) → bindL kindOf binds m x = m x
  | [], _, _ => rfl
  | (n, v) :: r, m, h => by
    unfold bindL
    rw [bindL_out fun w hw => h w (List.mem_cons_of_mem _ hw)]
    split
    · have : x ≠ n := by rintro rfl; exact h v List.mem_cons_self
      simp [this]
    · rfl
theorem bindC_out {kindOf : Str → Option NameKind} {x : Str} : ∀ {binds : List (Str × Value)} {m : Str → Option Value}, (∀ v, (x, v) ∉ binds) → bindC kindOf binds m x = m x
  | [], _, _ => rfl
  | (n, v) :: r, m, h => by
    unfold bindC
    rw [bindC_out fun w hw => h w (List.mem_cons_of_mem _ hw)]
    split
    · rfl
    · have : x ≠ n := by rintro rfl; exact h v List.mem_cons_self
      simp [this]
theorem bindL_get {kindOf : Str → Option NameKind} {x : Str} {v : Value} : ∀ {P : List Str} {vs : List Value} {i : Nat} {m : Str → Option Value}, P.Nodup → P[i]? = some x → vs[i]? = some v → kindOf x = some .local →
    bindL kindOf (P.zip vs) m x = some v
  | [], _, _, _, _, h, _, _ => by simp at h
  | _ :: _, [], _, _, _, _, h, _ => by simp at h
  | p :: P, w :: vs, 0, m, nd, h1, h2, hk => by
    simp at h1 h2; subst h1; subst h2
    show bindL kindOf ((p, w) :: P.zip vs) m p = _
    unfold bindL
    rw [bindL_out fun v hv => (List.nodup_cons.mp nd).1 (List.of_mem_zip hv).1, if_pos hk]
    simp
  | p :: P, w :: vs, i + 1, m, nd, h1, h2, hk => by
    show bindL kindOf ((p, w) :: P.zip vs) m x = _
    unfold bindL
    exact bindL_get (i := i) (List.nodup_cons.mp nd).2 (by simpa using h1) (by simpa using h2) hk
theorem bindC_get {kindOf : Str → Option NameKind} {x : Str} {v : Value} : ∀ {P : List Str} {vs : List Value} {i : Nat} {m : Str → Option Value}, P.Nodup → P[i]? = some x → vs[i]? = some v → kindOf x ≠ some .local →
    bindC kindOf (P.zip vs) m x = some v
  | [], _, _, _, _, h, _, _ => by simp at h
  | _ :: _, [], _, _, _, _, h, _ => by simp at h
  | p :: P, w :: vs, 0, m, nd, h1, h2, hk => by
    simp at h1 h2; subst h1; subst h2
    show bindC kindOf ((p, w) :: P.zip vs) m p = _
    unfold bindC
    rw [bindC_out fun v hv => (List.nodup_cons.mp nd).1 (List.of_mem_zip hv).1, if_neg hk]
    simp
  | p :: P, w :: vs, i + 1, m, nd, h1, h2, hk => by
    show bindC kindOf ((p, w) :: P.zip vs) m x = _
    unfold bindC
    exact bindC_get (i := i) (List.nodup_cons.mp nd).2 (by simpa using h1) (by simpa using h2) hk

/-- the names' values at the entry -/
def start (N : List Str) (vs : List V) : St := vs.map some ++ List.replicate (N.length - vs.length) none

/-- the context of a def's body, at its entry; an exception leaves the frame, then lies as CX says -/
def cxOf (CX : CXT) (P : Program) (w : World) (K : PySem.W.Frag) (mg : Str → Option Value) (base : Heap) (N : List Str) (qual : Str) (scope : Scope) (f : Addr) (cd : Value) (A : Around) (outer : List Env) (s : Shared) (H : Hp) (E : XK) : Cx where
  prog := P
  w := w
  K := K
  mg := mg
  base := base
  A := A.deeper (envOfC qual scope s.heap.objs.size f cd)
  N := N
  s₀ := s
  H₀ := H
  env := envOfC qual scope s.heap.objs.size f cd
  outer := outer
  stack := envOfC qual scope s.heap.objs.size f cd :: outer
  ex := []
  calm := true
  fn := fun _ => true
  pn := []
  xe := fun e s' => wpAny (model P w) (A.deeper (envOfC qual scope s.heap.objs.size f cd)) (leaving (envOfC qual scope s.heap.objs.size f cd) e) (fun _ s'' => CX outer H s E e s'') (fun e' s'' => CX outer H s E e' s'') s'

theorem cell_has {sc : Scope} {n : Nat} {x : Str} (h : sc.names.lookup x = some .cell) : ∃ c, (cellsFrom n sc.names []).lookup x = some c := by
  have q := PySem.W.cellsFrom_some sc.names n [] (.inl h)
  exact Option.isSome_iff_exists.mp q

theorem inv_start {CX : CXT} {P : Program} {w : World} {K : PySem.W.Frag} {mg : Str → Option Value} {base : Heap} {N ps : List Str} {qual : Str} {scope : Scope} {f : Addr} {cd : Value} {A : Around} {outer : List Env} {s s1 : Shared} {H : Hp} {E : XK} {us : List Value} {vs : List V}
    (S : FnScope N ps scope) (hd : A.handled = none) (e0 : Env0 P w K mg base A outer s H) (hl : vs.length = ps.length) (r : Vals vs us)
    (x : InCallC s s.heap.objs.size (bindL (envOfC qual scope s.heap.objs.size f cd).kindOf (ps.zip us) fun _ => none) (cellsFrom (s.heap.objs.size + 1) scope.names []) (bindC (envOfC qual scope s.heap.objs.size f cd).kindOf (ps.zip us) fun _ => none) s1) :
    Inv (cxOf CX P w K mg base N qual scope f cd A outer s H E) [] (start N vs) H s1 := by
  have hpl : ps.length ≤ N.length := by have := congrArg List.length S.pre; rw [List.length_take] at this; omega
  obtain ⟨h1, tk, rfl, hk⟩ := x.done
  have noA : ∀ b : Addr, b ∉ (cxOf CX P w K mg base N qual scope f cd A outer s H E).ex := fun b z => absurd (show b ∈ ([] : List Addr) from z) (by simp)
  refine ⟨⟨e0.mod, S.kind, rfl, rfl, Nat.le_refl _, fun y z c h1 h2 => ?_, fun y hy => ?_, fun y c _ h => ?_, fun _ => hd, Around.frames_deeper e0.frames, .inr ⟨rfl, rfl⟩, fun b z => absurd z (noA b), e0.bs, e0.bsz, fun b _ _ => noA b, fun b z => absurd z (noA b), e0.funs, e0.frf⟩,
    rfl, e0.bare, Un.kept hk, ⟨_, x.toInCall.ns, fun i y v h1 h2 h3 => ?_⟩, fun y c h => ⟨_, x.cell y c h⟩, e0.hok.fresh (Nat.le_refl _), fun y c h => ?_, fun p hp => absurd (show p ∈ ([] : List (Addr × Obj)) from hp) (by simp), e0.hok.kept hk, ?_⟩
  · exact name_of_addr x.apart (PySem.mem_of_lookup h1) (PySem.mem_of_lookup h2)
  · have hy : scope.names.lookup y = some .cell ∨ scope.names.lookup y = some .free := hy
    rcases hy with hy | hy
    · exact cell_has hy
    · exact absurd rfl (S.nofree _ (PySem.mem_of_lookup hy))
  · exact Nat.le_of_lt (x.above y c (PySem.mem_of_lookup h))
  · have hi : i < vs.length := by
      unfold start at h2
      by_cases hi : i < vs.length
      · exact hi
      · rw [List.getElem?_append_right (by simpa using hi)] at h2
        rw [List.getElem?_replicate] at h2
        split at h2 <;> cases h2
    have ha : vs[i]? = some v := by
      unfold start at h2
      rw [List.getElem?_append_left (by simpa using hi), List.getElem?_map] at h2
      cases e : vs[i]? with
      | none => rw [e] at h2; cases h2
      | some a => rw [e] at h2; cases h2; rfl
    obtain ⟨u, hu, rv⟩ := r.get ha
    have hp : ps[i]? = some y := by
      rw [← S.pre, List.getElem?_take_of_lt (by omega)]; exact h1
    have ndP : ps.Nodup := by rw [← S.pre]; exact S.nd.sublist (List.take_sublist _ _)
    refine ⟨u, rv, ?_⟩
    rcases S.par y (List.mem_of_getElem? hp) with k | k
    · exact .inl ⟨k, bindL_get ndP hp hu k⟩
    · obtain ⟨c, e⟩ := cell_has (n := s.heap.objs.size + 1) k
      refine .inr ⟨.inl k, c, e, ?_⟩
      have q := x.cell y c e
      rw [bindC_get ndP hp hu (by show scope.names.lookup y ≠ _; rw [k]; decide)] at q
      exact q
  · exact e0.hok.fresh (Nat.le_of_lt (x.above y c (PySem.mem_of_lookup h)))
  · unfold start
    show _ = N.length
    rw [List.length_append, List.length_map, List.length_replicate]
    omega

/-- THE RULE: a def (or a method) of the text, by its body. The body's reading t is chosen for each entry; it is run at the parameters' values -/
theorem fn_of {CX : CXT} {P : Program} {w : World} {K : PySem.W.Frag} {mg : Str → Option Value} {base : Heap} {k : Nat} {f : Addr} {name qual : Str} {params : Arguments} {body : List Stmt} {scope : Scope} {dV kV doc pm cdv ct oc : Value} {an od : Option Addr}
    {osl : Array (Option Value)} {N ps : List Str} {sp : Sp} (lk : K.lookup f = some ⟨oc, od, .func (PySem.W.fnOf name qual params body scope dV kV doc pm an cdv ct), osl⟩) (hcd : PySem.W.codeIn K cdv qual = true) (S : FnScope N ps scope)
    (len : ∀ vs H Q E, sp vs H Q E → vs.length = ps.length)
    (hbody : ∀ (A : Around) (outer : List Env) (s : Shared) (H : Hp) (vs : List V) (Q : VK) (E : XK), Room k (A.deeper (envOfC qual scope s.heap.objs.size f cdv)) → sp vs H Q E →
      ∃ t, PSs (cxOf CX P w K mg base N qual scope f cdv A outer s H E) body t ∧ t { nx := fun _ H' => Q .non H', rt := Q } (start N vs) H) :
    FnOk P w K mg base CX (k + 1) f (PySem.W.fnOf name qual params body scope dV kV doc pm an cdv ct) ps sp := by
  refine ⟨len, fun A outer s H args us vs Q E hr e0 hb r hsp => ?_⟩
  have hl := len _ _ _ _ hsp
  have KX : K.In s.heap := e0.mod.kin.keeps fun b o e => (e0.bs b o e).1
  have lim : s.heap.NoLimit := e0.mod.nolimit.keeps fun b o e => (e0.bs b o e).1
  have hkind : ∀ y ∈ ps.zip us, scope.names.lookup y.1 = some .local ∨ (scope.names.lookup y.1 = some .cell ∧ ((cellsFrom (s.heap.objs.size + 1) scope.names []).lookup y.1).isSome = true) := fun ⟨n, v⟩ hy => by
    rcases S.par n (List.of_mem_zip hy).1 with q | q
    · exact .inl q
    · exact .inr ⟨q, PySem.W.cellsFrom_some _ _ _ (.inl q)⟩
  refine codeAny_call_function hr.depth (KX _ _ lk) rfl S.co S.gen rfl (PySem.W.codeRec_of KX hcd) (hb _ _ _ _ ?_)
  refine wpAny_newFunctionEnv_cells S.kind hkind fun env he s1 x => ?_
  subst he
  refine ⟨lim.keeps x.toInCall.keep, codeAny_func ?_⟩
  obtain ⟨t, ht, hq⟩ := hbody A outer s H vs Q E (hr.deeper _) hsp
  have I : Inv (cxOf CX P w K mg base N qual scope f cdv A outer s H E) [] (start N vs) H s1 := inv_start S hr.hd e0 hl r x
  refine wpAny_mono (ht [] s1 (start N vs) H _ I hq) (fun fl s' hs => ?_) fun e s' hs => hs
  have fin : ∀ {σ' : St} {H' : Hp} {v : V} {u : Value}, Inv (cxOf CX P w K mg base N qual scope f cdv A outer s H E) [] σ' H' s' → RelV v u → Q v H' → CE outer P w H s Q u s' :=
    fun {σ' H' v u} J rv q => ⟨v, H', J.os, J.bare, J.base, J.hok, rv, q⟩
  cases fl with
  | ret u =>
    obtain ⟨v, σ', H', J, rv, q⟩ := hs
    exact fin J rv q
  | next =>
    obtain ⟨σ', H', J, q⟩ := hs
    exact fin (v := V.non) (u := Value.none) J rfl q
  | brk =>
    obtain ⟨_, _, _, q⟩ := hs
    exact False.elim q
  | cont =>
    obtain ⟨_, _, _, q⟩ := hs
    exact False.elim q
end L2

namespace L2
open PySem PySem.Spec PyProof.Rows
section
variable {X : Cx} {x : Str} {p pos : Pos} {e : Expr} {es : List Expr} {t : TA} {id T : String} {r : List V → Hp → VK → Prop}

def tCB (r : List V → Hp → VK → Prop) (t : TA) : TE := fun σ H Q => t σ H fun vs H1 => r vs H1 Q
/-- f(e, ..), f a built-in function -/
theorem pe_callB (hc : CallR X (.builtin id) r) (hg : Gl X x) (hm : X.mg x = none) (hv : bootBuiltins x = some (.builtin id)) (ha : PA X (e :: es) t) (hn : x ≠ "__name__" := by decide) (hdb : (x == ("__debug__" : Str)) = false := by decide)
    (he : starEach (e :: es) X.env = (false, eval e X.env) :: starEach es X.env := by rfl) (hpl : (backTo pos (starEach es X.env)).any (·.1) = false := by rfl) : PE X (.Call (.Name x p) (e :: es) [] pos) (tCB r t) := by
  intro pins s σ H Q I h
  refine wpAny_Call_Name_kw (ld_blt I hg hm hv ?_ hn hdb)
  exact PyProof.Rows.callWith_builtin1 (thn (ha pos pins s σ H _ I h) (by rintro us s1 ⟨vs, H1, I1, r1, q1⟩; exact hc pins s1 σ H1 vs us Q I1 r1 q1)) he hpl
/-- T(e, ..), T a built-in type -/
theorem pe_callTy (hc : CallR X (.type T) r) (hg : Gl X x) (hm : X.mg x = none) (hv : bootBuiltins x = some (.type T)) (ha : PA X (e :: es) t) (hn : x ≠ "__name__" := by decide) (hdb : (x == ("__debug__" : Str)) = false := by decide)
    (he : starEach (e :: es) X.env = (false, eval e X.env) :: starEach es X.env := by rfl) (hpl : (backTo pos (starEach es X.env)).any (·.1) = false := by rfl) : PE X (.Call (.Name x p) (e :: es) [] pos) (tCB r t) := by
  intro pins s σ H Q I h
  refine wpAny_Call_Name_kw (ld_blt I hg hm hv ?_ hn hdb)
  exact PyProof.Rows.callWith_type1 (thn (ha pos pins s σ H _ I h) (by rintro us s1 ⟨vs, H1, I1, r1, q1⟩; exact hc pins s1 σ H1 vs us Q I1 r1 q1)) he hpl
end
end L2

namespace HT
open PySem PyProof.Rows

section
open PySem.SeqAt
open PySem.AutoSeq1 (wpAny_loadPart')
open PySem.MeetsSeq PySem.MeetsSeq2 PySem.MeetsSeq3

end

section
variable {prog : Program} {w : World} {A : Around} {E : Value → Shared → Prop} {s : Shared}

/-! ### t[a:b], not the whole -/
/-- a slice's bound as a place among n (d where it is left out) -/
def sIx (n d : Nat) : Option Int → Nat
  | none => d
  | some v => if v < 0 then (v + (n : Int)).toNat else min v.toNat n
theorem sIx_none (n d : Nat) : sIx n d none = d := rfl
theorem sIx_nat (n d k : Nat) : sIx n d (some (k : Int)) = min k n := by
  show (if (k : Int) < 0 then ((k : Int) + (n : Int)).toNat else min (k : Int).toNat n) = min k n
  rw [if_neg (by omega), Int.toNat_natCast]
theorem sIx_le (n d : Nat) (hd : d ≤ n) (o : Option Int) : sIx n d o ≤ n := by
  cases o with
  | none => exact hd
  | some v =>
    show (if v < 0 then (v + (n : Int)).toNat else min v.toNat n) ≤ n
    by_cases hv : v < 0
    · rw [if_pos hv]; omega
    · rw [if_neg hv]; exact Nat.min_le_right _ _
theorem clip_eq (v : Int) (n d : Nat) : (if v < 0 then max (v + (n : Int)) 0 else min v (n : Int)) = ((sIx n d (some v) : Nat) : Int) := by
  show (if v < 0 then max (v + (n : Int)) 0 else min v (n : Int)) = (((if v < 0 then (v + (n : Int)).toNat else min v.toNat n) : Nat) : Int)
  by_cases hv : v < 0
  · simp only [if_pos hv]; omega
  · simp only [if_neg hv]; omega
theorem adjust_gen (lo hi : Option Int) (n : Nat) : Builtin.Slice.sliceAdjust lo hi 1 (n : Int) = (((sIx n 0 lo : Nat) : Int), ((sIx n n hi : Nat) : Int)) := by
  have h1 : ¬ ((1 : Int) < 0) := by omega
  unfold Builtin.Slice.sliceAdjust
  simp only [h1, if_false]
  refine Prod.ext ?_ ?_
  · cases lo with
    | none => rfl
    | some v => exact clip_eq v n 0
  · cases hi with
    | none => rfl
    | some v => exact clip_eq v n n
theorem places_gen (i j : Nat) : Builtin.Slice.slicePlaces (i : Int) (j : Int) 1 = j - i := by
  unfold Builtin.Slice.slicePlaces
  have h1 : (1 : Int) > 0 := by omega
  simp only [h1, if_true, Int.ediv_one]
  split <;> omega
theorem slicePart_ {v : Value} {o : Option Int} {Q : Option Int → Shared → Prop} (p : IsPart v o) (h : Q o s) : wpAny (model prog w) A (Builtin.Slice.slicePartIndex v) Q E s := by
  cases p with
  | none => exact slicePart_none h
  | int i t => exact slicePart_int h
theorem sliceApplied_gen {sl : Addr} {vl vu : Value} {lo hi : Option Int} {n : Nat} {Q : Int × Int × Nat → Shared → Prop} (hs : s.heap.IsSliceOf sl vl vu .none) (pl : IsPart vl lo) (pu : IsPart vu hi)
    (h : Q (((sIx n 0 lo : Nat) : Int), 1, sIx n n hi - sIx n 0 lo) s) : wpAny (model prog w) A (Builtin.Slice.sliceApplied (.ref sl) (pure (n : Int))) Q E s := by
  obtain ⟨os, hos, hcs, hds⟩ := id hs
  unfold Builtin.Slice.sliceApplied Builtin.Slice.sliceFields
  refine wpAny_bind (wpAny_bind (wpAny_field hos hds (x := vl) rfl (wpAny_bind (wpAny_field hos hds (x := vu) rfl (wpAny_bind (wpAny_field hos hds (x := .none) rfl (wpAny_pure ?_)))))))
  refine wpAny_bind (slicePart_none ?_)
  show wpAny _ _ (if ((1 : Int) == 0) = true then _ else _) _ _ s
  rw [if_neg (by decide)]
  refine wpAny_bind (slicePart_ pl (wpAny_bind (slicePart_ pu (wpAny_bind (wpAny_pure ?_)))))
  show wpAny _ _ (match Builtin.Slice.sliceAdjust lo hi 1 (n : Int) with | (lo, hi) => pure (lo, (1 : Int), Builtin.Slice.slicePlaces lo hi 1)) _ _ s
  rw [adjust_gen lo hi n]
  show wpAny _ _ (pure (((sIx n 0 lo : Nat) : Int), (1 : Int), Builtin.Slice.slicePlaces ((sIx n 0 lo : Nat) : Int) ((sIx n n hi : Nat) : Int) 1)) _ _ s
  rw [places_gen]
  exact wpAny_pure h
theorem pick_gen (xs : Array Value) (i k : Nat) : ((List.range k).filterMap fun (m : Nat) => xs[((i : Int) + (m : Int) * 1).toNat]?).toArray = ((xs.toList.drop i).take k).toArray := by
  have e : (fun (m : Nat) => xs[((i : Int) + (m : Int) * 1).toNat]?) = fun m => xs[i + m]? := by
    funext m
    have : ((i : Int) + (m : Int) * 1).toNat = i + m := by omega
    rw [this]
  rw [e]
  have := pick_run xs i k
  rw [List.filterMap_map] at this
  have e2 : ((fun x => xs[x]?) ∘ fun x => i + x) = fun m => xs[i + m]? := rfl
  rw [e2] at this
  rw [this]

theorem getItem_tuple_cut {t sl : Addr} {items : Array Value} {vl vu : Value} {lo hi : Option Int} {Q : Value → Shared → Prop} (ht : IsTup s.heap t items) (hs : s.heap.IsSliceOf sl vl vu .none) (pl : IsPart vl lo) (pu : IsPart vu hi)
    (hw : ¬ (sIx items.size 0 lo = 0 ∧ sIx items.size items.size hi = items.size))
    (h : Q (.ref s.heap.objs.size) { s with heap := s.heap.push { cls := .type "tuple", data := .seq ((items.toList.drop (sIx items.size 0 lo)).take (sIx items.size items.size hi - sIx items.size 0 lo)).toArray } })
    (hsz : items.size ≤ sizeLine) : wpAny (model prog w) A (getItem (.ref t) (.ref sl)) Q E s := by
  have htake : sizeOk (.seq ((items.toList.drop (sIx items.size 0 lo)).take (sIx items.size items.size hi - sIx items.size 0 lo)).toArray) := by
    show ((items.toList.drop (sIx items.size 0 lo)).take (sIx items.size items.size hi - sIx items.size 0 lo)).toArray.size ≤ sizeLine
    rw [List.size_toArray, List.length_take, List.length_drop, Array.length_toList]
    omega
  have hj : sIx items.size items.size hi ≤ items.size := sIx_le _ _ (Nat.le_refl _) hi
  obtain ⟨os, hos, hcs, hds⟩ := id hs
  have hTs : s.TypeIs (.ref sl) "slice" := ⟨os, hos, hcs⟩
  unfold getItem
  try with_reducible refine wpAny_holding ?_
  first | refine wpAny_bind (wpAny_pure ?_) | skip
  refine wpAny_bind (wpAny_sequenceKey ht.typeIs (by decide) ?_)
  refine wpAny_bind (wpAny_callSpecial?_slot (name := Str.ofString "__getitem__") ht.typeIs PyProof.Rows.slot_tuple_getitem
    (wpAny_call_entry PyProof.Rows.slot_tuple_getitem ht.typeIs entry_tuple_getitem ?_ (args_tuple_getitem _ _)))
  show wpAny _ _ (Builtin.Tuple.tupleItemsOf (.ref t) >>= _) _ _ s
  refine wpAny_bind (tupleItemsOf_ ht ?_)
  refine wpAny_bind (wpAny_typeOf hTs ?_)
  rw [if_pos (by decide)]
  refine wpAny_bind (sliceApplied_gen hs pl pu ?_)
  have hno : ¬ ((((sIx items.size 0 lo : Nat) : Int) == 0 && (1 : Int) == 1 && (sIx items.size items.size hi - sIx items.size 0 lo) == items.size) = true) := by
    intro q
    rw [Bool.and_eq_true, Bool.and_eq_true] at q
    have q1 : ((sIx items.size 0 lo : Nat) : Int) = 0 := eq_of_beq q.1.1
    have q2 : sIx items.size items.size hi - sIx items.size 0 lo = items.size := eq_of_beq q.2
    exact hw ⟨by omega, by omega⟩
  show wpAny _ _ (if (((sIx items.size 0 lo : Nat) : Int) == 0 && (1 : Int) == 1 && (sIx items.size items.size hi - sIx items.size 0 lo) == items.size) = true then _ else _) _ _ s
  rw [if_neg hno, pick_gen]
  first
    | exact wpAny_bind (m := Builtin.Tuple.tupleExact _) (wpAny_newObj_type (wpAny_pure ⟨_, rfl, wpAny_pure h⟩) htake)
    | exact wpAny_bind (m := Builtin.Tuple.tupleExact _) (wpAny_newObj_type (wpAny_bind (wpAny_pure (wpAny_pure ⟨_, rfl, wpAny_pure h⟩))) htake)
    | exact wpAny_bind (wpAny_bind (m := Builtin.Tuple.tupleExact _) (wpAny_newObj_type (wpAny_pure (wpAny_pure ⟨_, rfl, wpAny_pure h⟩)) htake))
    | exact wpAny_bind (wpAny_bind (m := Builtin.Tuple.tupleExact _) (wpAny_newObj_type (wpAny_pure ⟨_, rfl, wpAny_pure h⟩) htake))
end
end HT

namespace L2
open PySem PySem.Spec PyProof.Rows

/-! ### the parts of a slice -/
abbrev TO := St → Hp → (Option Int → Hp → Prop) → Prop
/-- a slice's part (left out, or an int) -/
def PO (X : Cx) (e : Option Expr) (t : TO) : Prop :=
  ∀ (pins : List (Addr × Obj)) (s : Shared) (σ : St) (H : Hp) (Q : Option Int → Hp → Prop), Inv X pins σ H s → t σ H Q →
    wpAny (model X.prog X.w) X.A (evalPart e X.env) (fun u s' => ∃ o H', Inv X pins σ H' s' ∧ IsPart u o ∧ Q o H') X.xe s
def tNoPart : TO := fun _ H Q => Q none H
def tPart (t : TE) : TO := fun σ H Q => t σ H fun x H1 => ∃ i, x = .int i ∧ Q (some i) H1

section
variable {X : Cx} {e : Expr} {te : TE} {lo hi : Option Expr} {tl th : TO} {pos p2 : Pos}

theorem po_none : PO X none tNoPart := by
  intro pins s σ H Q I h
  rw [evalPart_none]
  exact wpAny_pure ⟨none, H, I, .none, h⟩
theorem po_some (h : PE X e te) : PO X (some e) (tPart te) := by
  intro pins s σ H Q I hw
  rw [evalPart_some]
  refine thn (h pins s σ H _ I hw) ?_
  rintro u s1 ⟨x, H1, I1, r1, q1⟩
  obtain ⟨i, rfl, q⟩ := q1
  obtain ⟨t, rfl⟩ := r1
  exact ⟨some i, H1, I1, .int i t, q⟩

/-- what a slice of a value is, by values: the slice object stands at sl -/
def SlR (X : Cx) (r : V → Option Int → Option Int → Hp → VK → Prop) : Prop :=
  ∀ (pins : List (Addr × Obj)) (s : Shared) (σ : St) (H : Hp) (x : V) (v vl vu : Value) (lo hi : Option Int) (sl : Addr) (Q : VK), Inv X pins σ H s → RelV x v → s.heap.IsSliceOf sl vl vu .none → IsPart vl lo → IsPart vu hi → r x lo hi H Q →
    ∃ T id, typeLookup (.type T) "__getitem__" = pure (some (.builtin id)) ∧ s.TypeIs v T ∧ wpAny (model X.prog X.w) X.A (getItem v (.ref sl)) (EP X pins σ Q) X.xe s
def tSl (r : V → Option Int → Option Int → Hp → VK → Prop) (te : TE) (tl th : TO) : TE := fun σ H Q => te σ H fun x H1 => tl σ H1 fun l H2 => th σ H2 fun u H3 => r x l u H3 Q
/-- a[lo:hi], any a -/
theorem pe_slice {r : V → Option Int → Option Int → Hp → VK → Prop} (hr : SlR X r) (he : PE X e te) (hl : PO X lo tl) (hu : PO X hi th) : PE X (.Subscript e (.Slice lo hi none p2) pos) (tSl r te tl th) := by
  intro pins s σ H Q I h
  refine Subscript_ (thn (he pins s σ H _ I h) ?_)
  rintro v s1 ⟨x, H1, I1, r1, q1⟩
  refine wpAny_Slice (thn (hl pins s1 σ H1 _ I1 q1) ?_)
  rintro vl s2 ⟨l, H2, I2, pl, q2⟩
  refine thn (hu pins s2 σ H2 _ I2 q2) ?_
  rintro vu s3 ⟨u, H3, I3, pu, q3⟩
  rw [evalPart_none]
  refine wpAny_pure ?_
  have I4 : Inv X pins σ H3 { s3 with heap := s3.heap.push { cls := .type "slice", data := .fields #[vl, vu, .none] } } := I3.kept (t' := s3.toks) fun b ob q => Heap.get?_push_of_some _ q
  obtain ⟨T, id, hT, ht, hg⟩ := hr pins { s3 with heap := s3.heap.push { cls := .type "slice", data := .fields #[vl, vu, .none] } } σ H3 x v vl vu l u s3.heap.objs.size Q I4 r1 (Heap.IsSliceOf.new ..) pl pu q3
  show wpAny (model X.prog X.w) X.A (subscriptTail e (.Slice lo hi none p2) v (.ref s3.heap.objs.size)) (EP X pins σ Q) X.xe { s3 with heap := s3.heap.push { cls := .type "slice", data := .fields #[vl, vu, .none] } }
  exact tail_any (ops := [.ref s3.heap.objs.size, v]) ht hT hg (by with_unfolding_all rfl)

/-- the items of xs[lo:hi] -/
def cutV (xs : List V) (lo hi : Option Int) : List V := (xs.drop (HT.sIx xs.length 0 lo)).take (HT.sIx xs.length xs.length hi - HT.sIx xs.length 0 lo)
theorem cutV_length (xs : List V) (lo hi : Option Int) : (cutV xs lo hi).length ≤ xs.length := by
  unfold cutV
  rw [List.length_take, List.length_drop]
  omega
/-! ### t < u, t + u -/
end
end L2

namespace L2
open PySem PySem.Spec PyProof.Rows

/-! ### places -/
/-- the place that an index of any sign means -/
def ixN (n : Nat) (i : Int) : Option Nat := if 0 ≤ i then (if i < n then some i.toNat else none) else if -(n : Int) ≤ i then some (i + n).toNat else none
def atI {α : Type} (xs : List α) (i : Int) : Option α := (ixN xs.length i).bind fun j => xs[j]?
theorem ixN_seq {n : Nat} {i : Int} {j : Nat} (h : ixN n i = some j) : seqIndex? i n = some j ∧ j < n ∧ -(n : Int) ≤ i ∧ i < n := by
  unfold ixN at h
  by_cases h0 : 0 ≤ i
  · rw [if_pos h0] at h
    by_cases h1 : i < n
    · rw [if_pos h1] at h
      have e : i.toNat = j := Option.some.inj h
      exact ⟨by rw [seqIndex_of h0 h1, e], by omega, by omega, h1⟩
    · rw [if_neg h1] at h; cases h
  · rw [if_neg h0] at h
    by_cases h1 : -(n : Int) ≤ i
    · rw [if_pos h1] at h
      have e : (i + n).toNat = j := Option.some.inj h
      exact ⟨by rw [seqIndex_neg (by omega) h1, e], by omega, h1, by omega⟩
    · rw [if_neg h1] at h; cases h
theorem atI_get {α : Type} {xs : List α} {i : Int} {v : α} (h : atI xs i = some v) : ∃ j, seqIndex? i xs.length = some j ∧ xs[j]? = some v ∧ j < xs.length ∧ -(xs.length : Int) ≤ i ∧ i < xs.length := by
  unfold atI at h
  cases e : ixN xs.length i with
  | none => rw [e] at h; cases h
  | some j =>
    rw [e] at h
    obtain ⟨h1, h2, h3, h4⟩ := ixN_seq e
    exact ⟨j, h1, h, h2, h3, h4⟩
theorem atI_nat {α : Type} {xs : List α} {j : Nat} {v : α} (h : xs[j]? = some v) : atI xs (j : Int) = some v := by
  have hj : j < xs.length := (List.getElem?_eq_some_iff.mp h).1
  have e : ixN xs.length (j : Int) = some j := by
    unfold ixN
    rw [if_pos (by omega), if_pos (by omega)]; simp
  unfold atI; rw [e]; exact h
/-! ### what may be subscripted -/
/-- what stands as an index of a plain subscript -/
def PlainIx (b : Expr) : Prop := ∀ o i, subscripted b false o i = operate [o, i] (getItem o i)
/-- a subscript by values -/
def IxR (X : Cx) (r : R2) : Prop :=
  ∀ (value slice : Expr) (pins : List (Addr × Obj)) (s : Shared) (σ : St) (H : Hp) (x y : V) (v u : Value) (Q : VK), Inv X pins σ H s → RelV x v → RelV y u → r x y H Q →
    subscripted slice false v u = operate [v, u] (getItem v u) → wpAny (model X.prog X.w) X.A (subscriptTail value slice v u) (EP X pins σ Q) X.xe s
/-- a call of a builtin's method by values: the receiver, the arguments -/
def MtR (X : Cx) (id : String) (r : V → List V → Hp → VK → Prop) : Prop :=
  ∀ (pins : List (Addr × Obj)) (s : Shared) (σ : St) (H : Hp) (x : V) (xs : List V) (v : Value) (us : List Value) (Q : VK), Inv X pins σ H s → RelV x v → Vals xs us → r x xs H Q →
    wpAny (model X.prog X.w) X.A (call (.builtin id) (v :: us)) (EP X pins σ Q) X.xe s
section
variable {X : Cx} {a b : Expr} {ta tb : TE} {pos : Pos}
/-- a[b] -/
theorem pe_ix {r : R2} (hr : IxR X r) (ha : PE X a ta) (hb : PE X b tb) (hs : PlainIx b) : PE X (.Subscript a b pos) (tOp r ta tb) := by
  intro pins s σ H Q I h
  exact Subscript_ (binT ha hb I h fun v u s2 x y H2 I2 rx ry q => hr a b pins s2 σ H2 x y v u Q I2 rx ry q (hs _ _))

def rIxL (K : PySem.W.Frag) : R2 := fun x y H Q => ∃ p xs i v, x = .ref p ∧ y = .int i ∧ SqL K H p xs ∧ atI xs i = some v ∧ Q v H
def rIxT (K : PySem.W.Frag) : R2 := fun x y H Q => ∃ p xs i v, x = .ref p ∧ y = .int i ∧ SqT K H p xs ∧ atI xs i = some v ∧ Q v H
def rIxS : R2 := fun x y H Q => ∃ z i c, x = .str z ∧ y = .int i ∧ z.length ≤ sizeLine ∧ atI z.cps.toList i = some c ∧ Q (.str ⟨#[c]⟩) H
theorem ix_list : IxR X (rIxL X.K) := by
  intro value slice pins s σ H x y v u Q I rx ry h hs
  obtain ⟨p, xs, i, z, rfl, rfl, hq, he, q⟩ := h
  cases rx
  obtain ⟨t, rfl⟩ := ry
  obtain ⟨its, r, pl, hz⟩ := I.list hq
  obtain ⟨j, h1, h2, h3, h4, h5⟩ := atI_get he
  obtain ⟨w, ew, rw'⟩ := r.get h2
  have hl := r.length
  have hn := line63
  have fin : EP X pins σ Q w s := ⟨z, H, I, rw', q⟩
  by_cases h0 : 0 ≤ i
  · have hj : i.toNat = j := by
      rw [seqIndex_of h0 h5] at h1
      exact Option.some.inj h1
    exact item_listR pl.isList h0 (by omega) (by rw [hj]; simpa using ew) fin hs
  · have hj : (i + (its.toArray.size : Int)).toNat = j := by
      rw [seqIndex_neg (by omega) h4] at h1
      rw [List.size_toArray, ← hl]
      exact Option.some.inj h1
    exact subscriptTail_builtinR (x := w) pl.isList.typeIs slot_list_getitem.lookup
      (wpAny_getItem_list_neg (Q := fun r s' => r = w ∧ EP X pins σ Q r s') pl.isList (by omega) (by rw [List.size_toArray] <;> omega) (by omega) (by rw [hj]; simpa using ew) ⟨rfl, fin⟩) hs
theorem ix_tup : IxR X (rIxT X.K) := by
  intro value slice pins s σ H x y v u Q I rx ry h hs
  obtain ⟨p, xs, i, z, rfl, rfl, hq, he, q⟩ := h
  cases rx
  obtain ⟨t, rfl⟩ := ry
  obtain ⟨its, r, pl, hz⟩ := I.tuple hq
  obtain ⟨j, h1, h2, h3, h4, h5⟩ := atI_get he
  obtain ⟨w, ew, rw'⟩ := r.get h2
  have hl := r.length
  have hn := line63
  have fin : EP X pins σ Q w s := ⟨z, H, I, rw', q⟩
  exact subscriptTail_builtinR (x := w) pl.typeIs slot_tuple_getitem.lookup
    (getItem_tuple (j := j) (Q := fun r s' => r = w ∧ EP X pins σ Q r s') pl (by omega) (by omega) (by rw [List.size_toArray, ← hl]; exact h1) (by simpa using ew) ⟨rfl, fin⟩) hs
theorem ix_str : IxR X rIxS := by
  intro value slice pins s σ H x y v u Q I rx ry h hs
  obtain ⟨z, i, c, rfl, rfl, hz, he, q⟩ := h
  obtain ⟨t, rfl⟩ := rx
  obtain ⟨t', rfl⟩ := ry
  obtain ⟨j, h1, h2, h3, h4, h5⟩ := atI_get he
  have hl : z.cps.toList.length = z.length := by simp [Str.length]
  rw [hl] at h1 h4 h5
  have hn := line63
  exact tail_any (typeIs_str s z t) slot_str_getitem.lookup (getItem_str (c := c) (by
    have e1 : decide (i < -(2 ^ 63 : Int)) = false := decide_eq_false (by omega)
    have e2 : decide (i ≥ 2 ^ 63) = false := decide_eq_false (by omega)
    rw [e1, e2, Bool.or_false]) (by rw [h1]; simpa using h2) ⟨.str ⟨#[c]⟩, H, I.tok _, ⟨_, rfl⟩, q⟩) hs
/-! ### xs[i] = v, any sign -/
/-! ### slices -/
theorem slice_bounds (lo hi : Option Int) (n : Nat) : (sliceBounds lo hi none n).1 = ((HT.sIx n 0 lo : Nat) : Int) ∧ (sliceBounds lo hi none n).2.1 = ((HT.sIx n n hi : Nat) : Int) ∧ (sliceBounds lo hi none n).2.2 = 1 := by
  refine ⟨?_, ?_, rfl⟩
  · cases lo with
    | none => simp [sliceBounds, HT.sIx]
    | some i =>
      simp only [sliceBounds, HT.sIx, Option.getD_none, show (1 : Int) > 0 by decide, if_true]
      by_cases h : i < 0
      · simp only [h, if_true] <;> omega
      · simp only [h, if_false] <;> omega
  · cases hi with
    | none => simp [sliceBounds, HT.sIx]
    | some i =>
      simp only [sliceBounds, HT.sIx, Option.getD_none, show (1 : Int) > 0 by decide, if_true]
      by_cases h : i < 0
      · simp only [h, if_true] <;> omega
      · simp only [h, if_false] <;> omega
theorem slicePick_cut (its : List Value) (lo hi : Option Int) : slicePick its.toArray lo hi none = ((its.drop (HT.sIx its.length 0 lo)).take (HT.sIx its.length its.length hi - HT.sIx its.length 0 lo)).toArray := by
  obtain ⟨h1, h2, h3⟩ := slice_bounds lo hi its.toArray.size
  unfold slicePick
  rw [h1, h2, h3]
  simp only [sliceRange_one, pick_run, List.size_toArray] <;> rfl
/-- xs[lo:hi] of a list: a new list -/
def rSlL (K : PySem.W.Frag) : V → Option Int → Option Int → Hp → VK → Prop := fun x lo hi H Q => ∃ a xs, x = .ref a ∧ SqL K H a xs ∧ ∀ p, H p = none → Q (.ref p) (upd H p (.lst (cutV xs lo hi)))
theorem sl_list : SlR X (rSlL X.K) := by
  intro pins s σ H x v vl vu lo hi sl Q I rx hs pl pu h
  obtain ⟨a, xs, rfl, hx, q⟩ := h
  cases rx
  obtain ⟨its, r, ht, hz⟩ := I.list hx
  have hlen := r.length
  refine ⟨"list", _, slot_list_getitem.lookup, ht.isList.typeIs, ?_⟩
  refine wpAny_getItem_list_slice ht.isList hs pl pu .none (by simp) ?_ (by rw [List.size_toArray] <;> omega)
  rw [slicePick_cut, ← hlen]
  refine ⟨.ref s.heap.objs.size, _, I.laid (t' := s.toks) (o := .lst (cutV xs lo hi)) (fun b ob q => Heap.get?_push_of_some _ q) (Nat.le_refl _) ?_, rfl, q _ (I.hok.fresh (Nat.le_refl _))⟩
  exact ⟨Nat.le_trans (cutV_length xs lo hi) hz, _, 0, (r.drop (HT.sIx xs.length 0 lo)).take (HT.sIx xs.length xs.length hi - HT.sIx xs.length 0 lo), Heap.get?_push_size _ rfl⟩

/-! ### in, not in: flat items -/
def flatV : V → Bool
  | .non => true
  | .bl _ => true
  | .int _ => true
  | .str _ => true
  | _ => false
/-- == of flat values -/
def eqV : V → V → Bool
  | .non, .non => true
  | .bl a, .bl b => a == b
  | .bl a, .int b => (if a then 1 else 0) == b
  | .int a, .bl b => a == (if b then 1 else 0)
  | .int a, .int b => a == b
  | .str a, .str b => a == b
  | _, _ => false
theorem eqAt_V {A : Around} {s : Shared} {y x : V} {u v : Value} (ry : RelV y u) (rx : RelV x v) (fy : flatV y = true) (fx : flatV x = true) : SeqAt.EqAt A s u v (eqV y x) := by
  cases y with
  | non =>
    cases ry
    cases x with
    | non => cases rx; exact SeqAt.EqAt.same _
    | bl b => cases rx; exact SeqAt.EqAt.none_bool b
    | int b => obtain ⟨t, rfl⟩ := rx; exact SeqAt.EqAt.none_int b t
    | str b => obtain ⟨t, rfl⟩ := rx; exact SeqAt.EqAt.none_str b t
    | _ => exact absurd (show false = true from fx) Bool.false_ne_true
  | bl a =>
    cases ry
    cases x with
    | non => cases rx; exact SeqAt.EqAt.bool_none a
    | bl b => cases rx; exact SeqAt.EqAt.bool_bool a b
    | int b => obtain ⟨t, rfl⟩ := rx; exact SeqAt.EqAt.bool_int a b t
    | str b => obtain ⟨t, rfl⟩ := rx; exact SeqAt.EqAt.bool_str a b t
    | _ => exact absurd (show false = true from fx) Bool.false_ne_true
  | int a =>
    obtain ⟨t', rfl⟩ := ry
    cases x with
    | non => cases rx; exact SeqAt.EqAt.int_none a t'
    | bl b => cases rx; exact SeqAt.EqAt.int_bool a t' b
    | int b => obtain ⟨t, rfl⟩ := rx; exact SeqAt.EqAt.int_int a t' b t
    | str b => obtain ⟨t, rfl⟩ := rx; exact SeqAt.EqAt.int_str a t' b t
    | _ => exact absurd (show false = true from fx) Bool.false_ne_true
  | str a =>
    obtain ⟨t', rfl⟩ := ry
    cases x with
    | non => cases rx; exact SeqAt.EqAt.str_none a t'
    | bl b => cases rx; exact SeqAt.EqAt.str_bool a t' b
    | int b => obtain ⟨t, rfl⟩ := rx; exact SeqAt.EqAt.str_int a t' b t
    | str b => obtain ⟨t, rfl⟩ := rx; exact SeqAt.EqAt.str_str a t' b t
    | _ => exact absurd (show false = true from fx) Bool.false_ne_true
  | _ => exact absurd (show false = true from fy) Bool.false_ne_true
/-- the items' answers, read off the values (a value's own answer does not lean on its token) -/
def eqU (x : V) (u : Value) : Bool := match u with
  | .none => eqV .non x
  | .bool b => eqV (.bl b) x
  | .int i _ => eqV (.int i) x
  | .str z _ => eqV (.str z) x
  | _ => false
theorem eqU_of {x y : V} {u : Value} (r : RelV y u) (f : flatV y = true) : eqU x u = eqV y x := by
  cases y with
  | non => cases r; rfl
  | bl b => cases r; rfl
  | int i => obtain ⟨t, rfl⟩ := r; rfl
  | str z => obtain ⟨t, rfl⟩ := r; rfl
  | _ => exact absurd (show false = true from f) Bool.false_ne_true
theorem any_eqU {x : V} : ∀ {xs : List V} {us : List Value}, Vals xs us → xs.all flatV = true → us.any (eqU x) = xs.any fun y => eqV y x
  | _, _, .nil, _ => rfl
  | y :: xs, u :: us, .cons r t, f => by
    rw [List.all_cons, Bool.and_eq_true] at f
    rw [List.any_cons, List.any_cons, eqU_of r f.1, any_eqU t f.2]
theorem mem_eqAt {A : Around} {s : Shared} {x : V} {v : Value} (rx : RelV x v) (fx : flatV x = true) : ∀ {xs : List V} {us : List Value}, Vals xs us → xs.all flatV = true → ∀ u ∈ us, SeqAt.EqAt A s u v (eqU x u)
  | _, _, .nil, _ => fun u hu => by cases hu
  | y :: xs, u :: us, .cons r t, f => fun u' hu => by
    rw [List.all_cons, Bool.and_eq_true] at f
    rcases List.mem_cons.mp hu with rfl | hu
    · rw [eqU_of r f.1]; exact eqAt_V r rx f.1 fx
    · exact mem_eqAt rx fx t f.2 u' hu
def inV (x : V) (xs : List V) : Bool := xs.any fun y => eqV y x
/-- x in a list or tuple of flat items -/
def rIn (K : PySem.W.Frag) (neg : Bool) : R2 := fun x y H Q => ∃ p xs, y = .ref p ∧ (SqL K H p xs ∨ SqT K H p xs) ∧ flatV x = true ∧ xs.all flatV = true ∧ Q (.bl (if neg then !inV x xs else inV x xs)) H
theorem op_in_seq : OpR X (compareOp .In) (rIn X.K false) := by
  intro pins s σ H x y v u Q I rx ry h
  obtain ⟨p, xs, rfl, hq, fx, fs, q⟩ := h
  cases ry
  rcases hq with hq | hq
  · obtain ⟨its, r, pl, hz⟩ := I.list hq
    refine SeqAt.in_listAt (eqU x) pl.isList (fun w hw => mem_eqAt rx fx r fs w (by simpa using hw)) ⟨.bl _, H, I, rfl, ?_⟩
    rw [show its.toArray.any (eqU x) = its.any (eqU x) by simp, any_eqU r fs]
    exact q
  · obtain ⟨its, r, pl, hz⟩ := I.tuple hq
    refine SeqAt.in_tupleAt (eqU x) pl (fun w hw => mem_eqAt rx fx r fs w (by simpa using hw)) ⟨.bl _, H, I, rfl, ?_⟩
    rw [show its.toArray.any (eqU x) = its.any (eqU x) by simp, any_eqU r fs]
    exact q
theorem op_notIn_seq : OpR X (compareOp .NotIn) (rIn X.K true) := by
  intro pins s σ H x y v u Q I rx ry h
  obtain ⟨p, xs, rfl, hq, fx, fs, q⟩ := h
  cases ry
  rcases hq with hq | hq
  · obtain ⟨its, r, pl, hz⟩ := I.list hq
    refine SeqAt.notIn_listAt (eqU x) pl.isList (fun w hw => mem_eqAt rx fx r fs w (by simpa using hw)) ⟨.bl _, H, I, rfl, ?_⟩
    rw [show its.toArray.any (eqU x) = its.any (eqU x) by simp, any_eqU r fs]
    exact q
  · obtain ⟨its, r, pl, hz⟩ := I.tuple hq
    refine SeqAt.notIn_tupleAt (eqU x) pl (fun w hw => mem_eqAt rx fx r fs w (by simpa using hw)) ⟨.bl _, H, I, rfl, ?_⟩
    rw [show its.toArray.any (eqU x) = its.any (eqU x) by simp, any_eqU r fs]
    exact q
/-! ### len, list(x), tuple(x) of any list or tuple that is read -/
theorem call_len_seq : CallR X (.builtin "len") (fun xs H Q => ∃ p ys, xs = [.ref p] ∧ (SqL X.K H p ys ∨ SqT X.K H p ys) ∧ Q (.int ys.length) H) := by
  intro pins s σ H xs us Q I r h
  obtain ⟨p, ys, rfl, hq, q⟩ := h
  obtain ⟨u, rfl, rx⟩ := vals1 r
  cases rx
  have hn := line63
  rcases hq with hq | hq
  · obtain ⟨its, r', pl, hz⟩ := I.list hq
    have hlen := r'.length
    exact Calls.call_len_list pl.isList (by simp only [List.size_toArray] <;> omega) ⟨.int ys.length, H, I.tok _, ⟨s.toks + 1, by rw [List.size_toArray, hlen]⟩, q⟩
  · obtain ⟨its, r', pl, hz⟩ := I.tuple hq
    have hlen := r'.length
    exact len_tuple pl (by simp only [List.size_toArray] <;> omega) ⟨.int ys.length, H, I.tok _, ⟨s.toks + 1, by rw [List.size_toArray, hlen]⟩, q⟩
theorem call_len_str : CallR X (.builtin "len") (fun xs H Q => ∃ z, xs = [.str z] ∧ z.length ≤ sizeLine ∧ Q (.int z.length) H) := by
  intro pins s σ H xs us Q I r h
  obtain ⟨z, rfl, hz, q⟩ := h
  obtain ⟨u, rfl, t, rfl⟩ := vals1 r
  have hn := line63
  exact len_str (by omega) ⟨.int z.length, H, I.tok _, ⟨_, rfl⟩, q⟩
theorem call_list_of : CallR X (.type "list") (fun xs H Q => ∃ p ys, xs = [.ref p] ∧ (SqL X.K H p ys ∨ SqT X.K H p ys) ∧ ∀ l, H l = none → Q (.ref l) (upd H l (.lst ys))) := by
  intro pins s σ H xs us Q I r h
  obtain ⟨p, ys, rfl, hq, q⟩ := h
  obtain ⟨u, rfl, rx⟩ := vals1 r
  cases rx
  have fin : ∀ (its : List Value), Vals ys its → ys.length ≤ sizeLine → ∀ (h' : Heap) (c' : Nat), (∀ b o', s.heap.get? b = some o' → h'.get? b = some o') →
      h'.get? s.heap.objs.size = some { cls := .type "list", dict := none, data := .seq its.toArray c', slots := #[] } → EP X pins σ Q (.ref s.heap.objs.size) { s with heap := h' } := fun its r' hz h' c' kp e =>
    ⟨.ref s.heap.objs.size, _, I.laid (t' := s.toks) kp (Nat.le_refl _) (show ObjOk X.prog X.w _ h' _ (.lst ys) from ⟨hz, its, c', r', e⟩), rfl, q _ (I.hok.fresh (Nat.le_refl _))⟩
  rcases hq with hq | hq
  · obtain ⟨its, r', pl, hz⟩ := I.list hq
    have hlen := r'.length
    obtain ⟨o, ho, hc, n, hd⟩ := pl.isList
    exact call_list_seq p (.inl rfl) ho hc hd (fun h' c' kp e => fin its r' hz h' c' kp e) (by simp only [List.size_toArray] <;> omega)
  · obtain ⟨its, r', pl, hz⟩ := I.tuple hq
    have hlen := r'.length
    obtain ⟨o, ho, hc, n, hd⟩ := pl
    exact call_list_seq p (.inr rfl) ho hc hd (fun h' c' kp e => fin its r' hz h' c' kp e) (by simp only [List.size_toArray] <;> omega)
theorem call_tuple_of : CallR X (.type "tuple") (fun xs H Q => ∃ p ys, xs = [.ref p] ∧ ((SqL X.K H p ys ∧ ∀ l, H l = none → Q (.ref l) (upd H l (.tup ys))) ∨ (SqT X.K H p ys ∧ Q (.ref p) H))) := by
  intro pins s σ H xs us Q I r h
  obtain ⟨p, ys, rfl, h⟩ := h
  obtain ⟨u, rfl, rx⟩ := vals1 r
  cases rx
  rcases h with ⟨hq, q⟩ | ⟨hq, q⟩
  · obtain ⟨its, r', pl, hz⟩ := I.list hq
    have hlen := r'.length
    refine call_tuple_list pl.isList (fun h' kp => ?_) (by simp only [List.size_toArray] <;> omega)
    have I1 : Inv X pins σ H { s with heap := h' } := I.kept (t' := s.toks) kp
    have I2 : Inv X pins σ (upd H h'.objs.size (.tup ys)) { s with heap := h'.push { cls := .type "tuple", data := .seq its.toArray } } :=
      I1.laid (t' := s.toks) (fun b o e => Heap.get?_push_of_some _ e) (Nat.le_refl _) (show ObjOk X.prog X.w _ _ _ (.tup ys) from ⟨hz, its, r', IsTup.new _ _⟩)
    exact ⟨.ref h'.objs.size, _, I2, rfl, q _ (I1.hok.fresh (Nat.le_refl _))⟩
  · obtain ⟨its, r', pl, hz⟩ := I.tuple hq
    exact call_tuple_same pl ⟨.ref p, H, I, rfl, q⟩

/-! ### the call of a builtin's method: o.m(..) -/
/-- the value is of that builtin type -/
def tyV (K : PySem.W.Frag) (T : String) (x : V) (H : Hp) : Prop := match x with
  | .str _ => T = "str"
  | .int _ => T = "int"
  | .ref p => (T = "list" ∧ ∃ xs, SqL K H p xs) ∨ (T = "tuple" ∧ ∃ o, K.lookup p = some o ∧ o.cls = .type "tuple" ∧ o.dict = none) ∨
      (T = "dict" ∧ ((∃ kvs, H p = some (.dK kvs)) ∨ ∃ kvs, H p = some (.dT kvs))) ∨ (T = "set" ∧ ∃ S n, H p = some (.set S n))
  | _ => False
theorem tyV_is {pins : List (Addr × Obj)} {σ : St} {H : Hp} {s : Shared} {T : String} {x : V} {v : Value} (I : Inv X pins σ H s) (r : RelV x v) (ty : tyV X.K T x H) :
    s.TypeIs v T ∧ ∀ a, v = .ref a → ∃ ob, s.heap.get? a = some ob ∧ ob.dict = none := by
  cases x with
  | str z =>
    obtain ⟨t, rfl⟩ := r
    cases (show T = "str" from ty)
    exact ⟨typeIs_str s z t, fun _ e => nomatch e⟩
  | int i =>
    obtain ⟨t, rfl⟩ := r
    cases (show T = "int" from ty)
    exact ⟨typeIs_int s i t, fun _ e => nomatch e⟩
  | ref p =>
    cases r
    rcases ty with ⟨rfl, xs, hq⟩ | ⟨rfl, o, hk, hc, hd⟩ | ⟨rfl, hk⟩ | ⟨rfl, S, n, hk⟩
    · obtain ⟨its, _, pl, _⟩ := I.list hq
      refine ⟨pl.isList.typeIs, fun a e => ?_⟩
      cases e
      obtain ⟨o, n, e, c, hd, _⟩ := pl
      exact ⟨o, e, hd⟩
    · refine ⟨⟨o, I.kIn p o hk, hc⟩, fun a e => ?_⟩
      cases e
      exact ⟨o, I.kIn _ o hk, hd⟩
    · have z : ∃ o, s.heap.get? p = some o ∧ o.ExactDict := by
        rcases hk with ⟨kvs, hk⟩ | ⟨kvs, hk⟩
        · obtain ⟨_, _, _, _, o, _, _, e, ex, _⟩ := I.hok p _ hk
          exact ⟨o, e, ex⟩
        · obtain ⟨_, _, _, _, o, _, _, e, ex, _⟩ := I.hok p _ hk
          exact ⟨o, e, ex⟩
      obtain ⟨o, e, ex⟩ := z
      refine ⟨⟨o, e, ex.1⟩, fun a e2 => ?_⟩
      cases e2
      exact ⟨o, e, ex.2.1⟩
    · obtain ⟨o, _, _, _, e, ex, _⟩ := I.hok p _ hk
      refine ⟨⟨o, e, ex.1⟩, fun a e2 => ?_⟩
      cases e2
      exact ⟨o, e, ex.2.1⟩
  | _ => exact False.elim ty
def tBM (K : PySem.W.Frag) (T : String) (r : V → List V → Hp → VK → Prop) (to : TE) (t : TA) : TE := fun σ H Q => to σ H fun x H1 => tyV K T x H1 ∧ t σ H1 fun xs H2 => r x xs H2 Q
variable {o e : Expr} {es : List Expr} {to : TE} {t : TA} {name : Str} {apos cpos : Pos} {T id : String} {r : V → List V → Hp → VK → Prop}
theorem pe_bm (pa : PlainAttrs T) (slot : Slot T name id) (hty : typeOf (.builtin id) = pure (.type "method_descriptor")) (hm : MtR X id r) (ho : PE X o to) (ha : PA X (e :: es) t)
    (hbase : attributeBase o name X.env (eval o X.env) = eval o X.env := by rfl)
    (hfew : ((backTo cpos (starEach (e :: es) X.env)).all (fun x => !x.1) && (backToKw cpos (keywordEach [] X.env)).all (fun x => x.1.isSome)
      && decide ((e :: es).length + ([] : List Keyword).length + (if ([] : List Keyword).isEmpty then 0 else 1) < 30)) = true := by rfl)
    (hline : (apos.endLine == cpos.line) = true := by rfl) (hs : starEach (e :: es) X.env = (false, eval e X.env) :: starEach es X.env := by rfl) (hplain : (backTo cpos (starEach es X.env)).any (·.1) = false := by rfl) :
    PE X (.Call (.Attribute o name apos) (e :: es) [] cpos) (tBM X.K T r to t) := by
  intro pins s σ H Q I h
  refine wpAny_Call_method_late hbase hfew hline rfl (thn (ho pins s σ H _ I h) ?_)
  rintro v s1 ⟨x, H1, I1, r1, ty, q1⟩
  obtain ⟨h1, h2⟩ := tyV_is I1 r1 ty
  refine ⟨T, id, pa, slot, hty, h1, h2, ?_⟩
  have hA := ha cpos pins s1 σ H1 _ I1 q1
  rw [hs] at hA ⊢
  refine Calls.callWith_builtin (by show (false || (backTo cpos (starEach es X.env)).any (·.1)) = false; rw [hplain] <;> rfl) (Calls.evalArgs_plain ?_)
  exact thn hA (by rintro us s2 ⟨vs, H2, I2, r2, q2⟩; exact hm pins s2 σ H2 x vs v us Q I2 r1 r2 q2)
/- xs.append(e), list.index on a module's tuple .. are MtR facts of 06m -/
end
end L2

namespace L2
open PySem PySem.Spec PyProof.Rows

def MtM (X : Cx) (id : String) (r : V → List V → Hp → VK → Prop) : Prop :=
  ∀ (pins : List (Addr × Obj)) (s : Shared) (σ : St) (H : Hp) (x : V) (xs : List V) (v : Value) (us : List Value) (Q : VK), Inv X pins σ H s → RelV x v → Vals xs us → r x xs H Q →
    wpAny (model X.prog X.w) X.A (call (.builtin id) (v :: us)) (EP X pins σ Q) X.xe s

/-! ### lists of values -/
theorem Vals.one : ∀ {x : V} {us : List Value}, Vals [x] us → ∃ u, us = [u] ∧ RelV x u
  | _, _, .cons r .nil => ⟨_, rfl, r⟩
section
variable {X : Cx} {pins : List (Addr × Obj)} {σ : St} {H : Hp} {s : Shared} {l b : Addr} {xs ys zs : List V}

/-! ### the two steps: a tracked list is rewritten, a new list is laid -/
theorem Inv.lset {its its' : List Value} {n : Nat} {f : Array Value → Array Value} {t' : Nat} (I : Inv X pins σ H s) (hH : H l = some (.lst xs))
    (e : s.heap.get? l = some { cls := .type "list", data := .seq its.toArray n }) (hf : f its.toArray = its'.toArray) (hv : Vals ys its') (hz : ys.length ≤ sizeLine) :
    Inv X pins σ (upd H l (.lst ys)) { s with heap := s.heap.update l (Obj.mapSeq f), toks := t' } := by
  have q := PySem.IsL.update e f
  rw [hf] at q
  refine I.write (x := l) (e := l) (by rw [hH]; exact trivial) (.inl rfl) (fun b' u hb hu => (Heap.get?_update_other s.heap (Obj.mapSeq f) (Ne.symm hb)).trans hu) ⟨_, q⟩ ?_
  exact ⟨hz, its', _, hv, q⟩
theorem Inv.lnew {its : List Value} {t' : Nat} (I : Inv X pins σ H s) (hv : Vals ys its) (hz : ys.length ≤ sizeLine) :
    Inv X pins σ (upd H s.heap.objs.size (.lst ys)) { s with heap := s.heap.push { cls := .type "list", data := .seq its.toArray }, toks := t' } :=
  I.laid (fun _ _ q => Heap.get?_push_of_some _ q) (Nat.le_refl _) ⟨hz, its, 0, hv, Heap.get?_push_size _ rfl⟩
theorem Inv.fresh (I : Inv X pins σ H s) : H s.heap.objs.size = none := I.hok.fresh (Nat.le_refl _)
theorem Inv.lstM (I : Inv X pins σ H s) (hH : H l = some (.lst xs)) : xs.length ≤ sizeLine ∧ ∃ (its : List Value) (n : Nat), Vals xs its ∧ xs.length = its.length ∧ s.heap.get? l = some { cls := .type "list", data := .seq its.toArray n } := by
  obtain ⟨z, its, n, r, e⟩ := I.hok l _ hH
  exact ⟨z, its, n, r, r.length, e⟩

theorem notLongL {n : Nat} (h : n ≤ sizeLine) : Builtin.List.listTooLong n = false := by
  unfold Builtin.List.listTooLong
  exact decide_eq_false (by omega)
end

section
variable {X : Cx}

/-! ### methods -/
def rAppend : V → List V → Hp → VK → Prop := fun x vs H Q => ∃ l xs y, x = .ref l ∧ vs = [y] ∧ H l = some (.lst xs) ∧ xs.length < sizeLine ∧ Q .non (upd H l (.lst (xs ++ [y])))
theorem mt_append : MtM X "list.append" rAppend := by
  intro pins s σ H x vs v us Q I rx rv h
  obtain ⟨l, xs, y, rfl, rfl, hH, hz, q⟩ := h
  cases rx
  obtain ⟨u, rfl, ru⟩ := rv.one
  obtain ⟨z, its, n, r, hl, e⟩ := I.lstM hH
  refine call_meets F.slot_list_append ⟨_, e, rfl⟩ F.entry_list_append (F.args_list_append_2 _ _) (PySem.list_append l its.toArray n u (by rw [List.size_toArray]; omega)) ⟨e, ?_⟩
  refine ⟨.non, _, I.lset (its' := its ++ [u]) hH e (by simp) (r.append (.cons ru .nil)) ?_, rfl, q⟩
  rw [List.length_append, List.length_singleton]
  omega

def rExtend : V → List V → Hp → VK → Prop := fun x vs H Q => ∃ l b xs zs, x = .ref l ∧ vs = [.ref b] ∧ H l = some (.lst xs) ∧ H b = some (.lst zs) ∧ xs.length + zs.length ≤ sizeLine ∧ Q .non (upd H l (.lst (xs ++ zs)))
theorem mt_extend : MtM X "list.extend" rExtend := by
  intro pins s σ H x vs v us Q I rx rv h
  obtain ⟨l, b, xs, zs, rfl, rfl, hH, hB, hz, q⟩ := h
  cases rx
  obtain ⟨u, rfl, ru⟩ := rv.one
  cases ru
  obtain ⟨z, its, n, r, hl, e⟩ := I.lstM hH
  obtain ⟨z2, its2, n2, r2, hl2, e2⟩ := I.lstM hB
  have hsz : its.toArray.size + its2.toArray.size ≤ sizeLine := by rw [List.size_toArray, List.size_toArray]; omega
  have hlong : ¬ (!its.toArray.isEmpty && Builtin.List.listTooLong (its.toArray.size + its2.toArray.size)) = true := by
    rw [notLongL hsz, Bool.and_false]
    exact Bool.false_ne_true
  refine call_meets F.slot_list_extend ⟨_, e, rfl⟩ F.entry_list_extend (F.args_list_extend_2 _ _)
    (AutoSeq1.list_extend_list_list_0 l its.toArray n b its2.toArray n2 hlong (by rw [List.size_toArray]; omega) (by omega)) ⟨e, e2, ?_⟩
  refine ⟨.non, _, I.lset (its' := its ++ its2) hH e (by simp) (r.append r2) ?_, rfl, q⟩
  rw [List.length_append]
  omega

/-! ### list + list, list += list, list * int -/
def rCat : R2 := fun x y H Q => ∃ l b xs zs, x = .ref l ∧ y = .ref b ∧ H l = some (.lst xs) ∧ H b = some (.lst zs) ∧ xs.length + zs.length ≤ sizeLine ∧ ∀ p, H p = none → Q (.ref p) (upd H p (.lst (xs ++ zs)))
theorem op_cat : OpR X (binaryOp .Add) rCat := by
  intro pins s σ H x y v u Q I rx ry h
  obtain ⟨l, b, xs, zs, rfl, rfl, hH, hB, hz, q⟩ := h
  cases rx
  cases ry
  obtain ⟨z, its, n, r, hl, e⟩ := I.lstM hH
  obtain ⟨z2, its2, n2, r2, hl2, e2⟩ := I.lstM hB
  refine PySem.P.add_list e e2 ?_ (by rw [List.size_toArray, List.size_toArray]; omega)
  have ea : its.toArray ++ its2.toArray = (its ++ its2).toArray := by simp
  rw [ea]
  exact ⟨.ref _, _, I.lnew (t' := s.toks) (r.append r2) (by rw [List.length_append]; omega), rfl, q _ I.fresh⟩
/-! ### del xs[i] -/
end

/-! ### xs[a:b] = ys -/
section
variable {prog : Program} {w : World} {A : Around} {E : Value → Shared → Prop} {s : Shared}
set_option maxRecDepth 100000 in
end

section
variable {X : Cx}
end
end L2

namespace L2
open PySem PySem.Spec PyProof.Rows

/-! ### lists of pairs as tables -/
section
variable {κ : Type} [DecidableEq κ]
def valV (kvs : List (κ × V)) (k : κ) : Option V := (kvs.find? fun kv => decide (kv.1 = k)).map (·.2)
/-- in its place, or at the end -/
def putK (kvs : List (κ × V)) (k : κ) (v : V) : List (κ × V) :=
  if (kvs.any fun kv => decide (kv.1 = k)) = true then kvs.map (fun kv => if kv.1 = k then (kv.1, v) else kv) else kvs ++ [(k, v)]
theorem valV_pos {p : κ × V} {r : List (κ × V)} {k : κ} (e : p.1 = k) : valV (p :: r) k = some p.2 := by simp [valV, List.find?_cons, e]
theorem valV_neg {p : κ × V} {r : List (κ × V)} {k : κ} (e : ¬ p.1 = k) : valV (p :: r) k = valV r k := by simp [valV, List.find?_cons, e]
theorem valV_any (k : κ) : ∀ kvs : List (κ × V), (kvs.any fun kv => decide (kv.1 = k)) = (valV kvs k).isSome
  | [] => rfl
  | p :: r => by
    rw [List.any_cons]
    by_cases e : p.1 = k
    · simp only [valV_pos e, decide_eq_true e, Bool.true_or, Option.isSome_some]
    · rw [valV_neg e, decide_eq_false e, Bool.false_or]; exact valV_any k r
theorem length_putK (kvs : List (κ × V)) (k : κ) (v : V) : (putK kvs k v).length ≤ kvs.length + 1 := by
  unfold putK
  split
  · rw [List.length_map]; omega
  · rw [List.length_append, List.length_cons, List.length_nil]; omega
theorem RelO.isSome_eq {o : Option V} {u : Option Value} (r : RelO o u) : o.isSome = u.isSome := by
  cases o with
  | none => cases u with
    | none => rfl
    | some _ => exact (show False from r).elim
  | some _ => cases u with
    | none => exact (show False from r).elim
    | some _ => rfl
/-- raw tables of the same keys -/
theorem KV.val {kvs : List (κ × V)} {vs : List (κ × Value)} (r : KV kvs vs) (k : κ) : RelO (valV kvs k) (valueAt vs k) := by
  unfold KV at r
  induction r with
  | nil => exact True.intro
  | @cons p q ps qs h t ih =>
    obtain ⟨h1, h2⟩ := h
    by_cases e : p.1 = k
    · have e' : q.1 = k := h1.symm.trans e
      have b : valueAt (q :: qs) k = some q.2 := by simp [valueAt, List.find?_cons, e']
      rw [valV_pos e, b]; exact h2
    · have e' : ¬ q.1 = k := fun z => e (h1.trans z)
      have b : valueAt (q :: qs) k = valueAt qs k := by simp [valueAt, List.find?_cons, e']
      rw [valV_neg e, b]; exact ih
theorem KV.any {kvs : List (κ × V)} {vs : List (κ × Value)} (r : KV kvs vs) (k : κ) : (kvs.any fun kv => decide (kv.1 = k)) = vs.any fun kv => decide (kv.1 = k) := by
  unfold KV at r
  induction r with
  | nil => rfl
  | cons h t ih => rw [List.any_cons, List.any_cons, ih, h.1]
theorem KV.repl {kvs : List (κ × V)} {vs : List (κ × Value)} (r : KV kvs vs) (k : κ) {y : V} {u : Value} (ry : RelV y u) :
    KV (kvs.map fun kv => if kv.1 = k then (kv.1, y) else kv) (vs.map fun kv => if kv.1 = k then (kv.1, u) else kv) := by
  unfold KV at r ⊢
  induction r with
  | nil => exact .nil
  | @cons p q ps qs h t ih =>
    rw [List.map_cons, List.map_cons]
    refine .cons ?_ ih
    obtain ⟨h1, h2⟩ := h
    by_cases e : p.1 = k
    · rw [if_pos e, if_pos (h1.symm.trans e)]; exact ⟨h1, ry⟩
    · rw [if_neg e, if_neg (fun z => e (h1.trans z))]; exact ⟨h1, h2⟩
theorem KV.put {kvs : List (κ × V)} {vs : List (κ × Value)} (r : KV kvs vs) (k : κ) {y : V} {u : Value} (ry : RelV y u) : KV (putK kvs k y) (stored vs k u) := by
  unfold putK stored
  rw [r.any k]
  by_cases e : (vs.any fun kv => decide (kv.1 = k)) = true
  · rw [if_pos e, if_pos e]; exact r.repl k ry
  · rw [if_neg e, if_neg e]; exact Paired.snoc r ⟨rfl, ry⟩
theorem KV.length {kvs : List (κ × V)} {vs : List (κ × Value)} (r : KV kvs vs) : kvs.length = vs.length := Paired.length r
end


/-! ### a tracked dict, its keys ints and texts or tuples of these -/
theorem kV_is {P : Program} {w : World} {k : Key} {u : Value} (r : RelV (kV k) u) : (mixKind P w).is k u = true := by
  cases k with
  | inl i => obtain ⟨t, e⟩ := (show ∃ t, u = Value.int i t from r); subst e; exact mixKind_int P w i t
  | inr x => obtain ⟨t, e⟩ := (show ∃ t, u = Value.str x t from r); subst e; exact mixKind_str P w x t
theorem items_are {P : Program} {w : World} : ∀ {ks : List Key} {us : List Value}, Vals (ks.map kV) us → ItemsAre (mixKind P w) ks us
  | [], _, r => by rw [List.map_nil] at r; cases r; exact .nil
  | k :: ks, _, r => by
    rw [List.map_cons] at r
    cases r with
    | cons h t => exact .cons (kV_is h) (items_are t)

/-- raw entries of a dict with tuple keys -/
abbrev KT (H : Hp) : List (List Key × V) → List (List Key × Addr × Value) → Prop := Paired fun p q => p.1 = q.1 ∧ H q.2.1 = some (.tup (p.1.map kV)) ∧ RelV p.2 q.2.2
theorem KT.val {H : Hp} {kvs : List (List Key × V)} {xs : List (List Key × Addr × Value)} (r : KT H kvs xs) (k : List Key) : RelO (valV kvs k) ((atKey xs k).map (·.2)) := by
  induction r with
  | nil => exact True.intro
  | @cons p q ps qs h t ih =>
    obtain ⟨h1, _, h2⟩ := h
    by_cases e : p.1 = k
    · have e' : q.1 = k := h1.symm.trans e
      have b : atKey (q :: qs) k = some q.2 := by simp [atKey, List.find?_cons, e']
      rw [valV_pos e, b]; exact h2
    · have e' : ¬ q.1 = k := fun z => e (h1.trans z)
      have b : atKey (q :: qs) k = atKey qs k := by simp [atKey, List.find?_cons, e']
      rw [valV_neg e, b]; exact ih
theorem KT.repl {H : Hp} {kvs : List (List Key × V)} {xs : List (List Key × Addr × Value)} (r : KT H kvs xs) (k : List Key) {y : V} {u : Value} (ry : RelV y u) :
    KT H (kvs.map fun kv => if kv.1 = k then (kv.1, y) else kv) (xs.map (putAt k u)) := by
  induction r with
  | nil => exact .nil
  | @cons p q ps qs h t ih =>
    rw [List.map_cons, List.map_cons]
    refine .cons ?_ ih
    obtain ⟨h1, h2, h3⟩ := h
    unfold putAt
    by_cases e : p.1 = k
    · rw [if_pos e, if_pos (h1.symm.trans e)]; exact ⟨h1, h2, ry⟩
    · rw [if_neg e, if_neg (fun z => e (h1.trans z))]; exact ⟨h1, h2, h3⟩
theorem KT.put {H : Hp} {kvs : List (List Key × V)} {xs : List (List Key × Addr × Value)} (r : KT H kvs xs) (k : List Key) {b : Addr} {y : V} {u : Value} (hb : H b = some (.tup (k.map kV))) (ry : RelV y u) :
    KT H (putK kvs k y) (storedH xs k b u) := by
  have e : (kvs.any fun kv => decide (kv.1 = k)) = (atKey xs k).isSome := by
    rw [valV_any, (r.val k).isSome_eq, Option.isSome_map]
  unfold putK storedH
  rw [e]
  by_cases q : (atKey xs k).isSome = true
  · rw [if_pos q, if_pos q]; exact r.repl k ry
  · rw [if_neg q, if_neg q]; exact Paired.snoc r ⟨rfl, hb, ry⟩
theorem KT.keeps {H H' : Hp} {kvs : List (List Key × V)} {xs : List (List Key × Addr × Value)} (r : KT H kvs xs) (ht : ∀ b ys, H b = some (.tup ys) → H' b = some (.tup ys)) : KT H' kvs xs :=
  Paired.mapP r fun _ _ z => ⟨z.1, ht _ _ z.2.1, z.2.2⟩

section
variable {P : Program} {w : World} {H : Hp} {h : Heap} {a : Addr}
theorem rd_of {u : HO} (ok : HOk P w H h) (e : Rd H a u) : ObjOk P w H h a u := e.ok ok
theorem dk_rd {kvs : List (Key × V)} (ok : HOk P w H h) (e : Rd H a (.dK kvs)) : kvs.length ≤ sizeLine ∧ (a == sysModules) = false ∧ ∃ vs, KV kvs vs ∧ h.DictOf (mixKind P w) a vs :=
  show ObjOk P w H h a (.dK kvs) from rd_of ok e
theorem dk_of {kvs : List (Key × V)} (ok : HOk P w H h) (e : H a = some (.dK kvs)) : kvs.length ≤ sizeLine ∧ (a == sysModules) = false ∧ ∃ vs, KV kvs vs ∧ h.DictOf (mixKind P w) a vs := dk_rd ok (.inl e)
/-- a tracked tuple of ints and texts is a key -/
theorem key_of {ks : List Key} (ok : HOk P w H h) (e : H a = some (.tup (ks.map kV))) : (tupleKind (mixKind P w)).is h ks a := by
  obtain ⟨_, its, r, o, h1, h2, n, h3⟩ := (show ObjOk P w H h a (.tup (ks.map kV)) from ok a _ e)
  exact ⟨o, its.toArray, n, h1, h2, h3, by simpa using items_are r⟩
theorem dt_rd {kvs : List (List Key × V)} (ok : HOk P w H h) (e : Rd H a (.dT kvs)) : kvs.length ≤ sizeLine ∧ (a == sysModules) = false ∧
    ∃ xs, KT H kvs xs ∧ h.DictOfH (tupleKind (mixKind P w)) a xs := by
  obtain ⟨z, y, xs, r, o, es, ep, h1, h2, h3, h4, h5⟩ := (show ObjOk P w H h a (.dT kvs) from rd_of ok e)
  refine ⟨z, y, xs, r, o, es, ep, h1, h2, h3, h4, fun x hx => ?_, h5⟩
  have all : ∀ {l : List (List Key × V)} {m : List (List Key × Addr × Value)}, KT H l m → ∀ x ∈ m, (tupleKind (mixKind P w)).is h x.1 x.2.1 := by
    intro l m q
    induction q with
    | nil => intro x hx; exact nomatch hx
    | @cons p q ps qs hq t ih =>
      intro x hx
      rcases List.mem_cons.mp hx with e | hx
      · subst e
        exact key_of ok (by rw [← hq.1]; exact hq.2.1)
      · exact ih x hx
  exact all r x hx
theorem dt_of {kvs : List (List Key × V)} (ok : HOk P w H h) (e : H a = some (.dT kvs)) : kvs.length ≤ sizeLine ∧ (a == sysModules) = false ∧
    ∃ xs, KT H kvs xs ∧ h.DictOfH (tupleKind (mixKind P w)) a xs := dt_rd ok (.inl e)
end

/-- what the dict at a holds at the key y -/
def DGet (H : Hp) (a : Addr) (y : V) (r : Option V) : Prop :=
  (∃ kvs k, Rd H a (.dK kvs) ∧ y = kV k ∧ r = valV kvs k) ∨ ∃ kvs k b, Rd H a (.dT kvs) ∧ y = .ref b ∧ H b = some (.tup (k.map kV)) ∧ r = valV kvs k
/-- the heap behind a[y] = v -/
def DPut (H : Hp) (a : Addr) (y v : V) (H' : Hp) : Prop :=
  (∃ kvs k, H a = some (.dK kvs) ∧ y = kV k ∧ kvs.length < sizeLine ∧ H' = upd H a (.dK (putK kvs k v))) ∨
  ∃ kvs k b, H a = some (.dT kvs) ∧ y = .ref b ∧ H b = some (.tup (k.map kV)) ∧ kvs.length < sizeLine ∧ H' = upd H a (.dT (putK kvs k v))
theorem DPut.k {H : Hp} {a : Addr} {kvs : List (Key × V)} {k : Key} {v : V} (e : H a = some (.dK kvs)) (hl : kvs.length < sizeLine) : DPut H a (kV k) v (upd H a (.dK (putK kvs k v))) := .inl ⟨kvs, k, e, rfl, hl, rfl⟩
section
variable {X : Cx} {pins : List (Addr × Obj)} {σ : St} {H : Hp} {s : Shared} {a : Addr} {y v : V} {u r : Value} {o : Option V} {A : Around} {E : Value → Shared → Prop}

theorem Inv.big (I : Inv X pins σ H s) : sysModules < s.heap.objs.size := by
  have h : mainGlobals < s.heap.objs.size := (I.mod.glob.keeps I.bk).lt
  exact Nat.lt_trans (by decide) h

/-- d[y], there -/
theorem d_getItem {Q : Value → Shared → Prop} (hu : A.units + 1 < cLine) (I : Inv X pins σ H s) (g : DGet H a y (some v)) (ry : RelV y u) (h : ∀ w' s', Inv X pins σ H s' → RelV v w' → Q w' s') :
    wpAny (model X.prog X.w) A (getItem (.ref a) u) Q E s := by
  rcases g with ⟨kvs, k, e, ey, l⟩ | ⟨kvs, k, b, e, ey, eb, l⟩
  · subst ey
    obtain ⟨z, hd, vs, rel, dd⟩ := dk_rd I.hok e
    obtain ⟨w', hw, rw'⟩ := RelO.some_of (v := v) (o := valueAt vs k) (by rw [l]; exact rel.val k)
    exact wpAny_getItem_of (kV_is ry) dd.mapOf hw (h w' _ (I.tok _) rw')
  · subst ey
    cases (show u = Value.ref b from ry)
    obtain ⟨z, hd, xs, rel, dd⟩ := dt_rd I.hok e
    obtain ⟨w', hw, rw'⟩ := RelO.some_of (v := v) (o := (atKey xs k).map (·.2)) (by rw [l]; exact rel.val k)
    obtain ⟨p, hp, hp2⟩ := Option.map_eq_some_iff.mp hw
    refine wpAny_getItem_heap (tupleKind_room_in1 hu) (key_of I.hok eb) dd hp ?_
    rw [hp2]
    exact h w' _ (I.tok _) rw'
/-- a dict's object is replaced -/
theorem d_write {h' : Heap} {t' : Nat} {ob : HO} (I : Inv X pins σ H s) (mu : Mut (H a)) (hs : Heap.SameBut a s.heap h') (he : ∃ q, h'.get? a = some q) (new : ObjOk X.prog X.w (upd H a ob) h' a ob) :
    Inv X pins σ (upd H a ob) { s with heap := h', toks := t' } :=
  I.write (x := a) (e := a) mu (.inl rfl) (fun b q hb z => (hs.2 b hb).trans z) he new
theorem dk_new {P : Program} {w : World} {H' : Hp} {h' : Heap} {kvs : List (Key × V)} {vs : List (Key × Value)} (z : kvs.length ≤ sizeLine) (hd : (a == sysModules) = false) (rel : KV kvs vs) (dd : h'.DictOf (mixKind P w) a vs) :
    ObjOk P w H' h' a (.dK kvs) := ⟨z, hd, vs, rel, dd⟩
/-- d[y] = v -/
theorem d_setItem {H' : Hp} {Q : Unit → Shared → Prop} (hu : A.units + 1 < cLine) (I : Inv X pins σ H s) (g : DPut H a y v H') (ry : RelV y u) (rv : RelV v r) (h : ∀ s', Inv X pins σ H' s' → Q () s') :
    wpAny (model X.prog X.w) A (setItem (.ref a) u r) Q E s := by
  rcases g with ⟨kvs, k, e, ey, l, eH⟩ | ⟨kvs, k, b, e, ey, eb, l, eH⟩
  · subst ey eH
    obtain ⟨z, hd, vs, rel, dd⟩ := dk_of I.hok e
    have hz : vs.length ≤ sizeLine := by rw [← rel.length]; exact z
    have hl : (putK kvs k v).length ≤ sizeLine := by have := length_putK kvs k v; omega
    refine wpAny_setItem_pairs (hsz := hz) (kV_is ry) dd fun h' dd' hs => h _ ?_
    have he : ∃ q, h'.get? a = some q := let ⟨q, _, _, hq, _⟩ := dd'; ⟨q, hq⟩
    exact d_write I (by rw [e]; exact True.intro) hs he (dk_new hl hd (rel.put k rv) dd')
  · subst ey eH
    cases (show u = Value.ref b from ry)
    obtain ⟨z, hd, xs, rel, dd⟩ := dt_of I.hok e
    have hz : xs.length ≤ sizeLine := by rw [← Paired.length rel]; exact z
    have hl : (putK kvs k v).length ≤ sizeLine := by have := length_putK kvs k v; omega
    refine wpAny_setItem_heap (hsz := hz) (tupleKind_room_in1 hu) (key_of I.hok eb) dd fun h' dd' hs => h _ ?_
    obtain ⟨q, es, ep, hq, h2, h3, h4, _, h5⟩ := dd'
    refine d_write I (by rw [e]; exact True.intro) hs ⟨q, hq⟩ ⟨hl, hd, _, (rel.put k eb rv).keeps fun c ys ec => ?_, q, es, ep, hq, h2, h3, h4, h5⟩
    rw [upd_ne (ne_of ec e (fun z => nomatch z))]
    exact ec
end

section
variable {X : Cx} {pins : List (Addr × Obj)} {σ : St} {H : Hp} {s : Shared} {a : Addr} {kvs : List (Key × V)} {k : Key} {u : Value} {A : Around} {E : Value → Shared → Prop}
end


/-! ### readings and rules -/
/-- the element of a subscription, not a slice -/
def NoSl (i : Expr) : Prop := ∀ ov iv, subscripted i false ov iv = operate [ov, iv] (getItem ov iv)
theorem subD_of {prog : Program} {w : World} {A : Around} {E : Value → Shared → Prop} {s : Shared} {env : Env} {value slice : Expr} {pos : Pos} {T id : String} {Q : Value → Shared → Prop}
    (hl : typeLookup (.type T) "__getitem__" = pure (some (.builtin id))) (hs : NoSl slice)
    (h : wpAny (model prog w) A (eval value env) (fun o s₁ => wpAny (model prog w) A (eval slice env) (fun i s₂ => s₂.TypeIs o T ∧ wpAny (model prog w) A (getItem o i) Q E s₂) E s₁) E s) :
    wpAny (model prog w) A (eval (.Subscript value slice pos) env) Q E s := by
  refine Subscript_ (wpAny_mono h (fun o s₁ h₁ => wpAny_mono h₁ (fun i s₂ h₂ => ?_) fun _ _ x => x) fun _ _ x => x)
  obtain ⟨hT, h₂⟩ := h₂
  unfold subscriptTail
  refine wpAny_bind ?_
  rw [getitemInPython_of_ne hT.not_modules]
  refine wpAny_bind (wpAny_specialOf hT hl ?_)
  have fin : wpAny (model prog w) A (subscripted slice false o i) (fun r s₃ => wpAny (model prog w) A (letTemporaryGo value o r >>= fun _ => pure r) Q E s₃) E s₂ := by
    rw [hs o i]
    exact wpAny_operating (wpAny_mono h₂ (fun r s₃ h₃ => wpAny_bind (wpAny_letTemporaryGo (wpAny_pure h₃))) fun _ _ x => x)
  first
    | exact wpAny_pure (wpAny_bind fin)
    | exact wpAny_bind (wpAny_pure (wpAny_bind fin))
    | exact wpAny_bind fin

theorem dict_typeIs {X : Cx} {pins : List (Addr × Obj)} {σ : St} {H : Hp} {s : Shared} {a : Addr} {y : V} {o : Option V} (I : Inv X pins σ H s) (g : DGet H a y o) : s.TypeIs (.ref a) "dict" := by
  rcases g with ⟨kvs, k, e, _, _⟩ | ⟨kvs, k, b, e, _, _, _⟩
  · obtain ⟨_, _, vs, _, dd⟩ := dk_rd I.hok e
    exact dd.typeIs
  · obtain ⟨_, _, xs, _, dd⟩ := dt_rd I.hok e
    exact dd.typeIs
/-- d[y] -/
def tDGet (td ty : TE) : TE := fun σ H Q => td σ H fun x H1 => ty σ H1 fun y H2 => ∃ a v, x = .ref a ∧ DGet H2 a y (some v) ∧ Q v H2
/-- d[y] = v -/
def sDPut (td ty tv : TE) : TS := fun D σ H => tv σ H fun v H1 => td σ H1 fun x H2 => ty σ H2 fun y H3 => ∃ a H4, x = .ref a ∧ DPut H3 a y v H4 ∧ D.nx σ H4
section
variable {X : Cx} {o i e value : Expr} {pos pos' tpos : Pos} {td ty tv : TE}
theorem pe_dget (hu : X.A.units + 1 < cLine) (ho : PE X o td) (hi : PE X i ty) (hs : NoSl i) : PE X (.Subscript o i pos) (tDGet td ty) := by
  intro pins s σ H Q I h
  refine subD_of PySem.F.slot_dict_getitem.lookup hs (thn (ho pins s σ H _ I h) ?_)
  rintro u s1 ⟨x, H1, I1, rx, q1⟩
  refine thn (hi pins s1 σ H1 _ I1 q1) ?_
  rintro iv s2 ⟨y, H2, I2, ry, a, v, ex, g, q2⟩
  subst ex
  obtain rfl : u = Value.ref a := rx
  exact ⟨dict_typeIs I2 g, d_getItem hu I2 g ry fun w' s3 I3 rw' => ⟨v, H2, I3, rw', q2⟩⟩
theorem ps_dput (hu : X.A.units + 1 < cLine) (ho : PE X o td) (hi : PE X i ty) (hv : PE X value tv) (hs : swapsWith value (some (.Subscript o i pos')) pos.line X.env = pure false) :
    PS X (.Assign [.Subscript o i pos'] value pos) (sDPut td ty tv) := by
  intro pins s σ H D I h
  refine wpAny_Assign_Subscript (thn (hv pins s σ H _ I h) ?_) hs
  rintro r s1 ⟨v, H1, I1, rv, q1⟩
  refine thn (ho pins s1 σ H1 _ I1 q1) ?_
  rintro u s2 ⟨x, H2, I2, rx, q2⟩
  refine thn (hi pins s2 σ H2 _ I2 q2) ?_
  rintro iv s3 ⟨y, H3, I3, ry, a, H4, ex, g, q3⟩
  subst ex
  obtain rfl : u = Value.ref a := rx
  exact d_setItem hu I3 g ry rv fun s4 I4 => ⟨σ, H4, I4, q3⟩
end


/-! ### displays -/
theorem dk_empty {P : Program} {w : World} {H : Hp} (h : Heap) (hb : sysModules < h.objs.size) : ObjOk P w H (h.push { cls := .type "dict", data := .dict #[] }) h.objs.size (.dK []) :=
  ⟨Nat.zero_le _, beq_eq_false_iff_ne.mpr (Ne.symm (Nat.ne_of_lt hb)), [], .nil, Heap.DictOf.new h⟩
/-- {}, to be a dict of the kind that is wanted -/
def tDNewK : TE := fun _ H Q => ∀ p, H p = none → Q (.ref p) (upd H p (.dK []))
section
variable {X : Cx} {pos : Pos}
theorem pe_dnewK : PE X (.Dict [] [] pos) tDNewK := fun pins s σ H Q I h =>
  wpAny_Dict_empty ⟨.ref s.heap.objs.size, _, I.laid (a := s.heap.objs.size) (o := .dK []) (t' := s.toks) (fun _ _ q => Heap.get?_push_of_some _ q) (Nat.le_refl _) (dk_empty s.heap I.big), rfl, h _ (I.hok.fresh (Nat.le_refl _))⟩
end

/-! ### methods -/
section
variable {X : Cx} {pins : List (Addr × Obj)} {σ : St} {H : Hp} {s : Shared} {a : Addr} {y d : V} {u r : Value} {o : Option V} {A : Around} {E : Value → Shared → Prop}
end

section
variable {X : Cx} {o e f : Expr} {apos cpos : Pos} {td ty tx : TE}
end

/-! ### dict(d): a copy -/
section
variable {X : Cx} {pins : List (Addr × Obj)} {σ : St} {H : Hp} {s : Shared} {a : Addr} {kvs : List (Key × V)} {A : Around} {E : Value → Shared → Prop}
end


section
variable {X : Cx} {pins : List (Addr × Obj)} {σ : St} {H : Hp} {s : Shared} {a : Addr} {y : V} {u : Value} {A : Around} {E : Value → Shared → Prop}
end
end L2

namespace Att
open PySem PySem.W PySem.Calls PyProof.Rows

/-! ### the script -/
theorem ints_of_wellAll {P : Params} {h : Heap} : ∀ (ns : List Int) (vs : List Value), WellAll P h vs (ns.map WData.int) → IntsAre vs ns := by
  intro ns
  induction ns with
  | nil =>
    intro vs w
    rw [List.map_nil] at w
    cases w
    exact .nil
  | cons n ns ih =>
    intro vs w
    rw [List.map_cons] at w
    cases w with
    | cons a b =>
      cases a
      exact .cons _ _ (ih _ b)

theorem script_of {l : OpenLaw} {n : Nat} (hn : l.most = some n) {P : Params} {h : Heap} {args : List WData} {vals : List Value}
    (hpre : l.row.toRowW.claim.pre args = true) (hwl : WellAll P h vals args) :
    ∃ a vs ns, vals = [Value.ref a] ∧ args = [WData.list (ns.map WData.int)] ∧ h.get? a = some { cls := .type "list", data := .seq vs.toArray } ∧ IntsAre vs ns ∧ ns.length ≤ n := by
  have hsh : WShape.hasAll [] args [.list .int] = true := (pre_splitW hpre).1
  have hc : l.pre.holds [] { args := args } = true := (pre_splitW hpre).2
  obtain ⟨d, r, rfl, h1, h2⟩ := hasAllW_cons hsh
  obtain rfl := hasAllW_nil h2
  obtain ⟨xs, rfl, h3⟩ := hasW_list h1
  obtain ⟨ns, rfl⟩ := items_int h3
  have hlen : ns.length ≤ n := by
    unfold OpenLaw.pre at hc
    have h4 : (WTm.not (.lt (.lit (.int (n : Int))) (.len (.arg 0)))).holds [] { args := [.list (ns.map .int)] } = true := by
      have h4 := (holds_andW hc).1
      rw [hn] at h4
      exact h4
    have h5 := condW_of h4 (w_not (w_lt w_lit (w_len_list (w_arg rfl))))
    rw [List.length_map] at h5
    refine Nat.le_of_not_lt fun q => ?_
    have q' : (n : Int) < ((ns.length : Nat) : Int) := by omega
    first
      | (rw [decide_eq_true q'] at h5; exact absurd h5 (by decide))
      | (simp at h5; omega)
  cases hwl with
  | cons w1 w2 =>
    cases w2
    cases w1 with
    | list ho hall => exact ⟨_, _, ns, rfl, rfl, ho, ints_of_wellAll ns _ hall, hlen⟩

theorem post_true (l : OpenLaw) (args : List WData) : l.row.toRowW.claim.post args (.bool true) args = true :=
  postW_of (r := l.row.toRowW) (X := (true == true))
    (show WShape.has [] (.bool true) .bool = true by first | rfl | decide | simp [WShape.has, WShape.arms, WShape.armsAll])
    (show (WTm.eq .res (.lit (.bool true))).value [] { args := args, res := some (.bool true), after := args } = some (.bool (true == true)) from w_eq_bool (w_res rfl) w_lit) rfl

/-! ### the attachment: holds_open's last premise (the goal 'hc' behind k_head) from a wpAny of the law's body -/
/-- the same from a codeAny of the CALL (for a layer whose function contracts speak of calls) -/
theorem attach_call {l : OpenLaw} {n : Nat} {q : Program} {loose : List Str} {XP : (Str → Option Value) → Heap → Prop} {YP : World → Heap → Prop} {d : DefRec}
    (hn : l.most = some n) (hdf : d.params.defaults = [])
    (call : ∀ (w : World) (s₀ s₁ : Shared) (mg mb : Str → Option Value) (fa : Addr) (o : Obj) (pm cd doc : Value) (a : Addr) (vs : List Value) (ns : List Int),
      Ground q loose [] XP w s₀ mg mb s₁.heap → YP w s₁.heap →
      s₁.heap.get? fa = some o → o.data = .func (docDef d.name d.params d.body d.scope pm cd doc) → s₁.heap.CodeRec cd d.name → mg d.name = some (.ref fa) →
      s₁.heap.get? a = some { cls := .type "list", data := .seq vs.toArray } → IntsAre vs ns → ns.length ≤ n → s₁.gens = #[] →
      codeAny (model l.prog w) callerA (.call (.ref fa) ⟨[.ref a], []⟩) (fun r s' => r = .ok (.ret (.bool true)) ∧ OldK s₁.heap s'.heap ∧ s'.os = s₁.os ∧ AllBare s'.gens) s₁) :
    WalkO q loose XP YP l.row.toRowW d [] (fun f vs => PySem.call f vs) := by
  intro w s₀ s₁ mg mb G Y fa o pm cd doc dV kV ho hd hcd hD hmg hg args vals as hpre hlay hrd hwl hlo
  obtain rfl : dV = .none := Dflts.none hD hdf
  obtain rfl : kV = .none := Dflts.noKw hD
  obtain ⟨a, vs, ns, rfl, rfl, hobj, hints, hlen⟩ := script_of hn hpre hwl
  refine enter_call (codeAny_mono (call w s₀ s₁ mg mb fa o pm cd doc a vs ns G Y ho (fd_plain hd) hcd hmg hobj hints hlen hg) fun r s' hq => ?_)
  obtain ⟨rfl, h2, h3, h4⟩ := hq
  exact ⟨.inl ⟨.bool true, .bool true, [], rfl, fun _ => rfl, .bool true, post_true l _, fun _ => ⟨List.Pairwise.nil, fun _ hm => (nomatch hm)⟩⟩, h2, h3, h4⟩

/-! ### rules over ANY heap (no ledger) from facts about the written part K: the library's own take a ledger (News) for what they write -/
section
variable {prog : Program} {w : World} {A : Around} {E : Value → Shared → Prop} {s : Shared} {K : Frag}

/-! the whole heap as the ledger: makes every rule that writes through a ledger a rule over any heap -/
end
end Att

namespace L2
open PySem PySem.Spec PyProof.Rows

theorem vals_ints : ∀ {vs : List Value} {ns : List Int}, IntsAre vs ns → Vals (ns.map V.int) vs
  | _, _, .nil => .nil
  | _, _, .cons n t h => .cons ⟨t, rfl⟩ (vals_ints h)

/-- nothing is tracked but the script, known to the object (or it is an object of the module) -/
def Only (H : Hp) : Prop := ∀ b, H b = none ∨ ∃ o xs, H b = some (.frz o (.lst xs))

/-- THE HEAD: the law's promise, at the heap behind the top. F, the promise of the law's def, may use that base is part of the heap (so K.In base, base.Ns mainGlobals mg stand in Mod) -/
theorem law_call {P : Program} {w : World} {K : PySem.W.Frag} {mg mb : Str → Option Value} {CX : CXT} {k : Nat} {fa a : Addr} {fd : FuncData} {x : Str} {sp : Sp} {s₁ : Shared} {vs : List Value} {ns : List Int}
    (KX : K.In s₁.heap) (hns : s₁.heap.Ns mainGlobals mg) (hb : s₁.heap.Ns builtinsNs mb) (hbb : ∀ x : Str, x ≠ "__name__" → mb x = bootBuiltins x) (hlim : s₁.heap.NoLimit) (hg : s₁.gens = #[])
    (ha : s₁.heap.get? a = some { cls := .type "list", data := .seq vs.toArray }) (hi : IntsAre vs ns) (hl : ns.length ≤ sizeLine) (hr : Room k callerA)
    (F : ∀ base : Heap, K.In base → base.Ns mainGlobals mg → FnOk P w K mg base CX k fa fd [x] sp) (hbind : ∀ (s : Shared) (u : Value), BindsTo s fd ⟨[u], []⟩ [(x, u)])
    (hsp : ∀ H : Hp, Only H → SqL K H a (ns.map V.int) → sp [.ref a] H (fun v _ => v = .bl true) fun _ _ _ => False)
    (hCX : ∀ H e s', CX [] H s₁ (fun _ _ _ => False) e s' → False) :
    codeAny (model P w) callerA (.call (.ref fa) ⟨[.ref a], []⟩) (fun r s' => r = .ok (.ret (.bool true)) ∧ OldK s₁.heap s'.heap ∧ s'.os = s₁.os ∧ AllBare s'.gens) s₁ := by
  have rv := vals_ints hi
  have lenV := hi.length
  -- from an abstract heap in which nothing but the script may be tracked
  have core : ∀ H : Hp, Only H → SqL K H a (ns.map V.int) → HOk P w H s₁.heap → (∀ b, H b ≠ none → b = a) → (H a ≠ none → K.lookup a = none) →
      codeAny (model P w) callerA (.call (.ref fa) ⟨[.ref a], []⟩) (fun r s' => r = .ok (.ret (.bool true)) ∧ OldK s₁.heap s'.heap ∧ s'.os = s₁.os ∧ AllBare s'.gens) s₁ := by
    intro H hO hS hok hA hK
    have base_of : ∀ {b : Addr} {o : Obj}, s₁.heap.get? b = some o → H b = none → (hidT s₁.heap H).get? b = some o := fun e n => hidT_get e n
    have noA : ∀ {b : Addr} {o : Obj} {es : Array DictEntry} {ep : Nat}, s₁.heap.get? b = some o → o.data = .dict es ep → H b = none := fun {b o es ep} e d => by
      cases q : H b with
      | none => rfl
      | some u =>
        have e' : b = a := hA b (by rw [q]; simp)
        subst e'
        rw [ha] at e; cases e
        have d' : Data.seq vs.toArray _ = Data.dict es ep := d
        cases d'
    have nsK : ∀ {b : Addr} {m : Str → Option Value}, s₁.heap.Ns b m → (hidT s₁.heap H).Ns b m := fun {b m} ⟨o, es, ep, e, d, r⟩ => ⟨o, es, ep, base_of e (noA e d), d, r⟩
    have hKb : K.In (hidT s₁.heap H) := fun b o e => base_of (KX b o e) (by
      cases q : H b with
      | none => rfl
      | some u =>
        have e' : b = a := hA b (by rw [q]; simp)
        subst e'
        rw [hK (by rw [q]; simp)] at e; cases e)
    have hM : Mod K mg (hidT s₁.heap H) := ⟨hKb, nsK hns, ⟨mb, nsK hb, hbb⟩, let ⟨mc, h1, h2⟩ := hlim; ⟨mc, nsK h1, h2⟩⟩
    have e0 : Env0 P w K mg (hidT s₁.heap H) callerA [] s₁ H := ⟨rfl, hM, fun b o e => of_hidT e, Nat.le_of_eq (hidT_size _ _), trivial, fun b hb => absurd (show b ∈ ([] : List Addr) from hb) (by simp), hok, .of_eq hg⟩
    refine codeAny_mono ((F _ hKb (nsK hns)).run callerA [] s₁ H ⟨[.ref a], []⟩ [.ref a] [.ref a] _ _ hr e0 (hbind s₁ (.ref a)) (.cons rfl .nil) (hsp H hO hS)) fun r s' h => ?_
    cases r with
    | error e => exact (hCX H e s' h).elim
    | ok fl =>
      cases fl with
      | next => exact False.elim h
      | brk => exact False.elim h
      | cont => exact False.elim h
      | ret u =>
        obtain ⟨v, H', os, bare, un, hok', r', q⟩ := h
        have q' : v = .bl true := q
        subst q'
        obtain rfl : u = Value.bool true := r'
        refine ⟨rfl, OldK.of_keep fun b o e => ?_, os, bare⟩
        cases q : H b with
        | none => exact un.keep b o e q (by intro z; exact absurd (show b ∈ ([] : List Addr) from z) (by simp)) (by simp)
        | some u =>
          rcases hO b with z | ⟨ob, xs, z⟩
          · rw [q] at z; cases z
          · have z2 := un.frzs b ob _ z
            obtain ⟨e1, _⟩ := hok b _ z
            obtain ⟨e2, _⟩ := hok' b _ z2
            rw [e] at e1; cases e1
            exact e2
  cases hk : K.lookup a with
  | some o =>
    -- the script is one of the module's own objects
    have e := KX a o hk
    rw [ha] at e
    cases e
    refine core (fun _ => none) (fun _ => .inl rfl) (.inr ⟨_, vs.toArray, _, hk, rfl, rfl, rfl, by rw [List.size_toArray, lenV]; exact hl, by simpa using rv⟩) (fun b u z => by have z' : (none : Option HO) = some u := z; cases z') (fun b z => absurd rfl z) fun z => absurd rfl z
  | none =>
    refine core (fun b => if b = a then some (.frz { cls := .type "list", data := .seq vs.toArray } (.lst (ns.map V.int))) else none) (fun b => ?_) (.inl (.inr ⟨{ cls := .type "list", data := .seq vs.toArray }, if_pos rfl⟩)) (fun b u z => ?_) (fun b z => ?_) fun _ => hk
    · by_cases hb : b = a
      · exact .inr ⟨_, _, if_pos hb⟩
      · exact .inl (if_neg hb)
    · by_cases hb : b = a
      · have z' := (if_pos hb).symm.trans z
        cases z'
        subst hb
        exact ⟨ha, by rw [List.length_map]; exact hl, vs, _, rv, ha⟩
      · have z' := (if_neg hb).symm.trans z
        cases z'
    · by_cases hb : b = a
      · exact hb
      · exact absurd (if_neg hb) z
end L2

namespace L2
open PySem PySem.Spec PyProof.Rows

/-- the goal that k_head leaves (case hc), from the law's promise. F gives the function object fd (K's own) once, then the promise over every base -/
theorem walk_of {l : PySem.W.OpenLaw} {n k : Nat} {q : Program} {loose : List Str} {XP : (Str → Option Value) → Heap → Prop} {YP : World → Heap → Prop} {d : DefRec} {K : Params → PySem.W.Frag} {CX : World → CXT} {sp : World → Sp} {x : Str}
    (hn : l.most = some n) (hn2 : n ≤ sizeLine) (hdf : d.params.defaults = []) (hr : Room k callerA)
    (hY : ∀ (w : World) (h : Heap), YP w h → (K w.params).In h)
    (F : ∀ (w : World) (mg : Str → Option Value) (fa : Addr) (h : Heap), (K w.params).In h → h.Ns mainGlobals mg → mg d.name = some (.ref fa) →
      ∃ fd : FuncData, (∀ (s : Shared) (u : Value), BindsTo s fd ⟨[u], []⟩ [(x, u)]) ∧
        ∀ base : Heap, (K w.params).In base → base.Ns mainGlobals mg → FnOk l.prog w (K w.params) mg base (CX w) k fa fd [x] (sp w))
    (hsp : ∀ (w : World) (H : Hp) (a : Addr) (ns : List Int), ns.length ≤ n → Only H → SqL (K w.params) H a (ns.map V.int) → sp w [.ref a] H (fun v _ => v = .bl true) fun _ _ _ => False)
    (hCX : ∀ (w : World) (H : Hp) (s : Shared) (e : Value) (s' : Shared), CX w [] H s (fun _ _ _ => False) e s' → False) :
    PySem.W.WalkO q loose XP YP l.row.toRowW d [] (fun f vs => PySem.call f vs) := by
  refine Att.attach_call hn hdf fun w s₀ s₁ mg mb fa o pm cd doc a vs ns G Y ho hd hcd hmg hobj hints hlen hg => ?_
  have KX := hY w _ Y
  obtain ⟨fd, hb, hF⟩ := F w mg fa _ KX G.T.g hmg
  exact law_call KX G.T.g G.T.b G.T.builtins G.T.nolimit hg hobj hints (Nat.le_trans hlen hn2) hr hF hb (fun H hO hS => hsp w H a ns hlen hO hS) fun H e s' => hCX w H s₁ e s'
end L2

/- THE LAST THEOREM (shape; LID, My.* are yours):
   My.Adr: a structure of the addresses that your layer names (classes, functions); My.Txt K t: a structure (Prop) of the equations over K;
   My.txt_mk : {K} {implicit addresses ..} (e1 : nsIn K mainGlobals "law" = some (some (.ref f))) (e2 : K.lookup f = some ⟨oc, od, .func (fnOf "law" "law" params body scope dV kV doc pm an cdv ct), sl⟩) (e3 : codeIn K cdv "law" = true) .. : ∃ t, My.Txt K t

set_option maxRecDepth 100000 in
set_option maxHeartbeats 0 in
theorem PySem.Challenge.cw_LID_holds : PySem.Challenge.rw_LID.Holds := by
  w_on; o_law; k_head; (case hw => w_witness2)
  k_fill
  refine L2.walk_of (l := PySem.Challenge.rw_LID) (n := 63) (k := 40) (x := "script") (CX := fun w => ..) (sp := fun _ => My.sp_law) rfl (by decide) rfl ⟨rfl, by decide, by decide⟩ (fun w h Y => PySem.W.kIn_of Y) ?F ?S ?C
  case F =>
    intro w mg fa h KX G hmg
    have T : ∃ t, My.Txt (L2.KOf KX) t := by
      dsimp only [L2.KOf]                          -- K must stand as «<heap const> w.params» for k_is
      refine' My.txt_mk ?e1 ?e2 ?e3 ..
      (case e1 => PySem.W.k_is)                    -- in the order: a name -> its address -> its object -> its parts
      (case e2 => PySem.W.k_is)
      ..
    obtain ⟨t, T⟩ := T
    have e0 := hmg.symm.trans (PySem.W.mg_of KX G T.law)
    cases e0                                       -- fa is the law's own address
    exact ⟨_, fun s u => .of_eq rfl, fun base kb nb => My.law_fn T kb nb⟩     -- if «.of_eq rfl» comes too early: refine' ⟨_, ?b, fun base kb nb => My.law_fn T kb nb⟩; exact fun s u => .of_eq rfl
  case S => exact fun w H a ns hl hO hS => ..
  case C => exact ..
(the tactic k_is has no namespace: write k_is) -/

/-! SHORT WORDS over the layer: a def of the text, its body, what a loop and a test want. -/
namespace L2
open PySem PySem.Spec PyProof.Rows

/-! ### the text by places -/
/-- the j-th statement of a class's body -/
def inClass (s : Stmt) (j : Nat) : Stmt := match s with
  | .ClassDef _ _ _ body _ _ _ _ _ _ _ => body.getD j (.Pass ⟨0, 0, 0, 0⟩)
  | _ => .Pass ⟨0, 0, 0, 0⟩
def defArgs (s : Stmt) : Arguments := match s with
  | .FunctionDef _ a _ _ _ _ _ _ _ _ => a
  | _ => { posonlyargs := [], args := [], vararg := none, kwonlyargs := [], kw_defaults := [], kwarg := none, defaults := [] }
def defBody (s : Stmt) : List Stmt := match s with
  | .FunctionDef _ _ b _ _ _ _ _ _ _ => b
  | _ => []
def defScope (s : Stmt) : Scope := match s with
  | .FunctionDef _ _ _ _ _ _ sc _ _ _ => sc
  | _ => { kind := .function, names := [], isGenerator := false, isCoroutine := false }

/-! ### no exception leaves a def -/
abbrev CX0 : CXT := fun _ _ _ _ _ _ => False
abbrev E0 : XK := fun _ _ _ => False
theorem pass0 {X : Cx} : Passes CX0 X E0 := fun _ _ _ _ _ _ _ h => h.elim

/-! ### a def (or method) of the text as it stands behind the top -/
structure Fun (K : PySem.W.Frag) (x qual : Str) (st : Stmt) (f : Addr) (fd : FuncData) : Prop where
  ex : ∃ (oc : Value) (od : Option Addr) (kV doc pm : Value) (an : Option Addr) (cdv ct : Value) (osl : Array (Option Value)),
    fd = PySem.W.fnOf x qual (defArgs st) (defBody st) (defScope st) .none kV doc pm an cdv ct ∧ K.lookup f = some ⟨oc, od, .func fd, osl⟩ ∧ PySem.W.codeIn K cdv qual = true
  kp : PySem.W.keepIn K (.ref f) = true
section
variable {P : Program} {w : World} {K : PySem.W.Frag} {mg : Str → Option Value} {base : Heap}
/-- THE RULE for a def: its body as a term of rules, and the reading of that term -/
theorem Fun.ok {x qual : Str} {st : Stmt} {f : Addr} {fd : FuncData} {N ps : List Str} {k : Nat} {sp : Sp} (F : Fun K x qual st f fd) (S : FnScope N ps (defScope st)) (len : ∀ vs H Q E, sp vs H Q E → vs.length = ps.length)
    (hbody : ∀ (cdv : Value) (A : Around) (outer : List Env) (s : Shared) (H : Hp) (vs : List V) (Q : VK) (E : XK), Room k (A.deeper (envOfC qual (defScope st) s.heap.objs.size f cdv)) → sp vs H Q E →
      ∃ t, PSs (cxOf CX0 P w K mg base N qual (defScope st) f cdv A outer s H E).nox (defBody st) t ∧ t { nx := fun _ H' => Q .non H', rt := Q } (start N vs) H) : FnOk P w K mg base CX0 (k + 1) f fd ps sp := by
  obtain ⟨oc, od, kV, doc, pm, an, cdv, ct, osl, rfl, lk, hcd⟩ := F.ex
  refine fn_of lk hcd S len fun A outer s H vs Q E hr hsp => ?_
  obtain ⟨t, h, q⟩ := hbody cdv A outer s H vs Q E hr hsp
  exact ⟨t, h.nox, q⟩
/-- how its arguments bind (no defaults): h is «fun _ _ _ _ _ _ us hl => match us, hl with | [_, _], _ => rfl», one _ a parameter -/
theorem Fun.binds {x qual : Str} {st : Stmt} {f : Addr} {fd : FuncData} {ps : List Str} (F : Fun K x qual st f fd)
    (h : ∀ (kV doc pm : Value) (an : Option Addr) (cdv ct : Value) (us : List Value), us.length = ps.length → bindArgs (PySem.W.fnOf x qual (defArgs st) (defBody st) (defScope st) .none kV doc pm an cdv ct) ⟨us, []⟩ = pure (ps.zip us)) : Binds K fd ps [] := by
  obtain ⟨oc, od, kV, doc, pm, an, cdv, ct, osl, rfl, lk, hcd⟩ := F.ex
  exact .all (h kV doc pm an cdv ct)
theorem fun_mk {x qual : Str} {st : Stmt} {f : Addr} {oc : Value} {od an : Option Addr} {osl : Array (Option Value)} {kV doc pm cdv ct : Value} (l : K.lookup f = some ⟨oc, od, .func (PySem.W.fnOf x qual (defArgs st) (defBody st) (defScope st) .none kV doc pm an cdv ct), osl⟩)
    (c : PySem.W.codeIn K cdv qual = true) (k : PySem.W.keepIn K (.ref f) = true) : Fun K x qual st f (PySem.W.fnOf x qual (defArgs st) (defBody st) (defScope st) .none kV doc pm an cdv ct) := ⟨⟨oc, od, kV, doc, pm, an, cdv, ct, osl, rfl, l, c⟩, k⟩
end
theorem hu_of {A : Around} {k : Nat} (hr : Room k A) : A.units + 1 < cLine := Nat.lt_of_le_of_lt (Nat.add_le_add_left (by decide : 1 ≤ 64) _) hr.units
/-! ### expressions in short: the name that stands in the i-th slot -/
section
variable {X : Cx}
theorem pv (i : Nat) {x : Str} {pos : Pos} (hN : X.N[i]? = some x := by rfl) (hv : Vis X.env.scope x := by first | exact Or.inl rfl | exact Or.inr (Or.inl rfl) | exact Or.inr (Or.inr rfl)) (hd : (x == ("__debug__" : Str)) = false := by decide)
    (hcd : (x == ("__classdict__" : Str)) = false := by decide) : PE X (.Name x pos) (tVar i) := pe_var hN hv hd hcd
end

/-! ### tests -/
theorem iteF {A B : Prop} (h : B) : if false = true then A else B := by
  rw [if_neg Bool.false_ne_true]
  exact h
theorem iteT {A B : Prop} (h : A) : if true = true then A else B := by
  rw [if_pos rfl]
  exact h
theorem ite2 {c A B : Prop} [Decidable c] (h1 : c → A) (h2 : ¬ c → B) : if c then A else B := by
  by_cases h : c
  · rw [if_pos h]
    exact h1 h
  · rw [if_neg h]
    exact h2 h
/-! ### heaps -/
/-- all that was tracked is as it was -/
def Same (H H' : Hp) : Prop := ∀ b o, H b = some o → H' b = some o
theorem Same.refl (H : Hp) : Same H H := fun _ _ h => h
theorem Same.trans {H H1 H2 : Hp} (a : Same H H1) (b : Same H1 H2) : Same H H2 := fun c o h => b c o (a c o h)
theorem Same.free {H H' : Hp} (e : Same H H') {l : Addr} (h : H' l = Option.none) : H l = Option.none := by
  cases q : H l with
  | none => rfl
  | some o =>
    rw [e l o q] at h
    cases h
theorem Same.seq {K : PySem.W.Frag} {H H' : Hp} {a : Addr} {xs : List V} (e : Same H H') (h : SqL K H a xs) : SqL K H' a xs := by
  rcases h with (h | ⟨o, h⟩) | h
  · exact .inl (.inl (e _ _ h))
  · exact .inl (.inr ⟨o, e _ _ h⟩)
  · exact .inr h

/-! ### a dict's pairs: keys that differ -/
section
variable {κ : Type} [DecidableEq κ]
end
end L2


/-! MY RULES over the hand layer: isinstance, == and != of lists of ints, t + u with an empty t, products and quotients of long ints. -/
namespace L2
open PySem PySem.Spec PyProof.Rows
section
variable {X : Cx}
/-- a statement, then the rest, with a word between them -/
def tCut (t u : TS) : TS := fun D σ H => ∃ M : St → Hp → Prop, t { D with nx := M } σ H ∧ ∀ σ' H', M σ' H' → u D σ' H'
theorem pss_cut {st : Stmt} {rest : List Stmt} {t u : TS} (h1 : PS X st t) (h2 : PSs X rest u) : PSs X (st :: rest) (tCut t u) := by
  intro pins s σ H D I h
  obtain ⟨M, h, hm⟩ := h
  refine wpAny_execs_cons (thn (h1 pins s σ H { D with nx := M } I h) fun f s1 q => ?_)
  cases f with
  | next =>
    obtain ⟨σ', H', I', q⟩ := q
    exact h2 pins s1 σ' H' D I' (hm _ _ q)
  | ret v => exact q
  | brk => exact q
  | cont => exact q
/-- isinstance(x, c) -/
def rIsi (K : PySem.W.Frag) : List V → Hp → VK → Prop := fun xs H Q => ∃ x c t b, xs = [x, c] ∧ TyOf K H x t ∧ (∀ u, RelV c u → PySem.W.kitOne K t u = some b) ∧ Q (.bl b) H
theorem call_isinst : CallR X (.builtin "isinstance") (rIsi X.K) := by
  intro pins s σ H xs us Q I r h
  obtain ⟨x, c, t, b, rfl, ty, e, q⟩ := h
  obtain ⟨u, w', rfl, ru, rw'⟩ := vals2 r
  exact isinst_ok I ru ty (e w' rw') fun tk => ⟨.bl b, H, I.tok tk, rfl, q⟩
theorem isi_same {K : PySem.W.Frag} (T : String) : ∀ u, RelV (.ty T) u → PySem.W.kitOne K (.type T) u = some true := by
  intro u h
  cases (show u = Value.type T from h)
  unfold PySem.W.kitOne
  rw [if_pos (beq_self_eq_true _)]
theorem isi_by {K : PySem.W.Frag} {T U : String} {b : Bool} (h : (Value.type T == Value.type U) = false) (hm : PySem.W.kitMeta U = true) (hs : (PySem.fastBuiltinMro T).map (·.contains (Value.type U)) = some b) :
    ∀ u, RelV (.ty U) u → PySem.W.kitOne K (.type T) u = some b := by
  intro u z
  cases (show u = Value.type U from z)
  unfold PySem.W.kitOne
  rw [if_neg (by rw [h]; exact Bool.false_ne_true)]
  show (if PySem.W.kitMeta U = true then PySem.W.subIn K (.type T) (.type U) else none) = some b
  rw [if_pos hm]
  exact hs
end
end L2

/-! MY RULES: a list comprehension of one clause, with no test or one. -/
namespace L2
open PySem PySem.Spec PyProof.Rows
/-- what the comprehension's own scope and the cells that it takes over must be -/
structure ClOk (X : Cx) (scope : Scope) (cl : List (Str × Addr)) : Prop where
  eq : closureFor scope X.env = pure cl
  sub : ∀ x c, cl.lookup x = some c → X.env.cells.lookup x = some c
  has : ∀ x, ((relabel scope X.env).names.lookup x = some .cell ∨ (relabel scope X.env).names.lookup x = some .free) → ∃ c, cl.lookup x = some c
  kind : scope.kind = .function
  ncell : ∀ y ∈ scope.names, y.2 ≠ .cell
  names : ∀ y ∈ scope.names, y.2 = .local → scope.names.lookup y.1 = some .local
/-- the block's context: its names, its own dict at C, the state at its entry, the iterator that it walks -/
def blk (X : Cx) (N' : List Str) (scope : Scope) (cl : List (Str × Addr)) (C : Addr) (s₀ : Shared) (H₀ : Hp) (fp : List Addr) : Cx :=
  { X with N := N', s₀ := s₀, H₀ := H₀, env := compEnvC scope cl C X.env, outer := X.stack, ex := fp, fn := fun _ => false, pn := [], xe := fun _ _ => False }
/-- the names' values at the block's entry: those that are taken over -/
def blkSt (ix : List (Option Nat)) (σ : St) : St := ix.map fun o => o.bind fun j => (σ[j]?).bind id
section
variable {X : Cx} {pins : List (Addr × Obj)} {σ : St} {H : Hp} {s : Shared} {N' : List Str} {scope : Scope} {cl : List (Str × Addr)} {fp : List Addr} {ix : List (Option Nat)}
/-- which outer slots stand for the names that are taken over -/
def IxOk (X : Cx) (N' : List Str) (scope : Scope) (ix : List (Option Nat)) : Prop :=
  ix.length = N'.length ∧ ∀ i j : Nat, ix[i]? = some (some j) → ∃ x, N'[i]? = some x ∧ X.N[j]? = some x ∧ (X.env.scope.names.lookup x = some .cell ∨ X.env.scope.names.lookup x = some .free) ∧
    ((relabel scope X.env).names.lookup x = some .cell ∨ (relabel scope X.env).names.lookup x = some .free)
theorem blk_ok (I : Inv X pins σ H s) (ck : ClOk X scope cl) (f : ∀ b ∈ fp, FpOk X pins H b) (hlt : ∀ b ∈ fp, b < s.heap.objs.size) : (blk X N' scope cl s.heap.objs.size s H fp).Ok where
  mod := I.ok.mod
  kind := ck.kind
  glob := I.ok.glob
  blt := I.ok.blt
  above := Nat.le_refl _
  inj := fun x y c h1 h2 => I.ok.inj x y c (ck.sub x c h1) (ck.sub y c h2)
  has := fun x h => ck.has x h
  cab := fun x c h => by cases h
  hd := I.ok.hd
  frames := I.ok.frames
  stk := .inl rfl
  exf := fun b hb => ⟨Nat.ne_of_lt (hlt b hb), fun x c h => (f b hb).2.2.2.2.1 x c (ck.sub x c h)⟩
  bs := I.bs
  bsz := Nat.le_trans I.ok.bsz I.sz
  noex := fun b o e hb => by
    rcases (f b hb).2.2.2.1 with z | z
    · exact I.ok.noex b o e z
    · exact absurd (Nat.lt_of_lt_of_le (Heap.lt_size (I.ok.bs b o e).1) z) (Nat.lt_irrefl _)
  exfs := fun b hb hs => by
    rcases List.mem_cons.mp (I.stkSub b hs) with z | z
    · exact (f b hb).2.1 z
    · exact (f b hb).2.2.1 z
  funs := I.stack
  frf := I.stkFree
theorem blk_start (I : Inv X pins σ H s) (ck : ClOk X scope cl) (io : IxOk X N' scope ix) (f : ∀ b ∈ fp, FpOk X pins H b) (hlt : ∀ b ∈ fp, b < s.heap.objs.size) {h' : Heap} {m : Str → Option Value} {t' : Nat}
    (hn : h'.Ns s.heap.objs.size m) (k : ∀ b o, s.heap.get? b = some o → h'.get? b = some o) : Inv (blk X N' scope cl s.heap.objs.size s H fp) [] (blkSt ix σ) H { s with heap := h', toks := t' } := by
  have cl' : ∀ x c, cl.lookup x = some c → ∃ v, s.heap.IsCell c v := fun x c h => I.cell x c (ck.sub x c h)
  refine ⟨blk_ok I ck f hlt, rfl, I.bare, Un.kept k, ⟨m, hn, fun i x v e1 e2 e3 => ?_⟩, fun x c e => ?_, I.hok.fresh (Nat.le_refl _), fun x c e => I.freeC x c (ck.sub x c e), (fun p hp => by cases hp), I.hok.kept k, ?_⟩
  · unfold blkSt at e2
    rw [List.getElem?_map] at e2
    cases hi : ix[i]? with
    | none => rw [hi] at e2; cases e2
    | some o =>
      rw [hi] at e2
      cases o with
      | none => cases Option.some.inj e2
      | some j =>
        have e2' : (σ[j]?).bind id = some v := Option.some.inj e2
        obtain ⟨x', n1, n2, k1, k2⟩ := io.2 i j hi
        have ex : x' = x := Option.some.inj (n1.symm.trans e1)
        subst ex
        have es : σ[j]? = some (some v) := by
          cases q : σ[j]? with
          | none => rw [q] at e2'; cases e2'
          | some w =>
            rw [q] at e2'
            exact congrArg some e2'
        obtain ⟨m0, _, hl⟩ := I.loc
        obtain ⟨u, ru, lo⟩ := hl j x' v n2 es (k1.elim (fun z => .inr (.inl z)) fun z => .inr (.inr z))
        refine ⟨u, ru, .inr ⟨k2, ?_⟩⟩
        obtain ⟨c, hc⟩ := ck.has x' k2
        refine ⟨c, hc, ?_⟩
        rcases lo with ⟨z, _⟩ | ⟨_, c', hc', ic⟩
        · exfalso
          have z' : X.env.scope.names.lookup x' = some .local := z
          rcases k1 with k1 | k1 <;> (rw [z'] at k1; cases k1)
        · have ec : c' = c := Option.some.inj (hc'.symm.trans (ck.sub x' c hc))
          subst ec
          obtain ⟨o, ho, hd⟩ := ic
          exact ⟨o, k _ _ ho, hd⟩
  · obtain ⟨v, o, ho, hd⟩ := cl' x c e
    exact ⟨v, o, k _ _ ho, hd⟩
  · unfold blkSt
    rw [List.length_map]
    exact io.1
/-- behind the block: the frame's own words stand again -/
theorem blk_end (I : Inv X pins σ H s) (f : ∀ b ∈ fp, FpOk X pins H b) {σ' : St} {H' : Hp} {s' : Shared} {pl : List (Addr × Obj)} (J : Inv (blk X N' scope cl s.heap.objs.size s H fp) pl σ' H' s') {h' : Heap} (sb : Heap.SameBut s.heap.objs.size s'.heap h') :
    Inv X pins σ H' { s' with heap := h' } := by
  have nC : ∀ b o, s.heap.get? b = some o → b ≠ s.heap.objs.size := fun b o e => Nat.ne_of_lt (Heap.lt_size e)
  have hC : H' s.heap.objs.size = none := J.free
  have u : Un (frs X.stack) fp H H' s.heap s'.heap := J.base
  refine I.call' (ch := fp) (s' := { s' with heap := h' }) J.os ⟨fun b o e n hb hx => (sb.2 b (nC b o e)).trans (u.keep b o e n hb hx), fun b o e n hb hx => ?_, u.free, fun b o e hx => ?_, u.tups, u.frzs, u.tbls⟩ (fun b o e => ?_) J.bare
    (fun b hb => ⟨(f b hb).2.2.2.1, (f b hb).2.1, (f b hb).2.2.2.2.1, (f b hb).2.2.2.2.2⟩)
  · obtain ⟨sl, q⟩ := u.slot b o e n hb hx
    exact ⟨sl, (sb.2 b (nC b o e)).trans q⟩
  · obtain ⟨o', q⟩ := u.there b o e hx
    exact ⟨o', (sb.2 b (nC b o e)).trans q⟩
  · refine (J.hok b o e).stay (fun c v hc q => (sb.2 c ?_).trans q) (fun c q => q) fun c xs q => q
    rcases hc with rfl | hc
    · exact ne_of_none e hC
    · exact ne_of_none hc hC
end
/-- what the one knows the other one knows too -/
def StKeep : St → St → Prop
  | [], _ => True
  | none :: r, _ :: r' => StKeep r r'
  | none :: r, [] => StKeep r []
  | some v :: r, w :: r' => w = some v ∧ StKeep r r'
  | some _ :: _, [] => False
theorem StKeep.get : ∀ {a b : St}, StKeep a b → ∀ (j : Nat) v, a[j]? = some (some v) → b[j]? = some (some v)
  | [], _, _, _, _, e => by simp at e
  | none :: r, _ :: r', h, 0, v, e => by simp at e
  | none :: r, _ :: r', h, j + 1, v, e => by simpa using StKeep.get (a := r) (b := r') h j v (by simpa using e)
  | none :: r, [], h, 0, v, e => by simp at e
  | none :: r, [], h, j + 1, v, e => by have := StKeep.get (a := r) (b := []) h j v (by simpa using e); simp at this
  | some w :: r, _ :: r', h, 0, v, e => by
    have e' : w = v := by simpa using e
    subst e'
    simpa using h.1
  | some _ :: r, _ :: r', h, j + 1, v, e => by simpa using StKeep.get (a := r) (b := r') h.2 j v (by simpa using e)
section
variable {X : Cx}
/-- [elt for tg in iter]: D the list that grows -/
def tComp (ix : List (Option Nat)) (wi : TI) (g : TG) (te : TE) : TE := fun σ H Q => wi σ H fun J H1 => ∀ D, H1 D = none → ∃ W : Nat → Nat → Hp → Prop, (∃ m, W 0 m (upd H1 D (.lst []))) ∧ ∀ i m H2, W i m H2 →
  (J.stop i H2 ∧ Q (.ref D) H2) ∨ (J.go i H2 ∧ ∃ N : VK, (∀ y H5, N y H5 → ∃ xs, H5 D = some (.lst xs) ∧ xs.length < sizeLine ∧ ∃ m', m' < m ∧ W (i + 1) m' (upd H5 D (.lst (xs ++ [y])))) ∧ ∀ x H3, J.yld i H2 x H3 → g x (blkSt ix σ) H3 fun σ4 H4 => StKeep (blkSt ix σ) σ4 ∧ te σ4 H4 N)
end
end L2

/-! MY RULES: a method by the object's own class; data (ints, texts, tuples, lists within one another) and their ==; texts; comprehensions over lists and tuples. -/
namespace L2
open PySem PySem.Spec PyProof.Rows
/-! ### o.m(..), the class and the method found where the object stands -/
section
variable {X : Cx} {m : Str} {pos apos : Pos} {e o : Expr} {es : List Expr} {ta : TE} {t : TA}
def tMethD (X : Cx) (m : Str) (ta : TE) (t : TA) : TE := fun σ H Q => ta σ H fun x H1 => ∃ (a C dx : Addr) (fs : List (Str × V)) (k : Nat) (f : Addr) (fd : FuncData) (ps : List Str) (sp : Sp), x = .ref a ∧ H1 a = some (.ins C dx fs) ∧ Cls X.K C ∧ Meth X.K C m f ∧ fs.lookup m = none ∧
  FnOk X.prog X.w X.K X.mg X.base CX0 k f fd ps sp ∧ Room k X.A ∧ Binds X.K fd ps [] ∧ t σ H1 fun vs H2 => sp (x :: vs) H2 Q E0
theorem pe_methD0 {pl : Sem Bool} (he : PE X o ta)
    (ht : eval (.Call (.Attribute o m apos) [] [] pos) X.env = (do
      let ov ← eval o X.env
      standAt apos.atName
      let (f, first) ← holding [ov] (getMethod ov m pl)
      callWith pos f first (backTo pos (starEach [] X.env)) (backToKw pos (keywordEach [] X.env))) := by rfl) :
    PE X (.Call (.Attribute o m apos) [] [] pos) (tMethD X m ta tNil) := by
  intro pins s σ H Q I h
  refine PySem.W.methodCall_KW (pl := pl) (thn (he pins s σ H _ I h) ?_) ht
  rintro u s1 ⟨x, H1, I1, rx, a, C, dx, fs, k, f, fd, ps, sp, ex, ea, c, hm, l, F, hr, hb, q⟩
  subst ex
  obtain rfl : u = Value.ref a := rx
  refine getmeth_ok I1 ea c hm l ?_
  exact PySem.W.callWith_K0 (first := [.ref a]) I1.kIn hm.kp (run_fn (us := [.ref a]) (vs := [.ref a]) (dvs := []) F hr hb .nil pass0 I1 (.cons rfl .nil) q)
end
/-! ### data -/
mutual
inductive Rep (H : Hp) : V → PyData → Prop
  | non : Rep H .non .none
  | bl (b : Bool) : Rep H (.bl b) (.bool b)
  | int (i : Int) : Rep H (.int i) (.int i)
  | str (x : Str) : Rep H (.str x) (.str x)
  | lst {p : Addr} {xs : List V} {ds : List PyData} : H p = some (.lst xs) → Reps H xs ds → Rep H (.ref p) (.list ds)
  | tup {p : Addr} {xs : List V} {ds : List PyData} : H p = some (.tup xs) → Reps H xs ds → Rep H (.ref p) (.tuple ds)
inductive Reps (H : Hp) : List V → List PyData → Prop
  | nil : Reps H [] []
  | cons {v : V} {vs : List V} {d : PyData} {ds : List PyData} : Rep H v d → Reps H vs ds → Reps H (v :: vs) (d :: ds)
end
mutual
theorem Rep.imp {H H' : Hp} (f : ∀ p o, H p = some o → H' p = some o) : ∀ {v : V} {d : PyData}, Rep H v d → Rep H' v d
  | _, _, .non => .non
  | _, _, .bl b => .bl b
  | _, _, .int i => .int i
  | _, _, .str x => .str x
  | _, _, .lst e r => .lst (f _ _ e) (Reps.imp f r)
  | _, _, .tup e r => .tup (f _ _ e) (Reps.imp f r)
theorem Reps.imp {H H' : Hp} (f : ∀ p o, H p = some o → H' p = some o) : ∀ {vs : List V} {ds : List PyData}, Reps H vs ds → Reps H' vs ds
  | _, _, .nil => .nil
  | _, _, .cons a r => .cons (Rep.imp f a) (Reps.imp f r)
end
theorem Rep.same {H H' : Hp} {v : V} {d : PyData} (h : Rep H v d) (s : Same H H') : Rep H' v d := h.imp s
theorem Reps.same {H H' : Hp} {v : List V} {d : List PyData} (h : Reps H v d) (s : Same H H') : Reps H' v d := h.imp s
theorem Reps.len {H : Hp} : ∀ {vs : List V} {ds : List PyData}, Reps H vs ds → vs.length = ds.length
  | _, _, .nil => rfl
  | _, _, .cons _ r => by rw [List.length_cons, List.length_cons, Reps.len r]
theorem Reps.snoc {H : Hp} {v : V} {d : PyData} (a : Rep H v d) : ∀ {vs : List V} {ds : List PyData}, Reps H vs ds → Reps H (vs ++ [v]) (ds ++ [d])
  | _, _, .nil => .cons a .nil
  | _, _, .cons b r => .cons b (Reps.snoc a r)
theorem Reps.strs {H : Hp} : ∀ xs : List Str, Reps H (xs.map V.str) (xs.map PyData.str)
  | [] => .nil
  | x :: r => .cons (.str x) (Reps.strs r)
section
variable {X : Cx} {pins : List (Addr × Obj)} {σ : St} {H : Hp} {s : Shared}
end
section
variable {X : Cx}
/-! ### texts -/
/-- s[lo:hi] -/
def rSlS : V → Option Int → Option Int → Hp → VK → Prop := fun x lo hi H Q => ∃ z, x = .str z ∧ z.length ≤ sizeLine ∧ Q (.str (Txt.slice z lo hi)) H
theorem sl_str : SlR X rSlS := by
  intro pins s σ H x v vl vu lo hi sl Q I rx hs pl pu h
  obtain ⟨z, rfl, hz, q⟩ := h
  obtain ⟨t, rfl⟩ := (show ∃ t, v = Value.str z t from rx)
  refine ⟨"str", _, F.slot_str_getitem.lookup, typeIs_str _ _ _, ?_⟩
  obtain ⟨ob, ho, hc, hd⟩ := hs
  have fin : ∀ t' k, EP X pins σ Q (.str (Txt.slice z lo hi) t') { s with toks := k } := fun t' k => ⟨.str (Txt.slice z lo hi), H, I.tok k, ⟨t', rfl⟩, q⟩
  cases pl with
  | none =>
    cases pu with
    | none => exact wpAny_getItem_str_slice (l := none) (u := none) (st := none) ⟨ob, ho, hc, hd⟩ rfl (post_val_or_str ⟨Nat.le_trans (Txt.slice_le z _ _) hz, fin⟩)
    | int j uj => exact wpAny_getItem_str_slice (l := none) (u := some (j, uj)) (st := none) ⟨ob, ho, hc, hd⟩ rfl (post_val_or_str ⟨Nat.le_trans (Txt.slice_le z _ _) hz, fin⟩)
  | int i ui =>
    cases pu with
    | none => exact wpAny_getItem_str_slice (l := some (i, ui)) (u := none) (st := none) ⟨ob, ho, hc, hd⟩ rfl (post_val_or_str ⟨Nat.le_trans (Txt.slice_le z _ _) hz, fin⟩)
    | int j uj => exact wpAny_getItem_str_slice (l := some (i, ui)) (u := some (j, uj)) (st := none) ⟨ob, ho, hc, hd⟩ rfl (post_val_or_str ⟨Nat.le_trans (Txt.slice_le z _ _) hz, fin⟩)
/-- s.join(xs), xs a list of texts -/
def rJoin (K : PySem.W.Frag) : V → List V → Hp → VK → Prop := fun x vs H Q => ∃ (z : Str) (p : Addr) (ys : List Str), x = .str z ∧ vs = [.ref p] ∧ SqL K H p (ys.map V.str) ∧ (ys.map (·.length)).sum + ys.length * z.length ≤ 16777216 ∧ Q (.str (Txt.join z ys)) H
theorem strsAre_of {ys : List Str} : ∀ {us : List Value}, Vals (ys.map V.str) us → StrsAre us ys := by
  induction ys with
  | nil => intro us r; cases r; exact .nil
  | cons y r ih =>
    intro us q
    cases q with
    | cons q1 q2 =>
      obtain ⟨t, rfl⟩ := q1
      exact .cons _ _ (ih q2)
theorem mt_join : MtR X "str.join" (rJoin X.K) := by
  intro pins s σ H x xs v us Q I rx rv h
  obtain ⟨z, p, ys, rfl, rfl, hq, hz, q⟩ := h
  obtain ⟨t, rfl⟩ := (show ∃ t, v = Value.str z t from rx)
  obtain ⟨u, rfl, ru⟩ := vals1 rv
  cases ru
  obtain ⟨its, rv, p1, _⟩ := I.list hq
  exact join_list p1.isList (strsAre_of rv) hz fun t' k => ⟨.str (Txt.join z ys), H, I.tok k, ⟨t', rfl⟩, q⟩
end
/-! ### comprehensions -/
theorem clok_none {X : Cx} {scope : Scope} (hk : scope.kind = .function) (hn : ∀ y ∈ scope.names, y.2 ≠ .free ∧ y.2 ≠ .cell) (hl : ∀ y ∈ scope.names, y.2 = .local → scope.names.lookup y.1 = some .local) : ClOk X scope [] where
  eq := closureFor_none fun y hy => (hn y hy).1
  sub := fun x c h => by cases h
  has := fun x h => by
    exfalso
    have e : (relabel scope X.env).names = scope.names := map_eq_self fun y hy => by
      obtain ⟨n, k⟩ := y
      have z := (hn _ hy).1
      have z' : (k == NameKind.free) = false := by simpa using z
      simp [z']
    rw [e] at h
    have mem : ∀ {k : NameKind}, scope.names.lookup x = some k → (x, k) ∈ scope.names := fun {k} q => by
      generalize scope.names = l at q
      induction l with
      | nil => cases q
      | cons a r ih =>
        obtain ⟨n, k'⟩ := a
        rw [List.lookup_cons] at q
        split at q
        · rename_i hb
          have hb' : x = n := by simpa using hb
          cases q
          subst hb'
          exact .head _
        · exact .tail _ (ih q)
    rcases h with h | h
    · exact (hn _ (mem h)).2 rfl
    · exact (hn _ (mem h)).1 rfl
  kind := hk
  ncell := fun y hy => (hn y hy).2
  names := hl
theorem ixok_none {X : Cx} {N' : List Str} {scope : Scope} {n : Nat} (h : n = N'.length) : IxOk X N' scope (List.replicate n none) := ⟨by rw [List.length_replicate]; exact h, fun i j e => by
  rw [List.getElem?_replicate] at e
  split at e <;> cases e⟩
section
variable {K : PySem.W.Frag} {a D : Addr} {xs : List V} {g : TG} {te : TE} {Q : VK} {σ₀ : St} {H : Hp}
theorem comp_list (Pv : Nat → List V → Hp → Prop) (h0 : Pv 0 [] (upd H D (.lst []))) (hl : ∀ i ys H, Pv i ys H → SqL K H a xs)
    (hs : ∀ i x ys H, xs[i]? = some x → Pv i ys H → g x σ₀ H fun σ4 H4 => StKeep σ₀ σ4 ∧ te σ4 H4 fun y H5 => H5 D = some (.lst ys) ∧ ys.length < sizeLine ∧ Pv (i + 1) (ys ++ [y]) (upd H5 D (.lst (ys ++ [y])))) (hd : ∀ ys H, Pv xs.length ys H → Q (.ref D) H) :
    ∃ W : Nat → Nat → Hp → Prop, (∃ m, W 0 m (upd H D (.lst []))) ∧ ∀ i m H2, W i m H2 →
      ((Itl K a).stop i H2 ∧ Q (.ref D) H2) ∨ ((Itl K a).go i H2 ∧ ∃ N : VK, (∀ y H5, N y H5 → ∃ xs, H5 D = some (.lst xs) ∧ xs.length < sizeLine ∧ ∃ m', m' < m ∧ W (i + 1) m' (upd H5 D (.lst (xs ++ [y])))) ∧
        ∀ x H3, (Itl K a).yld i H2 x H3 → g x σ₀ H3 fun σ4 H4 => StKeep σ₀ σ4 ∧ te σ4 H4 N) := by
  refine ⟨fun i m H => m = xs.length - i ∧ i ≤ xs.length ∧ ∃ ys, Pv i ys H, ⟨xs.length, by simp, Nat.zero_le _, [], h0⟩, ?_⟩
  rintro i m H2 ⟨rfl, hi, ys, p⟩
  have q := hl i ys H2 p
  by_cases hlt : i < xs.length
  · refine .inr ⟨⟨xs, xs[i], q, by simp [hlt]⟩, fun y H5 => H5 D = some (.lst ys) ∧ ys.length < sizeLine ∧ Pv (i + 1) (ys ++ [y]) (upd H5 D (.lst (ys ++ [y]))), fun y H5 n => ⟨ys, n.1, n.2.1, xs.length - (i + 1), by omega, rfl, hlt, _, n.2.2⟩, fun x H3 z => ?_⟩
    obtain ⟨e, z⟩ := z
    subst e
    exact hs i x ys _ (z xs q) p
  · have e : i = xs.length := by omega
    subst e
    exact .inl ⟨⟨xs, q, Nat.le_refl _⟩, hd ys H2 p⟩
theorem comp_tup (Pv : Nat → List V → Hp → Prop) (h0 : Pv 0 [] (upd H D (.lst []))) (hl : ∀ i ys H, Pv i ys H → SqT K H a xs)
    (hs : ∀ i x ys H, xs[i]? = some x → Pv i ys H → g x σ₀ H fun σ4 H4 => StKeep σ₀ σ4 ∧ te σ4 H4 fun y H5 => H5 D = some (.lst ys) ∧ ys.length < sizeLine ∧ Pv (i + 1) (ys ++ [y]) (upd H5 D (.lst (ys ++ [y])))) (hd : ∀ ys H, Pv xs.length ys H → Q (.ref D) H) :
    ∃ W : Nat → Nat → Hp → Prop, (∃ m, W 0 m (upd H D (.lst []))) ∧ ∀ i m H2, W i m H2 →
      ((Itt K a).stop i H2 ∧ Q (.ref D) H2) ∨ ((Itt K a).go i H2 ∧ ∃ N : VK, (∀ y H5, N y H5 → ∃ xs, H5 D = some (.lst xs) ∧ xs.length < sizeLine ∧ ∃ m', m' < m ∧ W (i + 1) m' (upd H5 D (.lst (xs ++ [y])))) ∧
        ∀ x H3, (Itt K a).yld i H2 x H3 → g x σ₀ H3 fun σ4 H4 => StKeep σ₀ σ4 ∧ te σ4 H4 N) := by
  refine ⟨fun i m H => m = xs.length - i ∧ i ≤ xs.length ∧ ∃ ys, Pv i ys H, ⟨xs.length, by simp, Nat.zero_le _, [], h0⟩, ?_⟩
  rintro i m H2 ⟨rfl, hi, ys, p⟩
  have q := hl i ys H2 p
  by_cases hlt : i < xs.length
  · refine .inr ⟨⟨xs, xs[i], q, by simp [hlt]⟩, fun y H5 => H5 D = some (.lst ys) ∧ ys.length < sizeLine ∧ Pv (i + 1) (ys ++ [y]) (upd H5 D (.lst (ys ++ [y]))), fun y H5 n => ⟨ys, n.1, n.2.1, xs.length - (i + 1), by omega, rfl, hlt, _, n.2.2⟩, fun x H3 z => ?_⟩
    obtain ⟨e, z⟩ := z
    subst e
    exact hs i x ys _ (z xs q) p
  · have e : i = xs.length := by omega
    subst e
    exact .inl ⟨⟨xs, q, Nat.le_refl _⟩, hd ys H2 p⟩
end
end L2

/-! MY RULES: f-strings of texts and ints. -/
namespace L2
open PySem PySem.Spec PyProof.Rows
abbrev TJ := St → Hp → Str → (Str → Hp → Prop) → Prop
def PJ (X : Cx) (es : List Expr) (t : TJ) : Prop :=
  ∀ (pins : List (Addr × Obj)) (s : Shared) (σ : St) (H : Hp) (out : Str) (Q : Str → Hp → Prop), Inv X pins σ H s → t σ H out Q → wpAny (model X.prog X.w) X.A (joinParts out (evalEach es X.env)) (EP X pins σ fun v H' => ∃ z, v = .str z ∧ Q z H') X.xe s
/-- what a value's plain format is -/
def FmtV (x : V) (y : Str) : Prop := (x = .str y ∧ y.length ≤ sizeLine) ∨ ∃ i : Int, x = .int i ∧ i.natAbs.log2 < 1920 ∧ y = (toString i : Str)
def tJnil : TJ := fun _ H out Q => out.length ≤ sizeLine ∧ Q out H
def tJcons (te : TE) (tr : TJ) : TJ := fun σ H out Q => te σ H fun x H1 => ∃ y, FmtV x y ∧ (out ++ y).length ≤ sizeLine ∧ tr σ H1 (out ++ y) Q
def tJlit (x : Str) (tr : TJ) : TJ := fun σ H out Q => (out ++ x).length ≤ sizeLine ∧ tr σ H (out ++ x) Q
section
variable {X : Cx} {e : Expr} {es : List Expr} {te : TE} {tr : TJ} {pos p2 : Pos}
theorem pj_nil : PJ X [] tJnil := fun pins s σ H out Q I h => joinParts_nil ⟨.str out, H, I.tok _, ⟨_, rfl⟩, out, rfl, h.2⟩ h.1
theorem pj_fmt (he : PE X e te) (hr : PJ X es tr) (hs : evalEach (.FormattedValue e (-1) none pos :: es) X.env = eval (.FormattedValue e (-1) none pos) X.env :: evalEach es X.env := by rfl) : PJ X (.FormattedValue e (-1) none pos :: es) (tJcons te tr) := by
  intro pins s σ H out Q I h
  rw [hs]
  refine joinParts_cons (FormattedValue_plain (thn (he pins s σ H _ I h) ?_))
  rintro v s1 ⟨x, H1, I1, rx, y, f, hz, q⟩
  rcases f with ⟨rfl, hy⟩ | ⟨i, rfl, hi, rfl⟩
  · obtain ⟨t, rfl⟩ := (show ∃ t, v = Value.str y t from rx)
    exact formatField_str (fun t' tk => ⟨hz, hr pins _ σ H1 _ Q (I1.tok tk) q⟩) hy
  · obtain ⟨t, rfl⟩ := (show ∃ t, v = Value.int i t from rx)
    exact formatField_int_small hi ⟨hz, hr pins _ σ H1 _ Q (I1.tok _) q⟩
theorem pj_lit {x : Str} {j : Nat} (hr : PJ X es tr) (hs : evalEach (.Constant (.str x) j pos :: es) X.env = eval (.Constant (.str x) j pos) X.env :: evalEach es X.env := by rfl) : PJ X (.Constant (.str x) j pos :: es) (tJlit x tr) := by
  intro pins s σ H out Q I h
  rw [hs]
  refine joinParts_cons (thn (pe_str pins s σ H (fun v H' => v = .str x ∧ H' = H) I ⟨rfl, rfl⟩) ?_)
  rintro v s1 ⟨y, H1, I1, rx, ey, eH⟩
  subst ey eH
  obtain ⟨t, rfl⟩ := (show ∃ t, v = Value.str x t from rx)
  exact ⟨h.1, hr pins s1 σ H1 _ Q I1 h.2⟩
def tJoin (tj : TJ) : TE := fun σ H Q => tj σ H Str.empty fun z H' => Q (.str z) H'
theorem pe_fstr {a b : Expr} {tj : TJ} (h : PJ X (a :: b :: es) tj) (hs : evalEach (a :: b :: es) X.env = eval a X.env :: eval b X.env :: evalEach es X.env := by rfl) : PE X (.JoinedStr (a :: b :: es) pos) (tJoin tj) := by
  intro pins s σ H Q I hq
  refine JoinedStr_many ?_
  rw [← hs]
  exact thn (h pins s σ H _ _ I hq) (by rintro u s1 ⟨v, H1, I1, rv, z, ez, q⟩; subst ez; exact ⟨.str z, H1, I1, rv, q⟩)
end
end L2

/-! MY RULES: a part of the heap; data in a part; lookups of attributes; what is walked may be a list or a tuple. -/
set_option linter.all false
namespace L2
open PySem PySem.Spec PyProof.Rows
/-! ### heaps -/
theorem same_fresh {H H' : Hp} {l : Addr} {o : HO} (s : Same H H') (hl : H l = none) : Same H (upd H' l o) := fun b u e => by
  rw [upd_ne (ne_of_none e hl)]
  exact s b u e
theorem same_new {H : Hp} {l : Addr} {o : HO} (hl : H l = none) : Same H (upd H l o) := same_fresh (Same.refl H) hl
theorem same_made {H : Hp} {x dx : Addr} {o u v : HO} (hx : H x = none) (hd : H dx = none) : Same H (upd (upd (upd H dx o) x u) x v) := same_fresh (same_fresh (same_new hd) hx) hx
theorem line_le {n : Nat} (h : n ≤ 1000000) : n ≤ sizeLine := by rw [sizeLine_eq]; omega
theorem line_lt {n : Nat} (h : n ≤ 1000000) : n < sizeLine := by rw [sizeLine_eq]; omega
theorem Paired.snoc {α β : Type} {F : α → β → Prop} {a : α} {b : β} (h : F a b) : ∀ {xs : List α} {ys : List β}, Paired F xs ys → Paired F (xs ++ [a]) (ys ++ [b])
  | _, _, .nil => .cons h .nil
  | _, _, .cons r t => .cons r (Paired.snoc h t)
/-- the part of the heap that S says -/
noncomputable def restr (S : Addr → Prop) (H : Hp) : Hp := fun a => @ite _ (S a) (Classical.propDecidable _) (H a) none
theorem restr_in {S : Addr → Prop} {H : Hp} {a : Addr} (h : S a) : restr S H a = H a := by unfold restr; rw [if_pos h]
theorem restr_out {S : Addr → Prop} {H : Hp} {a : Addr} (h : ¬ S a) : restr S H a = none := by unfold restr; rw [if_neg h]
theorem restr_some {S : Addr → Prop} {H : Hp} {a : Addr} {o : HO} (h : restr S H a = some o) : S a ∧ H a = some o := by
  by_cases hs : S a
  · rw [restr_in hs] at h; exact ⟨hs, h⟩
  · rw [restr_out hs] at h; cases h
theorem restr_mk {S : Addr → Prop} {H : Hp} {a : Addr} {o : HO} (hs : S a) (h : H a = some o) : restr S H a = some o := by rw [restr_in hs]; exact h
theorem restr_sub {S : Addr → Prop} {H : Hp} : Same (restr S H) H := fun _ _ e => (restr_some e).2
theorem restr_same {S : Addr → Prop} {H H' : Hp} (s : Same H H') : Same (restr S H) (restr S H') := fun b o e => restr_mk (restr_some e).1 (s _ _ (restr_some e).2)
theorem restr_imp {S S' : Addr → Prop} {H H' : Hp} (s : Same H H') (h : ∀ a o, H a = some o → S a → S' a) : Same (restr S H) (restr S' H') := fun b o e => restr_mk (h _ _ (restr_some e).2 (restr_some e).1) (s _ _ (restr_some e).2)
theorem restr_upd {S : Addr → Prop} {H H' : Hp} {l : Addr} {o : HO} (s : Same (restr S H) (restr S H')) (h : ¬ S l) : Same (restr S H) (restr S (upd H' l o)) := fun b u e => by
  have q := restr_some (s _ _ e)
  have hne : b ≠ l := fun z => h (by rw [← z]; exact q.1)
  exact restr_mk q.1 (by rw [upd_ne hne]; exact q.2)
/-! ### data -/
mutual
theorem Rep.imp2 {H H' : Hp} (f : ∀ p xs, H p = some (.lst xs) → H' p = some (.lst xs)) (g : ∀ p xs, H p = some (.tup xs) → H' p = some (.tup xs)) : ∀ {v : V} {d : PyData}, Rep H v d → Rep H' v d
  | _, _, .non => .non
  | _, _, .bl b => .bl b
  | _, _, .int i => .int i
  | _, _, .str x => .str x
  | _, _, .lst e r => .lst (f _ _ e) (Reps.imp2 f g r)
  | _, _, .tup e r => .tup (g _ _ e) (Reps.imp2 f g r)
theorem Reps.imp2 {H H' : Hp} (f : ∀ p xs, H p = some (.lst xs) → H' p = some (.lst xs)) (g : ∀ p xs, H p = some (.tup xs) → H' p = some (.tup xs)) : ∀ {vs : List V} {ds : List PyData}, Reps H vs ds → Reps H' vs ds
  | _, _, .nil => .nil
  | _, _, .cons a r => .cons (Rep.imp2 f g a) (Reps.imp2 f g r)
end
/-- an instance is changed: no matter to data -/
theorem Rep.ins {H : Hp} {v : V} {d : PyData} {p C dx : Addr} {fs : List (Str × V)} {o : HO} (h : Rep H v d) (e : H p = some (.ins C dx fs)) : Rep (upd H p o) v d :=
  h.imp2 (fun q xs z => by rw [upd_ne (ne_of z e (by intro w; cases w))]; exact z) (fun q xs z => by rw [upd_ne (ne_of z e (by intro w; cases w))]; exact z)
section
variable {G : Hp} {v : V} {vs : List V} {d : PyData} {ds : List PyData}
theorem rep_tup (h : Rep G v (.tuple ds)) : ∃ p xs, v = .ref p ∧ G p = some (.tup xs) ∧ Reps G xs ds := by
  cases h with
  | tup e r => exact ⟨_, _, rfl, e, r⟩
theorem rep_lst (h : Rep G v (.list ds)) : ∃ p xs, v = .ref p ∧ G p = some (.lst xs) ∧ Reps G xs ds := by
  cases h with
  | lst e r => exact ⟨_, _, rfl, e, r⟩
theorem rep_str {x : Str} (h : Rep G v (.str x)) : v = .str x := by cases h; rfl
theorem rep_int {x : Int} (h : Rep G v (.int x)) : v = .int x := by cases h; rfl
theorem reps_cons (h : Reps G vs (d :: ds)) : ∃ u r, vs = u :: r ∧ Rep G u d ∧ Reps G r ds := by
  cases h with
  | cons a r => exact ⟨_, _, rfl, a, r⟩
theorem reps_nil (h : Reps G vs []) : vs = [] := by cases h; rfl
end
mutual
def cnt : PyData → Nat
  | .none => 1
  | .bool _ => 1
  | .int _ => 1
  | .str _ => 1
  | .list xs => cntAll xs + 1
  | .tuple xs => cntAll xs + 1
  | .dict _ => 1
def cntAll : List PyData → Nat
  | [] => 0
  | x :: xs => cnt x + cntAll xs
end
theorem cnt_pos (d : PyData) : 1 ≤ cnt d := by cases d <;> simp [cnt]
theorem cnt_len : ∀ ds : List PyData, ds.length ≤ cntAll ds
  | [] => by simp [cntAll]
  | d :: r => by
    have := cnt_len r
    have := cnt_pos d
    simp only [cntAll, List.length_cons]
    omega
theorem cnt_at : ∀ {ds : List PyData} {i : Nat} {d : PyData}, ds[i]? = some d → cnt d ≤ cntAll ds ∧ PyData.depth d ≤ PyData.depthAll ds
  | [], _, _, e => by simp at e
  | d :: r, 0, _, e => by
    simp at e; subst e
    simp only [cntAll, PyData.depthAll]
    omega
  | x :: r, i + 1, d, e => by
    have := cnt_at (ds := r) (i := i) (d := d) (by simpa using e)
    simp only [cntAll, PyData.depthAll]
    omega
theorem Reps.get2 {H : Hp} : ∀ {vs : List V} {ds : List PyData} {i : Nat} {v : V}, Reps H vs ds → vs[i]? = some v → ∃ d, ds[i]? = some d ∧ Rep H v d
  | _, _, _, _, .nil, e => by simp at e
  | _, _, 0, _, .cons a _, e => by simp at e; subst e; exact ⟨_, rfl, a⟩
  | _, _, i + 1, v, .cons _ r, e => by
    obtain ⟨d, h1, h2⟩ := Reps.get2 (i := i) (v := v) r (by simpa using e)
    exact ⟨d, by simpa using h1, h2⟩
/-! ### attributes -/
theorem lk0 {k : Str} {v : V} {r : List (Str × V)} : List.lookup k ((k, v) :: r) = some v := by simp [List.lookup_cons]
theorem lk1 {k j : Str} {v : V} {r : List (Str × V)} {o : Option V} (h : (k == j) = false) (e : List.lookup k r = o) : List.lookup k ((j, v) :: r) = o := by
  rw [List.lookup_cons, h]
  exact e
theorem putF_nil {f : Str} {v : V} : putF f v [] = [(f, v)] := rfl
theorem putF_ne {f g : Str} {v x : V} {r : List (Str × V)} (h : ¬ g = f) : putF f v ((g, x) :: r) = (g, x) :: putF f v r := by rw [putF, if_neg h]
/-! ### a test that is known -/
theorem iteNo {c A B : Prop} [Decidable c] (hc : ¬ c) (h : B) : if decide c = true then A else B := by
  rw [decide_eq_false hc]
  exact iteF h
theorem iteYes {c A B : Prop} [Decidable c] (hc : c) (h : A) : if decide c = true then A else B := by
  rw [decide_eq_true hc]
  exact iteT h
theorem iteD {c A B : Prop} [Decidable c] (h1 : c → A) (h2 : ¬ c → B) : if decide c = true then A else B :=
  ite2 (fun h => h1 (of_decide_eq_true h)) (fun h => h2 fun hc => h (decide_eq_true hc))
theorem iteND {c A B : Prop} [Decidable c] (h1 : ¬ c → A) (h2 : c → B) : if (!decide c) = true then A else B :=
  ite2 (fun h => h1 fun hc => by rw [decide_eq_true hc] at h; cases h) (fun h => h2 (by
    by_cases hc : c
    · exact hc
    · rw [decide_eq_false hc] at h; exact absurd rfl h))
/-! ### a list or a tuple is walked -/
section
variable {X : Cx}
theorem pi_seq {tg l : Expr} {tl : TE} (hl : PE X l tl) : PI X tg l (fun σ H R => iList X.K tl σ H R ∨ iTup X.K tl σ H R) := fun pins s σ H R I h => h.elim (pi_list hl pins s σ H R I) (pi_tup hl pins s σ H R I)
end
/-! ### atI -/
theorem atI_ok {α : Type} {xs : List α} {i : Int} (h0 : 0 ≤ i) (h1 : i < xs.length) : ∃ v, xs[i.toNat]? = some v ∧ atI xs i = some v := by
  obtain ⟨n, rfl⟩ := Int.eq_ofNat_of_zero_le h0
  have hn : n < xs.length := by omega
  exact ⟨xs[n], by simp [hn], atI_nat (by simp [hn])⟩
theorem at_mapV {α : Type} {f : α → V} {xs : List α} {i : Int} (h0 : 0 ≤ i) (h1 : i < xs.length) : ∃ x, xs[i.toNat]? = some x ∧ atI (xs.map f) i = some (f x) := by
  obtain ⟨n, rfl⟩ := Int.eq_ofNat_of_zero_le h0
  have hn : n < xs.length := by omega
  exact ⟨xs[n], by simp [hn], atI_nat (by simp [hn])⟩
/-! ### comprehensions: the end is said of the heap alone -/
section
variable {K : PySem.W.Frag} {a D : Addr} {xs : List V} {g : TG} {te : TE} {QD : Hp → Prop} {σ₀ : St} {H : Hp}
theorem comp_listQ (Pv : Nat → List V → Hp → Prop) (h0 : Pv 0 [] (upd H D (.lst []))) (hl : ∀ i ys H, Pv i ys H → SqL K H a xs)
    (hs : ∀ i x ys H, xs[i]? = some x → Pv i ys H → g x σ₀ H fun σ4 H4 => StKeep σ₀ σ4 ∧ te σ4 H4 fun y H5 => H5 D = some (.lst ys) ∧ ys.length < sizeLine ∧ Pv (i + 1) (ys ++ [y]) (upd H5 D (.lst (ys ++ [y])))) (hd : ∀ ys H, Pv xs.length ys H → QD H) :
    ∃ W : Nat → Nat → Hp → Prop, (∃ m, W 0 m (upd H D (.lst []))) ∧ ∀ i m H2, W i m H2 →
      ((Itl K a).stop i H2 ∧ QD H2) ∨ ((Itl K a).go i H2 ∧ ∃ N : VK, (∀ y H5, N y H5 → ∃ xs, H5 D = some (.lst xs) ∧ xs.length < sizeLine ∧ ∃ m', m' < m ∧ W (i + 1) m' (upd H5 D (.lst (xs ++ [y])))) ∧
        ∀ x H3, (Itl K a).yld i H2 x H3 → g x σ₀ H3 fun σ4 H4 => StKeep σ₀ σ4 ∧ te σ4 H4 N) := comp_list (Q := fun _ H => QD H) Pv h0 hl hs hd
theorem comp_tupQ (Pv : Nat → List V → Hp → Prop) (h0 : Pv 0 [] (upd H D (.lst []))) (hl : ∀ i ys H, Pv i ys H → SqT K H a xs)
    (hs : ∀ i x ys H, xs[i]? = some x → Pv i ys H → g x σ₀ H fun σ4 H4 => StKeep σ₀ σ4 ∧ te σ4 H4 fun y H5 => H5 D = some (.lst ys) ∧ ys.length < sizeLine ∧ Pv (i + 1) (ys ++ [y]) (upd H5 D (.lst (ys ++ [y])))) (hd : ∀ ys H, Pv xs.length ys H → QD H) :
    ∃ W : Nat → Nat → Hp → Prop, (∃ m, W 0 m (upd H D (.lst []))) ∧ ∀ i m H2, W i m H2 →
      ((Itt K a).stop i H2 ∧ QD H2) ∨ ((Itt K a).go i H2 ∧ ∃ N : VK, (∀ y H5, N y H5 → ∃ xs, H5 D = some (.lst xs) ∧ xs.length < sizeLine ∧ ∃ m', m' < m ∧ W (i + 1) m' (upd H5 D (.lst (xs ++ [y])))) ∧
        ∀ x H3, (Itt K a).yld i H2 x H3 → g x σ₀ H3 fun σ4 H4 => StKeep σ₀ σ4 ∧ te σ4 H4 N) := comp_tup (Q := fun _ H => QD H) Pv h0 hl hs hd
end
/-! ### isinstance of an own class -/
end L2

/-! MY RULES: a list comprehension with one test. -/
set_option linter.all false
namespace L2
open PySem PySem.Spec PyProof.Rows
section
variable {X : Cx}
/-- the tests of a comprehension -/
def PTs (X : Cx) (cs : List Expr) (t : TT) : Prop :=
  ∀ (pins : List (Addr × Obj)) (s : Shared) (σ : St) (H : Hp) (Q : Bool → Hp → Prop), Inv X pins σ H s → t σ H Q → wpAny (model X.prog X.w) X.A (forIn cs true fun c r => if r = true then do let ok ← isTrue c X.env (eval c X.env); pure (ForInStep.yield ok) else pure (ForInStep.yield r)) (TP X pins σ Q) X.xe s
theorem pe_comps {elt iter tg : Expr} {cs : List Expr} {scope : Scope} {pos : Pos} {N' : List Str} {ix : List (Option Nat)} {cl : List (Str × Addr)} {wi : TI} {g : TG} {tc : TT} {te : TE} (hc : X.calm = true) (ck : ClOk X scope cl) (io : IxOk X N' scope ix) (hi : PI X tg iter wi)
    (hg : ∀ C s₀ H₀ fp, PG (blk X N' scope cl C s₀ H₀ fp) tg g) (ht : ∀ C s₀ H₀ fp, PTs (blk X N' scope cl C s₀ H₀ fp) cs tc) (he : ∀ C s₀ H₀ fp, PE (blk X N' scope cl C s₀ H₀ fp) elt te) (R : VK → St → It → Hp → Prop) (hR : ∀ Q σ J H1, R Q σ J H1 → ∀ D, H1 D = none → ∃ W : Nat → Nat → Hp → Prop, (∃ m, W 0 m (upd H1 D (.lst []))) ∧ ∀ i m H2, W i m H2 →
  (J.stop i H2 ∧ Q (.ref D) H2) ∨ (J.go i H2 ∧ ∃ (N : VK) (M : Hp → Prop), (∀ y H5, N y H5 → ∃ xs, H5 D = some (.lst xs) ∧ xs.length < sizeLine ∧ ∃ m', m' < m ∧ W (i + 1) m' (upd H5 D (.lst (xs ++ [y])))) ∧ (∀ H5, M H5 → ∃ m', m' < m ∧ W (i + 1) m' H5) ∧ ∀ x H3, J.yld i H2 x H3 → g x (blkSt ix σ) H3 fun σ4 H4 => StKeep (blkSt ix σ) σ4 ∧ tc σ4 H4 fun b H5 => if b = true then te σ4 H5 N else M H5)) (hs : ∀ x, foldedSetIterable iter X.env x = pure x := by intro _; rfl) :
    PE X (.ListComp elt [⟨tg, iter, cs, 0⟩] scope pos) (fun σ H Q => wi σ H (R Q σ)) := by
  intro pins s σ H Q I h
  rw [eval_ListComp]
  refine wpAny_comprehension_free (use := none) rfl hs ck.eq ck.kind ck.names (thn (hi pins s σ H _ I h) fun xv s1 h1 => thn h1 fun itv s2 h2 => ?_)
  obtain ⟨it, fp, tn, J, H1, rfl, I1, T, st1, f1, R1⟩ := h2
  -- the list
  refine wpAny_newObj_type ?_
  have hD : H1 s2.heap.objs.size = none := I1.hok.fresh (Nat.le_refl _)
  obtain ⟨W, ⟨m0, w0⟩, turn⟩ := hR _ _ _ _ R1 _ hD
  have hfD : ∀ b ∈ fp, b < s2.heap.objs.size := fun b hb => let ⟨o, e, _⟩ := T.obj _ _ st1 b hb; Heap.lt_size e
  have I2 : Inv X pins σ (upd H1 s2.heap.objs.size (.lst [])) { s2 with heap := s2.heap.push { cls := .type "list", data := .seq ([] : List Value).toArray }, toks := s2.toks } := I1.lnew (its := []) .nil (Nat.zero_le _)
  have f2 : ∀ b ∈ fp, FpOk X pins (upd H1 s2.heap.objs.size (.lst [])) b := fun b hb => ⟨by rw [upd_ne (Nat.ne_of_lt (hfD b hb))]; exact (f1 b hb).1, (f1 b hb).2⟩
  have lt2 : ∀ b ∈ fp, b < (s2.heap.push { cls := .type "list", data := .seq ([] : List Value).toArray }).objs.size := fun b hb => by rw [Heap.size_push]; exact Nat.lt_succ_of_lt (hfD b hb)
  -- the block's own dict
  refine wpAny_newFunctionEnv ck.ncell (by intro y hy; simp at hy) (fun h3 hns sb3 => ?_) ck.kind
  dsimp only at hns sb3 ⊢
  have k3 : ∀ b o, (s2.heap.push { cls := .type "list", data := .seq ([] : List Value).toArray }).get? b = some o → h3.get? b = some o := fun b o e => (sb3.2 b (Nat.ne_of_lt (Heap.lt_size e))).trans (Heap.get?_push_of_some _ e)
  generalize hs2 : ({ s2 with heap := s2.heap.push { cls := .type "list", data := .seq ([] : List Value).toArray }, toks := s2.toks } : Shared) = s3 at I2
  have e3 : s2.heap.push { cls := .type "list", data := .seq ([] : List Value).toArray } = s3.heap := by rw [← hs2]
  rw [e3] at hns k3 lt2
  have I3 := blk_start (N' := N') (ix := ix) I2 ck io f2 lt2 (h' := h3) (t' := s2.toks + ([] : List (Str × Value)).length) hns k3
  have e4 : ({ s3 with heap := h3, toks := s2.toks + ([] : List (Str × Value)).length } : Shared) = { s2 with heap := h3, toks := s2.toks + ([] : List (Str × Value)).length } := by rw [← hs2]
  rw [e4] at I3
  have st3 : tn 0 h3 := T.keep _ _ _ st1 fun b hb o e => k3 b o (by rw [← e3]; exact Heap.get?_push_of_some _ e)
  have loop : ∀ s4 : Shared, s4 = { s2 with heap := h3, toks := s2.toks + ([] : List (Str × Value)).length } →
      codeAny (model X.prog X.w) X.A (.compLoop (.ListComp elt [⟨tg, iter, cs, 0⟩] scope pos) 0 (.ref it) (.ref s2.heap.objs.size) (compEnvC scope cl s3.heap.objs.size X.env))
        (compPost (model X.prog X.w) X.A X.xe none (EP X pins σ Q) (.ref s2.heap.objs.size) s3.heap.objs.size) s4 := by
    rintro s4 rfl
    have stat : ∀ {H' : Hp}, (∀ b ∈ fp, H' b = none) → ∀ b ∈ fp, FpOk (blk X N' scope cl s3.heap.objs.size s3 (upd H1 s2.heap.objs.size (.lst [])) fp) [] H' b := fun hn b hb =>
      ⟨hn b hb, Nat.ne_of_lt (lt2 b hb), fun hs => I3.ok.exfs b hb hs, .inl hb, fun x c e => (f2 b hb).2.2.2.2.1 x c (ck.sub x c e), (fun p hp => by cases hp)⟩
    refine codeAny_loop rfl (fun n s' => ∃ i σ' H', Inv (blk X N' scope cl s3.heap.objs.size s3 (upd H1 s2.heap.objs.size (.lst [])) fp) [] σ' H' s' ∧ (∀ (j : Nat) v, (blkSt ix σ)[j]? = some (some v) → σ'[j]? = some (some v)) ∧ tn i s'.heap ∧ (∀ b ∈ fp, H' b = none) ∧ W i n H')
      (fun n s' hI => ?_) m0 ⟨0, _, _, I3, fun _ _ z => z, st3, fun b hb => (f2 b hb).1, w0⟩
    obtain ⟨i, σ5, H5, I5, wk, st5, fr5, w5⟩ := hI
    show wpAny _ _ ((compTurn (.ListComp elt [⟨tg, iter, cs, 0⟩] scope pos) 0 (.ref it) (.ref s2.heap.objs.size) (compEnvC scope cl s3.heap.objs.size X.env)).onRaise (fun x => do noteFrame x (compEnvC scope cl s3.heap.objs.size X.env); theTreesLotGoes x)) _ _ s'
    refine wpAny_noted ?_
    rw [compTurn_list]
    refine wpAny_bind (wpAny_standAt ?_)
    rcases turn i n H5 w5 with ⟨stop, qn⟩ | ⟨go, NN, MM, hNN, hMM, step⟩
    · refine wpAny_bind (wpAny_mono (T.done (blk X N' scope cl s3.heap.objs.size s3 (upd H1 s2.heap.objs.size (.lst [])) fp) rfl rfl rfl hc i [] s' σ5 H5 (fun _ _ => False) I5 (stat fr5) st5 stop) (fun r s6 h6 => ?_) fun _ _ z => z.elim)
      obtain ⟨rfl, I6⟩ := h6
      refine wpAny_pure ?_
      obtain ⟨mm, hm, _⟩ := id I6.loc
      exact ⟨mm, hm, fun h' sb => ⟨.ref s2.heap.objs.size, H5, blk_end I2 f2 I6 sb, rfl, qn⟩⟩
    · refine wpAny_bind (wpAny_mono (T.item (blk X N' scope cl s3.heap.objs.size s3 (upd H1 s2.heap.objs.size (.lst [])) fp) rfl rfl rfl hc i [] s' σ5 H5 (fun _ _ => False) I5 (stat fr5) st5 go) (fun r s6 h6 => ?_) fun _ _ z => z.elim)
      obtain ⟨u, rfl, h6⟩ := h6
      refine wpAny_bind (wpAny_mono h6 (fun _ s7 h7 => ?_) fun _ _ z => z.elim)
      obtain ⟨x, H7, I7, r7, y7, st7, fr7⟩ := h7
      have I7w : Inv (blk X N' scope cl s3.heap.objs.size s3 (upd H1 s2.heap.objs.size (.lst [])) fp) [] (blkSt ix σ) H7 s7 := I7.weak (by rw [I7.len]; unfold blkSt; rw [List.length_map]; exact io.1) wk
      have I7p := I7w.pinned (stat fr7) (T.obj _ _ st7)
      refine wpAny_bind (wpAny_mono (hg _ _ _ _ _ s7 _ H7 x u _ I7p r7 (step x H7 y7)) (fun _ s8 h8 => ?_) fun _ _ z => z.elim)
      obtain ⟨σ8, H8, I8, kp8, q8⟩ := h8
      have back : ∀ {s10 : Shared} {σ10 : St} {H10 : Hp} {m' : Nat}, Inv (blk X N' scope cl s3.heap.objs.size s3 (upd H1 s2.heap.objs.size (.lst [])) fp) ([] ++ pinsAt fp s7.heap) σ10 H10 s10 → (∀ (j : Nat) v, (blkSt ix σ)[j]? = some (some v) → σ10[j]? = some (some v)) → W (i + 1) m' H10 →
          ∃ i σ' H', Inv (blk X N' scope cl s3.heap.objs.size s3 (upd H1 s2.heap.objs.size (.lst [])) fp) [] σ' H' s10 ∧ (∀ (j : Nat) v, (blkSt ix σ)[j]? = some (some v) → σ'[j]? = some (some v)) ∧ tn i s10.heap ∧ (∀ b ∈ fp, H' b = none) ∧ W i m' H' := by
        intro s10 σ10 H10 m' I10 kk w10
        refine ⟨i + 1, σ10, H10, I10.unpinned, kk, T.keep _ _ _ st7 fun b hb o e => (I10.pin (b, o) (List.mem_append_right _ (List.mem_append_right _ (mem_pinsAt hb e)))).1, fun b hb => ?_, w10⟩
        obtain ⟨o, e, d⟩ := T.obj _ _ st7 b hb
        exact (I10.pin (b, o) (List.mem_append_right _ (List.mem_append_right _ (mem_pinsAt hb e)))).2.1
      refine wpAny_bind (wpAny_mono (ht _ _ _ _ _ s8 σ8 H8 _ I8 q8) (fun ok s9' h9' => ?_) fun _ _ z => z.elim)
      obtain ⟨H9', I9', q9'⟩ := h9'
      cases ok with
      | false =>
        have q9'' : MM H9' := by simpa using q9'
        obtain ⟨m', hm', w9⟩ := hMM _ q9''
        exact wpAny_bind (wpAny_pure (wpAny_pure ⟨rfl, m', hm', back I9' kp8.get w9⟩))
      | true =>
        have q9'' : te σ8 H9' NN := by simpa using q9'
        refine wpAny_bind (wpAny_bind (wpAny_mono (he _ _ _ _ _ s9' σ8 H9' _ I9' q9'') (fun yv s9 h9 => ?_) fun _ _ z => z.elim))
        obtain ⟨y, H9, I9, r9, n9⟩ := h9
        obtain ⟨xs, hx9, hz9, m', hm', w9⟩ := hNN _ _ n9
        refine wpAny_bind (wpAny_mono (mt_append (X := blk X N' scope cl s3.heap.objs.size s3 (upd H1 s2.heap.objs.size (.lst [])) fp) _ s9 σ8 H9 (.ref s2.heap.objs.size) [y] (.ref s2.heap.objs.size) [yv] (fun _ H' => W (i + 1) m' H') I9 rfl (.cons r9 .nil) ⟨_, xs, y, rfl, rfl, hx9, hz9, w9⟩) (fun _ s10 h10 => ?_) fun _ _ z => z.elim)
        obtain ⟨_, H10, I10, _, w10⟩ := h10
        exact wpAny_pure (wpAny_pure ⟨rfl, m', hm', back I10 kp8.get w10⟩)
  have e5 : s3.heap.objs.size = (s2.heap.push { cls := .type "list", data := .seq ([] : List Value).toArray }).objs.size := by rw [e3]
  rw [e5] at loop
  exact codeAny_compStart_list (loop _ rfl) (T.self X.A 0 _ _ _ st3 (loop _ rfl))
theorem pe_comp {elt iter tg : Expr} {scope : Scope} {pos : Pos} {N' : List Str} {ix : List (Option Nat)} {cl : List (Str × Addr)} {wi : TI} {g : TG} {te : TE} (hc : X.calm = true) (ck : ClOk X scope cl) (io : IxOk X N' scope ix) (hi : PI X tg iter wi)
    (hg : ∀ C s₀ H₀ fp, PG (blk X N' scope cl C s₀ H₀ fp) tg g) (he : ∀ C s₀ H₀ fp, PE (blk X N' scope cl C s₀ H₀ fp) elt te) (hs : ∀ x, foldedSetIterable iter X.env x = pure x := by intro _; rfl) :
    PE X (.ListComp elt [⟨tg, iter, [], 0⟩] scope pos) (tComp ix wi g te) :=
  pe_comps (tc := fun _ H Q => Q true H) hc ck io hi hg (fun _ _ _ _ _ _ _ _ _ I h => wpAny_tests_nil ⟨_, I, h⟩) he _ (fun _ _ _ _ R D2 hD => by
    obtain ⟨W, w0, turn⟩ := R D2 hD
    refine ⟨W, w0, fun i m H2 w => (turn i m H2 w).imp id fun ⟨go, N, hN, step⟩ => ⟨go, N, fun _ => False, hN, fun _ z => z.elim, ?_⟩⟩
    simpa using step) hs
end
section
variable {K : PySem.W.Frag} {a D : Addr} {xs : List V} {g : TG} {tc : TT} {te : TE} {QD : Hp → Prop} {σ₀ : St} {H : Hp}
end
end L2

/-! MY RULES: for k, v in d.items() (the loop), d.setdefault(k, v), for c in text. -/
set_option linter.all false
namespace L2
open PySem PySem.Spec PyProof.Rows
section
/-! ### d.setdefault(k, v) -/
/-! ### for c in text -/
def Its (z : Str) : It := ⟨fun i _ => i < z.cps.size, fun i H x H' => H' = H ∧ ∃ c, z.cps[i]? = some c ∧ x = .str ⟨#[c]⟩, fun i _ => i = z.cps.size⟩
theorem turn_str {P : Program} {w : World} {K : PySem.W.Frag} {tg : Expr} {ty : String} (it : Addr) (z : Str) (t : Tok)
    (hty : ["enumerate", "zip", "dict_itemiterator", "dict_reverseitemiterator", "odict_iterator", "itertools.zip_longest", "itertools.pairwise"].contains ty = false)
    (W : ∀ A' : Around, A'.handled = none → Walks P w A' it [it] [it] z.cps.size (SignAt z) (fun i h => h.IsStrIter it ty z t i))
    (Wi : ∀ (A : Around) (i : Nat) (s : Shared) (Q : Value → Shared → Prop) (E : Value → Shared → Prop), s.heap.IsStrIter it ty z t i → Q (.ref it) s → wpAny (model P w) A (pyIter (.ref it)) Q E s) :
    Turn P w K tg (Its z) [it] it (fun i h => h.IsStrIter it ty z t i) where
  mem := by simp
  obj := fun i h st b hb => by
    have e : b = it := by simpa using hb
    subst e
    obtain ⟨ob, e, _, d⟩ := st
    exact ⟨ob, e, fun v z => by rw [d] at z; cases z⟩
  keep := fun i h h' st k => let ⟨o, ho, r⟩ := st; ⟨o, k it (by simp) o ho, r⟩
  item := by
    intro X hP hw hK hc i pins s σ H E I hf st hg
    subst hP hw hK
    obtain ⟨f0, f1, f2, f3, f4, f5⟩ := hf it (by simp)
    refine (W _ (I.ok.hd hc)).item i s _ E hg st fun v h' tk hv hst kp => ?_
    obtain ⟨c, u, hc1, rfl⟩ := hv
    have I1 : Inv X pins σ H { s with heap := h', toks := tk } := I.turned (t' := tk) (fun b ob hb e => kp b ob (by simpa using hb) e) f0 f1 f3 f4 f5
    obtain ⟨ob, e, c', d⟩ := id hst
    exact ⟨_, rfl, go_of (s := { s with heap := h', toks := tk }) e c' d hty ⟨.str ⟨#[c]⟩, H, I1, ⟨u, rfl⟩, ⟨rfl, c, hc1, rfl⟩, hst, fun b hb => (hf b hb).1⟩⟩
  done := by
    intro X hP hw hK hc i pins s σ H E I hf st hg
    subst hP hw hK
    obtain ⟨f0, f1, f2, f3, f4, f5⟩ := hf it (by simp)
    cases (show i = z.cps.size from hg)
    exact (W _ (I.ok.hd hc)).done s _ E st fun h' tk kp => ⟨rfl, I.turned (t' := tk) (fun b ob hb e => kp b ob (by simpa using hb) e) f0 f1 f3 f4 f5⟩
  self := fun A i s Q E st h => Wi A i s Q E st h
def iStr (tl : TE) : TI := fun σ H R => tl σ H fun x H1 => ∃ z, x = .str z ∧ R (Its z) H1
theorem pi_str {X : Cx} {tg l : Expr} {tl : TE} (hl : PE X l tl) : PI X tg l (iStr tl) := by
  intro pins s σ H R I h
  refine thn (hl pins s σ H _ I h) ?_
  rintro y s1 ⟨x, H1, I1, rx, z, ex, q⟩
  subst ex
  obtain ⟨t, rfl⟩ := (show ∃ t, y = Value.str z t from rx)
  have fp : ∀ b ∈ [s1.heap.objs.size], FpOk X pins H1 b := fun b hb => by
    have e : b = s1.heap.objs.size := by simpa using hb
    subst e
    exact I1.fpOk (Nat.le_refl _) (I1.hok.fresh (Nat.le_refl _))
  cases ha : z.cps.all (· < 128)
  · refine wpAny_pyIter_wide ha ?_
    have I2 : Inv X pins σ H1 { s1 with heap := s1.heap.push { cls := .type "str_iterator", data := .fields #[.str z t, .int 0 0] }, toks := s1.toks } := I1.kept fun b ob e => Heap.get?_push_of_some _ e
    exact ⟨_, [s1.heap.objs.size], _, _, _, rfl, I2, turn_str _ z t (by decide) (fun A' hA => Walks.strWide hA _ z t) (fun _ _ _ _ _ st h => wpAny_pyIter_striter_wide st h), ⟨_, Heap.get?_push_size _ rfl, rfl, rfl⟩, fp, q⟩
  · refine wpAny_pyIter_ascii ha ?_
    have I2 : Inv X pins σ H1 { s1 with heap := s1.heap.push { cls := .type "str_ascii_iterator", data := .fields #[.str z t, .int 0 0] }, toks := s1.toks } := I1.kept fun b ob e => Heap.get?_push_of_some _ e
    exact ⟨_, [s1.heap.objs.size], _, _, _, rfl, I2, turn_str _ z t (by decide) (fun A' hA => Walks.strAscii hA _ z t) (fun _ _ _ _ _ st h => wpAny_pyIter_striter_ascii st h), ⟨_, Heap.get?_push_size _ rfl, rfl, rfl⟩, fp, q⟩
theorem for_str {z : Str} {g : TG} {tb : TS} {D : Ends} {σ : St} {H : Hp} (Pv : Nat → St → Hp → Prop) (h0 : Pv 0 σ H)
    (hs : ∀ i c σ H, z.cps[i]? = some c → Pv i σ H → g (.str ⟨#[c]⟩) σ H fun σ2 H2 => tb { D with nx := Pv (i + 1), ct := Pv (i + 1), bk := D.nx } σ2 H2) (hd : ∀ σ H, Pv z.cps.size σ H → D.nx σ H) :
    ∃ W : Nat → Nat → St → Hp → Prop, (∃ m, W 0 m σ H) ∧ ∀ i m σ H, W i m σ H →
      ((Its z).stop i H ∧ D.nx σ H) ∨ ((Its z).go i H ∧ ∃ N : St → Hp → Prop, (∀ σ' H', N σ' H' → ∃ m', m' < m ∧ W (i + 1) m' σ' H') ∧ ∀ x H', (Its z).yld i H x H' → g x σ H' fun σ2 H2 => tb { D with nx := N, ct := N, bk := D.nx } σ2 H2) := by
  refine ⟨fun i m σ H => m = z.cps.size - i ∧ i ≤ z.cps.size ∧ Pv i σ H, ⟨z.cps.size, by simp, Nat.zero_le _, h0⟩, ?_⟩
  rintro i m σ H ⟨rfl, hi, p⟩
  by_cases hlt : i < z.cps.size
  · refine .inr ⟨hlt, Pv (i + 1), fun σ' H' p' => ⟨z.cps.size - (i + 1), by omega, rfl, hlt, p'⟩, fun x H' y => ?_⟩
    obtain ⟨e, c, e1, rfl⟩ := y
    subst e
    exact hs i c σ _ e1 p
  · have e : i = z.cps.size := by omega
    subst e
    exact .inl ⟨rfl, hd σ H p⟩
/-! ### a rule that may go either way -/
end
end L2

/-! MY RULES: zip(list, list), a comprehension over anything, promises joined, dicts laid pair by pair. -/
set_option linter.all false
set_option maxRecDepth 100000
namespace L2
open PySem PySem.Spec PyProof.Rows
section
variable {D : Addr} {g : TG} {te : TE} {QD : Hp → Prop} {σ₀ : St} {H : Hp}
theorem comp_genQ {J : It} (n : Nat) (Pv : Nat → List V → Hp → Prop) (h0 : Pv 0 [] (upd H D (.lst []))) (hgo : ∀ i ys H, i < n → Pv i ys H → J.go i H) (hst : ∀ ys H, Pv n ys H → J.stop n H)
    (hs : ∀ i ys H, i < n → Pv i ys H → ∀ x H3, J.yld i H x H3 → g x σ₀ H3 fun σ4 H4 => StKeep σ₀ σ4 ∧ te σ4 H4 fun y H5 => H5 D = some (.lst ys) ∧ ys.length < sizeLine ∧ Pv (i + 1) (ys ++ [y]) (upd H5 D (.lst (ys ++ [y])))) (hd : ∀ ys H, Pv n ys H → QD H) :
    ∃ W : Nat → Nat → Hp → Prop, (∃ m, W 0 m (upd H D (.lst []))) ∧ ∀ i m H2, W i m H2 →
      (J.stop i H2 ∧ QD H2) ∨ (J.go i H2 ∧ ∃ N : VK, (∀ y H5, N y H5 → ∃ xs, H5 D = some (.lst xs) ∧ xs.length < sizeLine ∧ ∃ m', m' < m ∧ W (i + 1) m' (upd H5 D (.lst (xs ++ [y])))) ∧
        ∀ x H3, J.yld i H2 x H3 → g x σ₀ H3 fun σ4 H4 => StKeep σ₀ σ4 ∧ te σ4 H4 N) := by
  refine ⟨fun i m H => m = n - i ∧ i ≤ n ∧ ∃ ys, Pv i ys H, ⟨n, by simp, Nat.zero_le _, [], h0⟩, ?_⟩
  rintro i m H2 ⟨rfl, hi, ys, p⟩
  by_cases hlt : i < n
  · exact .inr ⟨hgo i ys H2 hlt p, fun y H5 => H5 D = some (.lst ys) ∧ ys.length < sizeLine ∧ Pv (i + 1) (ys ++ [y]) (upd H5 D (.lst (ys ++ [y]))), fun y H5 z => ⟨ys, z.1, z.2.1, n - (i + 1), by omega, rfl, hlt, _, z.2.2⟩, fun x H3 z => hs i ys H2 hlt p x H3 z⟩
  · have e : i = n := by omega
    subst e
    exact .inl ⟨hst ys H2 p, hd ys H2 p⟩
end
/-! ### within a comprehension: the rules by the text's own K -/
theorem ix_tupK {X : Cx} {K : PySem.W.Frag} (h : X.K = K) : IxR X (rIxT K) := h ▸ ix_tup
/-! ### own classes and built-in ones; promises joined -/
theorem isi_bt {K : PySem.W.Frag} {C : Addr} {U : String} {b : Bool} (h : PySem.W.mroIn K C (.type U) = some b) (hm : PySem.W.kitMeta U = true) : ∀ u, RelV (.ty U) u → PySem.W.kitOne K (.ref C) u = some b := by
  intro u z
  cases (show u = Value.type U from z)
  unfold PySem.W.kitOne
  rw [if_neg (show ¬ (Value.ref C == Value.type U) = true from Bool.false_ne_true)]
  show (if PySem.W.kitMeta U = true then PySem.W.subIn K (.ref C) (.type U) else none) = some b
  rw [if_pos hm]
  exact h
theorem FnOk.or {P : Program} {w : World} {K : PySem.W.Frag} {mg : Str → Option Value} {base : Heap} {CX : CXT} {k : Nat} {f : Addr} {fd : FuncData} {ps : List Str} {sp sp' : Sp} (F : FnOk P w K mg base CX k f fd ps sp) (F' : FnOk P w K mg base CX k f fd ps sp') :
    FnOk P w K mg base CX k f fd ps (fun vs H Q E => sp vs H Q E ∨ sp' vs H Q E) :=
  ⟨fun vs H Q E q => q.elim (F.len vs H Q E) (F'.len vs H Q E), fun A outer s H args us vs Q E hr he hb hv q => q.elim (F.run A outer s H args us vs Q E hr he hb hv) (F'.run A outer s H args us vs Q E hr he hb hv)⟩
/-! ### dicts laid pair by pair -/
end L2

/-! MY RULES: name = [..], where the store is exchanged with the letting go of the comprehension's own names. -/
set_option linter.all false
set_option maxRecDepth 100000
namespace L2
open PySem PySem.Spec PyProof.Rows
section
variable {X : Cx}
theorem ps_setCs {i₀ : Nat} {x₀ : Str} {pos₀ spos : Pos} {elt iter tg : Expr} {cs : List Expr} {scope : Scope} {pos : Pos} {N' : List Str} {ix : List (Option Nat)} {cl : List (Str × Addr)} {wi : TI} {g : TG} {tc : TT} {te : TE} (hN₀ : X.N.Nodup) (hi₀ : X.N[i₀]? = some x₀) (hx₀ : Loc X.env.scope x₀) (hc : X.calm = true) (ck : ClOk X scope cl) (io : IxOk X N' scope ix) (hi : PI X tg iter wi)
    (hg : ∀ C s₀ H₀ fp, PG (blk X N' scope cl C s₀ H₀ fp) tg g) (ht : ∀ C s₀ H₀ fp, PTs (blk X N' scope cl C s₀ H₀ fp) cs tc) (he : ∀ C s₀ H₀ fp, PE (blk X N' scope cl C s₀ H₀ fp) elt te) (R : Ends → St → It → Hp → Prop) (hR : ∀ D σ J H1, R D σ J H1 → ∀ D2, H1 D2 = none → ∃ W : Nat → Nat → Hp → Prop, (∃ m, W 0 m (upd H1 D2 (.lst []))) ∧ ∀ i m H2, W i m H2 →
      (J.stop i H2 ∧ D.nx (σ.set i₀ (some (.ref D2))) H2) ∨ (J.go i H2 ∧ ∃ (N : VK) (M : Hp → Prop), (∀ y H5, N y H5 → ∃ xs, H5 D2 = some (.lst xs) ∧ xs.length < sizeLine ∧ ∃ m', m' < m ∧ W (i + 1) m' (upd H5 D2 (.lst (xs ++ [y])))) ∧ (∀ H5, M H5 → ∃ m', m' < m ∧ W (i + 1) m' H5) ∧ ∀ x H3, J.yld i H2 x H3 → g x (blkSt ix σ) H3 fun σ4 H4 => StKeep (blkSt ix σ) σ4 ∧ tc σ4 H4 fun b H5 => if b = true then te σ4 H5 N else M H5)) (hs : ∀ x, foldedSetIterable iter X.env x = pure x := by intro _; rfl)
    (hsw : swapsWith (.ListComp elt [⟨tg, iter, cs, 0⟩] scope pos) (some (.Name x₀ pos₀)) spos.line X.env = pure true := by rfl) (hf₀ : X.fn x₀ = true ∨ X.env.scope.names.lookup x₀ = some .local := by first | exact .inl rfl | exact .inr rfl | assumption) :
    PS X (.Assign [.Name x₀ pos₀] (.ListComp elt [⟨tg, iter, cs, 0⟩] scope pos) spos) (fun D σ H => wi σ H (R D σ)) := by
  intro pins s σ H D₀ I h
  rw [exec_Assign_Name_used _ _ _ _ hsw]
  refine wpAny_bind (wpAny_standAt (wpAny_bind ?_))
  show wpAny _ X.A (do let _ ← comprehension (.ListComp elt [⟨tg, iter, cs, 0⟩] scope pos) scope X.env _ (newList []) false (eval iter X.env) (some (assign (.Name x₀ pos₀) X.env))) _ _ s
  refine wpAny_bind (wpAny_mono (wpAny_comprehension_free (use := some (assign (.Name x₀ pos₀) X.env)) (Q := fun _ s' => ∃ σ' H', Inv X pins σ' H' s' ∧ D₀.nx σ' H') rfl hs ck.eq ck.kind ck.names (thn (hi pins s σ H _ I h) fun xv s1 h1 => thn h1 fun itv s2 h2 => ?_)) (fun _ s' hq => wpAny_pure (wpAny_pure hq)) fun _ _ e => e)
  obtain ⟨it, fp, tn, J, H1, rfl, I1, T, st1, f1, R1⟩ := h2
  -- the list
  refine wpAny_newObj_type ?_
  have hD : H1 s2.heap.objs.size = none := I1.hok.fresh (Nat.le_refl _)
  obtain ⟨W, ⟨m0, w0⟩, turn⟩ := hR _ _ _ _ R1 _ hD
  have hfD : ∀ b ∈ fp, b < s2.heap.objs.size := fun b hb => let ⟨o, e, _⟩ := T.obj _ _ st1 b hb; Heap.lt_size e
  have I2 : Inv X pins σ (upd H1 s2.heap.objs.size (.lst [])) { s2 with heap := s2.heap.push { cls := .type "list", data := .seq ([] : List Value).toArray }, toks := s2.toks } := I1.lnew (its := []) .nil (Nat.zero_le _)
  have f2 : ∀ b ∈ fp, FpOk X pins (upd H1 s2.heap.objs.size (.lst [])) b := fun b hb => ⟨by rw [upd_ne (Nat.ne_of_lt (hfD b hb))]; exact (f1 b hb).1, (f1 b hb).2⟩
  have lt2 : ∀ b ∈ fp, b < (s2.heap.push { cls := .type "list", data := .seq ([] : List Value).toArray }).objs.size := fun b hb => by rw [Heap.size_push]; exact Nat.lt_succ_of_lt (hfD b hb)
  -- the block's own dict
  refine wpAny_newFunctionEnv ck.ncell (by intro y hy; simp at hy) (fun h3 hns sb3 => ?_) ck.kind
  dsimp only at hns sb3 ⊢
  have k3 : ∀ b o, (s2.heap.push { cls := .type "list", data := .seq ([] : List Value).toArray }).get? b = some o → h3.get? b = some o := fun b o e => (sb3.2 b (Nat.ne_of_lt (Heap.lt_size e))).trans (Heap.get?_push_of_some _ e)
  generalize hs2 : ({ s2 with heap := s2.heap.push { cls := .type "list", data := .seq ([] : List Value).toArray }, toks := s2.toks } : Shared) = s3 at I2
  have e3 : s2.heap.push { cls := .type "list", data := .seq ([] : List Value).toArray } = s3.heap := by rw [← hs2]
  rw [e3] at hns k3 lt2
  have I3 := blk_start (N' := N') (ix := ix) I2 ck io f2 lt2 (h' := h3) (t' := s2.toks + ([] : List (Str × Value)).length) hns k3
  have e4 : ({ s3 with heap := h3, toks := s2.toks + ([] : List (Str × Value)).length } : Shared) = { s2 with heap := h3, toks := s2.toks + ([] : List (Str × Value)).length } := by rw [← hs2]
  rw [e4] at I3
  have st3 : tn 0 h3 := T.keep _ _ _ st1 fun b hb o e => k3 b o (by rw [← e3]; exact Heap.get?_push_of_some _ e)
  have loop : ∀ s4 : Shared, s4 = { s2 with heap := h3, toks := s2.toks + ([] : List (Str × Value)).length } →
      codeAny (model X.prog X.w) X.A (.compLoop (.ListComp elt [⟨tg, iter, cs, 0⟩] scope pos) 0 (.ref it) (.ref s2.heap.objs.size) (compEnvC scope cl s3.heap.objs.size X.env))
        (compPost (model X.prog X.w) X.A X.xe (some (assign (.Name x₀ pos₀) X.env)) (fun _ s' => ∃ σ' H', Inv X pins σ' H' s' ∧ D₀.nx σ' H') (.ref s2.heap.objs.size) s3.heap.objs.size) s4 := by
    rintro s4 rfl
    have stat : ∀ {H' : Hp}, (∀ b ∈ fp, H' b = none) → ∀ b ∈ fp, FpOk (blk X N' scope cl s3.heap.objs.size s3 (upd H1 s2.heap.objs.size (.lst [])) fp) [] H' b := fun hn b hb =>
      ⟨hn b hb, Nat.ne_of_lt (lt2 b hb), fun hs => I3.ok.exfs b hb hs, .inl hb, fun x c e => (f2 b hb).2.2.2.2.1 x c (ck.sub x c e), (fun p hp => by cases hp)⟩
    refine codeAny_loop rfl (fun n s' => ∃ i σ' H', Inv (blk X N' scope cl s3.heap.objs.size s3 (upd H1 s2.heap.objs.size (.lst [])) fp) [] σ' H' s' ∧ (∀ (j : Nat) v, (blkSt ix σ)[j]? = some (some v) → σ'[j]? = some (some v)) ∧ tn i s'.heap ∧ (∀ b ∈ fp, H' b = none) ∧ W i n H')
      (fun n s' hI => ?_) m0 ⟨0, _, _, I3, fun _ _ z => z, st3, fun b hb => (f2 b hb).1, w0⟩
    obtain ⟨i, σ5, H5, I5, wk, st5, fr5, w5⟩ := hI
    show wpAny _ _ ((compTurn (.ListComp elt [⟨tg, iter, cs, 0⟩] scope pos) 0 (.ref it) (.ref s2.heap.objs.size) (compEnvC scope cl s3.heap.objs.size X.env)).onRaise (fun x => do noteFrame x (compEnvC scope cl s3.heap.objs.size X.env); theTreesLotGoes x)) _ _ s'
    refine wpAny_noted ?_
    rw [compTurn_list]
    refine wpAny_bind (wpAny_standAt ?_)
    rcases turn i n H5 w5 with ⟨stop, qn⟩ | ⟨go, NN, MM, hNN, hMM, step⟩
    · refine wpAny_bind (wpAny_mono (T.done (blk X N' scope cl s3.heap.objs.size s3 (upd H1 s2.heap.objs.size (.lst [])) fp) rfl rfl rfl hc i [] s' σ5 H5 (fun _ _ => False) I5 (stat fr5) st5 stop) (fun r s6 h6 => ?_) fun _ _ z => z.elim)
      obtain ⟨rfl, I6⟩ := h6
      refine wpAny_pure ?_
      obtain ⟨mm, hm, _⟩ := id I6.loc
      have fC : FpOk X pins H5 s3.heap.objs.size := I2.fpOk (Nat.le_refl _) I6.free
      have Io : Inv X pins σ H5 s6 := blk_end I2 f2 I6 (Heap.SameBut.refl _ _)
      show wpAny _ X.A (assign (.Name x₀ pos₀) X.env (.ref s2.heap.objs.size)) _ _ s6
      refine wpAny_assign_Name (store_ok2 Io hN₀ hi₀ hx₀ (v := .ref s2.heap.objs.size) rfl (fun s7 I7 sb7 => ?_) hf₀)
      obtain ⟨a, sb, ha⟩ := sb7
      have ca : s3.heap.objs.size ≠ a := by
        rcases ha with ha | ha
        · rw [ha]; exact fC.2.1
        · exact fun z => fC.2.2.2.2.1 _ _ ha z.symm
      obtain ⟨oC, es, ep, ho, r⟩ := hm
      exact ⟨mm, ⟨oC, es, ep, (sb.2 _ ca).trans ho, r⟩, fun h' sb' => ⟨_, H5, I7.turned (t' := s7.toks) (fun b o hb e => (sb'.2 b hb).trans e) fC.1 fC.2.1 fC.2.2.2.1 fC.2.2.2.2.1 fC.2.2.2.2.2, qn⟩⟩
    · refine wpAny_bind (wpAny_mono (T.item (blk X N' scope cl s3.heap.objs.size s3 (upd H1 s2.heap.objs.size (.lst [])) fp) rfl rfl rfl hc i [] s' σ5 H5 (fun _ _ => False) I5 (stat fr5) st5 go) (fun r s6 h6 => ?_) fun _ _ z => z.elim)
      obtain ⟨u, rfl, h6⟩ := h6
      refine wpAny_bind (wpAny_mono h6 (fun _ s7 h7 => ?_) fun _ _ z => z.elim)
      obtain ⟨x, H7, I7, r7, y7, st7, fr7⟩ := h7
      have I7w : Inv (blk X N' scope cl s3.heap.objs.size s3 (upd H1 s2.heap.objs.size (.lst [])) fp) [] (blkSt ix σ) H7 s7 := I7.weak (by rw [I7.len]; unfold blkSt; rw [List.length_map]; exact io.1) wk
      have I7p := I7w.pinned (stat fr7) (T.obj _ _ st7)
      refine wpAny_bind (wpAny_mono (hg _ _ _ _ _ s7 _ H7 x u _ I7p r7 (step x H7 y7)) (fun _ s8 h8 => ?_) fun _ _ z => z.elim)
      obtain ⟨σ8, H8, I8, kp8, q8⟩ := h8
      have back : ∀ {s10 : Shared} {σ10 : St} {H10 : Hp} {m' : Nat}, Inv (blk X N' scope cl s3.heap.objs.size s3 (upd H1 s2.heap.objs.size (.lst [])) fp) ([] ++ pinsAt fp s7.heap) σ10 H10 s10 → (∀ (j : Nat) v, (blkSt ix σ)[j]? = some (some v) → σ10[j]? = some (some v)) → W (i + 1) m' H10 →
          ∃ i σ' H', Inv (blk X N' scope cl s3.heap.objs.size s3 (upd H1 s2.heap.objs.size (.lst [])) fp) [] σ' H' s10 ∧ (∀ (j : Nat) v, (blkSt ix σ)[j]? = some (some v) → σ'[j]? = some (some v)) ∧ tn i s10.heap ∧ (∀ b ∈ fp, H' b = none) ∧ W i m' H' := by
        intro s10 σ10 H10 m' I10 kk w10
        refine ⟨i + 1, σ10, H10, I10.unpinned, kk, T.keep _ _ _ st7 fun b hb o e => (I10.pin (b, o) (List.mem_append_right _ (List.mem_append_right _ (mem_pinsAt hb e)))).1, fun b hb => ?_, w10⟩
        obtain ⟨o, e, d⟩ := T.obj _ _ st7 b hb
        exact (I10.pin (b, o) (List.mem_append_right _ (List.mem_append_right _ (mem_pinsAt hb e)))).2.1
      refine wpAny_bind (wpAny_mono (ht _ _ _ _ _ s8 σ8 H8 _ I8 q8) (fun ok s9' h9' => ?_) fun _ _ z => z.elim)
      obtain ⟨H9', I9', q9'⟩ := h9'
      cases ok with
      | false =>
        have q9'' : MM H9' := by simpa using q9'
        obtain ⟨m', hm', w9⟩ := hMM _ q9''
        exact wpAny_bind (wpAny_pure (wpAny_pure ⟨rfl, m', hm', back I9' kp8.get w9⟩))
      | true =>
        have q9'' : te σ8 H9' NN := by simpa using q9'
        refine wpAny_bind (wpAny_bind (wpAny_mono (he _ _ _ _ _ s9' σ8 H9' _ I9' q9'') (fun yv s9 h9 => ?_) fun _ _ z => z.elim))
        obtain ⟨y, H9, I9, r9, n9⟩ := h9
        obtain ⟨xs, hx9, hz9, m', hm', w9⟩ := hNN _ _ n9
        refine wpAny_bind (wpAny_mono (mt_append (X := blk X N' scope cl s3.heap.objs.size s3 (upd H1 s2.heap.objs.size (.lst [])) fp) _ s9 σ8 H9 (.ref s2.heap.objs.size) [y] (.ref s2.heap.objs.size) [yv] (fun _ H' => W (i + 1) m' H') I9 rfl (.cons r9 .nil) ⟨_, xs, y, rfl, rfl, hx9, hz9, w9⟩) (fun _ s10 h10 => ?_) fun _ _ z => z.elim)
        obtain ⟨_, H10, I10, _, w10⟩ := h10
        exact wpAny_pure (wpAny_pure ⟨rfl, m', hm', back I10 kp8.get w10⟩)
  have e5 : s3.heap.objs.size = (s2.heap.push { cls := .type "list", data := .seq ([] : List Value).toArray }).objs.size := by rw [e3]
  rw [e5] at loop
  exact codeAny_compStart_list (loop _ rfl) (T.self X.A 0 _ _ _ st3 (loop _ rfl))
theorem ps_setC {i₀ : Nat} {x₀ : Str} {pos₀ spos : Pos} {elt iter tg : Expr} {scope : Scope} {pos : Pos} {N' : List Str} {ix : List (Option Nat)} {cl : List (Str × Addr)} {wi : TI} {g : TG} {te : TE} (hN₀ : X.N.Nodup) (hi₀ : X.N[i₀]? = some x₀) (hx₀ : Loc X.env.scope x₀) (hc : X.calm = true) (ck : ClOk X scope cl) (io : IxOk X N' scope ix) (hi : PI X tg iter wi)
    (hg : ∀ C s₀ H₀ fp, PG (blk X N' scope cl C s₀ H₀ fp) tg g) (he : ∀ C s₀ H₀ fp, PE (blk X N' scope cl C s₀ H₀ fp) elt te) (hs : ∀ x, foldedSetIterable iter X.env x = pure x := by intro _; rfl)
    (hsw : swapsWith (.ListComp elt [⟨tg, iter, [], 0⟩] scope pos) (some (.Name x₀ pos₀)) spos.line X.env = pure true := by rfl) (hf₀ : X.fn x₀ = true ∨ X.env.scope.names.lookup x₀ = some .local := by first | exact .inl rfl | exact .inr rfl | assumption) :
    PS X (.Assign [.Name x₀ pos₀] (.ListComp elt [⟨tg, iter, [], 0⟩] scope pos) spos) (tAsg (tComp ix wi g te) (gName i₀)) :=
  ps_setCs (tc := fun _ H Q => Q true H) hN₀ hi₀ hx₀ hc ck io hi hg (fun _ _ _ _ _ _ _ _ _ I h => wpAny_tests_nil ⟨_, I, h⟩) he _ (fun _ _ _ _ R D2 hD => by
    obtain ⟨W, w0, turn⟩ := R D2 hD
    refine ⟨W, w0, fun i m H2 w => (turn i m H2 w).imp id fun ⟨go, N, hN, step⟩ => ⟨go, N, fun _ => False, hN, fun _ z => z.elim, ?_⟩⟩
    simpa using step) hs hsw hf₀
end
end L2

/-! MY RULES: try: .. except C as e: .. around one call. -/
set_option linter.all false
set_option maxRecDepth 100000
namespace L2
open PySem PySem.Spec PyProof.Rows

/-! ### within an except suite -/
section
variable {X : Cx} {pins : List (Addr × Obj)} {σ : St} {H H1 : Hp} {s s1 : Shared} {ea C : Addr} {a0 : Value} {B : Heap}
/-! ### the name that the clause bound goes -/
/-! ### the exception that was caught, tracked -/
/-! ### the flight, seen from the frame that catches -/
end

/-! ### the clauses -/
section
variable {X : Cx} {C C' : Addr} {y n : Str} {yp hpos : Pos} {b₀ : Stmt} {suite : List Stmt} {rest : List ExceptHandler} {th : Addr → TS} {i : Nat}
end

/-! ### a call that may throw -/
section
variable {X : Cx} {k : Nat} {f : Addr} {fd : FuncData} {ps : List Str} {sp : Sp} {x : Str} {p pos : Pos} {e : Expr} {es : List Expr} {t : TA}
end

/-! ### try -/
section
variable {X : Cx} {hs : List ExceptHandler} {h₀ : ExceptHandler} {e : Expr} {tx : TX} {pos epos npos : Pos} {i : Nat} {n : Str}
end

/-! ### a def whose exceptions may leave -/
section
variable {P : Program} {w : World} {K : PySem.W.Frag} {mg : Str → Option Value} {base : Heap}
end

/-! ### names of the top that are no defs and no classes -/
theorem pe_globE {X : Cx} {x : Str} {v : V} {pos : Pos} (h : ∃ u, X.mg x = some u ∧ RelV v u) (hg : Gl X x) (hd : (x == ("__debug__" : Str)) = false := by decide) : PE X (.Name x pos) (tC v) := by
  obtain ⟨u, hm, r⟩ := h
  exact fun _ _ _ H _ I q => ld_glob I hg hm ⟨v, H, I, r, q⟩ hd
end L2

/-! MY RULES: for k, x in enumerate(list); all(list of bools). -/
set_option linter.all false
set_option maxRecDepth 100000
namespace L2
open PySem PySem.Spec PyProof.Rows
/-- all(l) of bools -/
theorem call_all {X : Cx} (hc : X.calm = true) : CallR X (.builtin "all") (fun vs H Q => ∃ (a : Addr) (bs : List Bool), vs = [V.ref a] ∧ SqL X.K H a (bs.map V.bl) ∧ Q (.bl (bs.all id)) H) := by
  intro pins s σ H vs us Q I r h
  obtain ⟨a, bs, rfl, hq, q⟩ := h
  obtain ⟨u, rfl, ru⟩ := vals1 r
  cases ru
  obtain ⟨its, rv, p1, _⟩ := I.list hq
  have la : a < s.heap.objs.size := let ⟨_, e, _⟩ := p1.isList; Heap.lt_size e
  have el : bs.length = its.length := by
    have := rv.length
    simpa using this
  have ei : ∀ (i : Nat) (v : Value), its.toArray[i]? = some v → v = .bool ((bs[i]?).getD true) := fun i v hv => by
    have hi : i < bs.length := by
      have := (Array.getElem?_eq_some_iff.mp hv).1
      simpa [el] using this
    obtain ⟨u, hu, ru⟩ := rv.get (i := i) (x := .bl bs[i]) (by simp [hi])
    have e : some u = some v := hu.symm.trans (by simpa using hv)
    cases e
    rw [List.getElem?_eq_getElem hi]
    exact ru
  refine call_all_walk ?_
  refine wpAny_pyIter_list p1.isList ?_
  refine ⟨s.heap.objs.size, _, _, _, _, _, fun i => (bs[i]?).getD true, rfl, Walks.list (A := X.A.in1) (I.ok.hd hc) s.heap.objs.size a (Nat.ne_of_lt la) its.toArray, ⟨⟨_, Heap.get?_push_size _ rfl, rfl, rfl⟩, Heap.IsList.push p1.isList _⟩, fun i v s2 Q2 E2 hv hQ => ?_, fun h' tk k => ?_⟩
  · rw [ei i v hv]
    exact wpAny_pure hQ
  · refine ⟨.bl (bs.all id), H, ?_, ?_, q⟩
    · exact I.kept (t' := tk) fun b o e => k b o (fun m => absurd (Heap.lt_size e) (by
        rw [List.mem_singleton.mp m]
        exact Nat.lt_irrefl _)) (Heap.get?_push_of_some _ e)
    · have z : ((List.range its.toArray.size).all fun i => (bs[i]?).getD true) = bs.all id := by
        have n : its.toArray.size = bs.length := by simp [el]
        rw [n, Bool.eq_iff_iff, List.all_eq_true, List.all_eq_true]
        constructor
        · intro h b hb
          obtain ⟨i, hi, rfl⟩ := List.mem_iff_getElem.mp hb
          have := h i (List.mem_range.mpr hi)
          rwa [List.getElem?_eq_getElem hi] at this
        · intro h i hi
          rw [List.getElem?_eq_getElem (List.mem_range.mp hi)]
          exact h _ (List.getElem_mem _)
      show Value.bool _ = Value.bool _
      rw [z]
end L2

/-! MY RULES: for v in d.values(); <= of texts; int(b). -/
set_option linter.all false
set_option maxRecDepth 100000
namespace L2
open PySem PySem.Spec PyProof.Rows
/-- o.f within a comprehension -/
theorem pe_fldK {X : Cx} {K : PySem.W.Frag} {e : Expr} {f : Str} {pos : Pos} {ta : TE} (h : X.K = K) (he : PE X e ta) (hb : attributeBase e f X.env (eval e X.env) = eval e X.env) : PE X (.Attribute e f pos) (tFld K ta f) := h ▸ pe_fld he hb
section
variable {X : Cx}
/-- a <= b of texts -/
theorem op_leS : OpR X (compareOp .LtE) (fun x y H Q => ∃ i j, x = .str i ∧ y = .str j ∧ Q (.bl (!(decide (j.cps.toList < i.cps.toList)))) H) := by
  intro pins s σ H x y v u Q I rx ry h
  obtain ⟨i, j, rfl, rfl, q⟩ := h
  obtain ⟨t, rfl⟩ := rx
  obtain ⟨t', rfl⟩ := ry
  exact P.le_str ⟨.bl _, H, I, rfl, q⟩
end
end L2

/-! MY RULES: != of tuples that hold alike things (data, dicts); a comprehension over a dict; d.clear(); list(..) within a comprehension. -/
set_option linter.all false
set_option maxRecDepth 100000
namespace L2
open PySem PySem.Spec PyProof.Rows
section
variable {X : Cx}
/-! ### a comprehension over a dict: what was walked is thawed -/
end
theorem call_list_ofK {X : Cx} {K : PySem.W.Frag} (h : X.K = K) : CallR X (.type "list") (fun xs H Q => ∃ p ys, xs = [.ref p] ∧ (SqL K H p ys ∨ SqT K H p ys) ∧ ∀ l, H l = none → Q (.ref l) (upd H l (.lst ys))) := h ▸ call_list_of
end L2

/-! MY RULES: texts: s.split(t), s.startswith(t), s.endswith(t), s.rfind(t), int(text of figures), str(text). -/
set_option linter.all false
set_option maxRecDepth 100000
namespace L2
open PySem PySem.Spec PyProof.Rows
section
variable {X : Cx}
def rSplit : V → List V → Hp → VK → Prop := fun x vs H Q => ∃ z y : Str, x = .str z ∧ vs = [.str y] ∧ (y.length == 0) = false ∧ z.length + 2 ≤ sizeLine ∧ ∀ l, H l = none → Q (.ref l) (upd H l (.lst ((Txt.split z y).map V.str)))
theorem vals_strs : ∀ l : List (Str × Tok), Vals (l.map fun p => V.str p.1) (strValues l)
  | [] => .nil
  | (x, t) :: r => .cons ⟨t, rfl⟩ (vals_strs r)
open PySem.Builtin PySem.Builtin.Str in
theorem split_len (x y : Str) : (Txt.split x y).length ≤ x.length + 2 := by
  unfold Txt.split
  split
  · simp
  · split
    · simp
    · have e1 := StrLaws.occ_length_le x y 0 x.length (x.length + 1)
      rw [length_partsBetween]; omega
open PySem.Builtin PySem.Builtin.Str in
theorem split_call {prog : Program} {w : World} {A : Around} {E : Value → Shared → Prop} {s : Shared} {x y : Str} {t u : Tok} {Q : Value → Shared → Prop} (hy : (y.length == 0) = false) (hz : x.length + 2 ≤ sizeLine)
    (h : ∀ l k, l.map (·.1) = Txt.split x y → Q (.ref s.heap.objs.size) { s with heap := s.heap.push { cls := .type "list", data := .seq (strValues l).toArray }, toks := k }) : wpAny (model prog w) A (call (.builtin "str.split") [.str x t, .str y u]) Q E s := by
  have hn : (partsBetween x (occurrences x y 0 x.length (x.length + 1)) y.length).length ≤ sizeLine := by have e1 := StrLaws.occ_length_le x y 0 x.length (x.length + 1); rw [length_partsBetween]; omega
  cases h1 : (decide (x.length < y.length) || decide (strKind x < strKind y)) with
  | true => exact call_meets PySem.F.slot_str_split (typeIs_str _ _ _) PySem.F.entry_str_split (PySem.F.args_str_split_2 _ _) (meets_str_split_cannot_occur x y t u h1) (h [(x, t)] s.toks (if_pos h1).symm)
  | false =>
    cases hf : (occurrences x y 0 x.length (x.length + 1)).isEmpty with
    | true => exact call_meets PySem.F.slot_str_split (typeIs_str _ _ _) PySem.F.entry_str_split (PySem.F.args_str_split_2 _ _) (meets_str_split_not_found x y t u h1 hy hf) (h [(x, t)] s.toks ((if_neg (ne_true_of_eq_false h1)).trans (if_pos hf)).symm)
    | false =>
      refine call_meets PySem.F.slot_str_split (typeIs_str _ _ _) PySem.F.entry_str_split (PySem.F.args_str_split_2 _ _) (meets_str_split_sep x y t u h1 hy hf (by omega) hn) ?_
      have q := h (numbered s.toks (partsBetween x (occurrences x y 0 x.length (x.length + 1)) y.length)) (s.toks + (partsBetween x (occurrences x y 0 x.length (x.length + 1)) y.length).length) ((numbered_texts _ _).trans ((if_neg (ne_true_of_eq_false h1)).trans (if_neg (ne_true_of_eq_false hf))).symm)
      rw [← strsFrom_eq] at q
      exact q
theorem mt_split : MtR X "str.split" rSplit := by
  intro pins s σ H x xs v us Q I rx rv h
  obtain ⟨z, y, rfl, rfl, hy, hz, q⟩ := h
  obtain ⟨t, rfl⟩ := (show ∃ t, v = Value.str z t from rx)
  obtain ⟨u, rfl, ru⟩ := vals1 rv
  obtain ⟨t', rfl⟩ := (show ∃ t, u = Value.str y t from ru)
  refine split_call hy hz fun l k e => ?_
  have vl : Vals ((Txt.split z y).map V.str) (strValues l) := by
    have := vals_strs l
    rw [← e, List.map_map]
    exact this
  have hl : (strValues l).length ≤ sizeLine := by
    rw [← vl.length, List.length_map]
    exact Nat.le_trans (split_len z y) hz
  exact ⟨.ref s.heap.objs.size, _, I.lnew vl (by rw [vl.length]; exact hl), rfl, q _ (I.hok.fresh (Nat.le_refl _))⟩
def rTT (f : Str → Str → V) : V → List V → Hp → VK → Prop := fun x vs H Q => ∃ z y : Str, x = .str z ∧ vs = [.str y] ∧ Q (f z y) H
theorem mt_starts : MtR X "str.startswith" (rTT fun z y => .bl (Txt.startswith z y)) := by
  intro pins s σ H x xs v us Q I rx rv h
  obtain ⟨z, y, rfl, rfl, q⟩ := h
  obtain ⟨t, rfl⟩ := (show ∃ t, v = Value.str z t from rx)
  obtain ⟨u, rfl, ru⟩ := vals1 rv
  obtain ⟨t', rfl⟩ := (show ∃ t, u = Value.str y t from ru)
  exact SC.startswith ⟨.bl (Txt.startswith z y), H, I, rfl, q⟩
theorem mt_ends : MtR X "str.endswith" (rTT fun z y => .bl (Txt.endswith z y)) := by
  intro pins s σ H x xs v us Q I rx rv h
  obtain ⟨z, y, rfl, rfl, q⟩ := h
  obtain ⟨t, rfl⟩ := (show ∃ t, v = Value.str z t from rx)
  obtain ⟨u, rfl, ru⟩ := vals1 rv
  obtain ⟨t', rfl⟩ := (show ∃ t, u = Value.str y t from ru)
  exact SC.endswith ⟨.bl (Txt.endswith z y), H, I, rfl, q⟩
/-- int(text), the text being written by figures -/
theorem call_int_text : CallR X (.type "int") (fun xs H Q => ∃ (x : Str) (n : Int), xs = [.str x] ∧ PySem.intText? x = some n ∧ x.length ≤ 640 ∧ Q (.int n) H) := by
  intro pins s σ H xs us Q I r h
  obtain ⟨x, n, rfl, hn, hl, q⟩ := h
  obtain ⟨u, rfl, t, rfl⟩ := vals1 r
  exact PySem.W.KIN.call_text hn hl ⟨.int n, H, I.tok _, ⟨_, rfl⟩, q⟩
end
end L2

/-! MY RULES: t[lo:hi] of a tuple, the whole of it too (then it is t itself): sl_tupA. -/
set_option Elab.async false
set_option linter.all false
set_option maxRecDepth 100000
set_option maxHeartbeats 4000000
namespace HT
open PySem PySem.Spec PyProof.Rows L2
section
variable {prog : Program} {w : World} {A : Around} {E : Value → Shared → Prop} {s : Shared}
theorem getItem_tuple_all {t sl : Addr} {items : Array Value} {vl vu : Value} {lo hi : Option Int} {Q : Value → Shared → Prop} (ht : IsTup s.heap t items) (hs : s.heap.IsSliceOf sl vl vu .none) (pl : IsPart vl lo) (pu : IsPart vu hi)
    (hw : sIx items.size 0 lo = 0 ∧ sIx items.size items.size hi = items.size) (h : Q (.ref t) s) : wpAny (model prog w) A (getItem (.ref t) (.ref sl)) Q E s := by
  obtain ⟨os, hos, hcs, hds⟩ := id hs
  have hTs : s.TypeIs (.ref sl) "slice" := ⟨os, hos, hcs⟩
  unfold getItem
  try with_reducible refine wpAny_holding ?_
  first | refine wpAny_bind (wpAny_pure ?_) | skip
  refine wpAny_bind (wpAny_sequenceKey ht.typeIs (by decide) ?_)
  refine wpAny_bind (wpAny_callSpecial?_slot (name := Str.ofString "__getitem__") ht.typeIs PyProof.Rows.slot_tuple_getitem
    (wpAny_call_entry PyProof.Rows.slot_tuple_getitem ht.typeIs entry_tuple_getitem ?_ (args_tuple_getitem _ _)))
  show wpAny _ _ (Builtin.Tuple.tupleItemsOf (.ref t) >>= _) _ _ s
  refine wpAny_bind (tupleItemsOf_ ht ?_)
  refine wpAny_bind (wpAny_typeOf hTs ?_)
  rw [if_pos (by decide)]
  refine wpAny_bind (sliceApplied_gen hs pl pu ?_)
  have hyes : (((sIx items.size 0 lo : Nat) : Int) == 0 && (1 : Int) == 1 && (sIx items.size items.size hi - sIx items.size 0 lo) == items.size) = true := by
    rw [hw.1, hw.2]
    simp
  show wpAny _ _ (if (((sIx items.size 0 lo : Nat) : Int) == 0 && (1 : Int) == 1 && (sIx items.size items.size hi - sIx items.size 0 lo) == items.size) = true then _ else _) _ _ s
  rw [if_pos hyes]
  refine wpAny_bind ?_
  unfold Builtin.Tuple.tupleIsExact
  refine wpAny_bind (wpAny_typeOf ht.typeIs (wpAny_pure ?_))
  rw [if_pos (by decide)]
  first
    | exact wpAny_bind (wpAny_rule (wpAny_pure ⟨_, rfl, wpAny_pure h⟩))
    | exact wpAny_bind (wpAny_pure (wpAny_pure ⟨_, rfl, wpAny_pure h⟩))
    | exact wpAny_pure ⟨_, rfl, wpAny_pure h⟩
    | skip
  done
end
end HT
namespace L2
open PySem PySem.Spec PyProof.Rows
section
variable {X : Cx}
theorem cutV_all {xs : List V} {lo hi : Option Int} (h : HT.sIx xs.length 0 lo = 0 ∧ HT.sIx xs.length xs.length hi = xs.length) : cutV xs lo hi = xs := by
  unfold cutV
  rw [h.1, h.2, List.drop_zero, Nat.sub_zero, List.take_length]
end
end L2

/-! MY RULES: == of dicts that hold alike things (samePairsK, samePairsT); != of tuples that hold data and dicts of dicts with tuples as keys (op_neTW). -/
set_option linter.all false
set_option maxRecDepth 100000
namespace L2
open PySem PySem.Spec PyProof.Rows
theorem pget2 {α β : Type} {F : α → β → Prop} : ∀ {l : List α} {m : List β}, Paired F l m → ∀ {i : Nat} {x : α}, l[i]? = some x → ∃ y, m[i]? = some y ∧ F x y
  | _, _, .nil, i, x, e => by simp at e
  | _, _, .cons r t, 0, x, e => by simp at e; subst e; exact ⟨_, rfl, r⟩
  | _, _, .cons r t, i + 1, x, e => by
    obtain ⟨y, e1, e2⟩ := pget2 t (i := i) (by simpa using e)
    exact ⟨y, by simpa using e1, e2⟩
section
variable {prog : Program} {w : World} {A : Around} {E : Value → Shared → Prop} {s : Shared}
end
section
variable {X : Cx} {pins : List (Addr × Obj)} {σ : St} {H : Hp} {s : Shared} {A : Around} {E : Value → Shared → Prop} {Q : Bool → Shared → Prop}
end
section
variable {X : Cx}
end
end L2

/-! MY RULES: text.partition(sep) (mt_part); list.index and tuple.index of a text among texts (mt_indexS, mt_tindexS); t[lo:hi] of a tuple of the top (sl_tupK). -/
set_option Elab.async false
set_option linter.all false
set_option maxRecDepth 100000
set_option maxHeartbeats 4000000
namespace PySem.SeqAt
open PySem PySem.Builtin
theorem wpAny_rangeN {M : Model} {A : Around} {E : Value → Shared → Prop} {s : Shared} {β : Type} {n : Nat} {b : β} (f : Nat → β → Sem (ForInStep β)) (I : Nat → β → Shared → Prop) (Q : β → Shared → Prop)
    (turn : ∀ i b s', i < n → I i b s' → wpAny M A (f i b) (fun r s'' => match r with | .yield b' => I (i + 1) b' s'' | .done b' => Q b' s'') E s') (fin : ∀ b s', I n b s' → Q b s') (h : I 0 b s) : wpAny M A (forIn [0:n] b f) Q E s := by
  rw [Std.Legacy.Range.forIn_eq_forIn_range']
  refine wpAny_forIn_list _ (fun rest b s' => ∃ i, i ≤ n ∧ rest = List.range' i (n - i) ∧ I i b s') _ ?_ ?_ _ _ ⟨0, Nat.zero_le _, by simp [Std.Legacy.Range.size], h⟩
  · rintro x rest b s' ⟨i, hi, e, hI⟩
    have hlt : i < n := by
      rcases Nat.lt_or_ge i n with z | z
      · exact z
      · rw [show n - i = 0 by omega] at e; cases e
    rw [show n - i = (n - (i + 1)) + 1 by omega, List.range'_succ] at e
    injection e with e1 e2
    subst e1 e2
    refine wpAny_mono (turn x b s' hlt hI) (fun r s'' hr => ?_) fun _ _ z => z
    cases r with
    | yield b' => exact ⟨x + 1, hlt, by rw [show n - (x + 1) = n - (x + 1) from rfl], hr⟩
    | done b' => exact hr
  · rintro b s' ⟨i, hi, e, hI⟩
    have : i = n := by
      rcases Nat.lt_or_ge i n with z | z
      · rw [show n - i = (n - (i + 1)) + 1 by omega, List.range'_succ] at e; cases e
      · omega
    subst this
    exact fin b s' hI
theorem tuple_indexAt (l : Addr) (items : Array Value) (n : Nat) (dd : Option Addr) (sl : Array (Option Value)) (x : Value) (e : Value → Bool) (j : Nat) (hj : j < items.size) (hit : e items[j] = true) (hno : ∀ m (hm : m < items.size), m < j → e items[m] = false) :
    Meets (Builtin.«tuple.index» ⟨[.ref l, x], []⟩)
      (fun A R s => s.heap.get? l = some { cls := .type "tuple", dict := dd, data := .seq items n, slots := sl } ∧ (∀ y, y ∈ items → EqAt A.in1 s y x (e y)) ∧ R (.ok (.ret (.int j s.toks))) { s with toks := s.toks + 1 }) :=
  .of_wp fun prog w A R s h => by
    obtain ⟨hp, g, d, tk, os⟩ := s; obtain ⟨hl, he, h⟩ := h
    wp_walk using wpAny_loadPart' hl, wpAny_rangeN _ (fun i b s' => b = (none, ()) ∧ s' = ⟨hp, g, d, tk, os⟩ ∧ i ≤ j) _
    case turn =>
      rintro i b s' hi ⟨rfl, rfl, hij⟩
      have hi : i < items.size := by omega
      rw [Array.getElem?_eq_getElem hi]
      refine wpAny_bind (he _ (Array.getElem_mem hi) prog w _ _ ?_)
      by_cases e1 : i = j
      · subst e1
        rw [hit]
        wp_walk
        exact ⟨_, rfl, h⟩
      · rw [hno i hi (by omega)]
        wp_walk
        exact ⟨rfl, rfl, by omega⟩
    case fin =>
      rintro b s' ⟨rfl, rfl, hij⟩
      omega
    case h =>
      exact ⟨rfl, rfl, Nat.zero_le _⟩
end PySem.SeqAt
namespace L2
open PySem PySem.Spec PyProof.Rows
section
variable {X : Cx}
def rPart : V → List V → Hp → VK → Prop := fun x vs H Q => ∃ z y : Str, x = .str z ∧ vs = [.str y] ∧ (y.length == 0) = false ∧ z.length ≤ sizeLine ∧ ∀ p, H p = none → Q (.ref p) (upd H p (.tup [.str (Txt.partition z y).1, .str (Txt.partition z y).2.1, .str (Txt.partition z y).2.2]))
open PySem.Builtin PySem.Builtin.Str in
theorem mt_part : MtR X "str.partition" rPart := by
  intro pins s σ H x xs v us Q I rx rv h
  obtain ⟨z, y, rfl, rfl, hy, hz, q⟩ := h
  obtain ⟨t, rfl⟩ := (show ∃ t, v = Value.str z t from rx)
  obtain ⟨u, rfl, ru⟩ := vals1 rv
  obtain ⟨t', rfl⟩ := (show ∃ t, u = Value.str y t from ru)
  refine call_meets PySem.F.slot_str_partition (typeIs_str _ _ _) PySem.F.entry_str_partition (PySem.F.args_str_partition_2 _ _) (meets_str_partition z y t t' hy hz) ?_
  have fin : ∀ (p1 p2 p3 : Str) (k1 k2 k3 : Tok) (tk : Nat), (Txt.partition z y).1 = p1 → (Txt.partition z y).2.1 = p2 → (Txt.partition z y).2.2 = p3 → EP X pins σ Q (.ref s.heap.objs.size) { s with heap := s.heap.push { cls := .type "tuple", data := .seq [Value.str p1 k1, .str p2 k2, .str p3 k3].toArray }, toks := tk } := by
    intro p1 p2 p3 k1 k2 k3 tk e1 e2 e3
    have fr := I.hok.fresh (Nat.le_refl s.heap.objs.size)
    have q := q _ fr
    rw [e1, e2, e3] at q
    refine ⟨.ref s.heap.objs.size, _, I.laid (t' := tk) (o := .tup [.str p1, .str p2, .str p3]) (fun b ob q => Heap.get?_push_of_some _ q) (Nat.le_refl _) ?_, rfl, q⟩
    exact ⟨by show 3 ≤ sizeLine; decide, _, .cons ⟨k1, rfl⟩ (.cons ⟨k2, rfl⟩ (.cons ⟨k3, rfl⟩ .nil)), IsTup.new _ _⟩
  have f' := fin
  unfold Txt.partition at f'
  revert f'
  cases occurrences z y 0 z.length 1 with
  | nil => intro f'; exact f' _ _ _ _ _ _ _ rfl rfl rfl
  | cons i r => intro f'; exact f' _ _ _ _ _ _ _ rfl rfl rfl
theorem isStr_at (k : Str) : ∀ {vs : List Value} {ns : List Str}, StrsAre vs ns → ∀ (i : Nat) (h1 : i < vs.length) (h2 : i < ns.length), isStrOf k (vs[i]'h1) = (ns[i]'h2 == k)
  | _, _, .nil, i, h1, _ => absurd h1 (by simp)
  | _, _, .cons n t h, 0, _, _ => rfl
  | _, _, .cons n t h, i + 1, h1, h2 => isStr_at k h i (by simpa using h1) (by simpa using h2)
theorem strs_len : ∀ {vs : List Value} {ns : List Str}, StrsAre vs ns → vs.length = ns.length
  | _, _, .nil => rfl
  | _, _, .cons _ _ h => by simp [strs_len h]
theorem notStr_idx {k : Str} : ∀ {ns : List Str} {j : Nat}, j < ns.idxOf k → ∀ h : j < ns.length, (ns[j]'h == k) = false
  | [], j, h, h2 => absurd h2 (by simp)
  | n :: ns, j, h, h2 => by
    rw [List.idxOf_cons] at h
    by_cases e : n = k
    · subst e; simp at h
    · have e' : (n == k) = false := by simpa using e
      rw [e'] at h
      cases j with
      | zero => simpa using e
      | succ j => simpa using notStr_idx (k := k) (ns := ns) (j := j) (by simpa using h) (by simpa using h2)
theorem mt_indexS : MtM X "list.index" (fun x vs H Q => ∃ (l : Addr) (ns : List Str) (k : Str), x = .ref l ∧ vs = [.str k] ∧ H l = some (.lst (ns.map V.str)) ∧ k ∈ ns ∧ Q (.int (ns.idxOf k : Nat)) H) := by
  intro pins s σ H x vs v us Q I rx rv h
  obtain ⟨l, ns, k, rfl, rfl, hH, hk, q⟩ := h
  cases rx
  obtain ⟨u, rfl, t, rfl⟩ := vals1 rv
  obtain ⟨z, its, n, r, hl, e⟩ := I.lstM hH
  have hi := strsAre_of r
  have hlen := strs_len hi
  have hj : ns.idxOf k < ns.length := List.idxOf_lt_length_iff.mpr hk
  rw [List.length_map, sizeLine_eq] at z
  refine call_meets PySem.F.slot_list_index ⟨_, e, rfl⟩ PySem.F.entry_list_index (PySem.F.args_list_index_2 _ _)
    (SeqAt.list_indexAt l its.toArray n none #[] (.str k t) (isStrOf k) (ns.idxOf k) (by simpa [hlen] using hj) (by omega) ?_ ?_) ⟨e, fun y hy => (eq_isStrOf k t hi y (by simpa using hy)).at _ _, ⟨.int (ns.idxOf k : Nat), H, I.tok _, ⟨_, rfl⟩, q⟩⟩
  · show isStrOf k its[ns.idxOf k] = true
    rw [isStr_at k hi _ (by omega) hj]
    simpa using List.getElem_idxOf hj
  · intro j hjs hlt
    show isStrOf k its[j] = false
    rw [isStr_at k hi j (by simpa using hjs) (by omega)]
    exact notStr_idx hlt _
theorem mt_tindexS : MtM X "tuple.index" (fun x vs H Q => ∃ (l : Addr) (ns : List Str) (k : Str), x = .ref l ∧ vs = [.str k] ∧ SqT X.K H l (ns.map V.str) ∧ k ∈ ns ∧ Q (.int (ns.idxOf k : Nat)) H) := by
  intro pins s σ H x vs v us Q I rx rv h
  obtain ⟨l, ns, k, rfl, rfl, hH, hk, q⟩ := h
  cases rx
  obtain ⟨u, rfl, t, rfl⟩ := vals1 rv
  obtain ⟨its, r, ht, hz⟩ := I.tuple hH
  obtain ⟨o, ho, hc, n, hd⟩ := ht
  obtain ⟨cls, dd, data, sl⟩ := o
  simp only at hc hd
  subst hc hd
  have hi := strsAre_of r
  have hlen := strs_len hi
  have hj : ns.idxOf k < ns.length := List.idxOf_lt_length_iff.mpr hk
  refine call_meets PySem.F.slot_tuple_index ⟨_, ho, rfl⟩ PySem.F.entry_tuple_index (PySem.F.args_tuple_index_2 _ _)
    (SeqAt.tuple_indexAt l its.toArray n dd sl (.str k t) (isStrOf k) (ns.idxOf k) (by simpa [hlen] using hj) ?_ ?_) ⟨ho, fun y hy => (eq_isStrOf k t hi y (by simpa using hy)).at _ _, ⟨.int (ns.idxOf k : Nat), H, I.tok _, ⟨_, rfl⟩, q⟩⟩
  · show isStrOf k its[ns.idxOf k] = true
    rw [isStr_at k hi _ (by omega) hj]
    simpa using List.getElem_idxOf hj
  · intro j hjs hlt
    show isStrOf k its[j] = false
    rw [isStr_at k hi j (by simpa using hjs) (by omega)]
    exact notStr_idx hlt _
def rSlK (K : PySem.W.Frag) : V → Option Int → Option Int → Hp → VK → Prop := fun x lo hi H Q => ∃ a xs, x = .ref a ∧ SqT K H a xs ∧ ∀ p H', Same H H' → SqT K H' p (cutV xs lo hi) → Q (.ref p) H'
theorem sl_tupK : SlR X (rSlK X.K) := by
  intro pins s σ H x v vl vu lo hi sl Q I rx hs pl pu h
  obtain ⟨a, xs, rfl, hx, q⟩ := h
  cases rx
  obtain ⟨its, r, ht, hz⟩ := I.tuple hx
  have hlen : its.toArray.size = xs.length := by rw [List.size_toArray]; exact r.length.symm
  refine ⟨"tuple", _, PyProof.Rows.slot_tuple_getitem.lookup, ht.typeIs, ?_⟩
  by_cases hw : HT.sIx xs.length 0 lo = 0 ∧ HT.sIx xs.length xs.length hi = xs.length
  · refine HT.getItem_tuple_all ht hs pl pu (by rw [hlen]; exact hw) ?_
    exact ⟨.ref a, H, I, rfl, q a H (Same.refl _) (by rw [cutV_all hw]; exact hx)⟩
  · refine HT.getItem_tuple_cut ht hs pl pu (by rw [hlen]; exact hw) ?_ (by rw [hlen]; exact hz)
    rw [hlen]
    have fr := I.hok.fresh (Nat.le_refl _)
    refine ⟨.ref s.heap.objs.size, _, I.laid (t' := s.toks) (o := .tup (cutV xs lo hi)) (fun b ob q => Heap.get?_push_of_some _ q) (Nat.le_refl _) ?_, rfl, q _ _ (same_new fr) (SqT.of upd_same)⟩
    exact ⟨Nat.le_trans (cutV_length xs lo hi) hz, _, (r.drop (HT.sIx xs.length 0 lo)).take (HT.sIx xs.length xs.length hi - HT.sIx xs.length 0 lo), IsTup.new _ _⟩
end
end L2

/-! MY RULES: a method of a built-in's value within a comprehension (pe_bmK). -/
set_option linter.all false
set_option maxRecDepth 100000
namespace L2
open PySem PySem.Spec PyProof.Rows
section
variable {X : Cx} {o e : Expr} {es : List Expr} {to : TE} {t : TA} {name : Str} {apos cpos : Pos} {T id : String} {r : V → List V → Hp → VK → Prop}
theorem pe_bmK {K : PySem.W.Frag} (hK : X.K = K) (pa : PlainAttrs T) (slot : Slot T name id) (hty : typeOf (.builtin id) = pure (.type "method_descriptor")) (hm : MtR X id r) (ho : PE X o to) (ha : PA X (e :: es) t)
    (hbase : attributeBase o name X.env (eval o X.env) = eval o X.env := by rfl)
    (hfew : ((backTo cpos (starEach (e :: es) X.env)).all (fun x => !x.1) && (backToKw cpos (keywordEach [] X.env)).all (fun x => x.1.isSome)
      && decide ((e :: es).length + ([] : List Keyword).length + (if ([] : List Keyword).isEmpty then 0 else 1) < 30)) = true := by rfl)
    (hline : (apos.endLine == cpos.line) = true := by rfl) (hs : starEach (e :: es) X.env = (false, eval e X.env) :: starEach es X.env := by rfl) (hplain : (backTo cpos (starEach es X.env)).any (·.1) = false := by rfl) :
    PE X (.Call (.Attribute o name apos) (e :: es) [] cpos) (tBM K T r to t) := hK ▸ pe_bm pa slot hty hm ho ha hbase hfew hline hs hplain
end
end L2

/-! MY RULES: text.join(list) within a comprehension (mt_joinK); a method by the object's own class within a comprehension (pe_methE). -/
set_option linter.all false
set_option maxRecDepth 100000
namespace L2
open PySem PySem.Spec PyProof.Rows
theorem mt_joinK {X : Cx} {K : PySem.W.Frag} (h : X.K = K) : MtR X "str.join" (rJoin K) := h ▸ mt_join
def tMethE (P : Program) (w : World) (K : PySem.W.Frag) (mg : Str → Option Value) (base : Heap) (A : Around) (m : Str) (ta : TE) : TE := fun σ H Q => ta σ H fun x H1 => ∃ (a C dx : Addr) (fs : List (Str × V)) (k : Nat) (f : Addr) (fd : FuncData) (ps : List Str) (sp : Sp), x = .ref a ∧ H1 a = some (.ins C dx fs) ∧ Cls K C ∧ Meth K C m f ∧ fs.lookup m = none ∧
  FnOk P w K mg base CX0 k f fd ps sp ∧ Room k A ∧ Binds K fd ps [] ∧ sp [x] H1 Q E0
section
variable {X : Cx} {o : Expr} {ta : TE} {m : Str} {apos pos : Pos}
theorem pe_methE {P : Program} {w : World} {K : PySem.W.Frag} {mg : Str → Option Value} {base : Heap} {A : Around} {n : Nat} {pl : Sem Bool} (_ : Room n A) (h1 : X.prog = P) (h2 : X.w = w) (h3 : X.K = K) (h4 : X.mg = mg) (h5 : X.base = base) (h6 : X.A = A) (he : PE X o ta)
    (ht : eval (.Call (.Attribute o m apos) [] [] pos) X.env = (do
      let ov ← eval o X.env
      standAt apos.atName
      let (f, first) ← holding [ov] (getMethod ov m pl)
      callWith pos f first (backTo pos (starEach [] X.env)) (backToKw pos (keywordEach [] X.env))) := by rfl) :
    PE X (.Call (.Attribute o m apos) [] [] pos) (tMethE P w K mg base A m ta) := by
  subst h1 h2 h3 h4 h5 h6
  exact pe_methD0 he ht
end
end L2

set_option Elab.async false
set_option linter.all false
set_option maxRecDepth 100000
set_option maxHeartbeats 4000000
namespace My
open PySem L2
/-! ### the data of k07 -/
inductive Op3 | plus | minus | times
inductive Tm
  | num (z : Int) | place (x : Str) | read (a : Str) (ix : List (Str × Int)) | sum (x : Str) (b : Tm) | pair (k : Op3) (l r : Tm) | guard (x : Str) (lo hi : Int) (l r : Tm)
def Op3.sign : Op3 → Str | .plus => "+" | .minus => "-" | .times => "*"
def encI (e : Str × Int) : PyData := .tuple [.str e.1, .int e.2]
def encIx (ix : List (Str × Int)) : PyData := .list (ix.map encI)
def dep : Tm → Nat
  | .sum _ b => dep b + 1
  | .pair _ l r => max (dep l) (dep r) + 1
  | .guard _ _ _ l r => max (dep l) (dep r) + 1
  | _ => 1
def nod : Tm → Nat
  | .sum _ b => nod b + 1
  | .pair _ l r => nod l + nod r + 1
  | .guard _ _ _ l r => nod l + nod r + 1
  | _ => 1
def Sm (z : Int) : Prop := z.natAbs ≤ 10 ^ 32
def NmOk (x : Str) : Prop := x.length ≤ 20 ∧ PyData.strOk x = true
def leaf : Tm → Bool
  | .num _ | .place _ | .read _ _ => true
  | _ => false
def idxW (e : Str × Int) : Str := if e.1 = "" then (toString e.2 : Str) else if e.2 = 0 then e.1 else if 0 < e.2 then e.1 ++ "+" ++ (toString e.2 : Str) else e.1 ++ (toString e.2 : Str)
def insW (ix : List (Str × Int)) : Str := Txt.join "," (ix.map idxW)
def words : Tm → List Str
  | .num z => [(toString z : Str)]
  | .place x => [x]
  | .read a ix => [a ++ "[" ++ insW ix ++ "]"]
  | .sum x b => [("sum" : Str), x] ++ words b
  | .pair k l r => [k.sign] ++ words l ++ words r
  | .guard x lo hi l r => [("if" : Str), x, (toString lo : Str), (toString hi : Str)] ++ words l ++ words r
theorem words_len : ∀ t : Tm, (words t).length ≤ 4 * nod t
  | .num z => by simp [words, nod]
  | .place x => by simp [words, nod]
  | .read a ix => by simp [words, nod]
  | .sum x b => by have := words_len b; simp only [words, nod, List.length_append, List.length_cons, List.length_nil]; omega
  | .pair k l r => by have := words_len l; have := words_len r; simp only [words, nod, List.length_append, List.length_cons, List.length_nil]; omega
  | .guard x lo hi l r => by have := words_len l; have := words_len r; simp only [words, nod, List.length_append, List.length_cons, List.length_nil]; omega
theorem dep_pos : ∀ t : Tm, 1 ≤ dep t
  | .num z => by simp [dep]
  | .place x => by simp [dep]
  | .read a ix => by simp [dep]
  | .sum x b => by simp [dep]
  | .pair k l r => by simp [dep]
  | .guard x lo hi l r => by simp [dep]
/-! ### equal data are equal trees -/
/-! ### shape -/
/-! ### texts -/
theorem nat_len {n : Nat} (h : n < 10 ^ 33) : (Str.ofString (Nat.repr n)).length ≤ 33 := by
  rw [PyProof.Rows.ofString_len]
  simpa [Nat.repr] using PySem.toDigits_len_pow (b := 10) (k := 33) (by decide) (by decide) h
theorem ofS_app (a b : String) : Str.ofString (a ++ b) = Str.ofString a ++ Str.ofString b := by
  rw [Str.ofString_eq_toList, Str.ofString_eq_toList, Str.ofString_eq_toList]
  apply Str.ext'
  simp [Str.cps_append, String.toList_append]
theorem int_len {z : Int} (h : Sm z) : (toString z : Str).length ≤ 34 := by
  unfold Sm at h
  cases z with
  | ofNat m =>
    have hm : m < 10 ^ 33 := Nat.lt_of_le_of_lt (show m ≤ 10 ^ 32 from h) (by decide)
    exact Nat.le_succ_of_le (nat_len hm)
  | negSucc m =>
    have hm : m + 1 < 10 ^ 33 := Nat.lt_of_le_of_lt (show m + 1 ≤ 10 ^ 32 from h) (by decide)
    have e : (toString (Int.negSucc m) : Str) = Str.ofString "-" ++ Str.ofString (Nat.repr (m + 1)) := ofS_app "-" (Nat.repr (m + 1))
    rw [e, Str.length_append]
    have h1 := nat_len hm
    have h2 : (Str.ofString "-").length = 1 := by decide +kernel
    omega
theorem log_ok {z : Int} (h : Sm z) : z.natAbs.log2 < 1920 := by
  by_cases h0 : z.natAbs = 0
  · rw [h0]; decide
  · exact (Nat.log2_lt h0).mpr (Nat.lt_of_le_of_lt h (Nat.lt_of_lt_of_le (show 10 ^ 32 < 2 ^ 110 by decide) (Nat.pow_le_pow_right (by decide) (by decide))))
theorem idxW_len {e : Str × Int} (h1 : NmOk e.1) (h2 : Sm e.2) : (idxW e).length ≤ 60 := by
  have l := int_len h2
  have n := h1.1
  have p : ("+" : Str).length = 1 := by decide +kernel
  unfold idxW
  split
  · omega
  · split
    · omega
    · split
      · rw [Str.length_append, Str.length_append]; omega
      · rw [Str.length_append]; omega
theorem sum_len : ∀ ix : List (Str × Int), (∀ e ∈ ix, NmOk e.1 ∧ Sm e.2) → ((ix.map idxW).map (·.length)).sum ≤ 60 * ix.length
  | [], _ => by simp
  | e :: r, h => by
    have := sum_len r fun e he => h e (.tail _ he)
    have := idxW_len (h e (.head _)).1 (h e (.head _)).2
    simp only [List.map_cons, List.sum_cons, List.length_cons]
    omega
/-! ### trees with their weight and depth -/
/-! ### good texts -/
abbrev abc : Str := "abcdefghijklmnopqrstuvwxyz"
theorem abc_len : abc.cps.toList.length = 26 := by decide +kernel
theorem abc_len' : abc.length = 26 := by decide +kernel
theorem ok_iff {x : Str} : PyData.strOk x = true ↔ ∀ c ∈ x.cps.toList, c < 0x110000 := by
  unfold PyData.strOk
  rw [← Array.all_toList, List.all_eq_true]
  simp
/-! ### indexes -/
theorem ix_depth {ix : List (Str × Int)} : PyData.depth (encIx ix) ≤ 2 := by
  have h : ∀ l : List (Str × Int), PyData.depthAll (l.map encI) ≤ 1 := by
    intro l
    induction l with
    | nil => simp [PyData.depthAll]
    | cons e r ih => simp [encI, PyData.depthAll, PyData.depth] at *; omega
  have := h ix
  simp only [encIx, PyData.depth]
  omega
theorem ix_cnt {ix : List (Str × Int)} : cnt (encIx ix) ≤ 1 + 3 * ix.length := by
  have h : ∀ l : List (Str × Int), cntAll (l.map encI) ≤ 3 * l.length := by
    intro l
    induction l with
    | nil => simp [cntAll]
    | cons e r ih => simp only [encI, cntAll, cnt, List.map_cons, List.length_cons] at *; omega
  have := h ix
  simp only [encIx, cnt]
  omega
/-! ### how many pairs -/
/-! ### what a tree's tuple holds -/
section
variable {G : Hp} {v : V}
theorem inv_ix {e : Str × Int} (h : Rep G v (encI e)) : ∃ p, v = .ref p ∧ G p = some (.tup [.str e.1, .int e.2]) := by
  obtain ⟨p, xs, rfl, q, r⟩ := rep_tup (show Rep G v (.tuple [.str e.1, .int e.2]) from h)
  obtain ⟨a, r1, rfl, ha, r⟩ := reps_cons r
  obtain ⟨b, r2, rfl, hb, r⟩ := reps_cons r
  cases reps_nil r
  cases rep_str ha
  cases rep_int hb
  exact ⟨p, rfl, q⟩
end
end My

/-! Mathematics of texts of moves (k84): words between blanks, figures, rows that are read and rows that are not. -/
set_option linter.all false
set_option maxRecDepth 100000
namespace M84
open PySem PySem.NumText
/-- a text's signs -/
abbrev sg (x : Str) : List Nat := x.cps.toList
theorem sg_inj {x y : Str} (h : sg x = sg y) : x = y := Str.ext' (Array.toList_inj.mp h)
theorem sg_app (x y : Str) : sg (x ++ y) = sg x ++ sg y := PySem.W.KT.app_list x y
theorem sg_len (x : Str) : (sg x).length = x.length := by simp [sg, Str.length]
/-- the parts between the signs c -/
def spl (c : Nat) : List Nat → List (List Nat)
  | [] => [[]]
  | a :: r => if a = c then [] :: spl c r else match spl c r with
    | [] => [[a]]
    | h :: t => (a :: h) :: t
theorem spl_free {c : Nat} : ∀ {l : List Nat}, c ∉ l → spl c l = [l]
  | [], _ => rfl
  | a :: r, h => by
    have h1 : a ≠ c := fun e => h (e ▸ .head _)
    rw [spl, if_neg h1, spl_free fun m => h (.tail _ m)]
theorem spl_ne (c : Nat) : ∀ l : List Nat, spl c l ≠ []
  | [] => by simp [spl]
  | a :: r => by
    rw [spl]
    split
    · simp
    · split <;> simp
theorem spl_app (c : Nat) (r : List Nat) : ∀ p : List Nat, spl c (p ++ c :: r) = spl c p ++ spl c r
  | [] => by simp [spl]
  | a :: p => by
    have ih := spl_app c r p
    rw [List.cons_append, spl, spl]
    by_cases e : a = c
    · rw [if_pos e, if_pos e, ih, List.cons_append]
    · rw [if_neg e, if_neg e, ih]
      cases q : spl c p with
      | nil => exact absurd q (spl_ne c p)
      | cons h t => rfl
/-- parts with the sign c between them -/
def jn (c : Nat) : List (List Nat) → List Nat
  | [] => []
  | [p] => p
  | p :: q :: r => p ++ c :: jn c (q :: r)
theorem spl_jn {c : Nat} : ∀ {ps : List (List Nat)}, ps ≠ [] → (∀ p ∈ ps, c ∉ p) → spl c (jn c ps) = ps
  | [], h, _ => absurd rfl h
  | [p], _, h => spl_free (h p (.head _))
  | p :: q :: r, _, h => by
    rw [jn, spl_app, spl_free (h p (.head _)), spl_jn (by simp) fun x hx => h x (.tail _ hx)]
    rfl
theorem mem_jn {c x : Nat} : ∀ {ps : List (List Nat)}, x ∈ jn c ps → x = c ∨ ∃ p ∈ ps, x ∈ p
  | [], h => by cases h
  | [p], h => .inr ⟨p, .head _, h⟩
  | p :: q :: r, h => by
    rw [jn] at h
    rcases List.mem_append.mp h with h | h
    · exact .inr ⟨p, .head _, h⟩
    · rcases List.mem_cons.mp h with h | h
      · exact .inl h
      · rcases mem_jn h with h | ⟨y, hy, hx⟩
        · exact .inl h
        · exact .inr ⟨y, .tail _ hy, hx⟩
theorem sg_join (c : Nat) : ∀ ps : List Str, sg (Str.join ⟨#[c]⟩ ps) = jn c (ps.map sg)
  | [] => rfl
  | [p] => rfl
  | p :: q :: r => by
    show sg (p ++ ⟨#[c]⟩ ++ Str.join ⟨#[c]⟩ (q :: r)) = _
    rw [sg_app, sg_app, sg_join c (q :: r)]
    show (sg p ++ [c]) ++ jn c ((q :: r).map sg) = sg p ++ c :: jn c ((q :: r).map sg)
    simp
theorem sg_txtjoin (c : Nat) (ps : List Str) : sg (Txt.join ⟨#[c]⟩ ps) = jn c (ps.map sg) := by
  show sg (Builtin.Str.glued ⟨#[c]⟩ ps) = _
  rw [StrLaws.glued_eq_join, sg_join]
theorem split_ne (x : Str) (c : Nat) : Txt.split x ⟨#[c]⟩ ≠ [] := by
  unfold Txt.split
  split
  · simp
  · split
    · simp
    · rw [StrLaws.partsBetween_eq]
      cases Builtin.Str.occurrences x ⟨#[c]⟩ 0 x.length (x.length + 1) <;> simp [StrLaws.partsFrom]
theorem split_eq (x : Str) (c : Nat) : (Txt.split x ⟨#[c]⟩).map sg = spl c (sg x) := by
  have h1 := sg_join c (Txt.split x ⟨#[c]⟩)
  rw [StrLaws.join_split] at h1
  rw [h1, spl_jn]
  · intro e
    exact split_ne x c (List.map_eq_nil_iff.mp e)
  · intro p hp
    obtain ⟨q, hq, rfl⟩ := List.mem_map.mp hp
    exact StrLaws.split_free x c q hq
/-! ### figures -/
structure Nat30 (u : List Nat) : Prop where
  l1 : 1 ≤ u.length
  l2 : u.length ≤ 30
  dg : ∀ c ∈ u, 48 ≤ c ∧ c ≤ 57
  z : u.head? = some 48 → u.length = 1
def figs (n : Nat) : List Nat := (Nat.toDigits 10 n).map Char.toNat
theorem sg_nat (n : Nat) : sg (Str.ofString (toString (n : Int))) = figs n := PySem.W.KIN.signs_num n
theorem figs_val (n : Nat) : digitsVal (figs n) = n := PySem.W.KIN.val_back n
theorem digitC : ∀ d : Nat, d < 10 → (Nat.digitChar d).toNat = 48 + d := by decide
theorem figs_lt {n : Nat} (h : n < 10) : figs n = [48 + n] := by
  unfold figs
  rw [Nat.toDigits_of_lt_base h]
  simp [digitC n h]
theorem figs_ge {n : Nat} (h : 10 ≤ n) : figs n = figs (n / 10) ++ [48 + n % 10] := by
  have hm : n % 10 < 10 := Nat.mod_lt n (by decide)
  have t : Nat.toDigits 10 (n / 10) ++ Nat.toDigits 10 (n % 10) = Nat.toDigits 10 (10 * (n / 10) + n % 10) := Nat.toDigits_append_toDigits (by decide) (by omega) hm
  rw [Nat.div_add_mod] at t
  show (Nat.toDigits 10 n).map Char.toNat = _
  rw [← t, List.map_append]
  show figs (n / 10) ++ figs (n % 10) = _
  rw [figs_lt hm]
theorem figs_dg (n : Nat) : ∀ c ∈ figs n, 48 ≤ c ∧ c ≤ 57 := by
  induction n using Nat.strongRecOn with
  | _ n ih =>
    intro c hc
    by_cases h : n < 10
    · rw [figs_lt h] at hc
      rw [List.mem_singleton.mp hc]; omega
    · rw [figs_ge (by omega)] at hc
      rcases List.mem_append.mp hc with hc | hc
      · exact ih (n / 10) (by omega) c hc
      · rw [List.mem_singleton.mp hc]; omega
theorem figs_pos (n : Nat) : 1 ≤ (figs n).length := by
  by_cases h : n < 10
  · rw [figs_lt h]; simp
  · rw [figs_ge (by omega)]; simp
theorem figs_len {k : Nat} : ∀ {n : Nat}, 1 ≤ k → n < 10 ^ k → (figs n).length ≤ k := by
  induction k with
  | zero => intro n h; omega
  | succ k ih =>
    intro n _ hn
    by_cases h : n < 10
    · rw [figs_lt h]; simp
    · rw [figs_ge (by omega), List.length_append]
      have h2 : n / 10 < 10 ^ k := by
        rw [Nat.pow_succ] at hn
        exact Nat.div_lt_of_lt_mul (by omega)
      have : 1 ≤ k := by
        cases k with
        | zero => simp at hn; omega
        | succ k => omega
      have := ih this h2
      simp; omega
theorem figs_head (n : Nat) : (figs n).head? = some 48 → n = 0 := by
  induction n using Nat.strongRecOn with
  | _ n ih =>
    intro hc
    by_cases h : n < 10
    · rw [figs_lt h] at hc
      simp at hc; omega
    · rw [figs_ge (by omega)] at hc
      have hp := figs_pos (n / 10)
      cases q : figs (n / 10) with
      | nil => rw [q] at hp; simp at hp
      | cons a r =>
        rw [q] at hc
        have := ih (n / 10) (by omega) (by rw [q]; exact hc)
        omega
theorem figs_ok {n : Nat} (h : n < 10 ^ 30) : Nat30 (figs n) := ⟨figs_pos n, figs_len (by decide) h, figs_dg n, fun e => by
  rw [figs_head n e]; decide⟩
theorem int_of {x : Str} (h : Nat30 (sg x)) : PySem.intText? x = some ((digitsVal (sg x) : Nat) : Int) :=
  intText_digits h.dg (fun e => by have := h.l1; rw [show sg x = [] from e] at this; simp at this) (by rw [← sg_len]; have := h.l2; omega)
/-! ### rows of moves -/
section
variable {w : List Nat} {ns : List Nat}
end
end M84

/-! Mathematics of the texts of programs (k81, k83): names, numbers, indexes, reads as signs. -/
set_option Elab.async false
set_option linter.all false
set_option maxRecDepth 100000
set_option maxHeartbeats 4000000
namespace My
open PySem L2 M84
def tx (l : List Nat) : Str := ⟨l.toArray⟩
theorem sg_tx (l : List Nat) : sg (tx l) = l := by simp [sg, tx]
theorem tx_sg (x : Str) : tx (sg x) = x := by simp [sg, tx]
theorem eq_tx {x : Str} {l : List Nat} (h : sg x = l) : x = tx l := by rw [← h, tx_sg]
structure Ltr (x : Str) : Prop where
  ne : sg x ≠ []
  dg : ∀ c ∈ sg x, 97 ≤ c ∧ c ≤ 122
  ln : x.length ≤ 20
def B30 (z : Int) : Prop := z.natAbs < 10 ^ 30
def zsg (z : Int) : List Nat := if z < 0 then 45 :: figs z.natAbs else figs z.natAbs
theorem sg_ofS (a b : String) : sg (Str.ofString (a ++ b)) = sg (Str.ofString a) ++ sg (Str.ofString b) := by
  show (Str.ofString (a ++ b)).cps.toList = _
  rw [PyProof.Rows.signs_ofString, String.toList_append, List.map_append]
  show _ = (Str.ofString a).cps.toList ++ (Str.ofString b).cps.toList
  rw [PyProof.Rows.signs_ofString, PyProof.Rows.signs_ofString]
theorem sg_int : ∀ z : Int, sg (Str.ofString (toString z)) = zsg z
  | .ofNat n => by
    have := sg_nat n
    show sg (Str.ofString (toString ((n : Nat) : Int))) = _
    rw [this]
    unfold zsg
    rw [if_neg (by simp)]
    rfl
  | .negSucc m => by
    have e : toString (Int.negSucc m) = "-" ++ toString (((m + 1 : Nat)) : Int) := rfl
    have h1 : sg (Str.ofString "-") = [45] := by decide +kernel
    rw [e, sg_ofS, h1, sg_nat]
    unfold zsg
    rw [if_pos (Int.negSucc_lt_zero m)]
    rfl
theorem part_eq {x : Str} {c : Nat} {p r : List Nat} (h : sg x = p ++ c :: r) (hp : c ∉ p) : Txt.partition x ⟨#[c]⟩ = (tx p, ⟨#[c]⟩, tx r) := by
  have hat : (sg x)[p.length]? = some c := by rw [h, List.getElem?_append_right (Nat.le_refl _), Nat.sub_self]; rfl
  rcases PyProof.Rows.partition_whole x ⟨#[c]⟩ with ⟨_, hn⟩ | ⟨i, e, hi, hn⟩
  · exact absurd ((StrLaws.subAt_one x c p.length).mpr hat) (hn p.length)
  · have hi' : (sg x)[i]? = some c := (StrLaws.subAt_one x c i).mp hi
    have : i = p.length := by
      rcases Nat.lt_trichotomy i p.length with z | z | z
      · rw [h, List.getElem?_append_left z] at hi'
        exact absurd (List.mem_of_getElem? hi') hp
      · exact z
      · exact absurd ((StrLaws.subAt_one x c p.length).mpr hat) (hn _ z)
    subst this
    rw [e]
    have e1 : Builtin.Str.strSub x 0 p.length = tx p := by
      refine eq_tx ?_
      show (x.cps.extract 0 p.length).toList = p
      rw [Array.toList_extract]
      show ((sg x).extract 0 p.length) = p
      rw [h]
      simp [List.extract]
    have e2 : Builtin.Str.strSub x (p.length + (⟨#[c]⟩ : Str).length) x.length = tx r := by
      refine eq_tx ?_
      show (x.cps.extract (p.length + 1) x.length).toList = r
      rw [Array.toList_extract]
      have hl := sg_len x
      show ((sg x).extract (p.length + 1) x.length) = r
      rw [← hl, h]
      have : (p ++ c :: r).drop (p.length + 1) = r := by rw [show p ++ c :: r = (p ++ [c]) ++ r by simp, List.drop_append_of_le_length (by simp), show p.length + 1 = (p ++ [c]).length by simp, List.drop_length]; rfl
      unfold List.extract
      rw [this]
      exact List.take_of_length_le (by simp; omega)
    rw [e1, e2]
theorem starts_c (x : Str) (c : Nat) : Txt.startswith x ⟨#[c]⟩ = decide ((sg x).head? = some c) := by
  rw [Bool.eq_iff_iff, decide_eq_true_eq, List.head?_eq_getElem?, ← StrLaws.subAt_one]
  unfold Txt.startswith
  rw [Bool.and_eq_true, decide_eq_true_eq]
theorem ends_c {x : Str} {c : Nat} {p : List Nat} (h : sg x = p ++ [c]) : Txt.endswith x ⟨#[c]⟩ = true := by
  have hl : x.length = p.length + 1 := by rw [← sg_len, h]; simp
  have hat : (sg x)[p.length]? = some c := by rw [h, List.getElem?_append_right (Nat.le_refl _), Nat.sub_self]; rfl
  have := (StrLaws.subAt_one x c p.length).mpr hat
  unfold Txt.endswith
  rw [Bool.and_eq_true, decide_eq_true_eq]
  refine ⟨by show 0 + 1 ≤ x.length; omega, ?_⟩
  rw [show x.length - (⟨#[c]⟩ : Str).length = p.length by show x.length - 1 = _; omega]
  exact this.2
theorem sl_to {x : Str} {n : Nat} (h : n ≤ x.length) : sg (Txt.slice x none (some (n : Int))) = (sg x).take n := by
  have e := beq_iff_eq.mp (PyProof.Rows.slice_closes_to (x := x) (j := (n : Int)) ⟨by omega, by have := sg_len x; show (n : Int) ≤ ((sg x).length : Nat); omega⟩)
  rw [e]
  simp [sg]
theorem sl_from {x : Str} {n : Nat} (h : n ≤ x.length) : sg (Txt.slice x (some (n : Int)) none) = (sg x).drop n := by
  have e := PyProof.Rows.slice_from_eq (x := x) (i := (n : Int)) (b := (x.length : Nat)) (by omega) (by omega) rfl
  rw [e]
  have hl := sg_len x
  show List.take _ (List.drop _ (sg x)) = _
  rw [show ((n : Int)).toNat = n by omega]
  exact List.take_of_length_le (by rw [List.length_drop]; omega)
theorem sl_last {x : Str} (h : 1 ≤ x.length) : sg (Txt.slice x none (some (-1 : Int))) = (sg x).dropLast := by
  have e := beq_iff_eq.mp (PyProof.Rows.slice_closes_to_neg (x := x) (j := -1) (k := -1 + x.length) (by decide) (by omega) rfl)
  rw [e, List.dropLast_eq_take]
  have hl := sg_len x
  show List.take _ (List.drop _ (sg x)) = _
  rw [show ((-1 + (x.length : Int)) - 0).toNat = (sg x).length - 1 by omega]
  rfl
/-! ### numbers -/
theorem figs_ne (n : Nat) : figs n ≠ [] := fun e => by have := figs_pos n; rw [e] at this; simp at this
theorem nat_ok {n : Nat} (h : n < 10 ^ 30) : Nat30 (sg (Str.ofString (toString (n : Int)))) := by rw [sg_nat]; exact figs_ok h
theorem int_lenB {z : Int} (h : B30 z) : (Str.ofString (toString z)).length ≤ 31 := by
  rw [← sg_len, sg_int]
  have := (figs_ok h).l2
  unfold zsg
  split
  · simp; omega
  · omega
theorem head_fig (n : Nat) : ∃ c r, figs n = c :: r ∧ 48 ≤ c ∧ c ≤ 57 := by
  cases e : figs n with
  | nil => exact absurd e (figs_ne n)
  | cons c r => exact ⟨c, r, rfl, figs_dg n c (by rw [e]; exact .head _)⟩
/-- a number's first sign -/
theorem zsg_head (z : Int) : ∃ c r, zsg z = c :: r ∧ (c = 45 ∧ z < 0 ∨ (48 ≤ c ∧ c ≤ 57) ∧ 0 ≤ z) := by
  unfold zsg
  split
  · exact ⟨_, _, rfl, .inl ⟨rfl, by assumption⟩⟩
  · obtain ⟨c, r, e, h⟩ := head_fig z.natAbs
    exact ⟨c, r, e, .inr ⟨h, by omega⟩⟩
theorem zsg_dg (z : Int) : ∀ c ∈ zsg z, c = 45 ∨ (48 ≤ c ∧ c ≤ 57) := by
  unfold zsg
  split
  · intro c hc
    rcases List.mem_cons.mp hc with h | h
    · exact .inl h
    · exact .inr (figs_dg _ c h)
  · exact fun c hc => .inr (figs_dg _ c hc)
/-! ### indexes -/
def IxOk (e : Str × Int) : Prop := (e.1 = "" ∨ Ltr e.1) ∧ B30 e.2
theorem e_plus : ("+" : Str) = ⟨#[43]⟩ := by decide +kernel
theorem e_minus : ("-" : Str) = ⟨#[45]⟩ := by decide +kernel
theorem e_open : ("[" : Str) = ⟨#[91]⟩ := by decide +kernel
theorem e_close : ("]" : Str) = ⟨#[93]⟩ := by decide +kernel
theorem e_comma : ("," : Str) = ⟨#[44]⟩ := by decide +kernel
theorem e_blank : (" " : Str) = ⟨#[32]⟩ := by decide +kernel
theorem e_row : ("\n" : Str) = ⟨#[10]⟩ := by decide +kernel
theorem e_zero : ("0" : Str) = ⟨#[48]⟩ := by decide +kernel
def ixS (e : Str × Int) : List Nat := if e.1 = "" then zsg e.2 else if e.2 = 0 then sg e.1 else if 0 < e.2 then sg e.1 ++ 43 :: figs e.2.natAbs else sg e.1 ++ 45 :: figs e.2.natAbs
theorem sg_idx (e : Str × Int) : sg (idxW e) = ixS e := by
  unfold idxW ixS
  split
  · exact sg_int _
  · split
    · rfl
    · split
      · rw [sg_app, sg_app, sg_int, e_plus]
        unfold zsg
        rw [if_neg (by omega)]
        simp [sg]
      · rw [sg_app, sg_int]
        unfold zsg
        rw [if_pos (by omega)]
/-- signs of indexes: letters, figures, + and - -/
def IxC (c : Nat) : Prop := (97 ≤ c ∧ c ≤ 122) ∨ (48 ≤ c ∧ c ≤ 57) ∨ c = 43 ∨ c = 45
theorem ixS_sgn {e : Str × Int} (h : IxOk e) : ∀ c ∈ ixS e, IxC c := by
  have hd : e.1 ≠ "" → ∀ c ∈ sg e.1, IxC c := fun n c hc => .inl ((h.1.resolve_left n).dg c hc)
  intro c hc
  unfold ixS at hc
  split at hc
  · rcases zsg_dg _ c hc with z | z
    · exact .inr (.inr (.inr z))
    · exact .inr (.inl z)
  · rename_i n
    split at hc
    · exact hd n c hc
    · split at hc
      · rcases List.mem_append.mp hc with z | z
        · exact hd n c z
        · rcases List.mem_cons.mp z with z | z
          · exact .inr (.inr (.inl z))
          · exact .inr (.inl (figs_dg _ c z))
      · rcases List.mem_append.mp hc with z | z
        · exact hd n c z
        · rcases List.mem_cons.mp z with z | z
          · exact .inr (.inr (.inr z))
          · exact .inr (.inl (figs_dg _ c z))
theorem ixS_ne {e : Str × Int} (h : IxOk e) : ixS e ≠ [] := by
  unfold ixS
  split
  · obtain ⟨c, r, e, _⟩ := zsg_head e.2
    rw [e]; simp
  · split
    · rename_i n _
      exact (h.1.resolve_left n).ne
    · split <;> simp
theorem ltr_no {x : Str} (h : Ltr x) {c : Nat} (hc : c < 97) : c ∉ sg x := fun m => by have := h.dg c m; omega
theorem figs_no {n c : Nat} (hc : c < 48 ∨ 57 < c) : c ∉ figs n := fun m => by have := figs_dg n c m; omega
theorem idx_len {e : Str × Int} (h : IxOk e) : (idxW e).length ≤ 60 := by
  rw [← sg_len, sg_idx]
  have h2 := (figs_ok h.2).l2
  unfold ixS
  split
  · unfold zsg
    split
    · simp; omega
    · omega
  · rename_i n
    have l := (h.1.resolve_left n).ln
    rw [← sg_len] at l
    split
    · omega
    · split <;> (rw [List.length_append, List.length_cons]; omega)
/-! ### reads -/
theorem sg_ins (ix : List (Str × Int)) : sg (insW ix) = jn 44 (ix.map ixS) := by
  unfold insW
  rw [e_comma, sg_txtjoin, List.map_map]
  congr 1
  exact List.map_congr_left fun e _ => sg_idx e
theorem ins_sgn {ix : List (Str × Int)} (h : ∀ e ∈ ix, IxOk e) : ∀ c ∈ sg (insW ix), c = 44 ∨ IxC c := by
  intro c hc
  rw [sg_ins] at hc
  rcases mem_jn hc with z | ⟨p, hp, z⟩
  · exact .inl z
  · obtain ⟨e, he, rfl⟩ := List.mem_map.mp hp
    exact .inr (ixS_sgn (h e he) c z)
theorem ins_split {ix : List (Str × Int)} (h : ∀ e ∈ ix, IxOk e) (ne : ix ≠ []) : Txt.split (insW ix) "," = ix.map idxW := by
  have inj : ∀ {l m : List Str}, l.map sg = m.map sg → l = m := by
    intro l
    induction l with
    | nil => intro m e; cases m with
      | nil => rfl
      | cons a r => cases e
    | cons a l ih => intro m e; cases m with
      | nil => cases e
      | cons b r =>
        rw [List.map_cons, List.map_cons] at e
        injection e with e1 e2
        rw [sg_inj e1, ih e2]
  refine inj ?_
  rw [e_comma, split_eq, sg_ins, spl_jn (by simpa using ne), List.map_map]
  · exact List.map_congr_left fun e _ => (sg_idx e).symm
  · intro p hp z
    obtain ⟨e, he, rfl⟩ := List.mem_map.mp hp
    rcases ixS_sgn (h e he) _ z with z | z | z | z <;> omega
theorem ins_nil {ix : List (Str × Int)} (h : ∀ e ∈ ix, IxOk e) : insW ix = "" ↔ ix = [] := by
  constructor
  · intro e
    cases ix with
    | nil => rfl
    | cons a r =>
      exfalso
      have h1 : sg (insW (a :: r)) = [] := by rw [e]; decide +kernel
      rw [sg_ins] at h1
      have h2 := ixS_ne (h a (.head _))
      cases r with
      | nil => exact h2 h1
      | cons b r =>
        rw [List.map_cons, List.map_cons, jn] at h1
        exact h2 (List.append_eq_nil_iff.mp h1).1
  · rintro rfl
    rfl
end My

set_option Elab.async false
set_option linter.all false
set_option maxRecDepth 100000
set_option maxHeartbeats 4000000
namespace My
open PySem L2 M84
def top (i : Nat) : Stmt := PySem.Challenge.pw_arrayloom_k83_programs_shown.main.body.getD i (.Pass ⟨0, 0, 0, 0⟩)
abbrev s_copied : Stmt := top 5
abbrev s_Let_init : Stmt := inClass (top 8) 0
abbrev s_Program_init : Stmt := inClass (top 9) 0
abbrev s_Number_init : Stmt := inClass (top 12) 0
abbrev s_Number_words : Stmt := inClass (top 12) 3
abbrev s_Place_init : Stmt := inClass (top 13) 0
abbrev s_Place_words : Stmt := inClass (top 13) 3
abbrev s_Read_init : Stmt := inClass (top 14) 0
abbrev s_Read_words : Stmt := inClass (top 14) 4
abbrev s_index_word : Stmt := top 15
abbrev s_Pair_init : Stmt := inClass (top 16) 0
abbrev s_Pair_words : Stmt := inClass (top 16) 3
abbrev s_Plus_sign : Stmt := inClass (top 17) 1
abbrev s_Minus_sign : Stmt := inClass (top 18) 1
abbrev s_Times_sign : Stmt := inClass (top 19) 1
abbrev s_Sum_init : Stmt := inClass (top 20) 0
abbrev s_Sum_words : Stmt := inClass (top 20) 3
abbrev s_Guard_init : Stmt := inClass (top 21) 0
abbrev s_Guard_words : Stmt := inClass (top 21) 6
abbrev s_is_of_letters : Stmt := top 23
abbrev s_read_program : Stmt := top 30
abbrev s_by_sorts : Stmt := top 31
abbrev s_read_wheel : Stmt := top 32
abbrev s_read_axis : Stmt := top 33
abbrev s_read_table : Stmt := top 34
abbrev s_read_let : Stmt := top 35
abbrev s_read_out : Stmt := top 36
abbrev s_look_number_of : Stmt := top 37
abbrev s_read_names : Stmt := top 38
abbrev s_read_name : Stmt := top 39
abbrev s_read_number : Stmt := top 40
abbrev s_read_counting : Stmt := top 41
abbrev s_read_natural : Stmt := top 42
abbrev s_is_figure : Stmt := top 43
abbrev s_WordRow_init : Stmt := inClass (top 44) 0
abbrev s_WordRow_next_word : Stmt := inClass (top 44) 1
abbrev s_read_term : Stmt := top 45
abbrev s_next_term : Stmt := top 46
abbrev s_next_pair : Stmt := top 47
abbrev s_next_guard : Stmt := top 48
abbrev s_read_leaf : Stmt := top 49
abbrev s_begins_number : Stmt := top 50
abbrev s_read_read : Stmt := top 51
abbrev s_read_index : Stmt := top 52
abbrev s_program_text : Stmt := top 53
abbrev s_l_cell_at : Stmt := top 55
abbrev s_l_mixed : Stmt := top 56
abbrev s_l_name_by : Stmt := top 57
abbrev s_l_any_by : Stmt := top 58
abbrev s_l_number_by : Stmt := top 59
abbrev s_l_long : Stmt := top 60
abbrev s_l_read_by : Stmt := top 61
abbrev s_l_words_by : Stmt := top 62
abbrev s_l_names_by : Stmt := top 63
abbrev s_l_program_by : Stmt := top 64
abbrev s_l_rows : Stmt := top 65
abbrev s_l_index : Stmt := top 66
abbrev s_l_read : Stmt := top 67
abbrev s_l_term : Stmt := top 68
abbrev s_law : Stmt := top 69
/-- what isinstance asks of an own class -/
structure TyC (K : PySem.W.Frag) (C : Addr) : Prop where
  ha : PySem.W.findIn K (.ref C) "__class__" = some (some (.builtin "object.__class__"))
  hn : PySem.W.specialIn K (.builtin "object.__class__") "__get__" = some (some (.builtin "getset_descriptor.__get__"))
  htk : PySem.W.takesIn K (.builtin "object.__class__") = some true
  hm : PySem.W.mroIn K C (.type "object") = some true
structure Adr where
  C_LoomError : Addr
  C_NoText : Addr
  C_Let : Addr
  C_Program : Addr
  C_Term : Addr
  C_Number : Addr
  C_Place : Addr
  C_Read : Addr
  C_Pair : Addr
  C_Plus : Addr
  C_Minus : Addr
  C_Times : Addr
  C_Sum : Addr
  C_Guard : Addr
  C_WordRow : Addr
  p_SORTS : Addr
  f_copied : Addr
  d_copied : FuncData
  f_Let_init : Addr
  d_Let_init : FuncData
  f_Program_init : Addr
  d_Program_init : FuncData
  f_Number_init : Addr
  d_Number_init : FuncData
  f_Number_words : Addr
  d_Number_words : FuncData
  f_Place_init : Addr
  d_Place_init : FuncData
  f_Place_words : Addr
  d_Place_words : FuncData
  f_Read_init : Addr
  d_Read_init : FuncData
  f_Read_words : Addr
  d_Read_words : FuncData
  f_index_word : Addr
  d_index_word : FuncData
  f_Pair_init : Addr
  d_Pair_init : FuncData
  f_Pair_words : Addr
  d_Pair_words : FuncData
  f_Plus_sign : Addr
  d_Plus_sign : FuncData
  f_Minus_sign : Addr
  d_Minus_sign : FuncData
  f_Times_sign : Addr
  d_Times_sign : FuncData
  f_Sum_init : Addr
  d_Sum_init : FuncData
  f_Sum_words : Addr
  d_Sum_words : FuncData
  f_Guard_init : Addr
  d_Guard_init : FuncData
  f_Guard_words : Addr
  d_Guard_words : FuncData
  f_is_of_letters : Addr
  d_is_of_letters : FuncData
  f_read_program : Addr
  d_read_program : FuncData
  f_by_sorts : Addr
  d_by_sorts : FuncData
  f_read_wheel : Addr
  d_read_wheel : FuncData
  f_read_axis : Addr
  d_read_axis : FuncData
  f_read_table : Addr
  d_read_table : FuncData
  f_read_let : Addr
  d_read_let : FuncData
  f_read_out : Addr
  d_read_out : FuncData
  f_look_number_of : Addr
  d_look_number_of : FuncData
  f_read_names : Addr
  d_read_names : FuncData
  f_read_name : Addr
  d_read_name : FuncData
  f_read_number : Addr
  d_read_number : FuncData
  f_read_counting : Addr
  d_read_counting : FuncData
  f_read_natural : Addr
  d_read_natural : FuncData
  f_is_figure : Addr
  d_is_figure : FuncData
  f_WordRow_init : Addr
  d_WordRow_init : FuncData
  f_WordRow_next_word : Addr
  d_WordRow_next_word : FuncData
  f_read_term : Addr
  d_read_term : FuncData
  f_next_term : Addr
  d_next_term : FuncData
  f_next_pair : Addr
  d_next_pair : FuncData
  f_next_guard : Addr
  d_next_guard : FuncData
  f_read_leaf : Addr
  d_read_leaf : FuncData
  f_begins_number : Addr
  d_begins_number : FuncData
  f_read_read : Addr
  d_read_read : FuncData
  f_read_index : Addr
  d_read_index : FuncData
  f_program_text : Addr
  d_program_text : FuncData
  f_l_cell_at : Addr
  d_l_cell_at : FuncData
  f_l_mixed : Addr
  d_l_mixed : FuncData
  f_l_name_by : Addr
  d_l_name_by : FuncData
  f_l_any_by : Addr
  d_l_any_by : FuncData
  f_l_number_by : Addr
  d_l_number_by : FuncData
  f_l_long : Addr
  d_l_long : FuncData
  f_l_read_by : Addr
  d_l_read_by : FuncData
  f_l_words_by : Addr
  d_l_words_by : FuncData
  f_l_names_by : Addr
  d_l_names_by : FuncData
  f_l_program_by : Addr
  d_l_program_by : FuncData
  f_l_rows : Addr
  d_l_rows : FuncData
  f_l_index : Addr
  d_l_index : FuncData
  f_l_read : Addr
  d_l_read : FuncData
  f_l_term : Addr
  d_l_term : FuncData
  f_law : Addr
  d_law : FuncData
structure Txt (K : PySem.W.Frag) (mg : Str → Option Value) (t : Adr) : Prop where
  F_copied : Fun K "copied" "copied" s_copied t.f_copied t.d_copied
  m_copied : mg "copied" = some (.ref t.f_copied)
  b_copied : Binds K t.d_copied ["value"] []
  F_Let_init : Fun K "__init__" "Let.__init__" s_Let_init t.f_Let_init t.d_Let_init
  b_Let_init : Binds K t.d_Let_init ["self", "name", "axes", "term"] []
  F_Program_init : Fun K "__init__" "Program.__init__" s_Program_init t.f_Program_init t.d_Program_init
  b_Program_init : Binds K t.d_Program_init ["self", "wheel", "axes", "tables", "lets", "outs"] []
  F_Number_init : Fun K "__init__" "Number.__init__" s_Number_init t.f_Number_init t.d_Number_init
  b_Number_init : Binds K t.d_Number_init ["self", "number"] []
  F_Number_words : Fun K "words" "Number.words" s_Number_words t.f_Number_words t.d_Number_words
  b_Number_words : Binds K t.d_Number_words ["self"] []
  F_Place_init : Fun K "__init__" "Place.__init__" s_Place_init t.f_Place_init t.d_Place_init
  b_Place_init : Binds K t.d_Place_init ["self", "axis"] []
  F_Place_words : Fun K "words" "Place.words" s_Place_words t.f_Place_words t.d_Place_words
  b_Place_words : Binds K t.d_Place_words ["self"] []
  F_Read_init : Fun K "__init__" "Read.__init__" s_Read_init t.f_Read_init t.d_Read_init
  b_Read_init : Binds K t.d_Read_init ["self", "array", "indexes"] []
  F_Read_words : Fun K "words" "Read.words" s_Read_words t.f_Read_words t.d_Read_words
  b_Read_words : Binds K t.d_Read_words ["self"] []
  F_index_word : Fun K "index_word" "index_word" s_index_word t.f_index_word t.d_index_word
  m_index_word : mg "index_word" = some (.ref t.f_index_word)
  b_index_word : Binds K t.d_index_word ["axis", "shift"] []
  F_Pair_init : Fun K "__init__" "Pair.__init__" s_Pair_init t.f_Pair_init t.d_Pair_init
  b_Pair_init : Binds K t.d_Pair_init ["self", "left", "right"] []
  F_Pair_words : Fun K "words" "Pair.words" s_Pair_words t.f_Pair_words t.d_Pair_words
  b_Pair_words : Binds K t.d_Pair_words ["self"] []
  F_Plus_sign : Fun K "sign" "Plus.sign" s_Plus_sign t.f_Plus_sign t.d_Plus_sign
  b_Plus_sign : Binds K t.d_Plus_sign ["self"] []
  F_Minus_sign : Fun K "sign" "Minus.sign" s_Minus_sign t.f_Minus_sign t.d_Minus_sign
  b_Minus_sign : Binds K t.d_Minus_sign ["self"] []
  F_Times_sign : Fun K "sign" "Times.sign" s_Times_sign t.f_Times_sign t.d_Times_sign
  b_Times_sign : Binds K t.d_Times_sign ["self"] []
  F_Sum_init : Fun K "__init__" "Sum.__init__" s_Sum_init t.f_Sum_init t.d_Sum_init
  b_Sum_init : Binds K t.d_Sum_init ["self", "axis", "body"] []
  F_Sum_words : Fun K "words" "Sum.words" s_Sum_words t.f_Sum_words t.d_Sum_words
  b_Sum_words : Binds K t.d_Sum_words ["self"] []
  F_Guard_init : Fun K "__init__" "Guard.__init__" s_Guard_init t.f_Guard_init t.d_Guard_init
  b_Guard_init : Binds K t.d_Guard_init ["self", "axis", "low", "high", "inner", "outer"] []
  F_Guard_words : Fun K "words" "Guard.words" s_Guard_words t.f_Guard_words t.d_Guard_words
  b_Guard_words : Binds K t.d_Guard_words ["self"] []
  F_is_of_letters : Fun K "is_of_letters" "is_of_letters" s_is_of_letters t.f_is_of_letters t.d_is_of_letters
  m_is_of_letters : mg "is_of_letters" = some (.ref t.f_is_of_letters)
  b_is_of_letters : Binds K t.d_is_of_letters ["text"] []
  F_read_program : Fun K "read_program" "read_program" s_read_program t.f_read_program t.d_read_program
  m_read_program : mg "read_program" = some (.ref t.f_read_program)
  b_read_program : Binds K t.d_read_program ["text"] []
  F_by_sorts : Fun K "by_sorts" "by_sorts" s_by_sorts t.f_by_sorts t.d_by_sorts
  m_by_sorts : mg "by_sorts" = some (.ref t.f_by_sorts)
  b_by_sorts : Binds K t.d_by_sorts ["rows"] []
  F_read_wheel : Fun K "read_wheel" "read_wheel" s_read_wheel t.f_read_wheel t.d_read_wheel
  m_read_wheel : mg "read_wheel" = some (.ref t.f_read_wheel)
  b_read_wheel : Binds K t.d_read_wheel ["words"] []
  F_read_axis : Fun K "read_axis" "read_axis" s_read_axis t.f_read_axis t.d_read_axis
  m_read_axis : mg "read_axis" = some (.ref t.f_read_axis)
  b_read_axis : Binds K t.d_read_axis ["words"] []
  F_read_table : Fun K "read_table" "read_table" s_read_table t.f_read_table t.d_read_table
  m_read_table : mg "read_table" = some (.ref t.f_read_table)
  b_read_table : Binds K t.d_read_table ["words"] []
  F_read_let : Fun K "read_let" "read_let" s_read_let t.f_read_let t.d_read_let
  m_read_let : mg "read_let" = some (.ref t.f_read_let)
  b_read_let : Binds K t.d_read_let ["words"] []
  F_read_out : Fun K "read_out" "read_out" s_read_out t.f_read_out t.d_read_out
  m_read_out : mg "read_out" = some (.ref t.f_read_out)
  b_read_out : Binds K t.d_read_out ["words"] []
  F_look_number_of : Fun K "look_number_of" "look_number_of" s_look_number_of t.f_look_number_of t.d_look_number_of
  m_look_number_of : mg "look_number_of" = some (.ref t.f_look_number_of)
  b_look_number_of : Binds K t.d_look_number_of ["words", "number"] []
  F_read_names : Fun K "read_names" "read_names" s_read_names t.f_read_names t.d_read_names
  m_read_names : mg "read_names" = some (.ref t.f_read_names)
  b_read_names : Binds K t.d_read_names ["words"] []
  F_read_name : Fun K "read_name" "read_name" s_read_name t.f_read_name t.d_read_name
  m_read_name : mg "read_name" = some (.ref t.f_read_name)
  b_read_name : Binds K t.d_read_name ["word"] []
  F_read_number : Fun K "read_number" "read_number" s_read_number t.f_read_number t.d_read_number
  m_read_number : mg "read_number" = some (.ref t.f_read_number)
  b_read_number : Binds K t.d_read_number ["word"] []
  F_read_counting : Fun K "read_counting" "read_counting" s_read_counting t.f_read_counting t.d_read_counting
  m_read_counting : mg "read_counting" = some (.ref t.f_read_counting)
  b_read_counting : Binds K t.d_read_counting ["figures"] []
  F_read_natural : Fun K "read_natural" "read_natural" s_read_natural t.f_read_natural t.d_read_natural
  m_read_natural : mg "read_natural" = some (.ref t.f_read_natural)
  b_read_natural : Binds K t.d_read_natural ["figures"] []
  F_is_figure : Fun K "is_figure" "is_figure" s_is_figure t.f_is_figure t.d_is_figure
  m_is_figure : mg "is_figure" = some (.ref t.f_is_figure)
  b_is_figure : Binds K t.d_is_figure ["sign"] []
  F_WordRow_init : Fun K "__init__" "WordRow.__init__" s_WordRow_init t.f_WordRow_init t.d_WordRow_init
  b_WordRow_init : Binds K t.d_WordRow_init ["self", "row"] []
  F_WordRow_next_word : Fun K "next_word" "WordRow.next_word" s_WordRow_next_word t.f_WordRow_next_word t.d_WordRow_next_word
  b_WordRow_next_word : Binds K t.d_WordRow_next_word ["self"] []
  F_read_term : Fun K "read_term" "read_term" s_read_term t.f_read_term t.d_read_term
  m_read_term : mg "read_term" = some (.ref t.f_read_term)
  b_read_term : Binds K t.d_read_term ["words"] []
  F_next_term : Fun K "next_term" "next_term" s_next_term t.f_next_term t.d_next_term
  m_next_term : mg "next_term" = some (.ref t.f_next_term)
  b_next_term : Binds K t.d_next_term ["row"] []
  F_next_pair : Fun K "next_pair" "next_pair" s_next_pair t.f_next_pair t.d_next_pair
  m_next_pair : mg "next_pair" = some (.ref t.f_next_pair)
  b_next_pair : Binds K t.d_next_pair ["sign", "row"] []
  F_next_guard : Fun K "next_guard" "next_guard" s_next_guard t.f_next_guard t.d_next_guard
  m_next_guard : mg "next_guard" = some (.ref t.f_next_guard)
  b_next_guard : Binds K t.d_next_guard ["row"] []
  F_read_leaf : Fun K "read_leaf" "read_leaf" s_read_leaf t.f_read_leaf t.d_read_leaf
  m_read_leaf : mg "read_leaf" = some (.ref t.f_read_leaf)
  b_read_leaf : Binds K t.d_read_leaf ["word"] []
  F_begins_number : Fun K "begins_number" "begins_number" s_begins_number t.f_begins_number t.d_begins_number
  m_begins_number : mg "begins_number" = some (.ref t.f_begins_number)
  b_begins_number : Binds K t.d_begins_number ["text"] []
  F_read_read : Fun K "read_read" "read_read" s_read_read t.f_read_read t.d_read_read
  m_read_read : mg "read_read" = some (.ref t.f_read_read)
  b_read_read : Binds K t.d_read_read ["word"] []
  F_read_index : Fun K "read_index" "read_index" s_read_index t.f_read_index t.d_read_index
  m_read_index : mg "read_index" = some (.ref t.f_read_index)
  b_read_index : Binds K t.d_read_index ["index"] []
  F_program_text : Fun K "program_text" "program_text" s_program_text t.f_program_text t.d_program_text
  m_program_text : mg "program_text" = some (.ref t.f_program_text)
  b_program_text : Binds K t.d_program_text ["program"] []
  F_l_cell_at : Fun K "_law_cell_at" "_law_cell_at" s_l_cell_at t.f_l_cell_at t.d_l_cell_at
  m_l_cell_at : mg "_law_cell_at" = some (.ref t.f_l_cell_at)
  b_l_cell_at : Binds K t.d_l_cell_at ["_law_script", "_law_k"] []
  F_l_mixed : Fun K "_law_mixed" "_law_mixed" s_l_mixed t.f_l_mixed t.d_l_mixed
  m_l_mixed : mg "_law_mixed" = some (.ref t.f_l_mixed)
  b_l_mixed : Binds K t.d_l_mixed ["_law_cell", "_law_k"] []
  F_l_name_by : Fun K "_law_name_by" "_law_name_by" s_l_name_by t.f_l_name_by t.d_l_name_by
  m_l_name_by : mg "_law_name_by" = some (.ref t.f_l_name_by)
  b_l_name_by : Binds K t.d_l_name_by ["_law_rest"] []
  F_l_any_by : Fun K "_law_any_by" "_law_any_by" s_l_any_by t.f_l_any_by t.d_l_any_by
  m_l_any_by : mg "_law_any_by" = some (.ref t.f_l_any_by)
  b_l_any_by : Binds K t.d_l_any_by ["_law_rest"] []
  F_l_number_by : Fun K "_law_number_by" "_law_number_by" s_l_number_by t.f_l_number_by t.d_l_number_by
  m_l_number_by : mg "_law_number_by" = some (.ref t.f_l_number_by)
  b_l_number_by : Binds K t.d_l_number_by ["_law_rest"] []
  F_l_long : Fun K "_law_long" "_law_long" s_l_long t.f_l_long t.d_l_long
  m_l_long : mg "_law_long" = some (.ref t.f_l_long)
  b_l_long : Binds K t.d_l_long ["_law_rest"] []
  F_l_read_by : Fun K "_law_read_by" "_law_read_by" s_l_read_by t.f_l_read_by t.d_l_read_by
  m_l_read_by : mg "_law_read_by" = some (.ref t.f_l_read_by)
  b_l_read_by : Binds K t.d_l_read_by ["_law_rest"] []
  F_l_words_by : Fun K "_law_words_by" "_law_words_by" s_l_words_by t.f_l_words_by t.d_l_words_by
  m_l_words_by : mg "_law_words_by" = some (.ref t.f_l_words_by)
  b_l_words_by : Binds K t.d_l_words_by ["_law_cells", "_law_at", "_law_room"] []
  F_l_names_by : Fun K "_law_names_by" "_law_names_by" s_l_names_by t.f_l_names_by t.d_l_names_by
  m_l_names_by : mg "_law_names_by" = some (.ref t.f_l_names_by)
  b_l_names_by : Binds K t.d_l_names_by ["_law_rest", "_law_many"] []
  F_l_program_by : Fun K "_law_program_by" "_law_program_by" s_l_program_by t.f_l_program_by t.d_l_program_by
  m_l_program_by : mg "_law_program_by" = some (.ref t.f_l_program_by)
  b_l_program_by : Binds K t.d_l_program_by ["_law_script"] []
  F_l_rows : Fun K "_law_rows" "_law_rows" s_l_rows t.f_l_rows t.d_l_rows
  m_l_rows : mg "_law_rows" = some (.ref t.f_l_rows)
  b_l_rows : Binds K t.d_l_rows ["_law_program"] []
  F_l_index : Fun K "_law_index" "_law_index" s_l_index t.f_l_index t.d_l_index
  m_l_index : mg "_law_index" = some (.ref t.f_l_index)
  b_l_index : Binds K t.d_l_index ["_law_word"] []
  F_l_read : Fun K "_law_read" "_law_read" s_l_read t.f_l_read t.d_l_read
  m_l_read : mg "_law_read" = some (.ref t.f_l_read)
  b_l_read : Binds K t.d_l_read ["_law_word"] []
  F_l_term : Fun K "_law_term" "_law_term" s_l_term t.f_l_term t.d_l_term
  m_l_term : mg "_law_term" = some (.ref t.f_l_term)
  b_l_term : Binds K t.d_l_term ["_law_words", "_law_at"] []
  F_law : Fun K "law" "law" s_law t.f_law t.d_law
  m_law : mg "law" = some (.ref t.f_law)
  b_law : Binds K t.d_law ["_law_script"] []
  cn_MOST_FIGURES : ∃ u, mg "MOST_FIGURES" = some u ∧ RelV (.int (30)) u
  cn_LEAST_WHEEL : ∃ u, mg "LEAST_WHEEL" = some u ∧ RelV (.int (2)) u
  cn_LEAST_LENGTH : ∃ u, mg "LEAST_LENGTH" = some u ∧ RelV (.int (1)) u
  cn_MOST_LENGTH : ∃ u, mg "MOST_LENGTH" = some u ∧ RelV (.int (60)) u
  cn_SORTS : ∃ u, mg "SORTS" = some u ∧ RelV (.ref t.p_SORTS) u
  tu_SORTS : ∃ (o : Obj) (its : Array Value) (n : Nat), K.lookup t.p_SORTS = some o ∧ o.cls = .type "tuple" ∧ o.data = .seq its n ∧ its.size ≤ sizeLine ∧ Vals [(.str "axis"), (.str "table"), (.str "let"), (.str "out")] its.toList
  td_SORTS : ∃ o : Obj, K.lookup t.p_SORTS = some o ∧ o.cls = .type "tuple" ∧ o.dict = none
  m_Let : mg "Let" = some (.ref t.C_Let)
  m_Program : mg "Program" = some (.ref t.C_Program)
  m_Number : mg "Number" = some (.ref t.C_Number)
  m_Place : mg "Place" = some (.ref t.C_Place)
  m_Read : mg "Read" = some (.ref t.C_Read)
  m_Plus : mg "Plus" = some (.ref t.C_Plus)
  m_Minus : mg "Minus" = some (.ref t.C_Minus)
  m_Times : mg "Times" = some (.ref t.C_Times)
  m_Sum : mg "Sum" = some (.ref t.C_Sum)
  m_Guard : mg "Guard" = some (.ref t.C_Guard)
  m_WordRow : mg "WordRow" = some (.ref t.C_WordRow)
  cl_Guard : Cls K t.C_Guard
  mk_Guard : Mk K t.C_Guard t.f_Guard_init
  na_Guard_axis : NoAttr K t.C_Guard "axis"
  na_Guard_low : NoAttr K t.C_Guard "low"
  na_Guard_high : NoAttr K t.C_Guard "high"
  na_Guard_inner : NoAttr K t.C_Guard "inner"
  na_Guard_outer : NoAttr K t.C_Guard "outer"
  me_Guard_words : Meth K t.C_Guard "words" t.f_Guard_words
  ty_Guard : TyC K t.C_Guard
  cl_Let : Cls K t.C_Let
  mk_Let : Mk K t.C_Let t.f_Let_init
  na_Let_name : NoAttr K t.C_Let "name"
  na_Let_axes : NoAttr K t.C_Let "axes"
  na_Let_term : NoAttr K t.C_Let "term"
  ty_Let : TyC K t.C_Let
  mb_Let_list : PySem.W.mroIn K t.C_Let (.type "list") = some false
  mb_Let_tuple : PySem.W.mroIn K t.C_Let (.type "tuple") = some false
  mb_Let_dict : PySem.W.mroIn K t.C_Let (.type "dict") = some false
  cl_Minus : Cls K t.C_Minus
  mk_Minus : Mk K t.C_Minus t.f_Pair_init
  na_Minus_left : NoAttr K t.C_Minus "left"
  na_Minus_right : NoAttr K t.C_Minus "right"
  me_Minus_sign : Meth K t.C_Minus "sign" t.f_Minus_sign
  me_Minus_words : Meth K t.C_Minus "words" t.f_Pair_words
  ty_Minus : TyC K t.C_Minus
  cl_Number : Cls K t.C_Number
  mk_Number : Mk K t.C_Number t.f_Number_init
  na_Number_number : NoAttr K t.C_Number "number"
  me_Number_words : Meth K t.C_Number "words" t.f_Number_words
  ty_Number : TyC K t.C_Number
  cl_Place : Cls K t.C_Place
  mk_Place : Mk K t.C_Place t.f_Place_init
  na_Place_axis : NoAttr K t.C_Place "axis"
  me_Place_words : Meth K t.C_Place "words" t.f_Place_words
  ty_Place : TyC K t.C_Place
  cl_Plus : Cls K t.C_Plus
  mk_Plus : Mk K t.C_Plus t.f_Pair_init
  na_Plus_left : NoAttr K t.C_Plus "left"
  na_Plus_right : NoAttr K t.C_Plus "right"
  me_Plus_sign : Meth K t.C_Plus "sign" t.f_Plus_sign
  me_Plus_words : Meth K t.C_Plus "words" t.f_Pair_words
  ty_Plus : TyC K t.C_Plus
  cl_Program : Cls K t.C_Program
  mk_Program : Mk K t.C_Program t.f_Program_init
  na_Program_wheel : NoAttr K t.C_Program "wheel"
  na_Program_axes : NoAttr K t.C_Program "axes"
  na_Program_tables : NoAttr K t.C_Program "tables"
  na_Program_lets : NoAttr K t.C_Program "lets"
  na_Program_outs : NoAttr K t.C_Program "outs"
  ty_Program : TyC K t.C_Program
  cl_Read : Cls K t.C_Read
  mk_Read : Mk K t.C_Read t.f_Read_init
  na_Read_array : NoAttr K t.C_Read "array"
  na_Read_indexes : NoAttr K t.C_Read "indexes"
  me_Read_words : Meth K t.C_Read "words" t.f_Read_words
  ty_Read : TyC K t.C_Read
  cl_Sum : Cls K t.C_Sum
  mk_Sum : Mk K t.C_Sum t.f_Sum_init
  na_Sum_axis : NoAttr K t.C_Sum "axis"
  na_Sum_body : NoAttr K t.C_Sum "body"
  me_Sum_words : Meth K t.C_Sum "words" t.f_Sum_words
  ty_Sum : TyC K t.C_Sum
  cl_Times : Cls K t.C_Times
  mk_Times : Mk K t.C_Times t.f_Pair_init
  na_Times_left : NoAttr K t.C_Times "left"
  na_Times_right : NoAttr K t.C_Times "right"
  me_Times_sign : Meth K t.C_Times "sign" t.f_Times_sign
  me_Times_words : Meth K t.C_Times "words" t.f_Pair_words
  ty_Times : TyC K t.C_Times
  cl_WordRow : Cls K t.C_WordRow
  mk_WordRow : Mk K t.C_WordRow t.f_WordRow_init
  na_WordRow_row : NoAttr K t.C_WordRow "row"
  na_WordRow_gone : NoAttr K t.C_WordRow "gone"
  me_WordRow_next_word : Meth K t.C_WordRow "next_word" t.f_WordRow_next_word
  ty_WordRow : TyC K t.C_WordRow
  z_isinstance : mg "isinstance" = none
  z_list : mg "list" = none
  z_tuple : mg "tuple" = none
  z_dict : mg "dict" = none
  z_str : mg "str" = none
  z_all : mg "all" = none
  z_len : mg "len" = none
  z_int : mg "int" = none
  z_range : mg "range" = none
theorem sc_copied : FnScope ["value"] ["value"] (defScope s_copied) := ⟨rfl, rfl, rfl, by decide +kernel, rfl, by decide +kernel, by decide +kernel⟩
theorem sc_Let_init : FnScope ["self", "name", "axes", "term"] ["self", "name", "axes", "term"] (defScope s_Let_init) := ⟨rfl, rfl, rfl, by decide +kernel, rfl, by decide +kernel, by decide +kernel⟩
theorem sc_Program_init : FnScope ["self", "wheel", "axes", "tables", "lets", "outs"] ["self", "wheel", "axes", "tables", "lets", "outs"] (defScope s_Program_init) := ⟨rfl, rfl, rfl, by decide +kernel, rfl, by decide +kernel, by decide +kernel⟩
theorem sc_Number_init : FnScope ["self", "number"] ["self", "number"] (defScope s_Number_init) := ⟨rfl, rfl, rfl, by decide +kernel, rfl, by decide +kernel, by decide +kernel⟩
theorem sc_Number_words : FnScope ["self"] ["self"] (defScope s_Number_words) := ⟨rfl, rfl, rfl, by decide +kernel, rfl, by decide +kernel, by decide +kernel⟩
theorem sc_Place_init : FnScope ["self", "axis"] ["self", "axis"] (defScope s_Place_init) := ⟨rfl, rfl, rfl, by decide +kernel, rfl, by decide +kernel, by decide +kernel⟩
theorem sc_Place_words : FnScope ["self"] ["self"] (defScope s_Place_words) := ⟨rfl, rfl, rfl, by decide +kernel, rfl, by decide +kernel, by decide +kernel⟩
theorem sc_Read_init : FnScope ["self", "array", "indexes"] ["self", "array", "indexes"] (defScope s_Read_init) := ⟨rfl, rfl, rfl, by decide +kernel, rfl, by decide +kernel, by decide +kernel⟩
theorem sc_Read_words : FnScope ["self", "inside"] ["self"] (defScope s_Read_words) := ⟨rfl, rfl, rfl, by decide +kernel, rfl, by decide +kernel, by decide +kernel⟩
theorem sc_index_word : FnScope ["axis", "shift"] ["axis", "shift"] (defScope s_index_word) := ⟨rfl, rfl, rfl, by decide +kernel, rfl, by decide +kernel, by decide +kernel⟩
theorem sc_Pair_init : FnScope ["self", "left", "right"] ["self", "left", "right"] (defScope s_Pair_init) := ⟨rfl, rfl, rfl, by decide +kernel, rfl, by decide +kernel, by decide +kernel⟩
theorem sc_Pair_words : FnScope ["self"] ["self"] (defScope s_Pair_words) := ⟨rfl, rfl, rfl, by decide +kernel, rfl, by decide +kernel, by decide +kernel⟩
theorem sc_Plus_sign : FnScope ["self"] ["self"] (defScope s_Plus_sign) := ⟨rfl, rfl, rfl, by decide +kernel, rfl, by decide +kernel, by decide +kernel⟩
theorem sc_Minus_sign : FnScope ["self"] ["self"] (defScope s_Minus_sign) := ⟨rfl, rfl, rfl, by decide +kernel, rfl, by decide +kernel, by decide +kernel⟩
theorem sc_Times_sign : FnScope ["self"] ["self"] (defScope s_Times_sign) := ⟨rfl, rfl, rfl, by decide +kernel, rfl, by decide +kernel, by decide +kernel⟩
theorem sc_Sum_init : FnScope ["self", "axis", "body"] ["self", "axis", "body"] (defScope s_Sum_init) := ⟨rfl, rfl, rfl, by decide +kernel, rfl, by decide +kernel, by decide +kernel⟩
theorem sc_Sum_words : FnScope ["self"] ["self"] (defScope s_Sum_words) := ⟨rfl, rfl, rfl, by decide +kernel, rfl, by decide +kernel, by decide +kernel⟩
theorem sc_Guard_init : FnScope ["self", "axis", "low", "high", "inner", "outer"] ["self", "axis", "low", "high", "inner", "outer"] (defScope s_Guard_init) := ⟨rfl, rfl, rfl, by decide +kernel, rfl, by decide +kernel, by decide +kernel⟩
theorem sc_Guard_words : FnScope ["self", "opening"] ["self"] (defScope s_Guard_words) := ⟨rfl, rfl, rfl, by decide +kernel, rfl, by decide +kernel, by decide +kernel⟩
theorem sc_is_of_letters : FnScope ["text"] ["text"] (defScope s_is_of_letters) := ⟨rfl, rfl, rfl, by decide +kernel, rfl, by decide +kernel, by decide +kernel⟩
theorem sc_read_program : FnScope ["text", "rows", "wheel", "found", "axes", "tables", "lets", "outs"] ["text"] (defScope s_read_program) := ⟨rfl, rfl, rfl, by decide +kernel, rfl, by decide +kernel, by decide +kernel⟩
theorem sc_by_sorts : FnScope ["rows", "found", "sort", "latest", "words"] ["rows"] (defScope s_by_sorts) := ⟨rfl, rfl, rfl, by decide +kernel, rfl, by decide +kernel, by decide +kernel⟩
theorem sc_read_wheel : FnScope ["words", "wheel"] ["words"] (defScope s_read_wheel) := ⟨rfl, rfl, rfl, by decide +kernel, rfl, by decide +kernel, by decide +kernel⟩
theorem sc_read_axis : FnScope ["words", "length"] ["words"] (defScope s_read_axis) := ⟨rfl, rfl, rfl, by decide +kernel, rfl, by decide +kernel, by decide +kernel⟩
theorem sc_read_table : FnScope ["words", "names"] ["words"] (defScope s_read_table) := ⟨rfl, rfl, rfl, by decide +kernel, rfl, by decide +kernel, by decide +kernel⟩
theorem sc_read_let : FnScope ["words", "parting", "names"] ["words"] (defScope s_read_let) := ⟨rfl, rfl, rfl, by decide +kernel, rfl, by decide +kernel, by decide +kernel⟩
theorem sc_read_out : FnScope ["words"] ["words"] (defScope s_read_out) := ⟨rfl, rfl, rfl, by decide +kernel, rfl, by decide +kernel, by decide +kernel⟩
theorem sc_look_number_of : FnScope ["words", "number"] ["words", "number"] (defScope s_look_number_of) := ⟨rfl, rfl, rfl, by decide +kernel, rfl, by decide +kernel, by decide +kernel⟩
theorem sc_read_names : FnScope ["words"] ["words"] (defScope s_read_names) := ⟨rfl, rfl, rfl, by decide +kernel, rfl, by decide +kernel, by decide +kernel⟩
theorem sc_read_name : FnScope ["word"] ["word"] (defScope s_read_name) := ⟨rfl, rfl, rfl, by decide +kernel, rfl, by decide +kernel, by decide +kernel⟩
theorem sc_read_number : FnScope ["word"] ["word"] (defScope s_read_number) := ⟨rfl, rfl, rfl, by decide +kernel, rfl, by decide +kernel, by decide +kernel⟩
theorem sc_read_counting : FnScope ["figures", "number"] ["figures"] (defScope s_read_counting) := ⟨rfl, rfl, rfl, by decide +kernel, rfl, by decide +kernel, by decide +kernel⟩
theorem sc_read_natural : FnScope ["figures"] ["figures"] (defScope s_read_natural) := ⟨rfl, rfl, rfl, by decide +kernel, rfl, by decide +kernel, by decide +kernel⟩
theorem sc_is_figure : FnScope ["sign"] ["sign"] (defScope s_is_figure) := ⟨rfl, rfl, rfl, by decide +kernel, rfl, by decide +kernel, by decide +kernel⟩
theorem sc_WordRow_init : FnScope ["self", "row"] ["self", "row"] (defScope s_WordRow_init) := ⟨rfl, rfl, rfl, by decide +kernel, rfl, by decide +kernel, by decide +kernel⟩
theorem sc_WordRow_next_word : FnScope ["self"] ["self"] (defScope s_WordRow_next_word) := ⟨rfl, rfl, rfl, by decide +kernel, rfl, by decide +kernel, by decide +kernel⟩
theorem sc_read_term : FnScope ["words", "row", "term"] ["words"] (defScope s_read_term) := ⟨rfl, rfl, rfl, by decide +kernel, rfl, by decide +kernel, by decide +kernel⟩
theorem sc_next_term : FnScope ["row", "word", "axis"] ["row"] (defScope s_next_term) := ⟨rfl, rfl, rfl, by decide +kernel, rfl, by decide +kernel, by decide +kernel⟩
theorem sc_next_pair : FnScope ["sign", "row", "left", "right"] ["sign", "row"] (defScope s_next_pair) := ⟨rfl, rfl, rfl, by decide +kernel, rfl, by decide +kernel, by decide +kernel⟩
theorem sc_next_guard : FnScope ["row", "axis", "low", "high", "inner"] ["row"] (defScope s_next_guard) := ⟨rfl, rfl, rfl, by decide +kernel, rfl, by decide +kernel, by decide +kernel⟩
theorem sc_read_leaf : FnScope ["word"] ["word"] (defScope s_read_leaf) := ⟨rfl, rfl, rfl, by decide +kernel, rfl, by decide +kernel, by decide +kernel⟩
theorem sc_begins_number : FnScope ["text"] ["text"] (defScope s_begins_number) := ⟨rfl, rfl, rfl, by decide +kernel, rfl, by decide +kernel, by decide +kernel⟩
theorem sc_read_read : FnScope ["word", "array", "opening", "inside", "indexes"] ["word"] (defScope s_read_read) := ⟨rfl, rfl, rfl, by decide +kernel, rfl, by decide +kernel, by decide +kernel⟩
theorem sc_read_index : FnScope ["index", "axis", "sign", "figures"] ["index"] (defScope s_read_index) := ⟨rfl, rfl, rfl, by decide +kernel, rfl, by decide +kernel, by decide +kernel⟩
theorem sc_program_text : FnScope ["program", "rows"] ["program"] (defScope s_program_text) := ⟨rfl, rfl, rfl, by decide +kernel, rfl, by decide +kernel, by decide +kernel⟩
theorem sc_l_cell_at : FnScope ["_law_script", "_law_k"] ["_law_script", "_law_k"] (defScope s_l_cell_at) := ⟨rfl, rfl, rfl, by decide +kernel, rfl, by decide +kernel, by decide +kernel⟩
theorem sc_l_mixed : FnScope ["_law_cell", "_law_k"] ["_law_cell", "_law_k"] (defScope s_l_mixed) := ⟨rfl, rfl, rfl, by decide +kernel, rfl, by decide +kernel, by decide +kernel⟩
theorem sc_l_name_by : FnScope ["_law_rest", "_law_word", "_law_k"] ["_law_rest"] (defScope s_l_name_by) := ⟨rfl, rfl, rfl, by decide +kernel, rfl, by decide +kernel, by decide +kernel⟩
theorem sc_l_any_by : FnScope ["_law_rest"] ["_law_rest"] (defScope s_l_any_by) := ⟨rfl, rfl, rfl, by decide +kernel, rfl, by decide +kernel, by decide +kernel⟩
theorem sc_l_number_by : FnScope ["_law_rest"] ["_law_rest"] (defScope s_l_number_by) := ⟨rfl, rfl, rfl, by decide +kernel, rfl, by decide +kernel, by decide +kernel⟩
theorem sc_l_long : FnScope ["_law_rest"] ["_law_rest"] (defScope s_l_long) := ⟨rfl, rfl, rfl, by decide +kernel, rfl, by decide +kernel, by decide +kernel⟩
theorem sc_l_read_by : FnScope ["_law_rest", "_law_word", "_law_k", "_law_shift"] ["_law_rest"] (defScope s_l_read_by) := ⟨rfl, rfl, rfl, by decide +kernel, rfl, by decide +kernel, by decide +kernel⟩
theorem sc_l_words_by : FnScope ["_law_cells", "_law_at", "_law_room", "_law_rest", "_law_way", "_law_left", "_law_right", "_law_head"] ["_law_cells", "_law_at", "_law_room"] (defScope s_l_words_by) := ⟨rfl, rfl, rfl, by decide +kernel, rfl, by decide +kernel, by decide +kernel⟩
theorem sc_l_names_by : FnScope ["_law_rest", "_law_many", "_law_names", "_law_k"] ["_law_rest", "_law_many"] (defScope s_l_names_by) := ⟨rfl, rfl, rfl, by decide +kernel, rfl, by decide +kernel, by decide +kernel⟩
theorem sc_l_program_by : FnScope ["_law_script", "_law_wheel", "_law_axes", "_law_k", "_law_rest", "_law_tables", "_law_lets", "_law_at", "_law_words", "_law_outs"] ["_law_script"] (defScope s_l_program_by) := ⟨rfl, rfl, rfl, by decide +kernel, rfl, by decide +kernel, by decide +kernel⟩
theorem sc_l_rows : FnScope ["_law_program", "_law_wheel", "_law_axes", "_law_tables", "_law_lets", "_law_outs", "_law_rows_here", "_law_name", "_law_length", "_law_own", "_law_words"] ["_law_program"] (defScope s_l_rows) := ⟨rfl, rfl, rfl, by decide +kernel, rfl, by decide +kernel, by decide +kernel⟩
theorem sc_l_index : FnScope ["_law_word", "_law_sign", "_law_axis", "_law_found", "_law_figures"] ["_law_word"] (defScope s_l_index) := ⟨rfl, rfl, rfl, by decide +kernel, rfl, by decide +kernel, by decide +kernel⟩
theorem sc_l_read : FnScope ["_law_word", "_law_array", "_law_found", "_law_inside", "_law_indexes"] ["_law_word"] (defScope s_l_read) := ⟨rfl, rfl, rfl, by decide +kernel, rfl, by decide +kernel, by decide +kernel⟩
theorem sc_l_term : FnScope ["_law_words", "_law_at", "_law_word", "_law_body", "_law_behind", "_law_inner", "_law_outer", "_law_left", "_law_right"] ["_law_words", "_law_at"] (defScope s_l_term) := ⟨rfl, rfl, rfl, by decide +kernel, rfl, by decide +kernel, by decide +kernel⟩
theorem sc_law : FnScope ["_law_script", "_law_wheel", "_law_axes", "_law_tables", "_law_lets", "_law_outs", "_law_due", "_law_some", "_law_told", "_law_text"] ["_law_script"] (defScope s_law) := ⟨rfl, rfl, rfl, by decide +kernel, rfl, by decide +kernel, by decide +kernel⟩
theorem nd_comp_0 : (["member"] : List Str).Nodup := by decide +kernel
theorem nd_comp_1 : (["axis", "shift"] : List Str).Nodup := by decide +kernel
theorem nd_comp_2 : (["sign"] : List Str).Nodup := by decide +kernel
theorem nd_comp_3 : (["row"] : List Str).Nodup := by decide +kernel
theorem nd_comp_4 : (["words"] : List Str).Nodup := by decide +kernel
theorem nd_comp_5 : (["words"] : List Str).Nodup := by decide +kernel
theorem nd_comp_6 : (["words"] : List Str).Nodup := by decide +kernel
theorem nd_comp_7 : (["words"] : List Str).Nodup := by decide +kernel
theorem nd_comp_8 : (["word"] : List Str).Nodup := by decide +kernel
theorem nd_comp_9 : (["sign"] : List Str).Nodup := by decide +kernel
theorem nd_comp_10 : (["index"] : List Str).Nodup := by decide +kernel
theorem nd_comp_11 : (["name", "length"] : List Str).Nodup := by decide +kernel
theorem nd_comp_12 : (["name", "axes"] : List Str).Nodup := by decide +kernel
theorem nd_comp_13 : (["let"] : List Str).Nodup := by decide +kernel
theorem nd_comp_14 : (["name"] : List Str).Nodup := by decide +kernel
theorem nd_comp_15 : (["words"] : List Str).Nodup := by decide +kernel
theorem nd_comp_16 : (["_law_one"] : List Str).Nodup := by decide +kernel
theorem nd_comp_17 : (["_law_name", "_law_own"] : List Str).Nodup := by decide +kernel
theorem nd_comp_18 : (["_law_name", "_law_own", "_law_words"] : List Str).Nodup := by decide +kernel
theorem FnOk.none {P : Program} {w : World} {K : PySem.W.Frag} {mg : Str → Option Value} {base : Heap} {CX : CXT} {k : Nat} {f : Addr} {fd : FuncData} {ps : List Str} {sp : Sp} (h : ∀ vs H Q E, ¬ sp vs H Q E) : FnOk P w K mg base CX k f fd ps sp :=
  ⟨fun vs H Q E q => (h vs H Q E q).elim, fun _ _ _ H _ _ vs Q E _ _ _ _ q => (h vs H Q E q).elim⟩
/-! ### data -/
def encT (e : Str × List Str) : PyData := .tuple [.str e.1, .list (e.2.map PyData.str)]
def encTb (ts : List (Str × List Str)) : PyData := .list (ts.map encT)
def encS (xs : List Str) : PyData := .list (xs.map PyData.str)
theorem ds_strs : ∀ xs : List Str, PyData.depthAll (xs.map PyData.str) = 0 ∧ cntAll (xs.map PyData.str) = xs.length
  | [] => ⟨rfl, rfl⟩
  | x :: r => by
    obtain ⟨h2, h3⟩ := ds_strs r
    refine ⟨?_, ?_⟩
    · simp [PyData.depthAll, PyData.depth, h2]
    · simp [cntAll, cnt, h3]; omega
theorem encS_ok (xs : List Str) : (encS xs).depth ≤ 1 ∧ cnt (encS xs) ≤ 1 + xs.length := by
  obtain ⟨h2, h3⟩ := ds_strs xs
  refine ⟨?_, ?_⟩
  · simp [encS, PyData.depth, h2]
  · simp only [encS, cnt, h3]; omega
theorem ds_tb {n : Nat} : ∀ ts : List (Str × List Str), (∀ e ∈ ts, e.2.length ≤ n) → PyData.depthAll (ts.map encT) ≤ 2 ∧ cntAll (ts.map encT) ≤ ts.length * (n + 4)
  | [], _ => ⟨by simp [PyData.depthAll], by simp [cntAll]⟩
  | e :: r, h => by
    obtain ⟨h2, h3⟩ := ds_tb r fun x hx => h x (.tail _ hx)
    obtain ⟨g2, g3⟩ := ds_strs e.2
    have hl := h e (.head _)
    refine ⟨?_, ?_⟩
    · simp only [List.map_cons, encT, PyData.depthAll, PyData.depth, g2]
      omega
    · simp only [List.map_cons, encT, cntAll, cnt, g3, List.length_cons, Nat.add_mul, Nat.one_mul]
      omega
theorem encTb_ok {n : Nat} (ts : List (Str × List Str)) (h : ∀ e ∈ ts, e.2.length ≤ n) : (encTb ts).depth ≤ 3 ∧ cnt (encTb ts) ≤ 1 + ts.length * (n + 4) := by
  obtain ⟨h2, h3⟩ := ds_tb ts h
  refine ⟨?_, ?_⟩
  · simp only [encTb, PyData.depth]; omega
  · simp only [encTb, cnt]; omega
theorem ds_ix : ∀ ts : List (Str × Int), PyData.depthAll (ts.map encI) ≤ 1
  | [] => by simp [PyData.depthAll]
  | e :: r => by
    have h2 := ds_ix r
    simp only [List.map_cons, encI, PyData.depthAll, PyData.depth]; omega
theorem encIx_ok (ts : List (Str × Int)) : (encIx ts).depth ≤ 2 := by
  have h2 := ds_ix ts
  simp only [encIx, PyData.depth]; omega
theorem reps_strs {H : Hp} : ∀ {ys : List Str} {xs : List V}, Reps H xs (ys.map PyData.str) → xs = ys.map V.str
  | [], _, r => by cases r; rfl
  | y :: ys, _, r => by
    rw [List.map_cons] at r
    cases r with
    | cons a r =>
      cases a
      rw [List.map_cons, reps_strs r]
theorem rep_S {H : Hp} {v : V} {ys : List Str} (h : Rep H v (encS ys)) : ∃ p, v = .ref p ∧ H p = some (.lst (ys.map V.str)) := by
  obtain ⟨p, xs, rfl, e, r⟩ := rep_lst (show Rep H v (.list (ys.map PyData.str)) from h)
  rw [reps_strs r] at e
  exact ⟨p, rfl, e⟩
theorem S_rep {H : Hp} {p : Addr} {ys : List Str} (e : H p = some (.lst (ys.map V.str))) : Rep H (.ref p) (encS ys) := .lst e (Reps.strs ys)
theorem rep_T {H : Hp} {v : V} {e : Str × List Str} (h : Rep H v (encT e)) : ∃ b c, v = .ref b ∧ H b = some (.tup [.str e.1, .ref c]) ∧ H c = some (.lst (e.2.map V.str)) := by
  unfold encT at h
  cases h with
  | @tup b xs _ eb r =>
    cases r with
    | cons a r =>
      cases r with
      | cons a2 r =>
        cases r
        cases a
        obtain ⟨c, rfl, ec⟩ := rep_S a2
        exact ⟨b, c, rfl, eb, ec⟩
theorem T_rep {H : Hp} {b c : Addr} {e : Str × List Str} (eb : H b = some (.tup [.str e.1, .ref c])) (ec : H c = some (.lst (e.2.map V.str))) : Rep H (.ref b) (encT e) := .tup eb (.cons (.str _) (.cons (S_rep ec) .nil))
theorem rep_I {H : Hp} {v : V} {e : Str × Int} (h : Rep H v (encI e)) : ∃ b, v = .ref b ∧ H b = some (.tup [.str e.1, .int e.2]) := by
  unfold encI at h
  cases h with
  | @tup b xs _ eb r =>
    cases r with
    | cons a r =>
      cases r with
      | cons a2 r =>
        cases r
        cases a
        cases a2
        exact ⟨b, rfl, eb⟩
/-! ### objects -/
def clsOf (A : Adr) : Op3 → Addr
  | .plus => A.C_Plus
  | .minus => A.C_Minus
  | .times => A.C_Times
inductive Ob (A : Adr) (H : Hp) : V → Tm → Prop
  | num {a dx : Addr} {z : Int} : H a = some (.ins A.C_Number dx [("number", .int z)]) → Ob A H (.ref a) (.num z)
  | place {a dx : Addr} {x : Str} : H a = some (.ins A.C_Place dx [("axis", .str x)]) → Ob A H (.ref a) (.place x)
  | read {a dx l : Addr} {x : Str} {ix : List (Str × Int)} : H a = some (.ins A.C_Read dx [("array", .str x), ("indexes", .ref l)]) → Rep H (.ref l) (encIx ix) → Ob A H (.ref a) (.read x ix)
  | sum {a dx : Addr} {x : Str} {u : V} {b : Tm} : H a = some (.ins A.C_Sum dx [("axis", .str x), ("body", u)]) → Ob A H u b → Ob A H (.ref a) (.sum x b)
  | pair {a dx : Addr} {k : Op3} {u w : V} {l r : Tm} : H a = some (.ins (clsOf A k) dx [("left", u), ("right", w)]) → Ob A H u l → Ob A H w r → Ob A H (.ref a) (.pair k l r)
  | guard {a dx : Addr} {x : Str} {lo hi : Int} {u w : V} {l r : Tm} : H a = some (.ins A.C_Guard dx [("axis", .str x), ("low", .int lo), ("high", .int hi), ("inner", u), ("outer", w)]) → Ob A H u l → Ob A H w r → Ob A H (.ref a) (.guard x lo hi l r)
theorem Ob.imp {A : Adr} {H H' : Hp} (f : Same H H') {v : V} {t : Tm} (h : Ob A H v t) : Ob A H' v t := by
  induction h with
  | num e => exact .num (f _ _ e)
  | place e => exact .place (f _ _ e)
  | read e r => exact .read (f _ _ e) (r.same f)
  | sum e _ ih => exact .sum (f _ _ e) ih
  | pair e _ _ i1 i2 => exact .pair (f _ _ e) i1 i2
  | guard e _ _ i1 i2 => exact .guard (f _ _ e) i1 i2
/-- a let: its name, its axes, its term -/
abbrev Lt := Str × List Str × Tm
def LetAt (A : Adr) (S : Addr → Prop) (H : Hp) (v : V) (e : Lt) : Prop := ∃ (a dx c : Addr) (n : V) (dn : Unit), v = .ref a ∧ H a = some (.ins A.C_Let dx [("name", .str e.1), ("axes", .ref c), ("term", n)]) ∧ S c ∧ H c = some (.lst (e.2.1.map V.str)) ∧ Ob A H n e.2.2
abbrev LetsAt (A : Adr) (S : Addr → Prop) (H : Hp) (xs : List V) (ls : List Lt) : Prop := Paired (LetAt A S H) xs ls
theorem LetAt.same {A : Adr} {S : Addr → Prop} {H H' : Hp} {v : V} {e : Lt} (h : LetAt A S H v e) (s : Same H H') : LetAt A S H' v e := by
  obtain ⟨a, dx, c, n, dn, rfl, e1, s1, e2, e3⟩ := h
  exact ⟨a, dx, c, n, dn, rfl, s _ _ e1, s1, s _ _ e2, e3.imp s⟩
/-- a program -/
structure PrAt (A : Adr) (H : Hp) (p : Addr) (wh : Int) (ax : List (Str × Int)) (tb : List (Str × List Str)) (ls : List Lt) (os : List Str) : Prop where
  ob : ∃ dx a t l o, H p = some (.ins A.C_Program dx [("wheel", .int wh), ("axes", .ref a), ("tables", .ref t), ("lets", .ref l), ("outs", .ref o)]) ∧ Rep H (.ref a) (encIx ax) ∧ Rep H (.ref t) (encTb tb) ∧ (∃ xs, H l = some (.lst xs) ∧ LetsAt A (fun _ => True) H xs ls) ∧ Rep H (.ref o) (encS os)
end My

set_option Elab.async false
set_option linter.all false
set_option maxRecDepth 100000
set_option maxHeartbeats 4000000
namespace My
open PySem L2
local macro_rules | `(tactic| walk_at "lk") => `(tactic| first | with_reducible exact lk0 | (refine lk1 (by decide +kernel) ?_; walk_at "lk") | rfl)
def sp_init1 (K : PySem.W.Frag) (f : Str) : Sp := fun vs H Q _ => ∃ (p C dx : Addr) (v : V), vs = [.ref p, v] ∧ H p = some (.ins C dx []) ∧ Cls K C ∧ NoAttr K C f ∧ Q .non (upd H p (.ins C dx [(f, v)]))
def sp_cop (n : Nat) : Sp := fun vs H Q _ => ∃ (v : V) (d : PyData), vs = [v] ∧ Rep H v d ∧ PyData.depth d ≤ n ∧ cnt d ≤ 100000 ∧ ∀ (v' : V) (H' : Hp), Same H H' → Rep (restr (fun a => H a = none) H') v' d → Q v' H'
def sp_cpI (A : Adr) : Sp := fun vs H Q _ => ∃ (a dx : Addr) (fs : List (Str × V)), vs = [.ref a] ∧ H a = some (.ins A.C_Let dx fs) ∧ Q (.ref a) H
def sp_cpL (A : Adr) : Sp := fun vs H Q _ => ∃ (p : Addr) (xs : List V), vs = [.ref p] ∧ H p = some (.lst xs) ∧ xs.length ≤ 1000 ∧ (∀ x ∈ xs, ∃ a dx fs, x = .ref a ∧ H a = some (.ins A.C_Let dx fs)) ∧ ∀ (D : Addr) (H' : Hp), H D = none → Same H H' → H' D = some (.lst xs) → Q (.ref D) H'
def sp_init2 (K : PySem.W.Frag) (f g : Str) : Sp := fun vs H Q _ => ∃ (p C dx : Addr) (v u : V), vs = [.ref p, v, u] ∧ H p = some (.ins C dx []) ∧ Cls K C ∧ NoAttr K C f ∧ NoAttr K C g ∧ Q .non (upd H p (.ins C dx [(f, v), (g, u)]))
def sp_initG (A : Adr) : Sp := fun vs H Q _ => ∃ (p dx : Addr) (a b c d e : V), vs = [.ref p, a, b, c, d, e] ∧ H p = some (.ins A.C_Guard dx []) ∧ Q .non (upd H p (.ins A.C_Guard dx [("axis", a), ("low", b), ("high", c), ("inner", d), ("outer", e)]))
def sp_initR (A : Adr) : Sp := fun vs H Q _ => ∃ (p dx l : Addr) (x : Str) (ix : List (Str × Int)), vs = [.ref p, .str x, .ref l] ∧ H p = some (.ins A.C_Read dx []) ∧ Rep H (.ref l) (encIx ix) ∧ ix.length ≤ 1000 ∧
  ∀ (l' : Addr) (H' : Hp), H' p = some (.ins A.C_Read dx [("array", .str x), ("indexes", .ref l')]) → Rep (restr (fun b => H b = none) H') (.ref l') (encIx ix) → (∀ b o, b ≠ p → H b = some o → H' b = some o) → Q .non H'
def sp_initL (A : Adr) : Sp := fun vs H Q _ => ∃ (p dx l : Addr) (n : V) (x : Str) (ys : List Str), vs = [.ref p, .str x, .ref l, n] ∧ H p = some (.ins A.C_Let dx []) ∧ H l = some (.lst (ys.map V.str)) ∧ ys.length ≤ 1000 ∧
  ∀ (c : Addr) (H' : Hp), H c = none → H' p = some (.ins A.C_Let dx [("name", .str x), ("axes", .ref c), ("term", n)]) → H' c = some (.lst (ys.map V.str)) → (∀ b o, b ≠ p → H b = some o → H' b = some o) → Q .non H'
def sp_initP (A : Adr) : Sp := fun vs H Q _ => ∃ (p dx a t l o : Addr) (wh : Int) (ax : List (Str × Int)) (tb : List (Str × List Str)) (xs : List V) (os : List Str), vs = [.ref p, .int wh, .ref a, .ref t, .ref l, .ref o] ∧ H p = some (.ins A.C_Program dx []) ∧
  Rep H (.ref a) (encIx ax) ∧ ax.length ≤ 1000 ∧ Rep H (.ref t) (encTb tb) ∧ tb.length ≤ 1000 ∧ (∀ e ∈ tb, e.2.length ≤ 20) ∧ H l = some (.lst xs) ∧ xs.length ≤ 1000 ∧ (∀ x ∈ xs, ∃ a dx fs, x = .ref a ∧ a ≠ p ∧ H a = some (.ins A.C_Let dx fs)) ∧ Rep H (.ref o) (encS os) ∧ os.length ≤ 1000 ∧
  ∀ (a' t' l' o' : Addr) (H' : Hp), H' p = some (.ins A.C_Program dx [("wheel", .int wh), ("axes", .ref a'), ("tables", .ref t'), ("lets", .ref l'), ("outs", .ref o')]) → Rep (restr (fun b => H b = none) H') (.ref a') (encIx ax) → Rep (restr (fun b => H b = none) H') (.ref t') (encTb tb) → H l' = none → H' l' = some (.lst xs) → Rep (restr (fun b => H b = none) H') (.ref o') (encS os) → (∀ b o, b ≠ p → H b = some o → H' b = some o) → Q .non H'
section
variable {P : Program} {w : World} {K : PySem.W.Frag} {mg : Str → Option Value} {base : Heap} {t : Adr}
theorem ok_Number_init (T : Txt K mg t) : FnOk P w K mg base CX0 1 t.f_Number_init t.d_Number_init ["self", "number"] (sp_init1 K "number") := by
  refine T.F_Number_init.ok sc_Number_init (fun vs H Q E h => ?_) (fun cdv A outer s H vs Q E hr h => ?_)
  · obtain ⟨p, C, dx, v, rfl, _⟩ := h
    rfl
  · obtain ⟨p, C, dx, v, rfl, hp, cl, na, k⟩ := h
    exact ⟨_, (pss_one (ps_fld (pv 0) (pv 1) rfl)), _, rfl, _, rfl, p, C, dx, [], rfl, hp, cl, na, (by decide), k⟩
theorem ok_Place_init (T : Txt K mg t) : FnOk P w K mg base CX0 1 t.f_Place_init t.d_Place_init ["self", "axis"] (sp_init1 K "axis") := by
  refine T.F_Place_init.ok sc_Place_init (fun vs H Q E h => ?_) (fun cdv A outer s H vs Q E hr h => ?_)
  · obtain ⟨p, C, dx, v, rfl, _⟩ := h
    rfl
  · obtain ⟨p, C, dx, v, rfl, hp, cl, na, k⟩ := h
    exact ⟨_, (pss_one (ps_fld (pv 0) (pv 1) rfl)), _, rfl, _, rfl, p, C, dx, [], rfl, hp, cl, na, (by decide), k⟩
theorem ok_Pair_init (T : Txt K mg t) : FnOk P w K mg base CX0 1 t.f_Pair_init t.d_Pair_init ["self", "left", "right"] (sp_init2 K "left" "right") := by
  refine T.F_Pair_init.ok sc_Pair_init (fun vs H Q E h => ?_) (fun cdv A outer s H vs Q E hr h => ?_)
  · obtain ⟨p, C, dx, v, u, rfl, _⟩ := h
    rfl
  · obtain ⟨p, C, dx, v, u, rfl, hp, cl, n1, n2, k⟩ := h
    refine ⟨_, (pss_cons (ps_fld (pv 0) (pv 1) rfl)
      (pss_one (ps_fld (pv 0) (pv 2) rfl))), _, rfl, _, rfl, p, C, dx, [], rfl, hp, cl, n1, (by decide), _, rfl, _, rfl, p, C, dx, _, rfl, upd_same, cl, n2, (by show 1 < 1000; decide), ?_⟩
    show Q V.non (upd (upd H p _) p (.ins C dx (putF "right" u (putF "left" v []))))
    rw [upd_upd, putF_nil, putF_ne (by decide +kernel), putF_nil]
    exact k
theorem ok_Sum_init (T : Txt K mg t) : FnOk P w K mg base CX0 1 t.f_Sum_init t.d_Sum_init ["self", "axis", "body"] (sp_init2 K "axis" "body") := by
  refine T.F_Sum_init.ok sc_Sum_init (fun vs H Q E h => ?_) (fun cdv A outer s H vs Q E hr h => ?_)
  · obtain ⟨p, C, dx, v, u, rfl, _⟩ := h
    rfl
  · obtain ⟨p, C, dx, v, u, rfl, hp, cl, n1, n2, k⟩ := h
    refine ⟨_, (pss_cons (ps_fld (pv 0) (pv 1) rfl)
      (pss_one (ps_fld (pv 0) (pv 2) rfl))), _, rfl, _, rfl, p, C, dx, [], rfl, hp, cl, n1, (by decide), _, rfl, _, rfl, p, C, dx, _, rfl, upd_same, cl, n2, (by show 1 < 1000; decide), ?_⟩
    show Q V.non (upd (upd H p _) p (.ins C dx (putF "body" u (putF "axis" v []))))
    rw [upd_upd, putF_nil, putF_ne (by decide +kernel), putF_nil]
    exact k
theorem ok_Guard_init (T : Txt K mg t) : FnOk P w K mg base CX0 1 t.f_Guard_init t.d_Guard_init ["self", "axis", "low", "high", "inner", "outer"] (sp_initG t) := by
  refine T.F_Guard_init.ok sc_Guard_init (fun vs H Q E h => ?_) (fun cdv A outer s H vs Q E hr h => ?_)
  · obtain ⟨p, dx, a, b, c, d, e, rfl, _⟩ := h
    rfl
  · obtain ⟨p, dx, a, b, c, d, e, rfl, hp, k⟩ := h
    have e1 : putF "low" b (putF "axis" a []) = ([("axis", a), ("low", b)] : List (Str × V)) := by rw [putF_nil, putF_ne (by decide +kernel), putF_nil]
    have e2 : putF "high" c ([("axis", a), ("low", b)] : List (Str × V)) = ([("axis", a), ("low", b), ("high", c)] : List (Str × V)) := by rw [putF_ne (by decide +kernel), putF_ne (by decide +kernel), putF_nil]
    have e3 : putF "inner" d ([("axis", a), ("low", b), ("high", c)] : List (Str × V)) = ([("axis", a), ("low", b), ("high", c), ("inner", d)] : List (Str × V)) := by rw [putF_ne (by decide +kernel), putF_ne (by decide +kernel), putF_ne (by decide +kernel), putF_nil]
    have e4 : putF "outer" e ([("axis", a), ("low", b), ("high", c), ("inner", d)] : List (Str × V)) = ([("axis", a), ("low", b), ("high", c), ("inner", d), ("outer", e)] : List (Str × V)) := by rw [putF_ne (by decide +kernel), putF_ne (by decide +kernel), putF_ne (by decide +kernel), putF_ne (by decide +kernel), putF_nil]
    refine ⟨_, (pss_cons (ps_fld (pv 0) (pv 1) rfl)
      (pss_cons (ps_fld (pv 0) (pv 2) rfl)
      (pss_cons (ps_fld (pv 0) (pv 3) rfl)
      (pss_cons (ps_fld (pv 0) (pv 4) rfl)
      (pss_one (ps_fld (pv 0) (pv 5) rfl)))))), _, rfl, _, rfl, p, _, dx, [], rfl, hp, T.cl_Guard, T.na_Guard_axis, (by decide), _, rfl, _, rfl, p, _, dx, _, rfl, upd_same, T.cl_Guard, T.na_Guard_low, (by show 1 < 1000; decide), ?_⟩
    rw [upd_upd, e1]
    refine ⟨_, rfl, _, rfl, p, _, dx, _, rfl, upd_same, T.cl_Guard, T.na_Guard_high, (by show 2 < 1000; decide), ?_⟩
    rw [upd_upd, e2]
    refine ⟨_, rfl, _, rfl, p, _, dx, _, rfl, upd_same, T.cl_Guard, T.na_Guard_inner, (by show 3 < 1000; decide), ?_⟩
    rw [upd_upd, e3]
    refine ⟨_, rfl, _, rfl, p, _, dx, _, rfl, upd_same, T.cl_Guard, T.na_Guard_outer, (by show 4 < 1000; decide), ?_⟩
    show Q V.non (upd (upd H p _) p _)
    rw [upd_upd, e4]
    exact k
theorem isi_no_list {T : String} (h : T = "NoneType" ∨ T = "bool" ∨ T = "int" ∨ T = "str" ∨ T = "tuple") : ∀ u, RelV (.ty "list") u → PySem.W.kitOne K (.type T) u = some false := by
  rcases h with rfl | rfl | rfl | rfl | rfl <;> exact isi_by (by decide +kernel) (by decide +kernel) (by decide +kernel)
theorem isi_no_tuple {T : String} (h : T = "NoneType" ∨ T = "bool" ∨ T = "int" ∨ T = "str") : ∀ u, RelV (.ty "tuple") u → PySem.W.kitOne K (.type T) u = some false := by
  rcases h with rfl | rfl | rfl | rfl <;> exact isi_by (by decide +kernel) (by decide +kernel) (by decide +kernel)
theorem isi_no_dict {T : String} (h : T = "NoneType" ∨ T = "bool" ∨ T = "int" ∨ T = "str") : ∀ u, RelV (.ty "dict") u → PySem.W.kitOne K (.type T) u = some false := by
  rcases h with rfl | rfl | rfl | rfl <;> exact isi_by (by decide +kernel) (by decide +kernel) (by decide +kernel)
theorem cop_step (T : Txt K mg t) {m n : Nat} {sp' : Sp} (G_copied : FnOk P w K mg base CX0 m t.f_copied t.d_copied ["value"] sp')
    (hs : ∀ (v : V) (d : PyData) (H : Hp) (Q : VK), Rep H v d → PyData.depth d + 1 ≤ n → cnt d ≤ 100000 → (∀ (v' : V) (H' : Hp), Same H H' → Rep (restr (fun a => H a = none) H') v' d → Q v' H') → sp' [v] H Q E0) :
    FnOk P w K mg base CX0 (m + 1) t.f_copied t.d_copied ["value"] (sp_cop n) := by
  refine T.F_copied.ok sc_copied (fun vs H Q E h => ?_) (fun cdv A outer s H vs Q E hr h => ?_)
  · obtain ⟨v, d, rfl, _⟩ := h
    rfl
  · obtain ⟨v, d, rfl, rp, hd, hc, k⟩ := h
    refine ⟨_, (pss_cons (ps_if (pt_val (pe_callB call_isinst (by rfl) T.z_isinstance PyProof.Rows.boot_isinstance (pa_cons (pv 0) (pa_cons (pe_bltn (v := V.ty "list") rfl T.z_list PyProof.Rows.boot_list rfl) pa_nil))))
        (pss_one (ps_ret (pe_comp (N' := ["member"]) (ix := (List.replicate 1 none)) rfl (clok_none rfl (by decide +kernel) (by decide +kernel)) (ixok_none rfl) (pi_seq (pv 0)) (fun _ _ _ _ => (pg_name (i := 0) nd_comp_0 rfl (Or.inl rfl) (Or.inr rfl))) (fun _ _ _ _ => (pe_call G_copied (hr.mono (by omega)) rfl T.m_copied T.F_copied.kp T.b_copied .nil pass0 (pa_cons (pv 0) pa_nil))))))
        pss_nil)
      (pss_cons (ps_if (pt_val (pe_callB call_isinst (by rfl) T.z_isinstance PyProof.Rows.boot_isinstance (pa_cons (pv 0) (pa_cons (pe_bltn (v := V.ty "tuple") rfl T.z_tuple PyProof.Rows.boot_tuple rfl) pa_nil))))
        (pss_one (ps_ret (pe_callTy call_tuple_of (by rfl) T.z_tuple PyProof.Rows.boot_tuple (pa_cons (pe_comp (N' := ["member"]) (ix := (List.replicate 1 none)) rfl (clok_none rfl (by decide +kernel) (by decide +kernel)) (ixok_none rfl) (pi_seq (pv 0)) (fun _ _ _ _ => (pg_name (i := 0) nd_comp_0 rfl (Or.inl rfl) (Or.inr rfl))) (fun _ _ _ _ => (pe_call G_copied (hr.mono (by omega)) rfl T.m_copied T.F_copied.kp T.b_copied .nil pass0 (pa_cons (pv 0) pa_nil)))) pa_nil))))
        pss_nil)
      (pss_cons (ps_if (pt_val (pe_callB call_isinst (by rfl) T.z_isinstance PyProof.Rows.boot_isinstance (pa_cons (pv 0) (pa_cons (pe_bltn (v := V.ty "dict") rfl T.z_dict PyProof.Rows.boot_dict rfl) pa_nil))))
        (pss_one ps_never)
        pss_nil)
      (pss_one (ps_ret (pv 0)))))), ?_⟩
    cases rp with
    | non =>
      refine ⟨_, rfl, _, _, _, _, rfl, .non, isi_no_list (.inl rfl), false, rfl, iteF ?_⟩
      refine ⟨_, rfl, _, _, _, _, rfl, .non, isi_no_tuple (.inl rfl), false, rfl, iteF ?_⟩
      exact ⟨_, rfl, _, _, _, _, rfl, .non, isi_no_dict (.inl rfl), false, rfl, iteF ⟨_, rfl, k _ _ (Same.refl _) .non⟩⟩
    | bl b =>
      refine ⟨_, rfl, _, _, _, _, rfl, .bl b, isi_no_list (.inr (.inl rfl)), false, rfl, iteF ?_⟩
      refine ⟨_, rfl, _, _, _, _, rfl, .bl b, isi_no_tuple (.inr (.inl rfl)), false, rfl, iteF ?_⟩
      exact ⟨_, rfl, _, _, _, _, rfl, .bl b, isi_no_dict (.inr (.inl rfl)), false, rfl, iteF ⟨_, rfl, k _ _ (Same.refl _) (.bl b)⟩⟩
    | int b =>
      refine ⟨_, rfl, _, _, _, _, rfl, .int b, isi_no_list (.inr (.inr (.inl rfl))), false, rfl, iteF ?_⟩
      refine ⟨_, rfl, _, _, _, _, rfl, .int b, isi_no_tuple (.inr (.inr (.inl rfl))), false, rfl, iteF ?_⟩
      exact ⟨_, rfl, _, _, _, _, rfl, .int b, isi_no_dict (.inr (.inr (.inl rfl))), false, rfl, iteF ⟨_, rfl, k _ _ (Same.refl _) (.int b)⟩⟩
    | str b =>
      refine ⟨_, rfl, _, _, _, _, rfl, .str b, isi_no_list (.inr (.inr (.inr (.inl rfl)))), false, rfl, iteF ?_⟩
      refine ⟨_, rfl, _, _, _, _, rfl, .str b, isi_no_tuple (.inr (.inr (.inr rfl))), false, rfl, iteF ?_⟩
      exact ⟨_, rfl, _, _, _, _, rfl, .str b, isi_no_dict (.inr (.inr (.inr rfl))), false, rfl, iteF ⟨_, rfl, k _ _ (Same.refl _) (.str b)⟩⟩
    | @lst p xs ds e r =>
      have hl1 := r.len
      have hl2 := cnt_len ds
      have hc' : cntAll ds + 1 ≤ 100000 := hc
      have hd' : PyData.depthAll ds + 1 ≤ n := hd
      refine ⟨_, rfl, _, _, _, _, rfl, .lst e, isi_same "list", true, rfl, iteT ?_⟩
      refine .inl ⟨_, rfl, p, rfl, ⟨_, SqL.of e⟩, fun D hD => ?_⟩
      refine comp_listQ (K := K) (a := p) (D := D) (xs := xs) (fun i ys H2 => Same H H2 ∧ H2 D = some (.lst ys) ∧ Reps (restr (fun a => H a = none ∧ a ≠ D) H2) ys (ds.take i) ∧ ys.length = i)
        ⟨same_new hD, upd_same, (by rw [List.take_zero]; exact .nil), rfl⟩ (fun i ys H2 ⟨s2, _⟩ => SqL.of (s2 _ _ e)) ?_ ?_
      · rintro i x ys H2 hx ⟨s2, hD2, rs, hyl⟩
        obtain ⟨d, hdi, rx⟩ := r.get2 hx
        obtain ⟨c1, c2⟩ := cnt_at hdi
        have hi : i < xs.length := (List.getElem?_eq_some_iff.mp hx).1
        refine ⟨True.intro, _, rfl, hs x d H2 _ (rx.same s2) (by omega) (by omega) fun v' H5 s5 rp5 => ?_⟩
        have hnS : ¬ (H D = none ∧ D ≠ D) := fun z => z.2 rfl
        refine ⟨s5 _ _ hD2, line_lt (by omega), same_fresh (s2.trans s5) hD, upd_same, ?_, by simp [hyl]⟩
        rw [List.take_add_one, hdi]
        show Reps _ (ys ++ [v']) (ds.take i ++ [d])
        refine (rs.same (restr_upd (restr_same s5) hnS)).snoc (rp5.same ((restr_imp (Same.refl _) fun a o _ ha => ⟨s2.free ha, fun z => ?_⟩).trans (restr_upd (Same.refl _) hnS)))
        subst z
        rw [hD2] at ha
        cases ha
      · rintro ys H2 ⟨s2, hD2, rs, hyl⟩
        refine k (.ref D) H2 s2 (.lst (restr_mk hD hD2) ?_)
        rw [hl1, List.take_length] at rs
        exact rs.same (restr_imp (Same.refl _) fun a o _ h => h.1)
    | @tup p xs ds e r =>
      have hl1 := r.len
      have hl2 := cnt_len ds
      have hc' : cntAll ds + 1 ≤ 100000 := hc
      have hd' : PyData.depthAll ds + 1 ≤ n := hd
      refine ⟨_, rfl, _, _, _, _, rfl, .tup e, isi_no_list (.inr (.inr (.inr (.inr rfl)))), false, rfl, iteF ?_⟩
      refine ⟨_, rfl, _, _, _, _, rfl, .tup e, isi_same "tuple", true, rfl, iteT ?_⟩
      refine .inr ⟨_, rfl, p, rfl, ⟨_, SqT.of e⟩, fun D hD => ?_⟩
      refine comp_tupQ (K := K) (a := p) (D := D) (xs := xs) (fun i ys H2 => Same H H2 ∧ H2 D = some (.lst ys) ∧ Reps (restr (fun a => H a = none ∧ a ≠ D) H2) ys (ds.take i) ∧ ys.length = i)
        ⟨same_new hD, upd_same, (by rw [List.take_zero]; exact .nil), rfl⟩ (fun i ys H2 ⟨s2, _⟩ => SqT.of (s2 _ _ e)) ?_ ?_
      · rintro i x ys H2 hx ⟨s2, hD2, rs, hyl⟩
        obtain ⟨d, hdi, rx⟩ := r.get2 hx
        obtain ⟨c1, c2⟩ := cnt_at hdi
        have hi : i < xs.length := (List.getElem?_eq_some_iff.mp hx).1
        refine ⟨True.intro, _, rfl, hs x d H2 _ (rx.same s2) (by omega) (by omega) fun v' H5 s5 rp5 => ?_⟩
        have hnS : ¬ (H D = none ∧ D ≠ D) := fun z => z.2 rfl
        refine ⟨s5 _ _ hD2, line_lt (by omega), same_fresh (s2.trans s5) hD, upd_same, ?_, by simp [hyl]⟩
        rw [List.take_add_one, hdi]
        show Reps _ (ys ++ [v']) (ds.take i ++ [d])
        refine (rs.same (restr_upd (restr_same s5) hnS)).snoc (rp5.same ((restr_imp (Same.refl _) fun a o _ ha => ⟨s2.free ha, fun z => ?_⟩).trans (restr_upd (Same.refl _) hnS)))
        subst z
        rw [hD2] at ha
        cases ha
      · rintro ys H2 ⟨s2, hD2, rs, hyl⟩
        refine ⟨D, ys, rfl, .inl ⟨SqL.of hD2, fun l hl => ?_⟩⟩
        refine k (.ref l) _ (s2.trans (same_new hl)) (.tup (restr_mk (s2.free hl) upd_same) ?_)
        rw [hl1, List.take_length] at rs
        exact rs.same ((restr_imp (Same.refl _) fun a o _ h => h.1).trans (restr_same (same_new hl)))
theorem ok_copied (T : Txt K mg t) : ∀ n : Nat, FnOk P w K mg base CX0 (n + 1) t.f_copied t.d_copied ["value"] (sp_cop n)
  | 0 => cop_step T (sp' := fun _ _ _ _ => False) (m := 0) (FnOk.none fun _ _ _ _ h => h) fun v d H Q _ h => absurd h (by omega)
  | n + 1 => cop_step T (ok_copied T n) fun v d H Q rp hd hc k => ⟨v, d, rfl, rp, by omega, hc, k⟩
theorem ok_Read_init (T : Txt K mg t) : FnOk P w K mg base CX0 5 t.f_Read_init t.d_Read_init ["self", "array", "indexes"] (sp_initR t) := by
  have G_copied := ok_copied (P := P) (w := w) (base := base) T 2
  refine T.F_Read_init.ok sc_Read_init (fun vs H Q E h => ?_) (fun cdv A outer s H vs Q E hr h => ?_)
  · obtain ⟨p, dx, l, x, ix, rfl, _⟩ := h
    rfl
  · obtain ⟨p, dx, l, x, ix, rfl, hp, rp, hix, k⟩ := h
    have hcn := ix_cnt (ix := ix)
    refine ⟨_, (pss_cons (ps_fld (pv 0) (pv 1) rfl)
      (pss_one (ps_fld (pv 0) (pe_call G_copied (hr.mono (by omega)) rfl T.m_copied T.F_copied.kp T.b_copied .nil pass0 (pa_cons (pv 2) pa_nil)) rfl))), _, rfl, _, rfl, p, _, dx, [], rfl, hp, T.cl_Read, T.na_Read_array, (by decide), ?_⟩
    refine ⟨_, rfl, .ref l, encIx ix, rfl, rp.ins hp, ix_depth, by omega, fun v' H2 s2 rp2 => ?_⟩
    have hp2 := s2 _ _ (upd_same (H := H) (a := p))
    obtain ⟨l', xs, rfl, el, rs⟩ := rep_lst (show Rep _ v' (.list (ix.map encI)) from rp2)
    refine ⟨_, rfl, p, _, dx, _, rfl, hp2, T.cl_Read, T.na_Read_indexes, (by show 1 < 1000; decide), ?_⟩
    show Q V.non (upd H2 p (.ins t.C_Read dx (putF "indexes" (.ref l') (putF "array" (.str x) []))))
    rw [putF_nil, putF_ne (by decide +kernel), putF_nil]
    have fr : ∀ {q : Addr}, upd H p (.ins t.C_Read dx (putF "array" (.str x) [])) q = none → H q = none := fun {q} z => by
      by_cases zb : q = p
      · subst zb; rw [upd_same] at z; cases z
      · rw [upd_ne zb] at z; exact z
    refine k l' _ upd_same (rp2.imp2 (fun q ys z => restr_mk (fr (restr_some z).1) (by rw [upd_ne (ne_of (restr_some z).2 hp2 (by intro z; cases z))]; exact (restr_some z).2)) fun q ys z => restr_mk (fr (restr_some z).1) (by rw [upd_ne (ne_of (restr_some z).2 hp2 (by intro z; cases z))]; exact (restr_some z).2)) fun b o hb e => ?_
    rw [upd_ne hb]
    exact s2 _ _ (by rw [upd_ne hb]; exact e)
theorem ok_copI (T : Txt K mg t) : FnOk P w K mg base CX0 1 t.f_copied t.d_copied ["value"] (sp_cpI t) := by
  refine T.F_copied.ok sc_copied (fun vs H Q E h => ?_) (fun cdv A outer s H vs Q E hr h => ?_)
  · obtain ⟨a, dx, fs, rfl, _⟩ := h
    rfl
  · obtain ⟨a, dx, fs, rfl, e, k⟩ := h
    have G_copied : FnOk P w K mg base CX0 0 t.f_copied t.d_copied ["value"] (fun _ _ _ _ => False) := FnOk.none fun _ _ _ _ h => h
    have ty : TyOf K H (.ref a) (.ref t.C_Let) := .ins e T.cl_Let T.ty_Let.ha T.ty_Let.hn T.ty_Let.htk T.ty_Let.hm
    refine ⟨_, (pss_cons (ps_if (pt_val (pe_callB call_isinst (by rfl) T.z_isinstance PyProof.Rows.boot_isinstance (pa_cons (pv 0) (pa_cons (pe_bltn (v := V.ty "list") rfl T.z_list PyProof.Rows.boot_list rfl) pa_nil))))
        (pss_one (ps_ret (pe_comp (N' := ["member"]) (ix := (List.replicate 1 none)) rfl (clok_none rfl (by decide +kernel) (by decide +kernel)) (ixok_none rfl) (pi_seq (pv 0)) (fun _ _ _ _ => (pg_name (i := 0) nd_comp_0 rfl (Or.inl rfl) (Or.inr rfl))) (fun _ _ _ _ => (pe_call G_copied (hr.mono (by omega)) rfl T.m_copied T.F_copied.kp T.b_copied .nil pass0 (pa_cons (pv 0) pa_nil))))))
        pss_nil)
      (pss_cons (ps_if (pt_val (pe_callB call_isinst (by rfl) T.z_isinstance PyProof.Rows.boot_isinstance (pa_cons (pv 0) (pa_cons (pe_bltn (v := V.ty "tuple") rfl T.z_tuple PyProof.Rows.boot_tuple rfl) pa_nil))))
        (pss_one (ps_ret (pe_callTy call_tuple_of (by rfl) T.z_tuple PyProof.Rows.boot_tuple (pa_cons (pe_comp (N' := ["member"]) (ix := (List.replicate 1 none)) rfl (clok_none rfl (by decide +kernel) (by decide +kernel)) (ixok_none rfl) (pi_seq (pv 0)) (fun _ _ _ _ => (pg_name (i := 0) nd_comp_0 rfl (Or.inl rfl) (Or.inr rfl))) (fun _ _ _ _ => (pe_call G_copied (hr.mono (by omega)) rfl T.m_copied T.F_copied.kp T.b_copied .nil pass0 (pa_cons (pv 0) pa_nil)))) pa_nil))))
        pss_nil)
      (pss_cons (ps_if (pt_val (pe_callB call_isinst (by rfl) T.z_isinstance PyProof.Rows.boot_isinstance (pa_cons (pv 0) (pa_cons (pe_bltn (v := V.ty "dict") rfl T.z_dict PyProof.Rows.boot_dict rfl) pa_nil))))
        (pss_one ps_never)
        pss_nil)
      (pss_one (ps_ret (pv 0)))))), ?_⟩
    refine ⟨_, rfl, _, _, _, _, rfl, ty, isi_bt T.mb_Let_list (by decide +kernel), false, rfl, iteF ?_⟩
    refine ⟨_, rfl, _, _, _, _, rfl, ty, isi_bt T.mb_Let_tuple (by decide +kernel), false, rfl, iteF ?_⟩
    exact ⟨_, rfl, _, _, _, _, rfl, ty, isi_bt T.mb_Let_dict (by decide +kernel), false, rfl, iteF ⟨_, rfl, k⟩⟩
theorem ok_copL (T : Txt K mg t) : FnOk P w K mg base CX0 2 t.f_copied t.d_copied ["value"] (sp_cpL t) := by
  have G_copied := ok_copI (P := P) (w := w) (base := base) T
  refine T.F_copied.ok sc_copied (fun vs H Q E h => ?_) (fun cdv A outer s H vs Q E hr h => ?_)
  · obtain ⟨p, xs, rfl, _⟩ := h
    rfl
  · obtain ⟨p, xs, rfl, e, hl, hx, k⟩ := h
    refine ⟨_, (pss_cons (ps_if (pt_val (pe_callB call_isinst (by rfl) T.z_isinstance PyProof.Rows.boot_isinstance (pa_cons (pv 0) (pa_cons (pe_bltn (v := V.ty "list") rfl T.z_list PyProof.Rows.boot_list rfl) pa_nil))))
        (pss_one (ps_ret (pe_comp (N' := ["member"]) (ix := (List.replicate 1 none)) rfl (clok_none rfl (by decide +kernel) (by decide +kernel)) (ixok_none rfl) (pi_seq (pv 0)) (fun _ _ _ _ => (pg_name (i := 0) nd_comp_0 rfl (Or.inl rfl) (Or.inr rfl))) (fun _ _ _ _ => (pe_call G_copied (hr.mono (by omega)) rfl T.m_copied T.F_copied.kp T.b_copied .nil pass0 (pa_cons (pv 0) pa_nil))))))
        pss_nil)
      (pss_cons (ps_if (pt_val (pe_callB call_isinst (by rfl) T.z_isinstance PyProof.Rows.boot_isinstance (pa_cons (pv 0) (pa_cons (pe_bltn (v := V.ty "tuple") rfl T.z_tuple PyProof.Rows.boot_tuple rfl) pa_nil))))
        (pss_one (ps_ret (pe_callTy call_tuple_of (by rfl) T.z_tuple PyProof.Rows.boot_tuple (pa_cons (pe_comp (N' := ["member"]) (ix := (List.replicate 1 none)) rfl (clok_none rfl (by decide +kernel) (by decide +kernel)) (ixok_none rfl) (pi_seq (pv 0)) (fun _ _ _ _ => (pg_name (i := 0) nd_comp_0 rfl (Or.inl rfl) (Or.inr rfl))) (fun _ _ _ _ => (pe_call G_copied (hr.mono (by omega)) rfl T.m_copied T.F_copied.kp T.b_copied .nil pass0 (pa_cons (pv 0) pa_nil)))) pa_nil))))
        pss_nil)
      (pss_cons (ps_if (pt_val (pe_callB call_isinst (by rfl) T.z_isinstance PyProof.Rows.boot_isinstance (pa_cons (pv 0) (pa_cons (pe_bltn (v := V.ty "dict") rfl T.z_dict PyProof.Rows.boot_dict rfl) pa_nil))))
        (pss_one ps_never)
        pss_nil)
      (pss_one (ps_ret (pv 0)))))), ?_⟩
    refine ⟨_, rfl, _, _, _, _, rfl, .lst e, isi_same "list", true, rfl, iteT ?_⟩
    refine .inl ⟨_, rfl, p, rfl, ⟨_, SqL.of e⟩, fun D hD => ?_⟩
    refine comp_listQ (K := K) (a := p) (D := D) (xs := xs) (fun i ys H2 => Same H H2 ∧ H2 D = some (.lst ys) ∧ ys = xs.take i)
      ⟨same_new hD, upd_same, rfl⟩ (fun i ys H2 ⟨s2, _⟩ => SqL.of (s2 _ _ e)) ?_ ?_
    · rintro i x ys H2 hxi ⟨s2, hD2, rfl⟩
      obtain ⟨a, dx, fs, rfl, ea⟩ := hx x (List.mem_of_getElem? hxi)
      have hlt : (xs.take i).length ≤ xs.length := by rw [List.length_take]; omega
      refine ⟨True.intro, _, rfl, a, dx, fs, rfl, s2 _ _ ea, hD2, line_lt (by omega), same_fresh s2 hD, upd_same, ?_⟩
      rw [List.take_add_one, hxi]
      rfl
    · rintro ys H2 ⟨s2, hD2, rfl⟩
      rw [List.take_length] at hD2
      exact k D H2 hD s2 hD2
theorem ok_cop (T : Txt K mg t) : FnOk P w K mg base CX0 4 t.f_copied t.d_copied ["value"] (fun vs H Q E => sp_cop 3 vs H Q E ∨ sp_cpL t vs H Q E) := FnOk.or (ok_copied T 3) ((ok_copL T).mono (by omega))
theorem ok_Let_init (T : Txt K mg t) : FnOk P w K mg base CX0 5 t.f_Let_init t.d_Let_init ["self", "name", "axes", "term"] (sp_initL t) := by
  have G_copied := ok_cop (P := P) (w := w) (base := base) T
  refine T.F_Let_init.ok sc_Let_init (fun vs H Q E h => ?_) (fun cdv A outer s H vs Q E hr h => ?_)
  · obtain ⟨p, dx, l, n, x, ys, rfl, _⟩ := h
    rfl
  · obtain ⟨p, dx, l, n, x, ys, rfl, hp, hl, hy, k⟩ := h
    obtain ⟨c2, c3⟩ := encS_ok ys
    have lp : l ≠ p := ne_of hl hp (by intro z; cases z)
    refine ⟨_, (pss_cons (ps_fld (pv 0) (pv 1) rfl)
      (pss_cons (ps_fld (pv 0) (pe_call G_copied (hr.mono (by omega)) rfl T.m_copied T.F_copied.kp T.b_copied .nil pass0 (pa_cons (pv 2) pa_nil)) rfl)
      (pss_one (ps_fld (pv 0) (pv 3) rfl)))), _, rfl, _, rfl, p, _, dx, [], rfl, hp, T.cl_Let, T.na_Let_name, (by decide), ?_⟩
    refine ⟨_, rfl, .inl ⟨.ref l, encS ys, rfl, (S_rep hl).ins hp, by omega, by omega, fun v' H2 s2 rp2 => ?_⟩⟩
    have hp2 := s2 _ _ (upd_same (H := H) (a := p))
    obtain ⟨c, rfl, ec⟩ := rep_S rp2
    obtain ⟨hc0, ec⟩ := restr_some ec
    have hcn : H c = none := by
      by_cases z : c = p
      · subst z; rw [upd_same] at hc0; cases hc0
      · rw [upd_ne z] at hc0; exact hc0
    have cp : c ≠ p := fun z => by subst z; rw [hp] at hcn; cases hcn
    refine ⟨_, rfl, p, _, dx, _, rfl, hp2, T.cl_Let, T.na_Let_axes, (by show 1 < 1000; decide), ?_⟩
    refine ⟨_, rfl, _, rfl, p, _, dx, _, rfl, upd_same, T.cl_Let, T.na_Let_term, (by show 2 < 1000; decide), ?_⟩
    show Q V.non (upd (upd H2 p _) p (.ins t.C_Let dx (putF "term" n (putF "axes" (.ref c) (putF "name" (.str x) [])))))
    have e1 : putF "axes" (V.ref c) (putF "name" (.str x) []) = ([("name", .str x), ("axes", .ref c)] : List (Str × V)) := by rw [putF_nil, putF_ne (by decide +kernel), putF_nil]
    have e2 : putF "term" n ([("name", .str x), ("axes", .ref c)] : List (Str × V)) = ([("name", .str x), ("axes", .ref c), ("term", n)] : List (Str × V)) := by rw [putF_ne (by decide +kernel), putF_ne (by decide +kernel), putF_nil]
    rw [upd_upd, e1, e2]
    refine k c _ hcn upd_same (by rw [upd_ne cp]; exact ec) fun b o hb e => ?_
    rw [upd_ne hb]
    exact s2 _ _ (by rw [upd_ne hb]; exact e)
theorem ok_Program_init (T : Txt K mg t) : FnOk P w K mg base CX0 5 t.f_Program_init t.d_Program_init ["self", "wheel", "axes", "tables", "lets", "outs"] (sp_initP t) := by
  have G_copied := ok_cop (P := P) (w := w) (base := base) T
  refine T.F_Program_init.ok sc_Program_init (fun vs H Q E h => ?_) (fun cdv A outer s H vs Q E hr h => ?_)
  · obtain ⟨p, dx, a, tt, l, o, wh, ax, tb, xs, os, rfl, _⟩ := h
    rfl
  · obtain ⟨p, dx, a, tt, l, o, wh, ax, tb, xs, os, rfl, hp, ra, la, rt, lt, lt2, hl, ll, hx, ro, lo, k⟩ := h
    have a2 := encIx_ok ax
    have a3 := ix_cnt (ix := ax)
    obtain ⟨t2, t3⟩ := encTb_ok tb lt2
    obtain ⟨o2, o3⟩ := encS_ok os
    have fr : ∀ {H' : Hp} {u : HO} {b : Addr}, Same (upd H p u) H' → H' b = none → H b = none := fun {H' u b} s z => by
      have z2 := s.free z
      by_cases zb : b = p
      · subst zb; rw [upd_same] at z2; cases z2
      · rw [upd_ne zb] at z2; exact z2
    have e1 : ∀ v : V, putF "axes" v [("wheel", .int wh)] = ([("wheel", .int wh), ("axes", v)] : List (Str × V)) := fun v => by rw [putF_ne (by decide +kernel), putF_nil]
    have e2 : ∀ u v : V, putF "tables" v [("wheel", .int wh), ("axes", u)] = ([("wheel", .int wh), ("axes", u), ("tables", v)] : List (Str × V)) := fun u v => by rw [putF_ne (by decide +kernel), putF_ne (by decide +kernel), putF_nil]
    have e3 : ∀ u1 u v : V, putF "lets" v [("wheel", .int wh), ("axes", u1), ("tables", u)] = ([("wheel", .int wh), ("axes", u1), ("tables", u), ("lets", v)] : List (Str × V)) := fun u1 u v => by rw [putF_ne (by decide +kernel), putF_ne (by decide +kernel), putF_ne (by decide +kernel), putF_nil]
    have e4 : ∀ u1 u2 u v : V, putF "outs" v [("wheel", .int wh), ("axes", u1), ("tables", u2), ("lets", u)] = ([("wheel", .int wh), ("axes", u1), ("tables", u2), ("lets", u), ("outs", v)] : List (Str × V)) := fun u1 u2 u v => by rw [putF_ne (by decide +kernel), putF_ne (by decide +kernel), putF_ne (by decide +kernel), putF_ne (by decide +kernel), putF_nil]
    refine ⟨_, (pss_cons (ps_fld (pv 0) (pv 1) rfl)
      (pss_cons (ps_fld (pv 0) (pe_call G_copied (hr.mono (by omega)) rfl T.m_copied T.F_copied.kp T.b_copied .nil pass0 (pa_cons (pv 2) pa_nil)) rfl)
      (pss_cons (ps_fld (pv 0) (pe_call G_copied (hr.mono (by omega)) rfl T.m_copied T.F_copied.kp T.b_copied .nil pass0 (pa_cons (pv 3) pa_nil)) rfl)
      (pss_cons (ps_fld (pv 0) (pe_call G_copied (hr.mono (by omega)) rfl T.m_copied T.F_copied.kp T.b_copied .nil pass0 (pa_cons (pv 4) pa_nil)) rfl)
      (pss_one (ps_fld (pv 0) (pe_call G_copied (hr.mono (by omega)) rfl T.m_copied T.F_copied.kp T.b_copied .nil pass0 (pa_cons (pv 5) pa_nil)) rfl)))))), _, rfl, _, rfl, p, _, dx, [], rfl, hp, T.cl_Program, T.na_Program_wheel, (by decide), ?_⟩
    rw [putF_nil]
    -- axes
    refine ⟨_, rfl, .inl ⟨.ref a, encIx ax, rfl, ra.ins hp, by omega, by omega, fun va H2 s2 rp2 => ?_⟩⟩
    have hp2 := s2 _ _ (upd_same (H := H) (a := p))
    obtain ⟨a', xa, rfl, ea, _⟩ := rep_lst (show Rep _ va (.list (ax.map encI)) from rp2)
    refine ⟨_, rfl, p, _, dx, _, rfl, hp2, T.cl_Program, T.na_Program_axes, (by show 1 < 1000; decide), ?_⟩
    rw [e1]
    have sA : ∀ b u, b ≠ p → H b = some u → upd H2 p (.ins t.C_Program dx [("wheel", .int wh), ("axes", .ref a')]) b = some u := fun b u hb e => by rw [upd_ne hb]; exact s2 _ _ (by rw [upd_ne hb]; exact e)
    have rA : Rep (restr (fun b => H b = none) (upd H2 p (.ins t.C_Program dx [("wheel", .int wh), ("axes", .ref a')]))) (.ref a') (encIx ax) := by
      refine rp2.imp2 (fun q ys z => ?_) fun q ys z => ?_
      · obtain ⟨z1, z2⟩ := restr_some z
        have hq : H q = none := fr (Same.refl _) z1
        exact restr_mk hq (by rw [upd_ne (ne_of z2 hp2 (by intro z; cases z))]; exact z2)
      · obtain ⟨z1, z2⟩ := restr_some z
        have hq : H q = none := fr (Same.refl _) z1
        exact restr_mk hq (by rw [upd_ne (ne_of z2 hp2 (by intro z; cases z))]; exact z2)
    -- tables
    have nap : ∀ {b : Addr} {u : HO}, H b = some u → (∀ C d fs, u ≠ .ins C d fs) → b ≠ p := fun e n z => by subst z; rw [hp] at e; cases e; exact n _ _ _ rfl
    have rt2 : Rep (upd H2 p (.ins t.C_Program dx [("wheel", .int wh), ("axes", .ref a')])) (.ref tt) (encTb tb) := rt.imp2 (fun q ys z => sA _ _ (nap z (by intros; intro z; cases z)) z) fun q ys z => sA _ _ (nap z (by intros; intro z; cases z)) z
    refine ⟨_, rfl, .inl ⟨.ref tt, encTb tb, rfl, rt2, by omega, by omega, fun vt H3 s3 rp3 => ?_⟩⟩
    have hp3 := s3 _ _ (upd_same (H := H2) (a := p))
    obtain ⟨t', xt, rfl, et, _⟩ := rep_lst (show Rep _ vt (.list (tb.map encT)) from rp3)
    refine ⟨_, rfl, p, _, dx, _, rfl, hp3, T.cl_Program, T.na_Program_tables, (by show 2 < 1000; decide), ?_⟩
    rw [e2]
    have f3 : ∀ {b : Addr}, upd H2 p (.ins t.C_Program dx [("wheel", .int wh), ("axes", .ref a')]) b = none → H b = none := fun {b} z => by
      by_cases zb : b = p
      · subst zb; rw [upd_same] at z; cases z
      · rw [upd_ne zb] at z; exact fr s2 z
    have mv3 : ∀ {v : V} {d : PyData} {G : Hp}, Same G H3 → (∀ b o, G b = some o → H b = none) → Rep G v d → Rep (restr (fun b => H b = none) (upd H3 p (.ins t.C_Program dx [("wheel", .int wh), ("axes", .ref a'), ("tables", .ref t')]))) v d := fun {v d G} sg hg r => r.imp2 (fun q ys z => restr_mk (hg _ _ z) (by rw [upd_ne (ne_of (sg _ _ z) hp3 (by intro z; cases z))]; exact sg _ _ z)) fun q ys z => restr_mk (hg _ _ z) (by rw [upd_ne (ne_of (sg _ _ z) hp3 (by intro z; cases z))]; exact sg _ _ z)
    have sB : ∀ b u, b ≠ p → H b = some u → upd H3 p (.ins t.C_Program dx [("wheel", .int wh), ("axes", .ref a'), ("tables", .ref t')]) b = some u := fun b u hb e => by rw [upd_ne hb]; exact s3 _ _ (sA b u hb e)
    have rA3 := mv3 (restr_sub.trans s3) (fun b o z => (restr_some z).1) rA
    have rT3 := mv3 restr_sub (fun b o z => f3 (restr_some z).1) rp3
    -- lets
    refine ⟨_, rfl, .inr ⟨l, xs, rfl, sB _ _ (nap hl (by intros; intro z; cases z)) hl, ll, fun x hxx => ?_, fun l' H4 hl' s4 hl4 => ?_⟩⟩
    · obtain ⟨b, db, fs, rfl, nb, eb⟩ := hx x hxx
      exact ⟨b, db, fs, rfl, sB _ _ nb eb⟩
    have hp4 := s4 _ _ (upd_same (H := H3) (a := p))
    refine ⟨_, rfl, p, _, dx, _, rfl, hp4, T.cl_Program, T.na_Program_lets, (by show 3 < 1000; decide), ?_⟩
    rw [e3]
    have hln : H l' = none := by
      by_cases zb : l' = p
      · subst zb; rw [upd_same] at hl'; cases hl'
      · rw [upd_ne zb] at hl'; exact f3 (s3.free hl')
    have lp : l' ≠ p := fun z => by subst z; rw [hp] at hln; cases hln
    have sC : ∀ b u, b ≠ p → H b = some u → upd H4 p (.ins t.C_Program dx [("wheel", .int wh), ("axes", .ref a'), ("tables", .ref t'), ("lets", .ref l')]) b = some u := fun b u hb e => by rw [upd_ne hb]; exact s4 _ _ (sB b u hb e)
    have ro4 : Rep (upd H4 p (.ins t.C_Program dx [("wheel", .int wh), ("axes", .ref a'), ("tables", .ref t'), ("lets", .ref l')])) (.ref o) (encS os) := ro.imp2 (fun q ys z => sC _ _ (nap z (by intros; intro z; cases z)) z) fun q ys z => sC _ _ (nap z (by intros; intro z; cases z)) z
    -- outs
    refine ⟨_, rfl, .inl ⟨.ref o, encS os, rfl, ro4, by omega, by omega, fun vo H5 s5 rp5 => ?_⟩⟩
    have hp5 := s5 _ _ (upd_same (H := H4) (a := p))
    obtain ⟨o', rfl, eo⟩ := rep_S rp5
    refine ⟨_, rfl, p, _, dx, _, rfl, hp5, T.cl_Program, T.na_Program_outs, (by show 4 < 1000; decide), ?_⟩
    show Q V.non (upd H5 p _)
    rw [e4]
    have f5 : ∀ {b : Addr}, upd H4 p (.ins t.C_Program dx [("wheel", .int wh), ("axes", .ref a'), ("tables", .ref t'), ("lets", .ref l')]) b = none → H b = none := fun {b} z => by
      by_cases zb : b = p
      · subst zb; rw [upd_same] at z; cases z
      · rw [upd_ne zb] at z
        have z := s4.free z
        rw [upd_ne zb] at z
        exact f3 (s3.free z)
    have mv5 : ∀ {v : V} {d : PyData} {G : Hp}, (∀ b xs, G b = some (.lst xs) → H5 b = some (.lst xs)) → (∀ b xs, G b = some (.tup xs) → H5 b = some (.tup xs)) → (∀ b o, G b = some o → H b = none) → Rep G v d → Rep (restr (fun b => H b = none) (upd H5 p (.ins t.C_Program dx [("wheel", .int wh), ("axes", .ref a'), ("tables", .ref t'), ("lets", .ref l'), ("outs", .ref o')]))) v d := fun {v d G} s1 s2 hg r => r.imp2 (fun q ys z => restr_mk (hg _ _ z) (by rw [upd_ne (ne_of (s1 _ _ z) hp5 (by intro z; cases z))]; exact s1 _ _ z)) fun q ys z => restr_mk (hg _ _ z) (by rw [upd_ne (ne_of (s2 _ _ z) hp5 (by intro z; cases z))]; exact s2 _ _ z)
    have up4 : ∀ {b : Addr} {u : HO}, (∀ C d fs, u ≠ .ins C d fs) → upd H3 p (.ins t.C_Program dx [("wheel", .int wh), ("axes", .ref a'), ("tables", .ref t')]) b = some u → H5 b = some u := fun {b u} n z => s5 _ _ (by
      have z4 := s4 _ _ z
      rw [upd_ne (ne_of z4 hp4 (n _ _ _))]
      exact z4)
    refine k a' t' l' o' _ upd_same (mv5 (fun b ys z => up4 (by intros; intro z; cases z) (restr_sub _ _ z)) (fun b ys z => up4 (by intros; intro z; cases z) (restr_sub _ _ z)) (fun b o z => (restr_some z).1) rA3)
      (mv5 (fun b ys z => up4 (by intros; intro z; cases z) (restr_sub _ _ z)) (fun b ys z => up4 (by intros; intro z; cases z) (restr_sub _ _ z)) (fun b o z => (restr_some z).1) rT3) hln ?_
      (mv5 (fun b ys z => restr_sub _ _ z) (fun b ys z => restr_sub _ _ z) (fun b o z => f5 (restr_some z).1) rp5) fun b u hb e => ?_
    · rw [upd_ne lp]
      exact s5 _ _ (by rw [upd_ne lp]; exact hl4)
    · rw [upd_ne hb]
      exact s5 _ _ (sC b u hb e)
end
end My

set_option Elab.async false
set_option linter.all false
set_option maxRecDepth 100000
set_option maxHeartbeats 4000000
namespace My
open PySem L2 M84
local macro_rules | `(tactic| walk_at "lk") => `(tactic| first | with_reducible exact lk0 | (refine lk1 (by decide +kernel) ?_; walk_at "lk") | rfl)
def TmW : Tm → Prop
  | .num z => Sm z
  | .place x => NmOk x
  | .read a ix => NmOk a ∧ ix.length ≤ 12 ∧ ∀ e ∈ ix, NmOk e.1 ∧ Sm e.2
  | .sum x b => NmOk x ∧ TmW b
  | .pair _ l r => TmW l ∧ TmW r
  | .guard x lo hi l r => NmOk x ∧ Sm lo ∧ Sm hi ∧ TmW l ∧ TmW r
def sp_sign (k : Op3) : Sp := fun vs H Q _ => ∃ v, vs = [v] ∧ Q (.str k.sign) H
def sp_index : Sp := fun vs H Q _ => ∃ (x : Str) (z : Int), vs = [.str x, .int z] ∧ NmOk x ∧ Sm z ∧ Q (.str (idxW (x, z))) H
def sp_W (A : Adr) (n : Nat) (is : Tm → Prop) : Sp := fun vs H Q _ => ∃ (v : V) (t : Tm), vs = [v] ∧ is t ∧ Ob A H v t ∧ TmW t ∧ dep t ≤ n ∧ nod t ≤ 1000 ∧ ∀ (p : Addr) (H' : Hp), H p = none → Same H H' → H' p = some (.lst ((words t).map V.str)) → Q (.ref p) H'
theorem insW_lenB {ix : List (Str × Int)} (h : ∀ e ∈ ix, NmOk e.1 ∧ Sm e.2) (hl : ix.length ≤ 12) : (insW ix).length ≤ 800 := by
  have j := StrLaws.join_length_le "," (ix.map idxW)
  have s := sum_len ix h
  have p : (("," : Str)).length = 1 := by decide +kernel
  have e : insW ix = Str.join "," (ix.map idxW) := StrLaws.glued_eq_join _ _
  rw [e]
  rw [p, List.length_map] at j
  omega
section
variable {P : Program} {w : World} {K : PySem.W.Frag} {mg : Str → Option Value} {base : Heap} {t : Adr}
theorem ok_Plus_sign (T : Txt K mg t) : FnOk P w K mg base CX0 1 t.f_Plus_sign t.d_Plus_sign ["self"] (sp_sign .plus) := by
  refine T.F_Plus_sign.ok sc_Plus_sign (fun vs H Q E h => ?_) (fun cdv A outer s H vs Q E hr h => ?_)
  · obtain ⟨v, rfl, _⟩ := h
    rfl
  · obtain ⟨v, rfl, k⟩ := h
    exact ⟨_, (pss_one (ps_ret pe_str)), k⟩
theorem ok_Minus_sign (T : Txt K mg t) : FnOk P w K mg base CX0 1 t.f_Minus_sign t.d_Minus_sign ["self"] (sp_sign .minus) := by
  refine T.F_Minus_sign.ok sc_Minus_sign (fun vs H Q E h => ?_) (fun cdv A outer s H vs Q E hr h => ?_)
  · obtain ⟨v, rfl, _⟩ := h
    rfl
  · obtain ⟨v, rfl, k⟩ := h
    exact ⟨_, (pss_one (ps_ret pe_str)), k⟩
theorem ok_Times_sign (T : Txt K mg t) : FnOk P w K mg base CX0 1 t.f_Times_sign t.d_Times_sign ["self"] (sp_sign .times) := by
  refine T.F_Times_sign.ok sc_Times_sign (fun vs H Q E h => ?_) (fun cdv A outer s H vs Q E hr h => ?_)
  · obtain ⟨v, rfl, _⟩ := h
    rfl
  · obtain ⟨v, rfl, k⟩ := h
    exact ⟨_, (pss_one (ps_ret pe_str)), k⟩
theorem signOk (T : Txt K mg t) (k : Op3) : ∃ f fd, Meth K (clsOf t k) "sign" f ∧ FnOk P w K mg base CX0 1 f fd ["self"] (sp_sign k) ∧ Binds K fd ["self"] [] := by
  cases k with
  | plus => exact ⟨_, _, T.me_Plus_sign, ok_Plus_sign T, T.b_Plus_sign⟩
  | minus => exact ⟨_, _, T.me_Minus_sign, ok_Minus_sign T, T.b_Minus_sign⟩
  | times => exact ⟨_, _, T.me_Times_sign, ok_Times_sign T, T.b_Times_sign⟩
theorem pairCl (T : Txt K mg t) (k : Op3) : Cls K (clsOf t k) := by cases k with
  | plus => exact T.cl_Plus
  | minus => exact T.cl_Minus
  | times => exact T.cl_Times
theorem pairL (T : Txt K mg t) (k : Op3) : NoAttr K (clsOf t k) "left" := by cases k with
  | plus => exact T.na_Plus_left
  | minus => exact T.na_Minus_left
  | times => exact T.na_Times_left
theorem pairR (T : Txt K mg t) (k : Op3) : NoAttr K (clsOf t k) "right" := by cases k with
  | plus => exact T.na_Plus_right
  | minus => exact T.na_Minus_right
  | times => exact T.na_Times_right
theorem pairW (T : Txt K mg t) (k : Op3) : Meth K (clsOf t k) "words" t.f_Pair_words := by cases k with
  | plus => exact T.me_Plus_words
  | minus => exact T.me_Minus_words
  | times => exact T.me_Times_words
theorem ok_index_word (T : Txt K mg t) : FnOk P w K mg base CX0 1 t.f_index_word t.d_index_word ["axis", "shift"] sp_index := by
  refine T.F_index_word.ok sc_index_word (fun vs H Q E h => ?_) (fun cdv A outer s H vs Q E hr h => ?_)
  · obtain ⟨x, z, rfl, _⟩ := h
    rfl
  · obtain ⟨x, z, rfl, hx, hz, k⟩ := h
    refine ⟨_, (pss_cons (ps_if (pt_cmpR op_eq (pv 0) pe_str (nomark _))
        (pss_one (ps_ret (pe_callTy call_str_int (by rfl) T.z_str PyProof.Rows.boot_str (pa_cons (pv 1) pa_nil))))
        pss_nil)
      (pss_cons (ps_if (pt_cmpR op_eq (pv 1) pe_int (nomark _))
        (pss_one (ps_ret (pv 0)))
        pss_nil)
      (pss_cons (ps_if (pt_cmpR op_gt (pv 1) pe_int (nomark _))
        (pss_one (ps_ret (pe_fstr (pj_fmt (pv 0) (pj_lit (pj_fmt (pv 1) pj_nil))))))
        pss_nil)
      (pss_one (ps_ret (pe_fstr (pj_fmt (pv 0) (pj_fmt (pv 1) pj_nil)))))))), ?_⟩
    have lz := int_len hz
    have lx := hx.1
    have lp : ("+" : Str).length = 1 := by decide +kernel
    refine ⟨_, rfl, rfl, _, rfl, iteD (fun h => ?_) (fun h => ?_)⟩
    · have e : idxW (x, z) = (toString z : Str) := by
        unfold idxW
        rw [if_pos (by injection h)]
      rw [e] at k
      exact ⟨_, rfl, z, rfl, log_ok hz, k⟩
    · have hn : ¬ x = "" := fun e => h (by rw [e])
      refine ⟨_, rfl, rfl, _, rfl, iteD (fun h0 => ?_) (fun h0 => ?_)⟩
      · have e : idxW (x, z) = x := by
          unfold idxW
          rw [if_neg hn, if_pos (by injection h0)]
        rw [e] at k
        exact ⟨_, rfl, k⟩
      · have h0' : ¬ z = 0 := fun e => h0 (by rw [e])
        refine ⟨_, rfl, _, _, rfl, rfl, _, rfl, iteD (fun h1 => ?_) (fun h1 => ?_)⟩
        · have e : idxW (x, z) = Str.empty ++ x ++ "+" ++ (toString z : Str) := by
            unfold idxW
            rw [if_neg hn, if_neg h0', if_pos h1, Str.empty_append]
          rw [e] at k
          have l1 : (Str.empty ++ x).length ≤ 20 := by rw [Str.empty_append]; exact lx
          have l2 : (Str.empty ++ x ++ "+").length ≤ 21 := by rw [Str.length_append]; omega
          have l3 : (Str.empty ++ x ++ "+" ++ (toString z : Str)).length ≤ 60 := by rw [Str.length_append]; omega
          exact ⟨_, rfl, x, .inl ⟨rfl, line_le (by omega)⟩, line_le (by omega), line_le (by omega), _, rfl, _, .inr ⟨z, rfl, log_ok hz, rfl⟩, line_le (by omega), line_le (by omega), k⟩
        · have e : idxW (x, z) = Str.empty ++ x ++ (toString z : Str) := by
            unfold idxW
            rw [if_neg hn, if_neg h0', if_neg h1, Str.empty_append]
          rw [e] at k
          have l1 : (Str.empty ++ x).length ≤ 20 := by rw [Str.empty_append]; exact lx
          have l3 : (Str.empty ++ x ++ (toString z : Str)).length ≤ 60 := by rw [Str.length_append]; omega
          exact ⟨_, rfl, x, .inl ⟨rfl, line_le (by omega)⟩, line_le (by omega), _, rfl, _, .inr ⟨z, rfl, log_ok hz, rfl⟩, line_le (by omega), line_le (by omega), k⟩
theorem ok_Number_words (T : Txt K mg t) (n : Nat) : FnOk P w K mg base CX0 1 t.f_Number_words t.d_Number_words ["self"] (sp_W t n fun u => ∃ z, u = .num z) := by
  refine T.F_Number_words.ok sc_Number_words (fun vs H Q E h => ?_) (fun cdv A outer s H vs Q E hr h => ?_)
  · obtain ⟨v, u, rfl, _⟩ := h
    rfl
  · obtain ⟨v, u, rfl, ⟨z, rfl⟩, ob, g, _, _, k⟩ := h
    cases ob with
    | @num a dx _ e =>
      refine ⟨_, (pss_one (ps_ret (pe_lst (pa_cons (pe_callTy call_str_int (by rfl) T.z_str PyProof.Rows.boot_str (pa_cons (pe_fld (pv 0) rfl) pa_nil)) pa_nil)))), ?_⟩
      refine ⟨_, rfl, a, _, dx, _, _, rfl, e, T.cl_Number, T.na_Number_number, (by walk_at "lk"), z, rfl, log_ok g, line_le (by simp), fun p hp => ?_⟩
      exact k p _ hp (same_new hp) upd_same
theorem ok_Place_words (T : Txt K mg t) (n : Nat) : FnOk P w K mg base CX0 1 t.f_Place_words t.d_Place_words ["self"] (sp_W t n fun u => ∃ z, u = .place z) := by
  refine T.F_Place_words.ok sc_Place_words (fun vs H Q E h => ?_) (fun cdv A outer s H vs Q E hr h => ?_)
  · obtain ⟨v, u, rfl, _⟩ := h
    rfl
  · obtain ⟨v, u, rfl, ⟨z, rfl⟩, ob, g, _, _, k⟩ := h
    cases ob with
    | @place a dx _ e =>
      refine ⟨_, (pss_one (ps_ret (pe_lst (pa_cons (pe_fld (pv 0) rfl) pa_nil)))), ?_⟩
      refine ⟨_, rfl, a, _, dx, _, _, rfl, e, T.cl_Place, T.na_Place_axis, (by walk_at "lk"), line_le (by simp), fun p hp => ?_⟩
      exact k p _ hp (same_new hp) upd_same
theorem ok_Read_words (T : Txt K mg t) (n : Nat) : FnOk P w K mg base CX0 2 t.f_Read_words t.d_Read_words ["self"] (sp_W t n fun u => ∃ z ix, u = .read z ix) := by
  have G_index_word := ok_index_word (P := P) (w := w) (base := base) T
  refine T.F_Read_words.ok sc_Read_words (fun vs H Q E h => ?_) (fun cdv A outer s H vs Q E hr h => ?_)
  · obtain ⟨v, u, rfl, _⟩ := h
    rfl
  · obtain ⟨v, u, rfl, ⟨z, ix, rfl⟩, ob, g, _, _, k⟩ := h
    obtain ⟨g1, g2, g3⟩ := g
    have lz := g1.1
    have li := insW_lenB g3 g2
    have si := sum_len ix g3
    have lc : ("," : Str).length = 1 := by decide +kernel
    have lb : ("[" : Str).length = 1 := by decide +kernel
    have lb' : ("]" : Str).length = 1 := by decide +kernel
    cases ob with
    | @read a dx l _ _ e rp =>
      obtain ⟨_, es, q, el, rs⟩ := rep_lst (show Rep H (.ref l) (.list (ix.map encI)) from rp)
      cases q
      have hl := rs.len
      rw [List.length_map] at hl
      refine ⟨_, (pss_cons (ps_set (i := 1) sc_Read_words.nd rfl (Or.inl rfl) (pe_bm PySem.F.plainAttrs_str PySem.F.slot_str_join PySem.F.type_str_join mt_join pe_str (pa_cons (pe_comp (N' := ["axis", "shift"]) (ix := (List.replicate 2 none)) (g := gTup K 2 (gCons (gName 0) (gCons (gName 1) gNil))) rfl (clok_none rfl (by decide +kernel) (by decide +kernel)) (ixok_none rfl) (pi_list (pe_fld (pv 0) rfl)) (fun _ _ _ _ => (pg_tup (n := 2) rfl (pgs_cons (pg_name (i := 0) nd_comp_1 rfl (Or.inl rfl) (Or.inr rfl)) (pgs_cons (pg_name (i := 1) nd_comp_1 rfl (Or.inl rfl) (Or.inr rfl)) pgs_nil)))) (fun _ _ _ _ => (pe_call G_index_word (hr.mono (by omega)) rfl T.m_index_word T.F_index_word.kp T.b_index_word .nil pass0 (pa_cons (pv 0) (pa_cons (pv 1) pa_nil))))) pa_nil)))
      (pss_one (ps_ret (pe_lst (pa_cons (pe_op op_add_str (pe_op op_add_str (pe_op op_add_str (pe_fld (pv 0) rfl) pe_str) (pv 1)) pe_str) pa_nil))))), ?_⟩
      refine ⟨rfl, _, rfl, a, _, dx, _, _, rfl, e, T.cl_Read, T.na_Read_indexes, (by walk_at "lk"), l, rfl, ⟨_, SqL.of el⟩, fun D hD => ?_⟩
      refine comp_listQ (K := K) (a := l) (D := D) (xs := es) (fun i ys H2 => Same H H2 ∧ H2 D = some (.lst ys) ∧ ys = ((ix.take i).map idxW).map V.str) ⟨same_new hD, upd_same, rfl⟩ (fun i ys H2 ⟨s2, _⟩ => SqL.of (s2 _ _ el)) ?_ ?_
      · rintro i x ys H2 hx ⟨s2, hD2, rfl⟩
        have hi : i < ix.length := by have := (List.getElem?_eq_some_iff.mp hx).1; omega
        obtain ⟨d, hd, rx⟩ := rs.get2 hx
        have hie : ix[i]? = some ix[i] := List.getElem?_eq_getElem hi
        rw [List.getElem?_map, hie] at hd
        cases hd
        obtain ⟨q, rfl, eq⟩ := inv_ix rx
        have gi := g3 _ (List.mem_of_getElem? hie)
        refine ⟨q, _, rfl, SqT.of (s2 _ _ eq), rfl, _, _, rfl, _, _, rfl, rfl, True.intro, _, rfl, _, rfl, _, _, rfl, gi.1, gi.2, ?_⟩
        refine ⟨hD2, line_lt (by simp; omega), same_fresh s2 hD, upd_same, ?_⟩
        rw [List.take_add_one, hie, Option.toList_some, List.map_append, List.map_append]
        rfl
      · rintro ys H2 ⟨s2, hD2, rfl⟩
        rw [hl, List.take_length] at hD2
        refine ⟨_, D, ix.map idxW, rfl, rfl, SqL.of hD2, by rw [lc, List.length_map]; omega, ?_⟩
        refine ⟨_, rfl, a, _, dx, _, _, rfl, s2 _ _ e, T.cl_Read, T.na_Read_array, (by walk_at "lk"), _, _, rfl, rfl, line_le (by omega), _, rfl, _, _, rfl, rfl, ?_, _, _, rfl, rfl, ?_, line_le (by simp), fun p hp => ?_⟩
        · rw [Str.length_append]
          exact line_le (by show z.length + Str.length "[" + (insW ix).length ≤ 1000000; omega)
        · rw [Str.length_append, Str.length_append]
          exact line_le (by show z.length + Str.length "[" + (insW ix).length + Str.length "]" ≤ 1000000; omega)
        · exact k p _ (s2.free hp) (s2.trans (same_new hp)) upd_same
/-- a term's words() can be called -/
def WOk (P : Program) (w : World) (K : PySem.W.Frag) (mg : Str → Option Value) (base : Heap) (A : Adr) (n : Nat) : Prop := ∀ (H : Hp) (v : V) (u : Tm), Ob A H v u → TmW u → dep u ≤ n → nod u ≤ 1000 →
  ∃ (a C dx : Addr) (fs : List (Str × V)) (k : Nat) (f : Addr) (fd : FuncData) (ps : List Str) (sp : Sp), v = .ref a ∧ H a = some (.ins C dx fs) ∧ Cls K C ∧ Meth K C "words" f ∧ fs.lookup ("words" : Str) = none ∧ FnOk P w K mg base CX0 k f fd ps sp ∧ k ≤ n + 2 ∧ Binds K fd ps [] ∧
    ∀ Q : VK, (∀ (p : Addr) (H' : Hp), H p = none → Same H H' → H' p = some (.lst ((words u).map V.str)) → Q (.ref p) H') → sp [v] H Q E0
theorem ok_Sum_words (T : Txt K mg t) {n : Nat} (W : WOk P w K mg base t n) : FnOk P w K mg base CX0 (n + 3) t.f_Sum_words t.d_Sum_words ["self"] (sp_W t (n + 1) fun u => ∃ x b, u = .sum x b) := by
  refine T.F_Sum_words.ok sc_Sum_words (fun vs H Q E h => ?_) (fun cdv A outer s H vs Q E hr h => ?_)
  · obtain ⟨v, u, rfl, _⟩ := h
    rfl
  · obtain ⟨v, u, rfl, ⟨x, b, rfl⟩, ob, g, hd, hn, k⟩ := h
    have hw := words_len b
    simp only [dep, nod] at hd hn
    cases ob with
    | @sum a dx _ u _ e ob =>
      refine ⟨_, (pss_one (ps_ret (pe_op op_cat (pe_lst (pa_cons pe_str (pa_cons (pe_fld (pv 0) rfl) pa_nil))) (pe_methD0 (pe_fld (pv 0) rfl))))), ?_⟩
      refine ⟨_, rfl, a, _, dx, _, _, rfl, e, T.cl_Sum, T.na_Sum_axis, (by walk_at "lk"), line_le (by simp), fun q hq => ?_⟩
      have s1 : Same H (upd H q (.lst [.str "sum", .str x])) := same_new hq
      refine ⟨_, rfl, a, _, dx, _, _, rfl, s1 _ _ e, T.cl_Sum, T.na_Sum_body, (by walk_at "lk"), ?_⟩
      obtain ⟨a', C', dx', fs', k', f', fd', ps', sp', rfl, e', c', m', l', F', hk', b', q'⟩ := W _ u b (ob.imp s1) g.2 (by omega) (by omega)
      refine ⟨a', C', dx', fs', k', f', fd', ps', sp', rfl, e', c', m', l', F', hr.mono (by omega), b', q' _ fun p2 H2 hp2 s2 h2 => ?_⟩
      refine ⟨q, p2, _, _, rfl, rfl, s2 _ _ upd_same, h2, line_le (by simp; omega), fun p hp => ?_⟩
      exact k p _ (s1.free (s2.free hp)) (s1.trans (s2.trans (same_new hp))) (by rw [upd_same]; simp [words])
theorem ok_Pair_words (T : Txt K mg t) {n : Nat} (W : WOk P w K mg base t n) : FnOk P w K mg base CX0 (n + 3) t.f_Pair_words t.d_Pair_words ["self"] (sp_W t (n + 1) fun u => ∃ o x b, u = .pair o x b) := by
  refine T.F_Pair_words.ok sc_Pair_words (fun vs H Q E h => ?_) (fun cdv A outer s H vs Q E hr h => ?_)
  · obtain ⟨v, u, rfl, _⟩ := h
    rfl
  · obtain ⟨v, u, rfl, ⟨o, l, r, rfl⟩, ob, g, hd, hn, k⟩ := h
    have hw1 := words_len l
    have hw2 := words_len r
    simp only [dep, nod] at hd hn
    obtain ⟨fs, fsd, ms, Gs, bs⟩ := signOk (P := P) (w := w) (base := base) T o
    cases ob with
    | @pair a dx _ u v _ _ e ob1 ob2 =>
      refine ⟨_, (pss_one (ps_ret (pe_op op_cat (pe_op op_cat (pe_lst (pa_cons (pe_methD0 (pv 0)) pa_nil)) (pe_methD0 (pe_fld (pv 0) rfl))) (pe_methD0 (pe_fld (pv 0) rfl))))), ?_⟩
      refine ⟨_, rfl, a, _, dx, _, 1, fs, fsd, ["self"], _, rfl, e, pairCl T o, ms, (by walk_at "lk"), Gs, hr.mono (by omega), bs, _, rfl, line_le (by simp), fun q hq => ?_⟩
      have s1 : Same H (upd H q (.lst [.str o.sign])) := same_new hq
      refine ⟨_, rfl, a, _, dx, _, _, rfl, s1 _ _ e, pairCl T o, pairL T o, (by walk_at "lk"), ?_⟩
      obtain ⟨a', C', dx', fs', k', f', fd', ps', sp', rfl, e', c', m', l', F', hk', b', q'⟩ := W _ u l (ob1.imp s1) g.1 (by omega) (by omega)
      refine ⟨a', C', dx', fs', k', f', fd', ps', sp', rfl, e', c', m', l', F', hr.mono (by omega), b', q' _ fun p2 H2 hp2 s2 h2 => ?_⟩
      refine ⟨q, p2, _, _, rfl, rfl, s2 _ _ upd_same, h2, line_le (by simp; omega), fun p3 hp3 => ?_⟩
      have s3 : Same H (upd H2 p3 (.lst ([V.str o.sign] ++ (words l).map V.str))) := s1.trans (s2.trans (same_new hp3))
      refine ⟨_, rfl, a, _, dx, _, _, rfl, s3 _ _ e, pairCl T o, pairR T o, (by walk_at "lk"), ?_⟩
      obtain ⟨a', C', dx', fs', k', f', fd', ps', sp', rfl, e', c', m', l', F', hk', b', q'⟩ := W _ v r (ob2.imp s3) g.2 (by omega) (by omega)
      refine ⟨a', C', dx', fs', k', f', fd', ps', sp', rfl, e', c', m', l', F', hr.mono (by omega), b', q' _ fun p4 H4 hp4 s4 h4 => ?_⟩
      refine ⟨p3, p4, _, _, rfl, rfl, s4 _ _ upd_same, h4, line_le (by simp; omega), fun p hp => ?_⟩
      exact k p _ (s3.free (s4.free hp)) (s3.trans (s4.trans (same_new hp))) (by rw [upd_same]; simp [words])
theorem ok_Guard_words (T : Txt K mg t) {n : Nat} (W : WOk P w K mg base t n) : FnOk P w K mg base CX0 (n + 3) t.f_Guard_words t.d_Guard_words ["self"] (sp_W t (n + 1) fun u => ∃ x lo hi l r, u = .guard x lo hi l r) := by
  refine T.F_Guard_words.ok sc_Guard_words (fun vs H Q E h => ?_) (fun cdv A outer s H vs Q E hr h => ?_)
  · obtain ⟨v, u, rfl, _⟩ := h
    rfl
  · obtain ⟨v, u, rfl, ⟨x, lo, hi, l, r, rfl⟩, ob, g, hd, hn, k⟩ := h
    obtain ⟨g0, gl, gh, g1, g2⟩ := g
    have hw1 := words_len l
    have hw2 := words_len r
    simp only [dep, nod] at hd hn
    cases ob with
    | @guard a dx _ _ _ u v _ _ e ob1 ob2 =>
      refine ⟨_, (pss_cons (ps_set (i := 1) sc_Guard_words.nd rfl (Or.inl rfl) (pe_lst (pa_cons pe_str (pa_cons (pe_fld (pv 0) rfl) (pa_cons (pe_callTy call_str_int (by rfl) T.z_str PyProof.Rows.boot_str (pa_cons (pe_fld (pv 0) rfl) pa_nil)) (pa_cons (pe_callTy call_str_int (by rfl) T.z_str PyProof.Rows.boot_str (pa_cons (pe_fld (pv 0) rfl) pa_nil)) pa_nil))))))
      (pss_one (ps_ret (pe_op op_cat (pe_op op_cat (pv 1) (pe_methD0 (pe_fld (pv 0) rfl))) (pe_methD0 (pe_fld (pv 0) rfl)))))), ?_⟩
      refine ⟨_, rfl, a, _, dx, _, _, rfl, e, T.cl_Guard, T.na_Guard_axis, (by walk_at "lk"), _, rfl, a, _, dx, _, _, rfl, e, T.cl_Guard, T.na_Guard_low, (by walk_at "lk"), lo, rfl, log_ok gl,
        _, rfl, a, _, dx, _, _, rfl, e, T.cl_Guard, T.na_Guard_high, (by walk_at "lk"), hi, rfl, log_ok gh, line_le (by simp), fun q hq => ?_⟩
      have s1 : Same H (upd H q (.lst [.str "if", .str x, .str (toString lo), .str (toString hi)])) := same_new hq
      refine ⟨_, rfl, _, rfl, a, _, dx, _, _, rfl, s1 _ _ e, T.cl_Guard, T.na_Guard_inner, (by walk_at "lk"), ?_⟩
      obtain ⟨a', C', dx', fs', k', f', fd', ps', sp', rfl, e', c', m', l', F', hk', b', q'⟩ := W _ u l (ob1.imp s1) g1 (by omega) (by omega)
      refine ⟨a', C', dx', fs', k', f', fd', ps', sp', rfl, e', c', m', l', F', hr.mono (by omega), b', q' _ fun p2 H2 hp2 s2 h2 => ?_⟩
      refine ⟨q, p2, _, _, rfl, rfl, s2 _ _ upd_same, h2, line_le (by simp; omega), fun p3 hp3 => ?_⟩
      have s3 : Same H (upd H2 p3 (.lst ([.str "if", .str x, .str (toString lo), .str (toString hi)] ++ (words l).map V.str))) := s1.trans (s2.trans (same_new hp3))
      refine ⟨_, rfl, a, _, dx, _, _, rfl, s3 _ _ e, T.cl_Guard, T.na_Guard_outer, (by walk_at "lk"), ?_⟩
      obtain ⟨a', C', dx', fs', k', f', fd', ps', sp', rfl, e', c', m', l', F', hk', b', q'⟩ := W _ v r (ob2.imp s3) g2 (by omega) (by omega)
      refine ⟨a', C', dx', fs', k', f', fd', ps', sp', rfl, e', c', m', l', F', hr.mono (by omega), b', q' _ fun p4 H4 hp4 s4 h4 => ?_⟩
      refine ⟨p3, p4, _, _, rfl, rfl, s4 _ _ upd_same, h4, line_le (by simp; omega), fun p hp => ?_⟩
      exact k p _ (s3.free (s4.free hp)) (s3.trans (s4.trans (same_new hp))) (by rw [upd_same]; simp [words])
theorem wok (T : Txt K mg t) : ∀ n : Nat, WOk P w K mg base t n
  | 0 => fun H v u ob g hd => absurd hd (by have := dep_pos u; omega)
  | n + 1 => fun H v u ob g hd hn => by
    have W := wok T n
    cases id ob with
    | num e => exact ⟨_, _, _, _, _, _, _, _, _, rfl, e, T.cl_Number, T.me_Number_words, (by walk_at "lk"), ok_Number_words T (n + 1), by omega, T.b_Number_words, fun Q k => ⟨_, _, rfl, ⟨_, rfl⟩, ob, g, hd, hn, k⟩⟩
    | place e => exact ⟨_, _, _, _, _, _, _, _, _, rfl, e, T.cl_Place, T.me_Place_words, (by walk_at "lk"), ok_Place_words T (n + 1), by omega, T.b_Place_words, fun Q k => ⟨_, _, rfl, ⟨_, rfl⟩, ob, g, hd, hn, k⟩⟩
    | read e r => exact ⟨_, _, _, _, _, _, _, _, _, rfl, e, T.cl_Read, T.me_Read_words, (by walk_at "lk"), ok_Read_words T (n + 1), by omega, T.b_Read_words, fun Q k => ⟨_, _, rfl, ⟨_, _, rfl⟩, ob, g, hd, hn, k⟩⟩
    | sum e o1 => exact ⟨_, _, _, _, _, _, _, _, _, rfl, e, T.cl_Sum, T.me_Sum_words, (by walk_at "lk"), ok_Sum_words T W, by omega, T.b_Sum_words, fun Q k => ⟨_, _, rfl, ⟨_, _, rfl⟩, ob, g, hd, hn, k⟩⟩
    | @pair _ _ o _ _ _ _ e o1 o2 => exact ⟨_, _, _, _, _, _, _, _, _, rfl, e, pairCl T o, pairW T o, (by walk_at "lk"), ok_Pair_words T W, by omega, T.b_Pair_words, fun Q k => ⟨_, _, rfl, ⟨_, _, _, rfl⟩, ob, g, hd, hn, k⟩⟩
    | guard e o1 o2 => exact ⟨_, _, _, _, _, _, _, _, _, rfl, e, T.cl_Guard, T.me_Guard_words, (by walk_at "lk"), ok_Guard_words T W, by omega, T.b_Guard_words, fun Q k => ⟨_, _, rfl, ⟨_, _, _, _, _, rfl⟩, ob, g, hd, hn, k⟩⟩
end
end My

set_option Elab.async false
set_option linter.all false
set_option maxRecDepth 100000
set_option maxHeartbeats 4000000
namespace My
open PySem L2 M84
local macro_rules | `(tactic| walk_at "lk") => `(tactic| first | with_reducible exact lk0 | (refine lk1 (by decide +kernel) ?_; walk_at "lk") | rfl)
theorem iteBN {b : Bool} {A B : Prop} (h1 : b = false → A) (h2 : b = true → B) : if (!b) = true then A else B := by
  cases b
  · exact h1 rfl
  · exact h2 rfl
theorem iteBB {b : Bool} {A B : Prop} (h1 : b = true → A) (h2 : b = false → B) : if b = true then A else B := by
  cases b
  · exact h2 rfl
  · exact h1 rfl
theorem lt1 (a b : Nat) : decide (([a] : List Nat) < [b]) = decide (a < b) := by
  rw [decide_eq_decide, List.cons_lt_cons_iff]
  constructor
  · rintro (h | ⟨_, h⟩)
    · exact h
    · exact absurd h (List.not_lt_nil _)
  · exact .inl
def la (c : Nat) : Bool := !(decide (([c] : List Nat) < ("a" : Str).cps.toList))
def lz (c : Nat) : Bool := !(decide (("z" : Str).cps.toList < [c]))
theorem la_iff (c : Nat) : la c = decide (97 ≤ c) := by
  have e : ("a" : Str).cps.toList = [97] := by decide +kernel
  unfold la
  rw [e]
  by_cases h : 97 ≤ c
  · have : ¬ ([c] < [97]) := fun z => by
      rcases List.cons_lt_cons_iff.mp z with z | ⟨_, z⟩
      · omega
      · exact absurd z (by simp)
    rw [decide_eq_false this, decide_eq_true h]; rfl
  · have : [c] < [97] := List.cons_lt_cons_iff.mpr (.inl (by omega))
    rw [decide_eq_true this, decide_eq_false h]; rfl
theorem lz_iff (c : Nat) : lz c = decide (c ≤ 122) := by
  have e : ("z" : Str).cps.toList = [122] := by decide +kernel
  unfold lz
  rw [e]
  by_cases h : c ≤ 122
  · have : ¬ ([122] < [c]) := fun z => by
      rcases List.cons_lt_cons_iff.mp z with z | ⟨_, z⟩
      · omega
      · exact absurd z (by simp)
    rw [decide_eq_false this, decide_eq_true h]; rfl
  · have : [122] < [c] := List.cons_lt_cons_iff.mpr (.inl (by omega))
    rw [decide_eq_true this, decide_eq_false h]; rfl
def letB (x : Str) : Bool := (!(decide (x = ""))) && x.cps.toList.all fun c => la c && lz c
def sp_let : Sp := fun vs H Q _ => ∃ x : Str, vs = [.str x] ∧ x.length ≤ 4000 ∧ ∀ H', Same H H' → Q (.bl (letB x)) H'
def isfig (c : Nat) : Bool := decide (48 ≤ c ∧ c ≤ 57)
def sp_fig : Sp := fun vs H Q _ => ∃ c : Nat, vs = [.str ⟨#[c]⟩] ∧ ∀ H', Same H H' → Q (.bl (isfig c)) H'
theorem ltr_letB {x : Str} (h : Ltr x) : letB x = true := by
  unfold letB
  have e : x ≠ "" := fun e => h.ne (by rw [e]; decide +kernel)
  rw [decide_eq_false e, Bool.not_false, Bool.true_and, List.all_eq_true]
  intro c hc
  have := h.dg c hc
  rw [la_iff, lz_iff, decide_eq_true this.1, decide_eq_true this.2]
  rfl
def sp_name : Sp := fun vs H Q _ => ∃ x : Str, vs = [.str x] ∧ Ltr x ∧ ∀ H', Same H H' → Q (.str x) H'
def sp_names : Sp := fun vs H Q _ => ∃ (l : Addr) (xs : List Str), vs = [.ref l] ∧ H l = some (.lst (xs.map V.str)) ∧ xs ≠ [] ∧ xs.length ≤ 1000 ∧ (∀ x ∈ xs, Ltr x) ∧ ∀ (D : Addr) (H' : Hp), H D = none → Same H H' → H' D = some (.lst (xs.map V.str)) → Q (.ref D) H'
def sp_many : Sp := fun vs H Q _ => ∃ (l : Addr) (xs : List V) (n : Nat), vs = [.ref l, .int n] ∧ H l = some (.lst xs) ∧ xs.length = n ∧ Q .non H
def sp_nat : Sp := fun vs H Q _ => ∃ x : Str, vs = [.str x] ∧ Nat30 (sg x) ∧ ∀ H', Same H H' → Q (.int (NumText.digitsVal (sg x) : Nat)) H'
def sp_count : Sp := fun vs H Q _ => ∃ (x : Str) (n : Nat), vs = [.str x] ∧ sg x = figs n ∧ 0 < n ∧ n < 10 ^ 30 ∧ ∀ H', Same H H' → Q (.int n) H'
def sp_num : Sp := fun vs H Q _ => ∃ (x : Str) (z : Int), vs = [.str x] ∧ sg x = zsg z ∧ B30 z ∧ ∀ H', Same H H' → Q (.int z) H'
def bgn (c : Nat) : Bool := decide (c = 45) || isfig c
def sp_begins : Sp := fun vs H Q _ => ∃ (x : Str) (c : Nat) (r : List Nat), vs = [.str x] ∧ sg x = c :: r ∧ x.length ≤ 2000 ∧ ∀ H', Same H H' → Q (.bl (bgn c)) H'
section
variable {P : Program} {w : World} {K : PySem.W.Frag} {mg : Str → Option Value} {base : Heap} {t : Adr}
theorem ok_is_of_letters (T : Txt K mg t) : FnOk P w K mg base CX0 1 t.f_is_of_letters t.d_is_of_letters ["text"] sp_let := by
  refine T.F_is_of_letters.ok sc_is_of_letters (fun vs H Q E h => ?_) (fun cdv A outer s H vs Q E hr h => ?_)
  · obtain ⟨x, rfl, _⟩ := h
    rfl
  · obtain ⟨x, rfl, lx, k⟩ := h
    refine ⟨_, (pss_one (ps_ret (pe_and (pe_cmpR op_ne (pv 0) pe_str (nomark _)) (pe_one (pe_callB (call_all rfl) (by rfl) T.z_all PyProof.Rows.boot_all (pa_cons (pe_comp (N' := ["sign"]) (ix := (List.replicate 1 none)) rfl (clok_none rfl (by decide +kernel) (by decide +kernel)) (ixok_none rfl) (pi_str (pv 0)) (fun _ _ _ _ => (pg_name (i := 0) nd_comp_2 rfl (Or.inl rfl) (Or.inr rfl))) (fun _ _ _ _ => (pe_chain op_leS op_leS pe_str (pv 0) pe_str))) pa_nil)))))), ?_⟩
    by_cases hx : x = ""
    · have n0 : (!(decide ((V.str x) = V.str ""))) = false := by rw [hx]; decide
      have e : letB x = false := by unfold letB; rw [decide_eq_true hx]; rfl
      refine ⟨_, rfl, rfl, false, congrArg V.bl n0, iteF ?_⟩
      have := k H (Same.refl _)
      rw [e] at this
      exact this
    have n0 : (!(decide ((V.str x) = V.str ""))) = true := by
      rw [decide_eq_false (fun e => hx (by injection e))]; rfl
    refine ⟨_, rfl, rfl, true, congrArg V.bl n0, iteT ?_⟩
    refine ⟨_, rfl, x, rfl, fun D hD => ?_⟩
    have lc : x.cps.size ≤ 4000 := lx
    refine comp_genQ (J := Its x) (D := D) x.cps.size (fun i ys H2 => Same H H2 ∧ H2 D = some (.lst ys) ∧ ys = (((x.cps.toList.take i).map fun c => la c && lz c).map V.bl)) ⟨same_new hD, upd_same, rfl⟩ (fun i ys H2 hi _ => hi) (fun ys H2 _ => rfl) ?_ ?_
    · rintro i ys H2 hi ⟨s2, hD2, rfl⟩ v H3 ⟨rfl, c, hc, rfl⟩
      have hc' : x.cps.toList[i]? = some c := by simpa using hc
      have lt : (((x.cps.toList.take i).map fun c => la c && lz c).map V.bl).length ≤ 4000 := by
        rw [List.length_map, List.length_map, List.length_take]
        omega
      have nx : ∀ b : Bool, b = (la c && lz c) → ((x.cps.toList.take i).map fun c => la c && lz c).map V.bl ++ [V.bl b] = ((x.cps.toList.take (i + 1)).map fun c => la c && lz c).map V.bl := fun b hb => by
        rw [List.take_add_one, hc', Option.toList_some, List.map_append, List.map_append, hb]; rfl
      by_cases h1 : la c = true
      · refine ⟨True.intro, _, rfl, _, _, rfl, rfl, true, congrArg V.bl h1, iteT ⟨_, _, rfl, rfl, hD2, line_lt (by omega), same_fresh s2 hD, upd_same, ?_⟩⟩
        exact nx (lz c) (by rw [h1]; rfl)
      · have h1 : la c = false := by simpa using h1
        refine ⟨True.intro, _, rfl, _, _, rfl, rfl, false, congrArg V.bl h1, iteF ⟨hD2, line_lt (by omega), same_fresh s2 hD, upd_same, ?_⟩⟩
        exact nx false (by rw [h1]; rfl)
    · rintro ys H2 ⟨s2, hD2, rfl⟩
      rw [show x.cps.size = x.cps.toList.length by simp, List.take_length] at hD2
      refine ⟨D, x.cps.toList.map fun c => la c && lz c, rfl, SqL.of hD2, ?_⟩
      have e : letB x = (x.cps.toList.map fun c => la c && lz c).all id := by
        unfold letB
        rw [decide_eq_false hx, List.all_map]
        rfl
      rw [← e]
      exact k H2 s2
theorem ok_is_figure (T : Txt K mg t) : FnOk P w K mg base CX0 1 t.f_is_figure t.d_is_figure ["sign"] sp_fig := by
  refine T.F_is_figure.ok sc_is_figure (fun vs H Q E h => ?_) (fun cdv A outer s H vs Q E hr h => ?_)
  · obtain ⟨c, rfl, _⟩ := h
    rfl
  · obtain ⟨c, rfl, q⟩ := h
    have e0 : ("0" : Str).cps.toList = [48] := by decide +kernel
    have e9 : ("9" : Str).cps.toList = [57] := by decide +kernel
    have q' := q H (Same.refl _)
    refine ⟨_, (pss_one (ps_ret (pe_chain op_leS op_leS pe_str (pv 0) pe_str))), ?_⟩
    refine ⟨_, rfl, _, _, rfl, rfl, decide (48 ≤ c), ?_, ?_⟩
    · show V.bl (!(decide (([c] : List Nat) < ("0" : Str).cps.toList))) = _
      rw [e0, lt1]
      congr 1
      rw [Bool.eq_iff_iff]; simp
    · refine iteD (fun h => ⟨_, _, rfl, rfl, ?_⟩) (fun h => ?_)
      · have e : (!(decide (("9" : Str).cps.toList < ([c] : List Nat)))) = isfig c := by
          rw [e9, lt1]
          unfold isfig
          rw [Bool.eq_iff_iff]; simp; omega
        show Q (.bl (!(decide (("9" : Str).cps.toList < ([c] : List Nat))))) H
        rw [e]; exact q'
      · have e : isfig c = false := by unfold isfig; simp; omega
        rw [e] at q'; exact q'
theorem ok_read_name (T : Txt K mg t) : FnOk P w K mg base CX0 2 t.f_read_name t.d_read_name ["word"] sp_name := by
  have G_is_of_letters := ok_is_of_letters (P := P) (w := w) (base := base) T
  refine T.F_read_name.ok sc_read_name (fun vs H Q E h => ?_) (fun cdv A outer s H vs Q E hr h => ?_)
  · obtain ⟨x, rfl, _⟩ := h
    rfl
  · obtain ⟨x, rfl, lx, k⟩ := h
    refine ⟨_, (pss_cons (ps_if (pt_not (pt_val (pe_call G_is_of_letters (hr.mono (by omega)) rfl T.m_is_of_letters T.F_is_of_letters.kp T.b_is_of_letters .nil pass0 (pa_cons (pv 0) pa_nil))))
        (pss_one ps_never)
        pss_nil)
      (pss_one (ps_ret (pv 0)))), ?_⟩
    refine ⟨_, rfl, x, rfl, by have := lx.ln; omega, fun H2 s2 => ⟨_, rfl, ?_⟩⟩
    rw [ltr_letB lx]
    exact iteF ⟨_, rfl, k H2 s2⟩
theorem ok_read_names (T : Txt K mg t) : FnOk P w K mg base CX0 3 t.f_read_names t.d_read_names ["words"] sp_names := by
  have G_read_name := ok_read_name (P := P) (w := w) (base := base) T
  refine T.F_read_names.ok sc_read_names (fun vs H Q E h => ?_) (fun cdv A outer s H vs Q E hr h => ?_)
  · obtain ⟨l, xs, rfl, _⟩ := h
    rfl
  · obtain ⟨l, xs, rfl, hl, ne, lx, lt, k⟩ := h
    have n0 : xs.length ≠ 0 := fun e => ne (List.length_eq_zero_iff.mp e)
    refine ⟨_, (pss_cons (ps_if (pt_cmpR op_eq (pe_callB call_len_seq (by rfl) T.z_len PySem.boot_len (pa_cons (pv 0) pa_nil)) pe_int (nomark _))
        (pss_one ps_never)
        pss_nil)
      (pss_one (ps_ret (pe_comp (N' := ["word"]) (ix := (List.replicate 1 none)) rfl (clok_none rfl (by decide +kernel) (by decide +kernel)) (ixok_none rfl) (pi_list (pv 0)) (fun _ _ _ _ => (pg_name (i := 0) nd_comp_8 rfl (Or.inl rfl) (Or.inr rfl))) (fun _ _ _ _ => (pe_call G_read_name (hr.mono (by omega)) rfl T.m_read_name T.F_read_name.kp T.b_read_name .nil pass0 (pa_cons (pv 0) pa_nil))))))), ?_⟩
    refine ⟨_, rfl, l, _, rfl, .inl (SqL.of hl), rfl, _, rfl, iteD (fun e => absurd (show ((xs.map V.str).length : Int) = 0 by injection e) (by rw [List.length_map]; omega)) (fun _ => ?_)⟩
    refine ⟨_, rfl, l, rfl, ⟨_, SqL.of hl⟩, fun D hD => ?_⟩
    refine comp_listQ (K := K) (a := l) (D := D) (xs := xs.map V.str) (fun i ys H2 => Same H H2 ∧ H2 D = some (.lst ys) ∧ ys = (xs.take i).map V.str) ⟨same_new hD, upd_same, rfl⟩ (fun i ys H2 ⟨s2, _⟩ => SqL.of (s2 _ _ hl)) ?_ ?_
    · rintro i x ys H2 hx ⟨s2, hD2, rfl⟩
      rw [List.getElem?_map] at hx
      obtain ⟨y, hy, rfl⟩ := Option.map_eq_some_iff.mp hx
      refine ⟨True.intro, _, rfl, y, rfl, lt y (List.mem_of_getElem? hy), fun H3 s3 => ⟨s3 _ _ hD2, line_lt (by rw [List.length_map, List.length_take]; omega), same_fresh (s2.trans s3) hD, upd_same, ?_⟩⟩
      rw [List.take_add_one, hy, Option.toList_some, List.map_append]
      rfl
    · rintro ys H2 ⟨s2, hD2, rfl⟩
      rw [List.length_map, List.take_length] at hD2
      exact k D H2 hD s2 hD2
theorem ok_look_number_of (T : Txt K mg t) : FnOk P w K mg base CX0 1 t.f_look_number_of t.d_look_number_of ["words", "number"] sp_many := by
  refine T.F_look_number_of.ok sc_look_number_of (fun vs H Q E h => ?_) (fun cdv A outer s H vs Q E hr h => ?_)
  · obtain ⟨l, xs, n, rfl, _⟩ := h
    rfl
  · obtain ⟨l, xs, n, rfl, hl, rfl, k⟩ := h
    refine ⟨_, (pss_one (ps_if (pt_cmpR op_ne (pe_callB call_len_seq (by rfl) T.z_len PySem.boot_len (pa_cons (pv 0) pa_nil)) (pv 1) (nomark _))
        (pss_one ps_never)
        pss_nil)), ?_⟩
    exact ⟨_, rfl, l, _, rfl, .inl (SqL.of hl), _, rfl, rfl, _, rfl, iteND (fun e => absurd rfl e) (fun _ => k)⟩
theorem ok_read_natural (T : Txt K mg t) : FnOk P w K mg base CX0 2 t.f_read_natural t.d_read_natural ["figures"] sp_nat := by
  have G_is_figure := ok_is_figure (P := P) (w := w) (base := base) T
  refine T.F_read_natural.ok sc_read_natural (fun vs H Q E h => ?_) (fun cdv A outer s H vs Q E hr h => ?_)
  · obtain ⟨x, rfl, _⟩ := h
    rfl
  · obtain ⟨x, rfl, N, q⟩ := h
    have sl := sg_len x
    have l1 := N.l1
    have l30 := N.l2
    have lz : x.length ≤ sizeLine := line_le (by omega)
    refine ⟨_, (pss_cons (ps_if (PW.pt (pw_or (pt_not (pt_chain op_le op_le pe_int (pe_callB call_len_str (by rfl) T.z_len PySem.boot_len (pa_cons (pv 0) pa_nil)) (pe_globE T.cn_MOST_FIGURES rfl))) (pw_or1 (pt_not (pt_val (pe_callB (call_all rfl) (by rfl) T.z_all PyProof.Rows.boot_all (pa_cons (pe_comp (N' := ["sign"]) (ix := (List.replicate 1 none)) rfl (clok_none rfl (by decide +kernel) (by decide +kernel)) (ixok_none rfl) (pi_str (pv 0)) (fun _ _ _ _ => (pg_name (i := 0) nd_comp_9 rfl (Or.inl rfl) (Or.inr rfl))) (fun _ _ _ _ => (pe_call G_is_figure (hr.mono (by omega)) rfl T.m_is_figure T.F_is_figure.kp T.b_is_figure .nil pass0 (pa_cons (pv 0) pa_nil)))) pa_nil)))))))
        (pss_one ps_never)
        pss_nil)
      (pss_cons (ps_if (PW.pt (pw_and (pt_val (pe_bm PySem.F.plainAttrs_str PySem.F.slot_str_startswith PySem.F.type_str_startswith mt_starts (pv 0) (pa_cons pe_str pa_nil))) (pw_and1 (pt_cmpR op_gt (pe_callB call_len_str (by rfl) T.z_len PySem.boot_len (pa_cons (pv 0) pa_nil)) pe_int (nomark _)))))
        (pss_one ps_never)
        pss_nil)
      (pss_one (ps_ret (pe_callTy call_int_text (by rfl) T.z_int PyProof.Rows.boot_int (pa_cons (pv 0) pa_nil)))))), ?_⟩
    refine ⟨_, rfl, x, rfl, lz, _, _, rfl, rfl, _, rfl, iteD (fun h1 => ⟨_, _, rfl, rfl, _, rfl, ?_⟩) (fun h1 => absurd (show (1 : Int) ≤ (x.length : Nat) by omega) h1)⟩
    refine iteBN (fun e => absurd (of_decide_eq_false e) (by show ¬ ¬ ((x.length : Nat) : Int) ≤ 30; omega)) (fun _ => ?_)
    refine ⟨_, rfl, x, rfl, fun D hD => ?_⟩
    refine comp_genQ (J := Its x) (D := D) x.cps.size (fun i ys H2 => Same H H2 ∧ H2 D = some (.lst ys) ∧ ys = ((sg x).take i).map fun c => V.bl (isfig c)) ⟨same_new hD, upd_same, rfl⟩ (fun i ys H2 hi _ => hi) (fun ys H2 _ => rfl) ?_ ?_
    · rintro i ys H2 hi ⟨s2, hD2, rfl⟩ v H3 ⟨rfl, c, hc, rfl⟩
      refine ⟨True.intro, _, rfl, c, rfl, fun H4 s4 => ?_⟩
      have hc' : (sg x)[i]? = some c := by rw [← hc]; simp [sg]
      refine ⟨s4 _ _ hD2, line_lt (by rw [List.length_map, List.length_take]; omega), same_fresh (s2.trans s4) hD, upd_same, ?_⟩
      rw [List.take_add_one, hc', List.map_append]
      rfl
    · rintro ys H2 ⟨s2, hD2, rfl⟩
      have et : (sg x).take x.cps.size = sg x := List.take_of_length_le (by rw [sl]; exact Nat.le_refl _)
      rw [et] at hD2
      refine ⟨D, (sg x).map isfig, rfl, SqL.of (by rw [List.map_map]; exact hD2), _, rfl, ?_⟩
      have al : ((sg x).map isfig).all id = true := by
        rw [List.all_map, List.all_eq_true]
        intro c hc
        exact decide_eq_true (N.dg c hc)
      rw [al]
      refine iteF ?_
      have fin : ∃ x' n, [V.str x] = [V.str x'] ∧ PySem.intText? x' = some n ∧ x'.length ≤ 640 ∧ Q (.int n) H2 := ⟨x, _, rfl, int_of N, by omega, q H2 s2⟩
      refine ⟨_, rfl, rfl, x, _, rfl, rfl, _, rfl, iteBB (fun h4 => ⟨_, rfl, x, rfl, lz, _, _, rfl, rfl, _, rfl, iteD (fun h5 => ?_) (fun h5 => ?_)⟩) (fun h4 => ⟨_, rfl, fin⟩)⟩
      · rw [e_zero, starts_c] at h4
        have := N.z (of_decide_eq_true h4)
        have h5 : ((x.length : Nat) : Int) > 1 := h5
        omega
      · exact ⟨_, rfl, fin⟩
theorem ok_read_counting (T : Txt K mg t) : FnOk P w K mg base CX0 3 t.f_read_counting t.d_read_counting ["figures"] sp_count := by
  have G_read_natural := ok_read_natural (P := P) (w := w) (base := base) T
  refine T.F_read_counting.ok sc_read_counting (fun vs H Q E h => ?_) (fun cdv A outer s H vs Q E hr h => ?_)
  · obtain ⟨x, n, rfl, _⟩ := h
    rfl
  · obtain ⟨x, n, rfl, ex, n0, n30, k⟩ := h
    refine ⟨_, (pss_cons (ps_set (i := 1) sc_read_counting.nd rfl (Or.inl rfl) (pe_call G_read_natural (hr.mono (by omega)) rfl T.m_read_natural T.F_read_natural.kp T.b_read_natural .nil pass0 (pa_cons (pv 0) pa_nil)))
      (pss_cons (ps_if (pt_cmpR op_eq (pv 1) pe_int (nomark _))
        (pss_one ps_never)
        pss_nil)
      (pss_one (ps_ret (pv 1))))), ?_⟩
    refine ⟨_, rfl, x, rfl, by rw [ex]; exact figs_ok n30, fun H2 s2 => ?_⟩
    rw [ex, figs_val]
    exact ⟨_, rfl, rfl, _, rfl, iteD (fun e => absurd (show (n : Int) = 0 by injection e) (by omega)) (fun _ => ⟨_, rfl, k H2 s2⟩)⟩
theorem ok_read_number (T : Txt K mg t) : FnOk P w K mg base CX0 4 t.f_read_number t.d_read_number ["word"] sp_num := by
  have G_read_counting := ok_read_counting (P := P) (w := w) (base := base) T
  have G_read_natural := ok_read_natural (P := P) (w := w) (base := base) T
  refine T.F_read_number.ok sc_read_number (fun vs H Q E h => ?_) (fun cdv A outer s H vs Q E hr h => ?_)
  · obtain ⟨x, z, rfl, _⟩ := h
    rfl
  · obtain ⟨x, z, rfl, ex, hz, k⟩ := h
    have lz : x.length ≤ 31 := by
      rw [← sg_len, ex]
      have := (figs_ok hz).l2
      unfold zsg
      split
      · simp; omega
      · omega
    refine ⟨_, (pss_cons (ps_if (pt_not (pt_val (pe_bm PySem.F.plainAttrs_str PySem.F.slot_str_startswith PySem.F.type_str_startswith mt_starts (pv 0) (pa_cons pe_str pa_nil))))
        (pss_one (ps_ret (pe_call G_read_natural (hr.mono (by omega)) rfl T.m_read_natural T.F_read_natural.kp T.b_read_natural .nil pass0 (pa_cons (pv 0) pa_nil))))
        pss_nil)
      (pss_one (ps_ret (pe_un un_neg (pe_call G_read_counting (hr.mono (by omega)) rfl T.m_read_counting T.F_read_counting.kp T.b_read_counting .nil pass0 (pa_cons (pe_slice sl_str (pv 0) (po_some pe_int) po_none) pa_nil)))))), ?_⟩
    obtain ⟨c, r, e, hc⟩ := zsg_head z
    refine ⟨_, rfl, rfl, x, _, rfl, rfl, _, rfl, ?_⟩
    rw [e_minus, starts_c, ex, e]
    refine iteBN (fun h1 => ?_) (fun h1 => ?_)
    · have h1 := of_decide_eq_false h1
      have z0 : 0 ≤ z := by
        rcases hc with ⟨hc, _⟩ | ⟨_, hc⟩
        · rw [hc] at h1; exact absurd rfl h1
        · exact hc
      have ez : sg x = figs z.natAbs := by rw [ex]; unfold zsg; rw [if_neg (by omega)]
      refine ⟨_, rfl, x, rfl, by rw [ez]; exact figs_ok hz, fun H2 s2 => ?_⟩
      rw [ez, figs_val, Int.natAbs_of_nonneg z0]
      exact k H2 s2
    · have h1 : c = 45 := by have := of_decide_eq_true h1; injection this
      have z0 : z < 0 := by
        rcases hc with ⟨_, hc⟩ | ⟨hc, _⟩
        · exact hc
        · omega
      have ez : sg x = 45 :: figs z.natAbs := by rw [ex]; unfold zsg; rw [if_pos z0]
      have l1 : 1 ≤ x.length := by rw [← sg_len, ez]; simp
      have e1 := sl_from (x := x) (n := 1) l1
      rw [ez, List.drop_one, List.tail_cons] at e1
      refine ⟨_, rfl, _, rfl, x, rfl, line_le (by omega), _, z.natAbs, rfl, e1, by omega, hz, fun H2 s2 => ⟨_, rfl, ?_⟩⟩
      have : -((z.natAbs : Nat) : Int) = z := by omega
      show Q (.int (-((z.natAbs : Nat) : Int))) H2
      rw [this]
      exact k H2 s2
theorem ok_begins_number (T : Txt K mg t) : FnOk P w K mg base CX0 2 t.f_begins_number t.d_begins_number ["text"] sp_begins := by
  have G_is_figure := ok_is_figure (P := P) (w := w) (base := base) T
  refine T.F_begins_number.ok sc_begins_number (fun vs H Q E h => ?_) (fun cdv A outer s H vs Q E hr h => ?_)
  · obtain ⟨x, c, r, rfl, _⟩ := h
    rfl
  · obtain ⟨x, c, r, rfl, ex, lx, k⟩ := h
    have l1 : 1 ≤ x.length := by rw [← sg_len, ex]; simp
    have e1 := sl_to (x := x) (n := 1) l1
    rw [ex] at e1
    have e2 : Txt.slice x none (some 1) = (⟨#[c]⟩ : Str) := sg_inj e1
    refine ⟨_, (pss_one (ps_ret (pe_or (pe_bm PySem.F.plainAttrs_str PySem.F.slot_str_startswith PySem.F.type_str_startswith mt_starts (pv 0) (pa_cons pe_str pa_nil)) (pe_one (pe_call G_is_figure (hr.mono (by omega)) rfl T.m_is_figure T.F_is_figure.kp T.b_is_figure .nil pass0 (pa_cons (pe_slice sl_str (pv 0) po_none (po_some pe_int)) pa_nil)))))), ?_⟩
    refine ⟨_, rfl, rfl, x, _, rfl, rfl, _, rfl, ?_⟩
    rw [e_minus, starts_c, ex]
    refine iteBB (fun h1 => ?_) (fun h1 => ?_)
    · have h1 : c = 45 := by have := of_decide_eq_true h1; injection this
      have := k H (Same.refl _)
      unfold bgn at this
      rw [decide_eq_true h1] at this
      exact this
    · have h1 : c ≠ 45 := fun e => of_decide_eq_false h1 (by rw [e]; rfl)
      refine ⟨_, rfl, _, rfl, x, rfl, line_le (by omega), c, congrArg (fun y => [V.str y]) e2, fun H2 s2 => ?_⟩
      have := k H2 s2
      unfold bgn at this
      rw [decide_eq_false h1] at this
      exact this
end
end My

set_option Elab.async false
set_option linter.all false
set_option maxRecDepth 100000
set_option maxHeartbeats 4000000
namespace My
open PySem L2 M84
local macro_rules | `(tactic| walk_at "lk") => `(tactic| first | with_reducible exact lk0 | (refine lk1 (by decide +kernel) ?_; walk_at "lk") | rfl)
def sp_idx : Sp := fun vs H Q _ => ∃ (x : Str) (e : Str × Int), vs = [.str x] ∧ sg x = ixS e ∧ IxOk e ∧ ∀ (p : Addr) (H' : Hp), Same H H' → H' p = some (.tup [.str e.1, .int e.2]) → Q (.ref p) H'
def rdS (a : Str) (ix : List (Str × Int)) : List Nat := sg a ++ 91 :: (sg (insW ix) ++ [93])
def sp_rd (A : Adr) : Sp := fun vs H Q _ => ∃ (x a : Str) (ix : List (Str × Int)), vs = [.str x] ∧ sg x = rdS a ix ∧ Ltr a ∧ ix.length ≤ 12 ∧ (∀ e ∈ ix, IxOk e) ∧ ∀ (v : V) (H' : Hp), Same H H' → Ob A (restr (fun b => H b = none) H') v (.read a ix) → Q v H'
def TmOk : Tm → Prop
  | .num z => B30 z
  | .place x => Ltr x ∧ x ≠ "sum" ∧ x ≠ "if"
  | .read a ix => Ltr a ∧ ix.length ≤ 12 ∧ ∀ e ∈ ix, IxOk e
  | .sum x b => Ltr x ∧ TmOk b
  | .pair _ l r => TmOk l ∧ TmOk r
  | .guard x lo hi l r => Ltr x ∧ B30 lo ∧ B30 hi ∧ TmOk l ∧ TmOk r
def sp_leaf (A : Adr) : Sp := fun vs H Q _ => ∃ (x : Str) (u : Tm), vs = [.str x] ∧ words u = [x] ∧ leaf u = true ∧ TmOk u ∧ ∀ (v : V) (H' : Hp), Same H H' → Ob A (restr (fun b => H b = none) H') v u → Q v H'
theorem nm_ltr {x : Str} (h : Ltr x) : NmOk x := ⟨h.ln, ok_iff.mpr fun c hc => by have := h.dg c hc; omega⟩
theorem sm_b30 {z : Int} (h : B30 z) : Sm z := by unfold Sm; unfold B30 at h; exact Nat.le_trans (Nat.le_of_lt h) (by decide)
theorem ixW {e : Str × Int} (h : IxOk e) : NmOk e.1 ∧ Sm e.2 := ⟨by exact h.1.elim (fun z => by rw [z]; exact ⟨by decide, by decide +kernel⟩) nm_ltr, sm_b30 h.2⟩
theorem tmW : ∀ {u : Tm}, TmOk u → TmW u
  | .num z, h => sm_b30 h
  | .place x, h => nm_ltr h.1
  | .read a ix, h => ⟨nm_ltr h.1, h.2.1, fun e he => ixW (h.2.2 e he)⟩
  | .sum x b, h => ⟨nm_ltr h.1, tmW h.2⟩
  | .pair _ l r, h => ⟨tmW h.1, tmW h.2⟩
  | .guard x lo hi l r, h => ⟨nm_ltr h.1, sm_b30 h.2.1, sm_b30 h.2.2.1, tmW h.2.2.2.1, tmW h.2.2.2.2⟩
theorem ix_head {e : Str × Int} (h : IxOk e) : ∃ c r, ixS e = c :: r ∧ bgn c = decide (e.1 = "") := by
  by_cases n : e.1 = ""
  · obtain ⟨c, r, hc, hh⟩ := zsg_head e.2
    refine ⟨c, r, by unfold ixS; rw [if_pos n, hc], ?_⟩
    rw [decide_eq_true n]
    unfold bgn isfig
    rcases hh with ⟨z, _⟩ | ⟨z, _⟩
    · rw [decide_eq_true z]; rfl
    · rw [decide_eq_true z, Bool.or_true]
  · have l := h.1.resolve_left n
    cases hs : sg e.1 with
    | nil => exact absurd hs l.ne
    | cons c r =>
      have hc := l.dg c (by rw [hs]; exact .head _)
      have b : bgn c = decide (e.1 = "") := by
        unfold bgn isfig
        rw [decide_eq_false n, decide_eq_false (by omega), decide_eq_false (by omega)]
        rfl
      unfold ixS
      rw [if_neg n, hs]
      split
      · exact ⟨c, r, rfl, b⟩
      · split
        · exact ⟨c, _, rfl, b⟩
        · exact ⟨c, _, rfl, b⟩
theorem inS {x : Str} {c : Nat} : (!(Builtin.Str.occurrences x ⟨#[c]⟩ 0 x.length 1).isEmpty) = decide (c ∈ sg x) := StrLaws.found_one x c
section
variable {P : Program} {w : World} {K : PySem.W.Frag} {mg : Str → Option Value} {base : Heap} {t : Adr}
theorem ok_read_index (T : Txt K mg t) : FnOk P w K mg base CX0 5 t.f_read_index t.d_read_index ["index"] sp_idx := by
  have G_begins_number := ok_begins_number (P := P) (w := w) (base := base) T
  have G_read_counting := ok_read_counting (P := P) (w := w) (base := base) T
  have G_read_name := ok_read_name (P := P) (w := w) (base := base) T
  have G_read_number := ok_read_number (P := P) (w := w) (base := base) T
  refine T.F_read_index.ok sc_read_index (fun vs H Q E h => ?_) (fun cdv A outer s H vs Q E hr h => ?_)
  · obtain ⟨x, e, rfl, _⟩ := h
    rfl
  · obtain ⟨x, e, rfl, ex, ok, k⟩ := h
    have lx : x.length ≤ 60 := by
      have := idx_len ok
      rw [← sg_len, sg_idx, ← ex, sg_len] at this
      exact this
    obtain ⟨c, r, hc, bc⟩ := ix_head ok
    have l2 : ([V.str e.1, V.int e.2] : List V).length ≤ 1000000 := by show 2 ≤ 1000000; decide
    refine ⟨_, (pss_cons (ps_if (pt_val (pe_call G_begins_number (hr.mono (by omega)) rfl T.m_begins_number T.F_begins_number.kp T.b_begins_number .nil pass0 (pa_cons (pv 0) pa_nil)))
        (pss_one (ps_ret (pe_tup (pa_cons pe_str (pa_cons (pe_call G_read_number (hr.mono (by omega)) rfl T.m_read_number T.F_read_number.kp T.b_read_number .nil pass0 (pa_cons (pv 0) pa_nil)) pa_nil)))))
        pss_nil)
      (pss_cons (ps_if (pt_cmpR op_in_str pe_str (pv 0) (by with_unfolding_all rfl))
        (pss_cons (ps_asg (pe_bm PySem.F.plainAttrs_str PySem.F.slot_str_partition PySem.F.type_str_partition mt_part (pv 0) (pa_cons pe_str pa_nil)) (pg_tup (n := 3) rfl (pgs_cons (pg_name (i := 1) sc_read_index.nd rfl (Or.inl rfl) (Or.inl rfl)) (pgs_cons (pg_name (i := 2) sc_read_index.nd rfl (Or.inl rfl) (Or.inl rfl)) (pgs_cons (pg_name (i := 3) sc_read_index.nd rfl (Or.inl rfl) (Or.inl rfl)) pgs_nil)))))
        (pss_one (ps_ret (pe_tup (pa_cons (pe_call G_read_name (hr.mono (by omega)) rfl T.m_read_name T.F_read_name.kp T.b_read_name .nil pass0 (pa_cons (pv 1) pa_nil)) (pa_cons (pe_call G_read_counting (hr.mono (by omega)) rfl T.m_read_counting T.F_read_counting.kp T.b_read_counting .nil pass0 (pa_cons (pv 3) pa_nil)) pa_nil))))))
        pss_nil)
      (pss_cons (ps_if (pt_cmpR op_in_str pe_str (pv 0) (by with_unfolding_all rfl))
        (pss_cons (ps_asg (pe_bm PySem.F.plainAttrs_str PySem.F.slot_str_partition PySem.F.type_str_partition mt_part (pv 0) (pa_cons pe_str pa_nil)) (pg_tup (n := 3) rfl (pgs_cons (pg_name (i := 1) sc_read_index.nd rfl (Or.inl rfl) (Or.inl rfl)) (pgs_cons (pg_name (i := 2) sc_read_index.nd rfl (Or.inl rfl) (Or.inl rfl)) (pgs_cons (pg_name (i := 3) sc_read_index.nd rfl (Or.inl rfl) (Or.inl rfl)) pgs_nil)))))
        (pss_one (ps_ret (pe_tup (pa_cons (pe_call G_read_name (hr.mono (by omega)) rfl T.m_read_name T.F_read_name.kp T.b_read_name .nil pass0 (pa_cons (pv 1) pa_nil)) (pa_cons (pe_un un_neg (pe_call G_read_counting (hr.mono (by omega)) rfl T.m_read_counting T.F_read_counting.kp T.b_read_counting .nil pass0 (pa_cons (pv 3) pa_nil))) pa_nil))))))
        pss_nil)
      (pss_one (ps_ret (pe_tup (pa_cons (pe_call G_read_name (hr.mono (by omega)) rfl T.m_read_name T.F_read_name.kp T.b_read_name .nil pass0 (pa_cons (pv 0) pa_nil)) (pa_cons pe_int pa_nil)))))))), ?_⟩
    refine ⟨_, rfl, x, c, r, rfl, by rw [ex, hc], by omega, fun H1 s1 => ⟨_, rfl, ?_⟩⟩
    rw [bc]
    by_cases n : e.1 = ""
    · rw [decide_eq_true n]
      refine iteT ⟨_, rfl, x, e.2, rfl, by rw [ex]; unfold ixS; rw [if_pos n], ok.2, fun H2 s2 => ⟨line_le (by show 2 ≤ 1000000; decide), fun q hq => ?_⟩⟩
      exact k q _ (s1.trans (s2.trans (same_new hq))) (by rw [n]; exact upd_same)
    · rw [decide_eq_false n]
      have l := ok.1.resolve_left n
      have exn := ex
      unfold ixS at exn
      rw [if_neg n] at exn
      refine iteF ⟨_, rfl, _, _, rfl, rfl, _, rfl, ?_⟩
      rw [e_plus, inS]
      by_cases p : 0 < e.2
      · rw [if_neg (by omega), if_pos p] at exn
        rw [decide_eq_true (by rw [exn]; simp)]
        refine iteT ⟨_, rfl, rfl, x, _, rfl, rfl, rfl, line_le (by omega), fun q hq => ?_⟩
        rw [part_eq exn (ltr_no l (by decide)), tx_sg]
        refine ⟨q, _, rfl, SqT.of upd_same, rfl, _, _, rfl, _, _, rfl, _, _, rfl, rfl, ?_⟩
        refine ⟨_, rfl, e.1, rfl, l, fun H2 s2 => ⟨_, rfl, _, e.2.natAbs, rfl, sg_tx _, by omega, ok.2, fun H3 s3 => ⟨line_le (by show 2 ≤ 1000000; decide), fun q2 hq2 => ?_⟩⟩⟩
        refine k q2 _ (s1.trans ((same_new hq).trans (s2.trans (s3.trans (same_new hq2))))) ?_
        rw [upd_same, Int.natAbs_of_nonneg (by omega)]
      · have n43 : 43 ∉ sg x := by
          rw [exn]
          split
          · exact ltr_no l (by decide)
          · intro z
            rcases List.mem_append.mp z with z | z
            · exact ltr_no l (by decide) z
            · rcases List.mem_cons.mp z with z | z
              · omega
              · exact figs_no (.inl (by decide)) z
        rw [decide_eq_false n43]
        refine iteF ⟨_, rfl, _, _, rfl, rfl, _, rfl, ?_⟩
        rw [e_minus, inS]
        by_cases z0 : e.2 = 0
        · rw [if_pos z0] at exn
          rw [decide_eq_false (by rw [exn]; exact ltr_no l (by decide))]
          have ee : x = e.1 := sg_inj exn
          refine iteF ⟨_, rfl, x, rfl, by rw [ee]; exact l, fun H2 s2 => ⟨line_le (by show 2 ≤ 1000000; decide), fun q2 hq2 => ?_⟩⟩
          refine k q2 _ (s1.trans (s2.trans (same_new hq2))) ?_
          rw [upd_same, ee, z0]
        · rw [if_neg z0, if_neg p] at exn
          rw [decide_eq_true (by rw [exn]; simp)]
          refine iteT ⟨_, rfl, rfl, x, _, rfl, rfl, rfl, line_le (by omega), fun q hq => ?_⟩
          rw [part_eq exn (ltr_no l (by decide)), tx_sg]
          refine ⟨q, _, rfl, SqT.of upd_same, rfl, _, _, rfl, _, _, rfl, _, _, rfl, rfl, ?_⟩
          refine ⟨_, rfl, e.1, rfl, l, fun H2 s2 => ⟨_, rfl, _, e.2.natAbs, rfl, sg_tx _, by omega, ok.2, fun H3 s3 => ⟨_, rfl, line_le (by show 2 ≤ 1000000; decide), fun q2 hq2 => ?_⟩⟩⟩
          refine k q2 _ (s1.trans ((same_new hq).trans (s2.trans (s3.trans (same_new hq2))))) ?_
          have : -((e.2.natAbs : Nat) : Int) = e.2 := by omega
          rw [upd_same]
          show some (HO.tup [.str e.1, .int (-((e.2.natAbs : Nat) : Int))]) = _
          rw [this]
theorem ok_read_read (T : Txt K mg t) : FnOk P w K mg base CX0 7 t.f_read_read t.d_read_read ["word"] (sp_rd t) := by
  have G_Read_init := ok_Read_init (P := P) (w := w) (base := base) T
  have G_read_index := ok_read_index (P := P) (w := w) (base := base) T
  have G_read_name := ok_read_name (P := P) (w := w) (base := base) T
  have G_Read_init := ok_Read_init (P := P) (w := w) (base := base) T
  refine T.F_read_read.ok sc_read_read (fun vs H Q E h => ?_) (fun cdv A outer s H vs Q E hr h => ?_)
  · obtain ⟨x, a, ix, rfl, _⟩ := h
    rfl
  · obtain ⟨x, a, ix, rfl, ex, la, li, ok, k⟩ := h
    have lin : (insW ix).length ≤ 800 := insW_lenB (fun e he => ixW (ok e he)) li
    have lx : x.length ≤ 1000 := by
      have := la.ln
      rw [← sg_len] at this lin
      rw [← sg_len, ex]
      unfold rdS
      rw [List.length_append, List.length_cons, List.length_append, List.length_singleton]
      omega
    refine ⟨_, (pss_cons (ps_asg (pe_bm PySem.F.plainAttrs_str PySem.F.slot_str_partition PySem.F.type_str_partition mt_part (pv 0) (pa_cons pe_str pa_nil)) (pg_tup (n := 3) rfl (pgs_cons (pg_name (i := 1) sc_read_read.nd rfl (Or.inl rfl) (Or.inl rfl)) (pgs_cons (pg_name (i := 2) sc_read_read.nd rfl (Or.inl rfl) (Or.inl rfl)) (pgs_cons (pg_name (i := 3) sc_read_read.nd rfl (Or.inl rfl) (Or.inl rfl)) pgs_nil)))))
      (pss_cons (ps_if (pt_not (pt_val (pe_bm PySem.F.plainAttrs_str PySem.F.slot_str_endswith PySem.F.type_str_endswith mt_ends (pv 3) (pa_cons pe_str pa_nil))))
        (pss_one ps_never)
        pss_nil)
      (pss_cons (ps_set (i := 4) sc_read_read.nd rfl (Or.inl rfl) (pe_slice sl_str (pv 3) po_none (po_some (pe_un un_neg pe_int))))
      (pss_cons (ps_if (pt_cmpR op_eq (pv 4) pe_str (nomark _))
        (pss_one (ps_ret (pe_make T.mk_Read G_Read_init (hr.mono (by omega)) rfl T.m_Read T.b_Read_init .nil pass0 (pa_cons (pe_call G_read_name (hr.mono (by omega)) rfl T.m_read_name T.F_read_name.kp T.b_read_name .nil pass0 (pa_cons (pv 1) pa_nil)) (pa_cons (pe_lst pa_nil) pa_nil)))))
        pss_nil)
      (pss_one (ps_ret (pe_make T.mk_Read G_Read_init (hr.mono (by omega)) rfl T.m_Read T.b_Read_init .nil pass0 (pa_cons (pe_call G_read_name (hr.mono (by omega)) rfl T.m_read_name T.F_read_name.kp T.b_read_name .nil pass0 (pa_cons (pv 1) pa_nil)) (pa_cons (pe_comp (N' := ["index"]) (ix := (List.replicate 1 none)) rfl (clok_none rfl (by decide +kernel) (by decide +kernel)) (ixok_none rfl) (pi_list (pe_bm PySem.F.plainAttrs_str PySem.F.slot_str_split PySem.F.type_str_split mt_split (pv 4) (pa_cons pe_str pa_nil))) (fun _ _ _ _ => (pg_name (i := 0) nd_comp_10 rfl (Or.inl rfl) (Or.inr rfl))) (fun _ _ _ _ => (pe_call G_read_index (hr.mono (by omega)) rfl T.m_read_index T.F_read_index.kp T.b_read_index .nil pass0 (pa_cons (pv 0) pa_nil)))) pa_nil))))))))), ?_⟩
    refine ⟨_, rfl, rfl, x, _, rfl, rfl, rfl, line_le (by omega), fun q hq => ?_⟩
    rw [e_open, part_eq (show sg x = sg a ++ 91 :: (sg (insW ix) ++ [93]) from ex) (ltr_no la (by decide)), tx_sg]
    have s1 := same_new (o := .tup [V.str a, .str ⟨#[91]⟩, .str (tx (sg (insW ix) ++ [93]))]) hq
    refine ⟨q, _, rfl, SqT.of upd_same, rfl, _, _, rfl, _, _, rfl, _, _, rfl, rfl, ?_⟩
    generalize upd H q (.tup [V.str a, .str ⟨#[91]⟩, .str (tx (sg (insW ix) ++ [93]))]) = H1 at s1 ⊢
    refine ⟨_, rfl, rfl, _, _, rfl, rfl, _, rfl, ?_⟩
    rw [e_close, ends_c (sg_tx _)]
    have lt : (tx (sg (insW ix) ++ [93])).length ≤ 801 := by rw [← sg_len, sg_tx, List.length_append, List.length_singleton, sg_len]; omega
    have l1 : 1 ≤ (tx (sg (insW ix) ++ [93])).length := by rw [← sg_len, sg_tx]; simp
    have es : Txt.slice (tx (sg (insW ix) ++ [93])) none (some (-1)) = insW ix := by
      refine sg_inj ?_
      rw [sl_last l1, sg_tx, List.dropLast_concat]
    refine iteF ⟨_, rfl, _, rfl, _, rfl, _, rfl, line_le (Nat.le_trans lt (by decide)), ?_⟩
    rw [es]
    refine ⟨_, rfl, rfl, _, rfl, iteD (fun h0 => ?_) (fun h0 => ?_)⟩
    · have e0 : ix = [] := (ins_nil ok).mp (by injection h0)
      refine ⟨_, rfl, a, rfl, la, fun H2 s2 => ⟨line_le (by simp), fun l hl => ?_⟩⟩
      have s3 := same_new (o := .lst []) hl
      have hl3 : upd H2 l (.lst []) l = some (.lst []) := upd_same
      generalize upd H2 l (.lst []) = H3 at s3 hl3 ⊢
      intro y dx hy hdx hne
      have u3 : Same H3 (upd (upd H3 dx (.own y)) y (.ins t.C_Read dx [])) := same_fresh (same_new hdx) hy
      refine ⟨y, dx, l, a, ix, rfl, upd_same, by rw [e0]; exact .lst (u3 _ _ hl3) .nil, by omega, fun l1 H4 hy4 rp4 kb4 => ⟨rfl, ?_⟩⟩
      have s4 : Same H3 H4 := fun b o e => kb4 b o (ne_of_none e hy) (u3 _ _ e)
      have f : ∀ b, H3 b = none → H b = none := fun b z => s1.free (s2.free (s3.free z))
      exact k _ _ (s1.trans (s2.trans (s3.trans s4))) (.read (restr_mk (f _ hy) hy4) (rp4.imp fun b o e => restr_mk (f _ (u3.free (restr_some e).1)) (restr_some e).2))
    · have ne : ix ≠ [] := fun e => h0 (by rw [(ins_nil ok).mpr e])
      have sp := ins_split ok ne
      refine ⟨_, rfl, a, rfl, la, fun H2 s2 => ⟨_, rfl, rfl, _, ",", rfl, rfl, rfl, line_le (by omega), fun l hl => ?_⟩⟩
      rw [sp]
      have s3 := same_new (o := .lst ((ix.map idxW).map V.str)) hl
      have hl3 : upd H2 l (.lst ((ix.map idxW).map V.str)) l = some (.lst ((ix.map idxW).map V.str)) := upd_same
      generalize upd H2 l (.lst ((ix.map idxW).map V.str)) = H3 at s3 hl3 ⊢
      refine ⟨l, rfl, ⟨_, SqL.of hl3⟩, fun D hD => ?_⟩
      refine comp_listQ (K := K) (a := l) (D := D) (xs := (ix.map idxW).map V.str) (fun i ys G => Same H3 G ∧ G D = some (.lst ys) ∧ Paired (fun v e => ∃ q, v = V.ref q ∧ G q = some (.tup [.str e.1, .int e.2])) ys (ix.take i)) ⟨same_new hD, upd_same, .nil⟩ (fun i ys G ⟨s2, _⟩ => SqL.of (s2 _ _ hl3)) ?_ ?_
      · rintro i v ys G hv ⟨sG, hD2, pr⟩
        rw [List.getElem?_map, List.getElem?_map] at hv
        cases he : ix[i]? with
        | none => rw [he] at hv; cases hv
        | some e =>
          rw [he] at hv
          cases hv
          have lp := Paired.length pr
          rw [List.length_take] at lp
          refine ⟨True.intro, _, rfl, _, e, rfl, sg_idx e, ok e (List.mem_of_getElem? he), fun p G2 sg2 hp => ⟨sg2 _ _ hD2, line_lt (by omega), same_fresh (sG.trans sg2) hD, upd_same, ?_⟩⟩
          have pD : p ≠ D := ne_of hp (sg2 _ _ hD2) (by intro z; cases z)
          rw [List.take_add_one, he, Option.toList_some]
          refine Paired.snoc ⟨p, rfl, by rw [upd_ne pD]; exact hp⟩ (Paired.mapP pr fun _ _ z => ?_)
          obtain ⟨q', e1, e2⟩ := z
          exact ⟨q', e1, by rw [upd_ne (ne_of e2 hD2 (by intro z; cases z))]; exact sg2 _ _ e2⟩
      · rintro ys G ⟨sG, hD2, pr⟩
        rw [show ((ix.map idxW).map V.str).length = ix.length by simp, List.take_length] at pr
        have rp : Rep G (.ref D) (encIx ix) := by
          refine .lst hD2 ?_
          clear hD2 sp ne h0 ok li lin k ex lx lt l1 es sG s3 hl3
          induction pr with
          | nil => exact .nil
          | cons a _ ih =>
            obtain ⟨q', e1, e2⟩ := a
            subst e1
            exact .cons (.tup e2 (.cons (.str _) (.cons (.int _) .nil))) ih
        intro y dx hy hdx hne
        have u3 : Same G (upd (upd G dx (.own y)) y (.ins t.C_Read dx [])) := same_fresh (same_new hdx) hy
        refine ⟨y, dx, D, a, ix, rfl, upd_same, rp.same u3, by omega, fun l1 H4 hy4 rp4 kb4 => ⟨rfl, ?_⟩⟩
        have s4 : Same G H4 := fun b o e => kb4 b o (ne_of_none e hy) (u3 _ _ e)
        have f : ∀ b, G b = none → H b = none := fun b z => s1.free (s2.free (s3.free (sG.free z)))
        exact k _ _ (s1.trans (s2.trans (s3.trans (sG.trans s4)))) (.read (restr_mk (f _ hy) hy4) (rp4.imp fun b o e => restr_mk (f _ (u3.free (restr_some e).1)) (restr_some e).2))
theorem ok_read_leaf (T : Txt K mg t) : FnOk P w K mg base CX0 8 t.f_read_leaf t.d_read_leaf ["word"] (sp_leaf t) := by
  have G_Number_init := ok_Number_init (P := P) (w := w) (base := base) T
  have G_Place_init := ok_Place_init (P := P) (w := w) (base := base) T
  have G_begins_number := ok_begins_number (P := P) (w := w) (base := base) T
  have G_read_name := ok_read_name (P := P) (w := w) (base := base) T
  have G_read_number := ok_read_number (P := P) (w := w) (base := base) T
  have G_read_read := ok_read_read (P := P) (w := w) (base := base) T
  refine T.F_read_leaf.ok sc_read_leaf (fun vs H Q E h => ?_) (fun cdv A outer s H vs Q E hr h => ?_)
  · obtain ⟨x, u, rfl, _⟩ := h
    rfl
  · obtain ⟨x, u, rfl, hw, hl, ok, k⟩ := h
    refine ⟨_, (pss_cons (ps_if (pt_cmpR op_in_str pe_str (pv 0) (by with_unfolding_all rfl))
        (pss_one (ps_ret (pe_call G_read_read (hr.mono (by omega)) rfl T.m_read_read T.F_read_read.kp T.b_read_read .nil pass0 (pa_cons (pv 0) pa_nil))))
        pss_nil)
      (pss_cons (ps_if (pt_val (pe_call G_begins_number (hr.mono (by omega)) rfl T.m_begins_number T.F_begins_number.kp T.b_begins_number .nil pass0 (pa_cons (pv 0) pa_nil)))
        (pss_one (ps_ret (pe_make T.mk_Number G_Number_init (hr.mono (by omega)) rfl T.m_Number T.b_Number_init .nil pass0 (pa_cons (pe_call G_read_number (hr.mono (by omega)) rfl T.m_read_number T.F_read_number.kp T.b_read_number .nil pass0 (pa_cons (pv 0) pa_nil)) pa_nil))))
        pss_nil)
      (pss_one (ps_ret (pe_make T.mk_Place G_Place_init (hr.mono (by omega)) rfl T.m_Place T.b_Place_init .nil pass0 (pa_cons (pe_call G_read_name (hr.mono (by omega)) rfl T.m_read_name T.F_read_name.kp T.b_read_name .nil pass0 (pa_cons (pv 0) pa_nil)) pa_nil)))))), ?_⟩
    refine ⟨_, rfl, _, _, rfl, rfl, _, rfl, ?_⟩
    rw [e_open, inS]
    cases u with
    | num z =>
      have ex : x = (toString z : Str) := by simpa [words] using hw.symm
      have es : sg x = zsg z := by rw [ex]; exact sg_int z
      have n91 : 91 ∉ sg x := fun m => by rw [es] at m; have := zsg_dg z _ m; omega
      obtain ⟨c, r, hc, hh⟩ := zsg_head z
      have bc : bgn c = true := by
        unfold bgn isfig
        rcases hh with ⟨z, _⟩ | ⟨z, _⟩
        · rw [decide_eq_true z]; rfl
        · rw [decide_eq_true z, Bool.or_true]
      have lx := int_lenB (show B30 z from ok)
      rw [decide_eq_false n91]
      refine iteF ⟨_, rfl, x, c, r, rfl, by rw [es, hc], by rw [ex]; omega, fun H1 s1 => ⟨_, rfl, ?_⟩⟩
      rw [bc]
      refine iteT ⟨_, rfl, x, z, rfl, es, ok, fun H2 s2 => ?_⟩
      refine fun y dx hy hdx hne => ⟨y, _, dx, _, rfl, upd_same, T.cl_Number, T.na_Number_number, rfl, ?_⟩
      exact k _ _ (s1.trans (s2.trans (same_made hy hdx))) (.num (restr_mk (s1.free (s2.free hy)) upd_same))
    | place z =>
      have ex : x = z := by simpa [words] using hw.symm
      subst ex
      have n91 : 91 ∉ sg x := ltr_no ok.1 (by decide)
      rw [decide_eq_false n91]
      cases hs : sg x with
      | nil => exact absurd hs ok.1.ne
      | cons c r =>
        have hc := ok.1.dg c (by rw [hs]; exact .head _)
        have bc : bgn c = false := by
          unfold bgn isfig
          rw [decide_eq_false (by omega), decide_eq_false (by omega)]
          rfl
        have lx := ok.1.ln
        refine iteF ⟨_, rfl, x, c, r, rfl, hs, by omega, fun H1 s1 => ⟨_, rfl, ?_⟩⟩
        rw [bc]
        refine iteF ⟨_, rfl, x, rfl, ok.1, fun H2 s2 => ?_⟩
        refine fun y dx hy hdx hne => ⟨y, _, dx, _, rfl, upd_same, T.cl_Place, T.na_Place_axis, rfl, ?_⟩
        exact k _ _ (s1.trans (s2.trans (same_made hy hdx))) (.place (restr_mk (s1.free (s2.free hy)) upd_same))
    | read a ix =>
      have ex : x = a ++ "[" ++ insW ix ++ "]" := by simpa [words] using hw.symm
      have es : sg x = rdS a ix := by
        rw [ex, sg_app, sg_app, sg_app, e_open, e_close]
        unfold rdS
        simp [sg]
      rw [decide_eq_true (by rw [es]; unfold rdS; simp)]
      exact iteT ⟨_, rfl, x, a, ix, rfl, es, ok.1, ok.2.1, ok.2.2, k⟩
    | sum x b => cases hl
    | pair o l r => cases hl
    | guard x lo hi l r => cases hl
end
end My

set_option Elab.async false
set_option linter.all false
set_option maxRecDepth 100000
set_option maxHeartbeats 4000000
namespace My
open PySem L2 M84
local macro_rules | `(tactic| walk_at "lk") => `(tactic| first | with_reducible exact lk0 | (refine lk1 (by decide +kernel) ?_; walk_at "lk") | rfl)
def KB (p : Addr) (H H' : Hp) : Prop := ∀ b o, b ≠ p → H b = some o → H' b = some o
theorem KB.refl {p : Addr} {H : Hp} : KB p H H := fun _ _ _ e => e
theorem KB.trans {p : Addr} {H H' H2 : Hp} (a : KB p H H') (b : KB p H' H2) : KB p H H2 := fun c o hc e => b c o hc (a c o hc e)
theorem KB.of {p : Addr} {H H' : Hp} (s : Same H H') : KB p H H' := fun b o _ e => s _ _ e
theorem KB.put {p : Addr} {H : Hp} {o : HO} : KB p H (upd H p o) := fun b u hb e => by rw [upd_ne hb]; exact e
theorem KB.free {p b : Addr} {H H' : Hp} {u : HO} (k : KB p H H') (hp : H' p = some u) (hb : H' b = none) : H b = none := by
  cases e : H b with
  | none => rfl
  | some o =>
    by_cases z : b = p
    · rw [z, hp] at hb; cases hb
    · rw [k b o z e] at hb; cases hb
theorem inV_str (z : Str) : ∀ bs : List Str, inV (.str z) (bs.map V.str) = decide (z ∈ bs)
  | [] => rfl
  | b :: r => by
    have ih := inV_str z r
    unfold inV at ih ⊢
    rw [List.map_cons, List.any_cons, ih]
    show ((b == z) || decide (z ∈ r)) = decide (z ∈ b :: r)
    by_cases e : b = z
    · subst e; simp
    · have : ¬ z = b := fun h => e h.symm
      simp [e, this]
theorem flat_strs : ∀ bs : List Str, (bs.map V.str).all flatV = true
  | [] => rfl
  | b :: r => by rw [List.map_cons, List.all_cons, flat_strs r]; rfl
theorem drop_cons {ws : List Str} {g : Nat} {x : Str} {r : List Str} (h : ws.drop g = x :: r) : ws[g]? = some x ∧ ws.drop (g + 1) = r ∧ g < ws.length := by
  have e0 : (ws.drop g)[0]? = some x := by rw [h]; rfl
  rw [List.getElem?_drop, Nat.add_zero] at e0
  refine ⟨e0, ?_, (List.getElem?_eq_some_iff.mp e0).1⟩
  have := congrArg (List.drop 1) h
  rw [List.drop_drop] at this
  exact this
abbrev wr (A : Adr) (dx L : Addr) (g : Nat) : HO := .ins A.C_WordRow dx [("row", .ref L), ("gone", .int (g : Nat))]
def sp_initW (A : Adr) : Sp := fun vs H Q _ => ∃ (p dx : Addr) (v : V), vs = [.ref p, v] ∧ H p = some (.ins A.C_WordRow dx []) ∧ Q .non (upd H p (.ins A.C_WordRow dx [("row", v), ("gone", .int (0 : Nat))]))
def sp_next (A : Adr) : Sp := fun vs H Q _ => ∃ (r dx L : Addr) (ws : List Str) (g : Nat) (x : Str), vs = [.ref r] ∧ H r = some (wr A dx L g) ∧ H L = some (.lst (ws.map V.str)) ∧ ws[g]? = some x ∧ Q (.str x) (upd H r (wr A dx L (g + 1)))
def sp_nt (A : Adr) (n : Nat) : Sp := fun vs H Q _ => ∃ (r dx L : Addr) (ws rest : List Str) (g : Nat) (u : Tm), vs = [.ref r] ∧ H r = some (wr A dx L g) ∧ H L = some (.lst (ws.map V.str)) ∧ ws.drop g = words u ++ rest ∧ TmOk u ∧ dep u ≤ n ∧
  ∀ (v : V) (H' : Hp), KB r H H' → H' r = some (wr A dx L (g + (words u).length)) → Ob A (restr (fun b => H b = none) H') v u → Q v H'
def sp_np (A : Adr) (n : Nat) : Sp := fun vs H Q _ => ∃ (r dx L : Addr) (ws rest : List Str) (g : Nat) (k : Op3) (u1 u2 : Tm), vs = [.str k.sign, .ref r] ∧ H r = some (wr A dx L g) ∧ H L = some (.lst (ws.map V.str)) ∧ ws.drop g = words u1 ++ (words u2 ++ rest) ∧ TmOk u1 ∧ TmOk u2 ∧ dep u1 ≤ n ∧ dep u2 ≤ n ∧
  ∀ (v : V) (H' : Hp), KB r H H' → H' r = some (wr A dx L (g + (words u1).length + (words u2).length)) → Ob A (restr (fun b => H b = none) H') v (.pair k u1 u2) → Q v H'
def sp_ng (A : Adr) (n : Nat) : Sp := fun vs H Q _ => ∃ (r dx L : Addr) (ws rest : List Str) (g : Nat) (x : Str) (lo hi : Int) (u1 u2 : Tm), vs = [.ref r] ∧ H r = some (wr A dx L g) ∧ H L = some (.lst (ws.map V.str)) ∧ ws.drop g = x :: (toString lo : Str) :: (toString hi : Str) :: (words u1 ++ (words u2 ++ rest)) ∧ Ltr x ∧ B30 lo ∧ B30 hi ∧ TmOk u1 ∧ TmOk u2 ∧ dep u1 ≤ n ∧ dep u2 ≤ n ∧
  ∀ (v : V) (H' : Hp), KB r H H' → H' r = some (wr A dx L (g + 3 + (words u1).length + (words u2).length)) → Ob A (restr (fun b => H b = none) H') v (.guard x lo hi u1 u2) → Q v H'
def sp_term (A : Adr) : Sp := fun vs H Q _ => ∃ (L : Addr) (u : Tm), vs = [.ref L] ∧ H L = some (.lst ((words u).map V.str)) ∧ TmOk u ∧ dep u ≤ 5 ∧ ∀ (v : V) (H' : Hp), Same H H' → Ob A (restr (fun b => H b = none) H') v u → Q v H'
theorem ob_up {A : Adr} {H H1 H2 H3 : Hp} {r : Addr} {v : V} {u : Tm} {o : HO} (kb : KB r H H1) (h1 : H1 r = some o) (kb2 : KB r H2 H3) (ob : Ob A (restr (fun b => H1 b = none) H2) v u) : Ob A (restr (fun b => H b = none) H3) v u :=
  ob.imp fun b o' e => restr_mk (kb.free h1 (restr_some e).1) (kb2 b o' (fun z => by have := (restr_some e).1; rw [z, h1] at this; cases this) (restr_some e).2)
theorem leaf_word {u : Tm} {x : Str} (hl : leaf u = true) (hw : words u = [x]) (ok : TmOk u) : x ∉ (["+", "-", "*"] : List Str) ∧ x ≠ "sum" ∧ x ≠ "if" := by
  have e1 : sg ("+" : Str) = [43] := by decide +kernel
  have e2 : sg ("-" : Str) = [45] := by decide +kernel
  have e3 : sg ("*" : Str) = [42] := by decide +kernel
  have e4 : sg ("sum" : Str) = [115, 117, 109] := by decide +kernel
  have e5 : sg ("if" : Str) = [105, 102] := by decide +kernel
  suffices h : sg x ≠ [43] ∧ sg x ≠ [45] ∧ sg x ≠ [42] ∧ x ≠ "sum" ∧ x ≠ "if" by
    refine ⟨fun m => ?_, h.2.2.2⟩
    simp only [List.mem_cons, List.not_mem_nil, or_false] at m
    rcases m with rfl | rfl | rfl
    · exact h.1 e1
    · exact h.2.1 e2
    · exact h.2.2.1 e3
  cases u with
  | num z =>
    have ex : x = (toString z : Str) := by simpa [words] using hw.symm
    have es : sg x = zsg z := by rw [ex]; exact sg_int z
    have a1 : ∀ c, c < 45 ∨ 57 < c → c ∉ zsg z := fun c hc m => by have := zsg_dg z c m; omega
    refine ⟨fun e => a1 43 (by omega) (by rw [← es, e]; simp), fun e => ?_, fun e => a1 42 (by omega) (by rw [← es, e]; simp), fun e => a1 115 (by omega) (by rw [← es, e, e4]; simp), fun e => a1 105 (by omega) (by rw [← es, e, e5]; simp)⟩
    rw [es] at e
    unfold zsg at e
    split at e
    · injection e with _ e
      exact figs_ne _ e
    · have := figs_dg z.natAbs 45 (by rw [e]; simp)
      omega
  | place z =>
    have ex : x = z := by simpa [words] using hw.symm
    subst ex
    exact ⟨fun e => ltr_no ok.1 (c := 43) (by decide) (by rw [e]; simp), fun e => ltr_no ok.1 (c := 45) (by decide) (by rw [e]; simp), fun e => ltr_no ok.1 (c := 42) (by decide) (by rw [e]; simp), ok.2.1, ok.2.2⟩
  | read a ix =>
    have ex : x = a ++ "[" ++ insW ix ++ "]" := by simpa [words] using hw.symm
    have m : 91 ∈ sg x := by
      rw [ex, sg_app, sg_app, sg_app, e_open]
      simp [sg]
    refine ⟨fun e => ?_, fun e => ?_, fun e => ?_, fun e => ?_, fun e => ?_⟩
    · rw [e] at m; simp at m
    · rw [e] at m; simp at m
    · rw [e] at m; simp at m
    · rw [e, e4] at m; simp at m
    · rw [e, e5] at m; simp at m
  | sum x b => cases hl
  | pair o l r => cases hl
  | guard x lo hi l r => cases hl
section
variable {P : Program} {w : World} {K : PySem.W.Frag} {mg : Str → Option Value} {base : Heap} {t : Adr}
theorem ok_WordRow_init (T : Txt K mg t) : FnOk P w K mg base CX0 1 t.f_WordRow_init t.d_WordRow_init ["self", "row"] (sp_initW t) := by
  refine T.F_WordRow_init.ok sc_WordRow_init (fun vs H Q E h => ?_) (fun cdv A outer s H vs Q E hr h => ?_)
  · obtain ⟨p, dx, v, rfl, _⟩ := h
    rfl
  · obtain ⟨p, dx, v, rfl, hp, k⟩ := h
    refine ⟨_, (pss_cons (ps_fld (pv 0) (pv 1) rfl)
      (pss_one (ps_fld (pv 0) pe_int rfl))), _, rfl, _, rfl, p, _, dx, [], rfl, hp, T.cl_WordRow, T.na_WordRow_row, (by decide), _, rfl, p, _, dx, _, rfl, upd_same, T.cl_WordRow, T.na_WordRow_gone, (by show 1 < 1000; decide), ?_⟩
    show Q V.non (upd (upd H p _) p (.ins _ dx (putF "gone" (.int 0) (putF "row" v []))))
    rw [upd_upd, putF_nil, putF_ne (by decide +kernel), putF_nil]
    exact k
theorem ok_WordRow_next_word (T : Txt K mg t) : FnOk P w K mg base CX0 1 t.f_WordRow_next_word t.d_WordRow_next_word ["self"] (sp_next t) := by
  refine T.F_WordRow_next_word.ok sc_WordRow_next_word (fun vs H Q E h => ?_) (fun cdv A outer s H vs Q E hr h => ?_)
  · obtain ⟨r, dx, L, ws, g, x, rfl, _⟩ := h
    rfl
  · obtain ⟨r, dx, L, ws, g, x, rfl, h1, h2, hx, k⟩ := h
    have hg := (List.getElem?_eq_some_iff.mp hx).1
    refine ⟨_, (pss_cons (ps_if (pt_cmpR op_eq (pe_fld (pv 0) rfl) (pe_callB call_len_seq (by rfl) T.z_len PySem.boot_len (pa_cons (pe_fld (pv 0) rfl) pa_nil)) (nomark _))
        (pss_one ps_never)
        pss_nil)
      (pss_cons (ps_fld (pv 0) (pe_op op_add (pe_fld (pv 0) rfl) pe_int) rfl)
      (pss_one (ps_ret (pe_ix ix_list (pe_fld (pv 0) rfl) (pe_op op_sub (pe_fld (pv 0) rfl) pe_int) (fun _ _ => rfl)))))), ?_⟩
    refine ⟨_, rfl, r, _, dx, _, _, rfl, h1, T.cl_WordRow, T.na_WordRow_gone, (by walk_at "lk"), _, rfl, r, _, dx, _, _, rfl, h1, T.cl_WordRow, T.na_WordRow_row, (by walk_at "lk"), L, _, rfl, .inl (SqL.of h2), rfl, _, rfl, iteD (fun e => absurd (show (g : Int) = ((ws.map V.str).length : Nat) by injection e) (by rw [List.length_map]; omega)) (fun _ => ?_)⟩
    refine ⟨_, rfl, r, _, dx, _, _, rfl, h1, T.cl_WordRow, T.na_WordRow_gone, (by walk_at "lk"), _, _, rfl, rfl, _, rfl, r, _, dx, _, rfl, h1, T.cl_WordRow, T.na_WordRow_gone, (by show 2 < 1000; decide), ?_⟩
    have e : putF "gone" (.int ((g : Int) + 1)) ([("row", V.ref L), ("gone", .int (g : Nat))] : List (Str × V)) = ([("row", V.ref L), ("gone", .int ((g + 1 : Nat) : Int))] : List (Str × V)) := by
      rw [putF_ne (by decide +kernel)]
      show _ :: (if ("gone" : Str) = "gone" then _ else _) = _
      rw [if_pos rfl]
      rfl
    dsimp only
    rw [e]
    have n : L ≠ r := ne_of h2 h1 (by intro z; cases z)
    refine ⟨_, rfl, r, _, dx, _, _, rfl, upd_same, T.cl_WordRow, T.na_WordRow_row, (by walk_at "lk"), _, rfl, r, _, dx, _, _, rfl, upd_same, T.cl_WordRow, T.na_WordRow_gone, (by walk_at "lk"), _, _, rfl, rfl, L, _, _, _, rfl, rfl, SqL.of (by rw [upd_ne n]; exact h2), ?_, k⟩
    rw [show ((g + 1 : Nat) : Int) - 1 = (g : Nat) by omega]
    refine atI_nat ?_
    rw [List.getElem?_map, hx]
    rfl
end
end My

set_option Elab.async false
set_option linter.all false
set_option maxRecDepth 100000
set_option maxHeartbeats 4000000
namespace My
open PySem L2 M84
local macro_rules | `(tactic| walk_at "lk") => `(tactic| first | with_reducible exact lk0 | (refine lk1 (by decide +kernel) ?_; walk_at "lk") | rfl)
theorem drop_app {ws r1 r2 : List Str} {g : Nat} (h : ws.drop g = r1 ++ r2) : ws.drop (g + r1.length) = r2 := by
  have := congrArg (List.drop r1.length) h
  rw [List.drop_drop, List.drop_left] at this
  exact this
theorem lf_cases (u : Tm) : (leaf u = true ∧ ∃ x, words u = [x]) ∨ (∃ x b, u = .sum x b) ∨ (∃ k l r, u = .pair k l r) ∨ ∃ x lo hi l r, u = .guard x lo hi l r := by
  cases u with
  | num z => exact .inl ⟨rfl, _, rfl⟩
  | place z => exact .inl ⟨rfl, _, rfl⟩
  | read a ix => exact .inl ⟨rfl, _, rfl⟩
  | sum x b => exact .inr (.inl ⟨_, _, rfl⟩)
  | pair o l r => exact .inr (.inr (.inl ⟨_, _, _, rfl⟩))
  | guard x lo hi l r => exact .inr (.inr (.inr ⟨_, _, _, _, _, rfl⟩))
section
variable {P : Program} {w : World} {K : PySem.W.Frag} {mg : Str → Option Value} {base : Heap} {t : Adr}
theorem np_step (T : Txt K mg t) {n m : Nat} (hm : 7 ≤ m) (G_next_term : FnOk P w K mg base CX0 m t.f_next_term t.d_next_term ["row"] (sp_nt t n)) : FnOk P w K mg base CX0 (m + 1) t.f_next_pair t.d_next_pair ["sign", "row"] (sp_np t n) := by
  have G_Pair_init := ok_Pair_init (P := P) (w := w) (base := base) T
  refine T.F_next_pair.ok sc_next_pair (fun vs H Q E h => ?_) (fun cdv A outer s H vs Q E hr h => ?_)
  · obtain ⟨r, dx, L, ws, rest, g, k, u1, u2, rfl, _⟩ := h
    rfl
  · obtain ⟨r, dx, L, ws, rest, g, o, u1, u2, rfl, hr0, hL, hd, k1, k2, d1, d2, k⟩ := h
    have nL : L ≠ r := ne_of hL hr0 (by intro z; cases z)
    refine ⟨_, (pss_cons (ps_set (i := 2) sc_next_pair.nd rfl (Or.inl rfl) (pe_call G_next_term (hr.mono (by omega)) rfl T.m_next_term T.F_next_term.kp T.b_next_term .nil pass0 (pa_cons (pv 1) pa_nil)))
      (pss_cons (ps_set (i := 3) sc_next_pair.nd rfl (Or.inl rfl) (pe_call G_next_term (hr.mono (by omega)) rfl T.m_next_term T.F_next_term.kp T.b_next_term .nil pass0 (pa_cons (pv 1) pa_nil)))
      (pss_cons (ps_if (pt_cmpR op_eq (pv 0) pe_str (nomark _))
        (pss_one (ps_ret (pe_make T.mk_Plus G_Pair_init (hr.mono (by omega)) rfl T.m_Plus T.b_Pair_init .nil pass0 (pa_cons (pv 2) (pa_cons (pv 3) pa_nil)))))
        pss_nil)
      (pss_cons (ps_if (pt_cmpR op_eq (pv 0) pe_str (nomark _))
        (pss_one (ps_ret (pe_make T.mk_Minus G_Pair_init (hr.mono (by omega)) rfl T.m_Minus T.b_Pair_init .nil pass0 (pa_cons (pv 2) (pa_cons (pv 3) pa_nil)))))
        pss_nil)
      (pss_one (ps_ret (pe_make T.mk_Times G_Pair_init (hr.mono (by omega)) rfl T.m_Times T.b_Pair_init .nil pass0 (pa_cons (pv 2) (pa_cons (pv 3) pa_nil))))))))), ?_⟩
    refine ⟨_, rfl, r, dx, L, ws, _, g, u1, rfl, hr0, hL, hd, k1, d1, fun v1 H1 kb1 hr1 ob1 => ?_⟩
    refine ⟨_, rfl, r, dx, L, ws, rest, _, u2, rfl, hr1, kb1 _ _ nL hL, drop_app hd, k2, d2, fun v2 H2 kb2 hr2 ob2 => ?_⟩
    have fin : ∀ (y dy : Addr), H2 y = none → H2 dy = none → Q (.ref y) (upd (upd (upd H2 dy (.own y)) y (.ins (clsOf t o) dy [])) y (.ins (clsOf t o) dy [("left", v1), ("right", v2)])) := fun y dy hy hdy => by
      have s3 : Same H2 (upd (upd (upd H2 dy (.own y)) y (.ins (clsOf t o) dy [])) y (.ins (clsOf t o) dy [("left", v1), ("right", v2)])) := same_made hy hdy
      refine k _ _ ((kb1.trans kb2).trans (KB.of s3)) (s3 _ _ hr2) (.pair (restr_mk ((kb1.trans kb2).free hr2 hy) upd_same) (ob_up KB.refl hr0 (kb2.trans (KB.of s3)) ob1) (ob_up kb1 hr1 (KB.of s3) ob2))
    cases o with
    | plus => exact ⟨_, rfl, rfl, _, rfl, iteYes rfl ⟨_, rfl, _, rfl, fun y dy hy hdy hne => ⟨y, _, dy, _, _, rfl, upd_same, T.cl_Plus, T.na_Plus_left, T.na_Plus_right, rfl, fin y dy hy hdy⟩⟩⟩
    | minus => exact ⟨_, rfl, rfl, _, rfl, iteNo (by intro z; injection z with z; exact absurd z (by decide +kernel)) ⟨_, rfl, rfl, _, rfl, iteYes rfl ⟨_, rfl, _, rfl, fun y dy hy hdy hne => ⟨y, _, dy, _, _, rfl, upd_same, T.cl_Minus, T.na_Minus_left, T.na_Minus_right, rfl, fin y dy hy hdy⟩⟩⟩⟩
    | times => exact ⟨_, rfl, rfl, _, rfl, iteNo (by intro z; injection z with z; exact absurd z (by decide +kernel)) ⟨_, rfl, rfl, _, rfl, iteNo (by intro z; injection z with z; exact absurd z (by decide +kernel)) ⟨_, rfl, _, rfl, fun y dy hy hdy hne => ⟨y, _, dy, _, _, rfl, upd_same, T.cl_Times, T.na_Times_left, T.na_Times_right, rfl, fin y dy hy hdy⟩⟩⟩⟩
theorem ng_step (T : Txt K mg t) {n m : Nat} (hm : 7 ≤ m) (G_next_term : FnOk P w K mg base CX0 m t.f_next_term t.d_next_term ["row"] (sp_nt t n)) : FnOk P w K mg base CX0 (m + 1) t.f_next_guard t.d_next_guard ["row"] (sp_ng t n) := by
  have G_Guard_init := ok_Guard_init (P := P) (w := w) (base := base) T
  have G_read_name := ok_read_name (P := P) (w := w) (base := base) T
  have G_read_number := ok_read_number (P := P) (w := w) (base := base) T
  have G_WordRow_next_word := ok_WordRow_next_word (P := P) (w := w) (base := base) T
  refine T.F_next_guard.ok sc_next_guard (fun vs H Q E h => ?_) (fun cdv A outer s H vs Q E hr h => ?_)
  · obtain ⟨r, dx, L, ws, rest, g, x, lo, hi, u1, u2, rfl, _⟩ := h
    rfl
  · obtain ⟨r, dx, L, ws, rest, g, x, lo, hi, u1, u2, rfl, hr0, hL, hd, lx, bl, bh, k1, k2, d1, d2, k⟩ := h
    have nL : L ≠ r := ne_of hL hr0 (by intro z; cases z)
    obtain ⟨x1, hd1, _⟩ := drop_cons hd
    obtain ⟨x2, hd2, _⟩ := drop_cons hd1
    obtain ⟨x3, hd3, _⟩ := drop_cons hd2
    refine ⟨_, (pss_cons (ps_set (i := 1) sc_next_guard.nd rfl (Or.inl rfl) (pe_call G_read_name (hr.mono (by omega)) rfl T.m_read_name T.F_read_name.kp T.b_read_name .nil pass0 (pa_cons (pe_meth0 (pv 0) T.cl_WordRow T.me_WordRow_next_word G_WordRow_next_word (hr.mono (by omega)) T.b_WordRow_next_word .nil pass0) pa_nil)))
      (pss_cons (ps_set (i := 2) sc_next_guard.nd rfl (Or.inl rfl) (pe_call G_read_number (hr.mono (by omega)) rfl T.m_read_number T.F_read_number.kp T.b_read_number .nil pass0 (pa_cons (pe_meth0 (pv 0) T.cl_WordRow T.me_WordRow_next_word G_WordRow_next_word (hr.mono (by omega)) T.b_WordRow_next_word .nil pass0) pa_nil)))
      (pss_cons (ps_set (i := 3) sc_next_guard.nd rfl (Or.inl rfl) (pe_call G_read_number (hr.mono (by omega)) rfl T.m_read_number T.F_read_number.kp T.b_read_number .nil pass0 (pa_cons (pe_meth0 (pv 0) T.cl_WordRow T.me_WordRow_next_word G_WordRow_next_word (hr.mono (by omega)) T.b_WordRow_next_word .nil pass0) pa_nil)))
      (pss_cons (ps_set (i := 4) sc_next_guard.nd rfl (Or.inl rfl) (pe_call G_next_term (hr.mono (by omega)) rfl T.m_next_term T.F_next_term.kp T.b_next_term .nil pass0 (pa_cons (pv 0) pa_nil)))
      (pss_one (ps_ret (pe_make T.mk_Guard G_Guard_init (hr.mono (by omega)) rfl T.m_Guard T.b_Guard_init .nil pass0 (pa_cons (pv 1) (pa_cons (pv 2) (pa_cons (pv 3) (pa_cons (pv 4) (pa_cons (pe_call G_next_term (hr.mono (by omega)) rfl T.m_next_term T.F_next_term.kp T.b_next_term .nil pass0 (pa_cons (pv 0) pa_nil)) pa_nil)))))))))))), ?_⟩
    refine ⟨_, rfl, r, dx, _, rfl, hr0, (by walk_at "lk"), r, dx, L, ws, g, x, rfl, hr0, hL, x1, x, rfl, lx, fun H1 s1 => ?_⟩
    have kb1 : KB r H H1 := KB.put.trans (KB.of s1)
    have hr1 : H1 r = some (wr t dx L (g + 1)) := s1 _ _ upd_same
    refine ⟨_, rfl, r, dx, _, rfl, hr1, (by walk_at "lk"), r, dx, L, ws, g + 1, _, rfl, hr1, kb1 _ _ nL hL, x2, _, lo, rfl, sg_int lo, bl, fun H2 s2 => ?_⟩
    have kb2 : KB r H H2 := kb1.trans (KB.put.trans (KB.of s2))
    have hr2 : H2 r = some (wr t dx L (g + 1 + 1)) := s2 _ _ upd_same
    refine ⟨_, rfl, r, dx, _, rfl, hr2, (by walk_at "lk"), r, dx, L, ws, g + 1 + 1, _, rfl, hr2, kb2 _ _ nL hL, x3, _, hi, rfl, sg_int hi, bh, fun H3 s3 => ?_⟩
    have kb3 : KB r H H3 := kb2.trans (KB.put.trans (KB.of s3))
    have hr3 : H3 r = some (wr t dx L (g + 1 + 1 + 1)) := s3 _ _ upd_same
    refine ⟨_, rfl, r, dx, L, ws, _, g + 1 + 1 + 1, u1, rfl, hr3, kb3 _ _ nL hL, hd3, k1, d1, fun v1 H4 kb4 hr4 ob1 => ?_⟩
    refine ⟨_, rfl, _, rfl, _, rfl, _, rfl, _, rfl, r, dx, L, ws, rest, _, u2, rfl, hr4, (kb3.trans kb4) _ _ nL hL, drop_app hd3, k2, d2, fun v2 H5 kb5 hr5 ob2 => ?_⟩
    refine fun y dy hy hdy hne => ⟨y, dy, _, _, _, _, _, rfl, upd_same, rfl, ?_⟩
    have s6 : Same H5 (upd (upd (upd H5 dy (.own y)) y (.ins t.C_Guard dy [])) y (.ins t.C_Guard dy [("axis", .str x), ("low", .int lo), ("high", .int hi), ("inner", v1), ("outer", v2)])) := same_made hy hdy
    exact k _ _ ((kb3.trans (kb4.trans kb5)).trans (KB.of s6)) (s6 _ _ hr5) (.guard (restr_mk ((kb3.trans (kb4.trans kb5)).free hr5 hy) upd_same) (ob_up kb3 hr3 (kb5.trans (KB.of s6)) ob1) (ob_up (kb3.trans kb4) hr4 (KB.of s6) ob2))
theorem nt_step (T : Txt K mg t) {n m : Nat} (hm : 7 ≤ m) (G_next_term : FnOk P w K mg base CX0 m t.f_next_term t.d_next_term ["row"] (sp_nt t n)) : FnOk P w K mg base CX0 (m + 2) t.f_next_term t.d_next_term ["row"] (sp_nt t (n + 1)) := by
  have G_next_pair := np_step T hm G_next_term
  have G_next_guard := ng_step T hm G_next_term
  have G_Sum_init := ok_Sum_init (P := P) (w := w) (base := base) T
  have G_read_name := ok_read_name (P := P) (w := w) (base := base) T
  have G_read_leaf := ok_read_leaf (P := P) (w := w) (base := base) T
  have G_WordRow_next_word := ok_WordRow_next_word (P := P) (w := w) (base := base) T
  refine T.F_next_term.ok sc_next_term (fun vs H Q E h => ?_) (fun cdv A outer s H vs Q E hr h => ?_)
  · obtain ⟨r, dx, L, ws, rest, g, u, rfl, _⟩ := h
    rfl
  · obtain ⟨r, dx, L, ws, rest, g, u, rfl, hr0, hL, hd, ok, dp, k⟩ := h
    have nL : L ≠ r := ne_of hL hr0 (by intro z; cases z)
    refine ⟨_, (pss_cons (ps_set (i := 1) sc_next_term.nd rfl (Or.inl rfl) (pe_meth0 (pv 0) T.cl_WordRow T.me_WordRow_next_word G_WordRow_next_word (hr.mono (by omega)) T.b_WordRow_next_word .nil pass0))
      (pss_cons (ps_if (pt_cmpR op_in_seq (pv 1) (pe_tup (pa_cons pe_str (pa_cons pe_str (pa_cons pe_str pa_nil)))) (by with_unfolding_all rfl))
        (pss_one (ps_ret (pe_call G_next_pair (hr.mono (by omega)) rfl T.m_next_pair T.F_next_pair.kp T.b_next_pair .nil pass0 (pa_cons (pv 1) (pa_cons (pv 0) pa_nil)))))
        pss_nil)
      (pss_cons (ps_if (pt_cmpR op_eq (pv 1) pe_str (nomark _))
        (pss_cons (ps_set (i := 2) sc_next_term.nd rfl (Or.inl rfl) (pe_call G_read_name (hr.mono (by omega)) rfl T.m_read_name T.F_read_name.kp T.b_read_name .nil pass0 (pa_cons (pe_meth0 (pv 0) T.cl_WordRow T.me_WordRow_next_word G_WordRow_next_word (hr.mono (by omega)) T.b_WordRow_next_word .nil pass0) pa_nil)))
        (pss_one (ps_ret (pe_make T.mk_Sum G_Sum_init (hr.mono (by omega)) rfl T.m_Sum T.b_Sum_init .nil pass0 (pa_cons (pv 2) (pa_cons (pe_call G_next_term (hr.mono (by omega)) rfl T.m_next_term T.F_next_term.kp T.b_next_term .nil pass0 (pa_cons (pv 0) pa_nil)) pa_nil))))))
        pss_nil)
      (pss_cons (ps_if (pt_cmpR op_eq (pv 1) pe_str (nomark _))
        (pss_one (ps_ret (pe_call G_next_guard (hr.mono (by omega)) rfl T.m_next_guard T.F_next_guard.kp T.b_next_guard .nil pass0 (pa_cons (pv 0) pa_nil))))
        pss_nil)
      (pss_one (ps_ret (pe_call G_read_leaf (hr.mono (by omega)) rfl T.m_read_leaf T.F_read_leaf.kp T.b_read_leaf .nil pass0 (pa_cons (pv 1) pa_nil)))))))), ?_⟩
    have go : ∀ (x : Str) (tl : List Str), words u = x :: tl → ws[g]? = some x ∧ ws.drop (g + 1) = tl ++ rest := fun x tl hw => by
      rw [hw, List.cons_append] at hd
      obtain ⟨x1, hd1, _⟩ := drop_cons hd
      exact ⟨x1, hd1⟩
    have kb1 : KB r H (upd H r (wr t dx L (g + 1))) := KB.put
    have hr1 : upd H r (wr t dx L (g + 1)) r = some (wr t dx L (g + 1)) := upd_same
    have hL1 : upd H r (wr t dx L (g + 1)) L = some (.lst (ws.map V.str)) := by rw [upd_ne nL]; exact hL
    refine ⟨_, rfl, r, dx, _, rfl, hr0, (by walk_at "lk"), ?_⟩
    rcases lf_cases u with ⟨lf, x, hw⟩ | ⟨x, b, rfl⟩ | ⟨o, l, rt, rfl⟩ | ⟨x, lo, hi, l, rt, rfl⟩
    · obtain ⟨n1, n2, n3⟩ := leaf_word lf hw ok
      obtain ⟨x1, hd1⟩ := go x [] hw
      refine ⟨r, dx, L, ws, g, x, rfl, hr0, hL, x1, ?_⟩
      generalize upd H r (wr t dx L (g + 1)) = H1 at kb1 hr1 hL1 ⊢
      have ev : inV (V.str x) [V.str "+", V.str "-", V.str "*"] = false := (inV_str x ["+", "-", "*"]).trans (decide_eq_false n1)
      refine ⟨_, rfl, line_le (by show 3 ≤ 1000000; decide), fun q hq => ⟨q, _, rfl, .inr (SqT.of upd_same), rfl, rfl, false, congrArg V.bl ev, ?_⟩⟩
      have s2 := same_new (o := .tup [V.str "+", .str "-", .str "*"]) hq
      generalize upd H1 q (.tup [V.str "+", .str "-", .str "*"]) = H2 at s2 ⊢
      refine iteF ⟨_, rfl, rfl, _, rfl, iteNo (by intro z; injection z with z; exact n2 z) ⟨_, rfl, rfl, _, rfl, iteNo (by intro z; injection z with z; exact n3 z) ⟨_, rfl, x, u, rfl, hw, lf, ok, fun v H3 s3 ob => ?_⟩⟩⟩
      refine k v H3 (kb1.trans (KB.of (s2.trans s3))) (by rw [hw]; exact (s2.trans s3) _ _ hr1) (ob.imp fun b o' e => restr_mk (kb1.free hr1 (s2.free (restr_some e).1)) (restr_some e).2)
    · obtain ⟨x1, hd1⟩ := go "sum" (x :: words b) rfl
      refine ⟨r, dx, L, ws, g, _, rfl, hr0, hL, x1, ?_⟩
      generalize upd H r (wr t dx L (g + 1)) = H1 at kb1 hr1 hL1 ⊢
      have ev : inV (V.str "sum") [V.str "+", V.str "-", V.str "*"] = false := (inV_str "sum" ["+", "-", "*"]).trans (decide_eq_false (by decide +kernel))
      refine ⟨_, rfl, line_le (by show 3 ≤ 1000000; decide), fun q hq => ⟨q, _, rfl, .inr (SqT.of upd_same), rfl, rfl, false, congrArg V.bl ev, ?_⟩⟩
      have s2 := same_new (o := .tup [V.str "+", .str "-", .str "*"]) hq
      generalize upd H1 q (.tup [V.str "+", .str "-", .str "*"]) = H2 at s2 ⊢
      obtain ⟨y1, hd2, _⟩ := drop_cons (show ws.drop (g + 1) = x :: (words b ++ rest) from hd1)
      refine iteF ⟨_, rfl, rfl, _, rfl, iteYes rfl ?_⟩
      refine ⟨_, rfl, r, dx, _, rfl, s2 _ _ hr1, (by walk_at "lk"), r, dx, L, ws, g + 1, x, rfl, s2 _ _ hr1, s2 _ _ hL1, y1, x, rfl, ok.1, fun H3 s3 => ?_⟩
      have kb3 : KB r H H3 := kb1.trans ((KB.of s2).trans (KB.put.trans (KB.of s3)))
      have hr3 : H3 r = some (wr t dx L (g + 1 + 1)) := s3 _ _ upd_same
      have dp : dep b + 1 ≤ n + 1 := dp
      refine ⟨_, rfl, _, rfl, r, dx, L, ws, rest, g + 1 + 1, b, rfl, hr3, kb3 _ _ nL hL, hd2, ok.2, by omega, fun v1 H4 kb4 hr4 ob1 => ?_⟩
      refine fun y dy hy hdy hne => ⟨y, _, dy, _, _, rfl, upd_same, T.cl_Sum, T.na_Sum_axis, T.na_Sum_body, rfl, ?_⟩
      have s6 : Same H4 (upd (upd (upd H4 dy (.own y)) y (.ins t.C_Sum dy [])) y (.ins t.C_Sum dy [("axis", .str x), ("body", v1)])) := same_made hy hdy
      refine k _ _ ((kb3.trans kb4).trans (KB.of s6)) ?_ (.sum (restr_mk ((kb3.trans kb4).free hr4 hy) upd_same) (ob_up kb3 hr3 (KB.of s6) ob1))
      rw [show g + (words (.sum x b)).length = g + 1 + 1 + (words b).length by simp [words]; omega]
      exact s6 _ _ hr4
    · have hw : words (.pair o l rt) = o.sign :: (words l ++ words rt) := by simp [words]
      obtain ⟨x1, hd1⟩ := go o.sign (words l ++ words rt) hw
      refine ⟨r, dx, L, ws, g, _, rfl, hr0, hL, x1, ?_⟩
      generalize upd H r (wr t dx L (g + 1)) = H1 at kb1 hr1 hL1 ⊢
      have ev : inV (V.str o.sign) [V.str "+", V.str "-", V.str "*"] = true := (inV_str o.sign ["+", "-", "*"]).trans (decide_eq_true (by cases o <;> simp [Op3.sign]))
      refine ⟨_, rfl, line_le (by show 3 ≤ 1000000; decide), fun q hq => ⟨q, _, rfl, .inr (SqT.of upd_same), rfl, rfl, true, congrArg V.bl ev, ?_⟩⟩
      have s2 := same_new (o := .tup [V.str "+", .str "-", .str "*"]) hq
      generalize upd H1 q (.tup [V.str "+", .str "-", .str "*"]) = H2 at s2 ⊢
      have dp : max (dep l) (dep rt) + 1 ≤ n + 1 := dp
      refine iteT ⟨_, rfl, _, rfl, r, dx, L, ws, rest, g + 1, o, l, rt, rfl, s2 _ _ hr1, s2 _ _ hL1, by rw [hd1, List.append_assoc], ok.1, ok.2, by omega, by omega, fun v H3 kb3 hr3 ob => ?_⟩
      refine k v H3 (kb1.trans ((KB.of s2).trans kb3)) ?_ (ob_up (kb1.trans (KB.of s2)) (s2 _ _ hr1) KB.refl ob)
      rw [hw, show g + (o.sign :: (words l ++ words rt)).length = g + 1 + (words l).length + (words rt).length by simp; omega]
      exact hr3
    · have hw : words (.guard x lo hi l rt) = ("if" : Str) :: (x :: (toString lo : Str) :: (toString hi : Str) :: (words l ++ words rt)) := by simp [words]
      obtain ⟨x1, hd1⟩ := go "if" _ hw
      refine ⟨r, dx, L, ws, g, _, rfl, hr0, hL, x1, ?_⟩
      generalize upd H r (wr t dx L (g + 1)) = H1 at kb1 hr1 hL1 ⊢
      have ev : inV (V.str "if") [V.str "+", V.str "-", V.str "*"] = false := (inV_str "if" ["+", "-", "*"]).trans (decide_eq_false (by decide +kernel))
      refine ⟨_, rfl, line_le (by show 3 ≤ 1000000; decide), fun q hq => ⟨q, _, rfl, .inr (SqT.of upd_same), rfl, rfl, false, congrArg V.bl ev, ?_⟩⟩
      have s2 := same_new (o := .tup [V.str "+", .str "-", .str "*"]) hq
      generalize upd H1 q (.tup [V.str "+", .str "-", .str "*"]) = H2 at s2 ⊢
      have dp : max (dep l) (dep rt) + 1 ≤ n + 1 := dp
      refine iteF ⟨_, rfl, rfl, _, rfl, iteNo (by intro z; injection z with z; exact absurd z (by decide +kernel)) ⟨_, rfl, rfl, _, rfl, iteYes rfl ⟨_, rfl, r, dx, L, ws, rest, g + 1, x, lo, hi, l, rt, rfl, s2 _ _ hr1, s2 _ _ hL1, by rw [hd1]; simp, ok.1, ok.2.1, ok.2.2.1, ok.2.2.2.1, ok.2.2.2.2, by omega, by omega, fun v H3 kb3 hr3 ob => ?_⟩⟩⟩
      refine k v H3 (kb1.trans ((KB.of s2).trans kb3)) ?_ (ob_up (kb1.trans (KB.of s2)) (s2 _ _ hr1) KB.refl ob)
      rw [hw, show g + (("if" : Str) :: (x :: (toString lo : Str) :: (toString hi : Str) :: (words l ++ words rt))).length = g + 1 + 3 + (words l).length + (words rt).length by simp; omega]
      exact hr3
theorem ok_nt (T : Txt K mg t) : ∀ n : Nat, FnOk P w K mg base CX0 (2 * n + 7) t.f_next_term t.d_next_term ["row"] (sp_nt t n)
  | 0 => FnOk.none fun vs H Q E h => by
    obtain ⟨r, dx, L, ws, rest, g, u, _, _, _, _, _, dp, _⟩ := h
    have := dep_pos u
    omega
  | n + 1 => nt_step T (by omega) (ok_nt T n)
theorem ok_next_term (T : Txt K mg t) : FnOk P w K mg base CX0 17 t.f_next_term t.d_next_term ["row"] (sp_nt t 5) := ok_nt T 5
theorem ok_read_term (T : Txt K mg t) : FnOk P w K mg base CX0 18 t.f_read_term t.d_read_term ["words"] (sp_term t) := by
  have G_WordRow_init := ok_WordRow_init (P := P) (w := w) (base := base) T
  have G_next_term := ok_next_term (P := P) (w := w) (base := base) T
  have G_WordRow_init := ok_WordRow_init (P := P) (w := w) (base := base) T
  refine T.F_read_term.ok sc_read_term (fun vs H Q E h => ?_) (fun cdv A outer s H vs Q E hr h => ?_)
  · obtain ⟨L, u, rfl, _⟩ := h
    rfl
  · obtain ⟨L, u, rfl, hL, ok, dp, k⟩ := h
    refine ⟨_, (pss_cons (ps_set (i := 1) sc_read_term.nd rfl (Or.inl rfl) (pe_make T.mk_WordRow G_WordRow_init (hr.mono (by omega)) rfl T.m_WordRow T.b_WordRow_init .nil pass0 (pa_cons (pv 0) pa_nil)))
      (pss_cons (ps_set (i := 2) sc_read_term.nd rfl (Or.inl rfl) (pe_call G_next_term (hr.mono (by omega)) rfl T.m_next_term T.F_next_term.kp T.b_next_term .nil pass0 (pa_cons (pv 1) pa_nil)))
      (pss_cons (ps_if (pt_cmpR op_ne (pe_fld (pv 1) rfl) (pe_callB call_len_seq (by rfl) T.z_len PySem.boot_len (pa_cons (pv 0) pa_nil)) (nomark _))
        (pss_one ps_never)
        pss_nil)
      (pss_one (ps_ret (pv 2)))))), ?_⟩
    refine ⟨_, rfl, fun y dy hy hdy hne => ⟨y, dy, _, rfl, upd_same, rfl, ?_⟩⟩
    have s1 : Same H (upd (upd (upd H dy (.own y)) y (.ins t.C_WordRow dy [])) y (.ins t.C_WordRow dy [("row", .ref L), ("gone", .int (0 : Nat))])) := same_made hy hdy
    have hy1 : (upd (upd (upd H dy (.own y)) y (.ins t.C_WordRow dy [])) y (.ins t.C_WordRow dy [("row", .ref L), ("gone", .int (0 : Nat))])) y = some (wr t dy L 0) := upd_same
    generalize (upd (upd (upd H dy (.own y)) y (.ins t.C_WordRow dy [])) y (.ins t.C_WordRow dy [("row", .ref L), ("gone", .int (0 : Nat))])) = H1 at s1 hy1 ⊢
    refine ⟨_, rfl, y, dy, L, words u, [], 0, u, rfl, hy1, s1 _ _ hL, by simp, ok, dp, fun v H2 kb hy2 ob => ?_⟩
    have s2 : Same H H2 := fun b o e => kb b o (ne_of_none e hy) (s1 _ _ e)
    refine ⟨_, rfl, y, _, dy, _, _, rfl, hy2, T.cl_WordRow, T.na_WordRow_gone, (by walk_at "lk"), _, rfl, L, _, rfl, .inl (SqL.of (s2 _ _ hL)), rfl, _, rfl, iteND (fun e => absurd ?_ e) (fun _ => ⟨_, rfl, k v H2 s2 (ob.imp fun b o e => restr_mk (s1.free (restr_some e).1) (restr_some e).2)⟩)⟩
    rw [List.length_map, Nat.zero_add]
end
end My

set_option Elab.async false
set_option linter.all false
set_option maxRecDepth 100000
set_option maxHeartbeats 4000000
namespace My
open PySem L2 M84
local macro_rules | `(tactic| walk_at "lk") => `(tactic| first | with_reducible exact lk0 | (refine lk1 (by decide +kernel) ?_; walk_at "lk") | rfl)
theorem cut_take {ys : List Str} {i : Nat} (hi : i ≤ ys.length) : cutV (ys.map V.str) none (some (i : Int)) = (ys.take i).map V.str := by
  unfold cutV
  have e1 : HT.sIx (ys.map V.str).length 0 none = 0 := rfl
  have e2 : HT.sIx (ys.map V.str).length (ys.map V.str).length (some (i : Int)) = i := by
    unfold HT.sIx
    rw [List.length_map]
    simp only [show ¬ ((i : Int) < 0) by omega, if_false]
    omega
  rw [e1, e2, List.drop_zero, Nat.sub_zero, List.map_take]
theorem cut_drop {ys : List Str} {i : Nat} (hi : i ≤ ys.length) : cutV (ys.map V.str) (some (i : Int)) none = (ys.drop i).map V.str := by
  unfold cutV
  have e1 : HT.sIx (ys.map V.str).length 0 (some (i : Int)) = i := by
    unfold HT.sIx
    rw [List.length_map]
    simp only [show ¬ ((i : Int) < 0) by omega, if_false]
    omega
  have e2 : HT.sIx (ys.map V.str).length (ys.map V.str).length none = (ys.map V.str).length := rfl
  rw [e1, e2, List.map_drop]
  exact List.take_of_length_le (by rw [List.length_drop]; exact Nat.le_refl _)
def axW (e : Str × Nat) : List Str := [e.1, (toString (e.2 : Int) : Str)]
def tbW (e : Str × List Str) : List Str := e.1 :: e.2
def ltW (e : Lt) : List Str := e.1 :: (e.2.1 ++ ("=" : Str) :: words e.2.2)
structure TbOk (e : Str × List Str) : Prop where
  nm : Ltr e.1
  ax : ∀ y ∈ e.2, Ltr y
  ln : e.2.length ≤ 12
structure LtOk (e : Lt) : Prop where
  nm : Ltr e.1
  ax : ∀ y ∈ e.2.1, Ltr y
  ln : e.2.1.length ≤ 12
  tm : TmOk e.2.2
  dp : dep e.2.2 ≤ 5
def sp_wheel : Sp := fun vs H Q _ => ∃ (l : Addr) (n : Nat), vs = [.ref l] ∧ H l = some (.lst [.str "wheel", .str (toString (n : Int))]) ∧ 2 ≤ n ∧ n < 10 ^ 30 ∧ ∀ H', Same H H' → Q (.int n) H'
def sp_axis : Sp := fun vs H Q _ => ∃ (l : Addr) (e : Str × Nat), vs = [.ref l] ∧ H l = some (.lst ((axW e).map V.str)) ∧ Ltr e.1 ∧ 1 ≤ e.2 ∧ e.2 ≤ 60 ∧ ∀ (p : Addr) (H' : Hp), Same H H' → H' p = some (.tup [.str e.1, .int e.2]) → Q (.ref p) H'
def sp_table : Sp := fun vs H Q _ => ∃ (l : Addr) (e : Str × List Str), vs = [.ref l] ∧ H l = some (.lst ((tbW e).map V.str)) ∧ TbOk e ∧ ∀ (p c : Addr) (H' : Hp), Same H H' → H' p = some (.tup [.str e.1, .ref c]) → H' c = some (.lst (e.2.map V.str)) → H c = none → Q (.ref p) H'
def sp_let1 (A : Adr) : Sp := fun vs H Q _ => ∃ (l : Addr) (e : Lt), vs = [.ref l] ∧ H l = some (.lst ((ltW e).map V.str)) ∧ LtOk e ∧ (ltW e).length ≤ 1000 ∧ ∀ (v : V) (H' : Hp), Same H H' → LetAt A (fun _ => True) (restr (fun b => H b = none) H') v e → Q v H'
def sp_out : Sp := fun vs H Q _ => ∃ (l : Addr) (x : Str), vs = [.ref l] ∧ H l = some (.lst [.str x]) ∧ Ltr x ∧ ∀ H', Same H H' → Q (.str x) H'
theorem idx_eq {xs ys : List Str} {k : Str} (h : k ∉ xs) : (xs ++ k :: ys).idxOf k = xs.length := by
  induction xs with
  | nil => simp
  | cons a r ih =>
    have h1 : a ≠ k := fun e => h (by rw [e]; exact .head _)
    rw [List.cons_append, List.idxOf_cons]
    have : (a == k) = false := by simpa using h1
    rw [this, ih fun m => h (.tail _ m)]
    rfl
theorem eq_ltr {x : Str} (h : Ltr x) : x ≠ "=" := fun e => by
  have : sg ("=" : Str) = [61] := by decide +kernel
  exact ltr_no h (c := 61) (by decide) (by rw [e, this]; simp)
section
variable {P : Program} {w : World} {K : PySem.W.Frag} {mg : Str → Option Value} {base : Heap} {t : Adr}
theorem ok_read_wheel (T : Txt K mg t) : FnOk P w K mg base CX0 3 t.f_read_wheel t.d_read_wheel ["words"] sp_wheel := by
  have G_look_number_of := ok_look_number_of (P := P) (w := w) (base := base) T
  have G_read_natural := ok_read_natural (P := P) (w := w) (base := base) T
  refine T.F_read_wheel.ok sc_read_wheel (fun vs H Q E h => ?_) (fun cdv A outer s H vs Q E hr h => ?_)
  · obtain ⟨l, n, rfl, _⟩ := h
    rfl
  · obtain ⟨l, n, rfl, hl, n2, n30, k⟩ := h
    refine ⟨_, (pss_cons (ps_expr (pe_call G_look_number_of (hr.mono (by omega)) rfl T.m_look_number_of T.F_look_number_of.kp T.b_look_number_of .nil pass0 (pa_cons (pv 0) (pa_cons pe_int pa_nil))))
      (pss_cons (ps_set (i := 1) sc_read_wheel.nd rfl (Or.inl rfl) (pe_call G_read_natural (hr.mono (by omega)) rfl T.m_read_natural T.F_read_natural.kp T.b_read_natural .nil pass0 (pa_cons (pe_ix ix_list (pv 0) pe_int (fun _ _ => rfl)) pa_nil)))
      (pss_cons (ps_if (PW.pt (pw_or (pt_cmpR op_ne (pe_ix ix_list (pv 0) pe_int (fun _ _ => rfl)) pe_str (nomark _)) (pw_or1 (pt_cmpR op_lt (pv 1) (pe_globE T.cn_LEAST_WHEEL rfl) (nomark _)))))
        (pss_one ps_never)
        pss_nil)
      (pss_one (ps_ret (pv 1)))))), ?_⟩
    refine ⟨_, rfl, l, _, 2, rfl, hl, rfl, ?_⟩
    refine ⟨_, rfl, l, _, _, _, rfl, rfl, SqL.of hl, atI_nat (j := 1) rfl, _, rfl, nat_ok n30, fun H1 s1 => ?_⟩
    rw [sg_nat, figs_val]
    refine ⟨_, rfl, l, _, _, _, rfl, rfl, SqL.of (s1 _ _ hl), atI_nat (j := 0) rfl, rfl, _, rfl, iteND (fun e => absurd rfl e) (fun _ => ?_)⟩
    exact ⟨_, rfl, _, _, rfl, rfl, _, rfl, iteD (fun e => absurd (show (n : Int) < 2 from e) (by omega)) (fun _ => ⟨_, rfl, k H1 s1⟩)⟩
theorem ok_read_axis (T : Txt K mg t) : FnOk P w K mg base CX0 3 t.f_read_axis t.d_read_axis ["words"] sp_axis := by
  have G_look_number_of := ok_look_number_of (P := P) (w := w) (base := base) T
  have G_read_name := ok_read_name (P := P) (w := w) (base := base) T
  have G_read_natural := ok_read_natural (P := P) (w := w) (base := base) T
  refine T.F_read_axis.ok sc_read_axis (fun vs H Q E h => ?_) (fun cdv A outer s H vs Q E hr h => ?_)
  · obtain ⟨l, e, rfl, _⟩ := h
    rfl
  · obtain ⟨l, e, rfl, hl, le, n1, n60, k⟩ := h
    have hl : H l = some (.lst [.str e.1, .str (toString (e.2 : Int))]) := hl
    refine ⟨_, (pss_cons (ps_expr (pe_call G_look_number_of (hr.mono (by omega)) rfl T.m_look_number_of T.F_look_number_of.kp T.b_look_number_of .nil pass0 (pa_cons (pv 0) (pa_cons pe_int pa_nil))))
      (pss_cons (ps_set (i := 1) sc_read_axis.nd rfl (Or.inl rfl) (pe_call G_read_natural (hr.mono (by omega)) rfl T.m_read_natural T.F_read_natural.kp T.b_read_natural .nil pass0 (pa_cons (pe_ix ix_list (pv 0) pe_int (fun _ _ => rfl)) pa_nil)))
      (pss_cons (ps_if (pt_not (pt_chain op_le op_le (pe_globE T.cn_LEAST_LENGTH rfl) (pv 1) (pe_globE T.cn_MOST_LENGTH rfl)))
        (pss_one ps_never)
        pss_nil)
      (pss_one (ps_ret (pe_tup (pa_cons (pe_call G_read_name (hr.mono (by omega)) rfl T.m_read_name T.F_read_name.kp T.b_read_name .nil pass0 (pa_cons (pe_ix ix_list (pv 0) pe_int (fun _ _ => rfl)) pa_nil)) (pa_cons (pv 1) pa_nil)))))))), ?_⟩
    refine ⟨_, rfl, l, _, 2, rfl, hl, rfl, ?_⟩
    refine ⟨_, rfl, l, _, _, _, rfl, rfl, SqL.of hl, atI_nat (j := 1) rfl, _, rfl, nat_ok (Nat.lt_of_le_of_lt n60 (by decide)), fun H1 s1 => ?_⟩
    rw [sg_nat, figs_val]
    refine ⟨_, rfl, _, _, rfl, rfl, _, rfl, iteD (fun h1 => ⟨_, _, rfl, rfl, _, rfl, iteBN (fun e' => absurd (of_decide_eq_false e') (by show ¬ ¬ ((e.2 : Nat) : Int) ≤ 60; omega)) (fun _ => ?_)⟩) (fun h1 => absurd (show (1 : Int) ≤ ((e.2 : Nat) : Int) by omega) h1)⟩
    refine ⟨_, rfl, l, _, _, _, rfl, rfl, SqL.of (s1 _ _ hl), atI_nat (j := 0) rfl, _, rfl, le, fun H2 s2 => ⟨_, rfl, line_le (by show 2 ≤ 1000000; decide), fun q hq => ?_⟩⟩
    exact k q _ (s1.trans (s2.trans (same_new hq))) upd_same
theorem ok_read_table (T : Txt K mg t) : FnOk P w K mg base CX0 4 t.f_read_table t.d_read_table ["words"] sp_table := by
  have G_read_names := ok_read_names (P := P) (w := w) (base := base) T
  refine T.F_read_table.ok sc_read_table (fun vs H Q E h => ?_) (fun cdv A outer s H vs Q E hr h => ?_)
  · obtain ⟨l, e, rfl, _⟩ := h
    rfl
  · obtain ⟨l, e, rfl, hl, ok, k⟩ := h
    have ln := ok.ln
    refine ⟨_, (pss_cons (ps_set (i := 1) sc_read_table.nd rfl (Or.inl rfl) (pe_call G_read_names (hr.mono (by omega)) rfl T.m_read_names T.F_read_names.kp T.b_read_names .nil pass0 (pa_cons (pv 0) pa_nil)))
      (pss_one (ps_ret (pe_tup (pa_cons (pe_ix ix_list (pv 1) pe_int (fun _ _ => rfl)) (pa_cons (pe_slice sl_list (pv 1) (po_some pe_int) po_none) pa_nil)))))), ?_⟩
    refine ⟨_, rfl, l, tbW e, rfl, hl, by simp [tbW], by simp [tbW]; omega, fun x hx => (List.mem_cons.mp hx).elim (fun z => by rw [z]; exact ok.nm) (ok.ax x), fun D H1 hD s1 h1 => ?_⟩
    refine ⟨_, rfl, D, _, _, _, rfl, rfl, SqL.of h1, atI_nat (j := 0) rfl, _, rfl, _, rfl, D, _, rfl, SqL.of h1, fun c hc => ?_⟩
    rw [show cutV ((tbW e).map V.str) (some 1) none = e.2.map V.str from cut_drop (ys := tbW e) (i := 1) (by simp [tbW])]
    refine ⟨line_le (by show 2 ≤ 1000000; decide), fun q hq => ?_⟩
    have s2 := same_new (o := .lst (e.2.map V.str)) hc
    have s3 := same_new (o := .tup [V.str e.1, .ref c]) hq
    exact k q c _ (s1.trans (s2.trans s3)) upd_same (s3 _ _ upd_same) (s1.free hc)
theorem ok_read_out (T : Txt K mg t) : FnOk P w K mg base CX0 3 t.f_read_out t.d_read_out ["words"] sp_out := by
  have G_look_number_of := ok_look_number_of (P := P) (w := w) (base := base) T
  have G_read_name := ok_read_name (P := P) (w := w) (base := base) T
  refine T.F_read_out.ok sc_read_out (fun vs H Q E h => ?_) (fun cdv A outer s H vs Q E hr h => ?_)
  · obtain ⟨l, x, rfl, _⟩ := h
    rfl
  · obtain ⟨l, x, rfl, hl, lx, k⟩ := h
    refine ⟨_, (pss_cons (ps_expr (pe_call G_look_number_of (hr.mono (by omega)) rfl T.m_look_number_of T.F_look_number_of.kp T.b_look_number_of .nil pass0 (pa_cons (pv 0) (pa_cons pe_int pa_nil))))
      (pss_one (ps_ret (pe_call G_read_name (hr.mono (by omega)) rfl T.m_read_name T.F_read_name.kp T.b_read_name .nil pass0 (pa_cons (pe_ix ix_list (pv 0) pe_int (fun _ _ => rfl)) pa_nil))))), ?_⟩
    refine ⟨_, rfl, l, _, 1, rfl, hl, rfl, ?_⟩
    exact ⟨_, rfl, l, _, _, _, rfl, rfl, SqL.of hl, atI_nat (j := 0) rfl, x, rfl, lx, k⟩
theorem ok_read_let (T : Txt K mg t) : FnOk P w K mg base CX0 19 t.f_read_let t.d_read_let ["words"] (sp_let1 t) := by
  have G_Let_init := ok_Let_init (P := P) (w := w) (base := base) T
  have G_read_names := ok_read_names (P := P) (w := w) (base := base) T
  have G_read_term := ok_read_term (P := P) (w := w) (base := base) T
  have G_Let_init := ok_Let_init (P := P) (w := w) (base := base) T
  refine T.F_read_let.ok sc_read_let (fun vs H Q E h => ?_) (fun cdv A outer s H vs Q E hr h => ?_)
  · obtain ⟨l, e, rfl, _⟩ := h
    rfl
  · obtain ⟨l, e, rfl, hl, ok, lw, k⟩ := h
    have ln := ok.ln
    have eW : ltW e = (e.1 :: e.2.1) ++ ("=" : Str) :: words e.2.2 := rfl
    have nm : ("=" : Str) ∉ e.1 :: e.2.1 := fun m => (List.mem_cons.mp m).elim (fun z => eq_ltr ok.nm z.symm) (fun z => eq_ltr (ok.ax _ z) rfl)
    have hi : (ltW e).idxOf ("=" : Str) = (e.1 :: e.2.1).length := by rw [eW]; exact idx_eq nm
    have ev : (!(inV (V.str "=") ((ltW e).map V.str))) = false := by rw [inV_str, decide_eq_true (by rw [eW]; simp)]; rfl
    refine ⟨_, (pss_cons (ps_if (pt_cmpR op_notIn_seq pe_str (pv 0) (by with_unfolding_all rfl))
        (pss_one ps_never)
        pss_nil)
      (pss_cons (ps_set (i := 1) sc_read_let.nd rfl (Or.inl rfl) (pe_bm PySem.F.plainAttrs_list PySem.F.slot_list_index PySem.F.type_list_index mt_indexS (pv 0) (pa_cons pe_str pa_nil)))
      (pss_cons (ps_set (i := 2) sc_read_let.nd rfl (Or.inl rfl) (pe_call G_read_names (hr.mono (by omega)) rfl T.m_read_names T.F_read_names.kp T.b_read_names .nil pass0 (pa_cons (pe_slice sl_list (pv 0) po_none (po_some (pv 1))) pa_nil)))
      (pss_one (ps_ret (pe_make T.mk_Let G_Let_init (hr.mono (by omega)) rfl T.m_Let T.b_Let_init .nil pass0 (pa_cons (pe_ix ix_list (pv 2) pe_int (fun _ _ => rfl)) (pa_cons (pe_slice sl_list (pv 2) (po_some pe_int) po_none) (pa_cons (pe_call G_read_term (hr.mono (by omega)) rfl T.m_read_term T.F_read_term.kp T.b_read_term .nil pass0 (pa_cons (pe_slice sl_list (pv 0) (po_some (pe_op op_add (pv 1) pe_int)) po_none) pa_nil)) pa_nil))))))))), ?_⟩
    refine ⟨_, rfl, l, _, rfl, .inl (SqL.of hl), rfl, flat_strs _, false, congrArg V.bl ev, iteF ?_⟩
    refine ⟨_, rfl, .inl ⟨rfl, _, SqL.of hl⟩, l, ltW e, "=", rfl, rfl, hl, by rw [eW]; simp, ?_⟩
    rw [hi]
    refine ⟨_, rfl, _, rfl, _, rfl, l, _, rfl, SqL.of hl, fun c hc => ?_⟩
    rw [cut_take (ys := ltW e) (i := (e.1 :: e.2.1).length) (by rw [eW]; simp), eW, List.take_left]
    have s1 := same_new (o := .lst ((e.1 :: e.2.1).map V.str)) hc
    refine ⟨c, e.1 :: e.2.1, rfl, upd_same, by simp, by simp; omega, fun x hx => (List.mem_cons.mp hx).elim (fun z => by rw [z]; exact ok.nm) (ok.ax x), fun D H1 hD s2 h1 => ?_⟩
    have s12 := s1.trans s2
    have hl1 := s12 _ _ hl
    refine ⟨_, rfl, D, _, _, _, rfl, rfl, SqL.of h1, atI_nat (j := 0) rfl, _, rfl, _, rfl, D, _, rfl, SqL.of h1, fun c2 hc2 => ?_⟩
    rw [show cutV ((e.1 :: e.2.1).map V.str) (some 1) none = e.2.1.map V.str from cut_drop (ys := e.1 :: e.2.1) (i := 1) (by simp)]
    have s3 := same_new (o := .lst (e.2.1.map V.str)) hc2
    have hc3 : upd H1 c2 (.lst (e.2.1.map V.str)) c2 = some (.lst (e.2.1.map V.str)) := upd_same
    generalize upd H1 c2 (.lst (e.2.1.map V.str)) = H3 at s3 hc3 ⊢
    refine ⟨_, rfl, _, rfl, _, _, rfl, rfl, _, rfl, l, _, rfl, SqL.of (s3 _ _ hl1), fun c4 hc4 => ?_⟩
    have ed : cutV ((ltW e).map V.str) (some (((e.1 :: e.2.1).length : Nat) + 1 : Int)) none = (words e.2.2).map V.str := by
      have := cut_drop (ys := ltW e) (i := (e.1 :: e.2.1).length + 1) (by rw [eW]; simp)
      rw [show ((((e.1 :: e.2.1).length + 1 : Nat)) : Int) = ((e.1 :: e.2.1).length : Nat) + 1 by omega] at this
      rw [this, eW, show (e.1 :: e.2.1) ++ ("=" : Str) :: words e.2.2 = ((e.1 :: e.2.1) ++ [("=" : Str)]) ++ words e.2.2 by simp, show (e.1 :: e.2.1).length + 1 = ((e.1 :: e.2.1) ++ [("=" : Str)]).length by simp, List.drop_left]
    rw [show cutV ((ltW e).map V.str) (some (((e.1 :: e.2.1).length : Nat) + 1 : Int)) none = (words e.2.2).map V.str from ed]
    have s4 := same_new (o := .lst ((words e.2.2).map V.str)) hc4
    refine ⟨c4, e.2.2, rfl, upd_same, ok.tm, ok.dp, fun v H5 s5 ob => ?_⟩
    have s35 := s4.trans s5
    have hc5 := s35 _ _ hc3
    intro y dy hy hdy hne
    have u : Same H5 (upd (upd H5 dy (.own y)) y (.ins t.C_Let dy [])) := same_fresh (same_new hdy) hy
    refine ⟨y, dy, c2, v, e.1, e.2.1, rfl, upd_same, u _ _ hc5, by omega, fun c6 H6 hc6 hy6 hcc kb => ⟨rfl, ?_⟩⟩
    have s6 : Same H5 H6 := fun b o e => kb b o (ne_of_none e hy) (u _ _ e)
    have f5 : ∀ b, H5 b = none → H b = none := fun b z => s12.free (s3.free (s35.free z))
    exact k _ _ (s12.trans (s3.trans (s35.trans s6))) ⟨y, dy, c6, v, (), rfl, restr_mk (f5 _ hy) hy6, trivial, restr_mk (f5 _ (u.free hc6)) hcc, ob.imp fun b o e => restr_mk (s12.free (s3.free (s4.free (restr_some e).1))) (s6 _ _ (restr_some e).2)⟩
end
end My

set_option Elab.async false
set_option linter.all false
set_option maxRecDepth 100000
set_option maxHeartbeats 4000000
namespace My
open PySem L2 M84
local macro_rules | `(tactic| walk_at "lk") => `(tactic| first | with_reducible exact lk0 | (refine lk1 (by decide +kernel) ?_; walk_at "lk") | rfl)
def S4 : List Str := ["axis", "table", "let", "out"]
def RwAt (H : Hp) (v : V) (ws : List Str) : Prop := ∃ a, v = .ref a ∧ H a = some (.lst (ws.map V.str))
def selS (s : Str) (kw : List (Str × List Str)) : List (List Str) := (kw.filter fun e => decide (e.1 = s)).map (·.2)
def ksS (ad : Str → Addr) : List (Key × V) := S4.map fun s => (Sum.inr s, V.ref (ad s))
theorem putK_new {kvs : List (Key × V)} {k : Key} {v : V} (h : ∀ e ∈ kvs, e.1 ≠ k) : putK kvs k v = kvs ++ [(k, v)] := by
  unfold putK
  rw [if_neg]
  intro z
  obtain ⟨e, he, ez⟩ := List.any_eq_true.mp z
  exact h e he (of_decide_eq_true ez)
theorem zip_snoc {α β : Type} {s : α} {z : β} : ∀ {l : List α} {m : List β}, l[m.length]? = some s → l.zip (m ++ [z]) = l.zip m ++ [(s, z)]
  | [], m, h => by simp at h
  | a :: l, [], h => by simp at h; simp [h]
  | a :: l, b :: m, h => by
    have h' : l[m.length]? = some s := by simpa using h
    rw [List.cons_append, List.zip_cons_cons, List.zip_cons_cons, zip_snoc h', List.cons_append]
theorem zip_fst {s : Str} {z : Addr} : ∀ {l : List Str} {m : List Addr}, (s, z) ∈ l.zip m → ∃ j, j < m.length ∧ l[j]? = some s
  | [], m, h => by simp at h
  | a :: l, [], h => by simp at h
  | a :: l, b :: m, h => by
    rw [List.zip_cons_cons] at h
    rcases List.mem_cons.mp h with h | h
    · injection h with h1 h2
      exact ⟨0, by simp, by simp [h1]⟩
    · obtain ⟨j, h1, h2⟩ := zip_fst h
      exact ⟨j + 1, by simp; omega, by simpa using h2⟩
theorem S4_nodup : S4.Nodup := by decide +kernel
theorem S4_at {i j : Nat} {s : Str} (h : S4[i]? = some s) (h' : S4[j]? = some s) : i = j := by
  have hi := (List.getElem?_eq_some_iff.mp h).1
  have hj := (List.getElem?_eq_some_iff.mp h').1
  exact (List.getElem?_inj hi S4_nodup).mp (h.trans h'.symm)
theorem ad_of {as : List Addr} (h : as.length = 4) (nd : as.Nodup) : ∃ ad : Str → Addr, ((S4.zip as).map fun e => ((Sum.inr e.1 : Key), V.ref e.2)) = ksS ad ∧ (∀ s ∈ S4, ad s ∈ as) ∧ ∀ s ∈ S4, ∀ s' ∈ S4, ad s = ad s' → s = s' := by
  match as, h with
  | [a1, a2, a3, a4], _ =>
    have n1 : ("table" : Str) ≠ "axis" := by decide
    have n2 : ("let" : Str) ≠ "axis" := by decide
    have n3 : ("let" : Str) ≠ "table" := by decide
    have n4 : ("out" : Str) ≠ "axis" := by decide
    have n5 : ("out" : Str) ≠ "table" := by decide
    have n6 : ("out" : Str) ≠ "let" := by decide
    refine ⟨fun s => if s = "axis" then a1 else if s = "table" then a2 else if s = "let" then a3 else a4, ?_, ?_, ?_⟩
    · simp [S4, ksS, n1, n2, n3, n4, n5, n6]
    · intro s hs
      simp only [S4, List.mem_cons, List.not_mem_nil, or_false] at hs
      rcases hs with rfl | rfl | rfl | rfl <;> simp [n1, n2, n3, n4, n5, n6]
    · simp only [List.nodup_cons, List.mem_cons, List.not_mem_nil, or_false, not_or] at nd
      obtain ⟨⟨p1, p2, p3⟩, ⟨p4, p5⟩, p6, _⟩ := nd
      intro s hs s' hs'
      simp only [S4, List.mem_cons, List.not_mem_nil, or_false] at hs hs'
      rcases hs with rfl | rfl | rfl | rfl <;> rcases hs' with rfl | rfl | rfl | rfl <;> simp [n1, n2, n3, n4, n5, n6, p1, p2, p3, p4, p5, p6, Ne.symm p1, Ne.symm p2, Ne.symm p3, Ne.symm p4, Ne.symm p5, Ne.symm p6]
theorem ks_val {ad : Str → Addr} {s : Str} (h : s ∈ S4) : some (V.ref (ad s)) = valV (ksS ad) (Sum.inr s) := by
  have n1 : ("table" : Str) ≠ "axis" := by decide
  have n2 : ("let" : Str) ≠ "axis" := by decide
  have n3 : ("let" : Str) ≠ "table" := by decide
  have n4 : ("out" : Str) ≠ "axis" := by decide
  have n5 : ("out" : Str) ≠ "table" := by decide
  have n6 : ("out" : Str) ≠ "let" := by decide
  simp only [S4, List.mem_cons, List.not_mem_nil, or_false] at h
  rcases h with rfl | rfl | rfl | rfl <;> simp [valV, ksS, S4, Ne.symm n1, Ne.symm n2, Ne.symm n3, Ne.symm n4, Ne.symm n5, Ne.symm n6]
theorem idx_at {s : Str} (h : s ∈ S4) : S4[S4.idxOf s]? = some s := by
  have hl := List.idxOf_lt_length_iff.mpr h
  rw [List.getElem?_eq_getElem hl, List.getElem_idxOf hl]
theorem mem_drop {s : Str} {L : Nat} (h : s ∈ S4) (hL : L ≤ S4.idxOf s) : s ∈ S4.drop L := by
  have : (S4.drop L)[S4.idxOf s - L]? = some s := by
    rw [List.getElem?_drop, show L + (S4.idxOf s - L) = S4.idxOf s by omega]
    exact idx_at h
  exact List.mem_of_getElem? this
theorem selS_take {s : Str} {kw : List (Str × List Str)} {i : Nat} {e : Str × List Str} (he : kw[i]? = some e) : selS s (kw.take (i + 1)) = selS s (kw.take i) ++ (if e.1 = s then [e.2] else []) := by
  unfold selS
  rw [List.take_add_one, he, Option.toList_some, List.filter_append, List.map_append]
  by_cases h : e.1 = s <;> simp [h]
def RwX (ad : Str → Addr) (G : Hp) (v : V) (ws : List Str) : Prop := ∃ a, v = .ref a ∧ (∀ s ∈ S4, a ≠ ad s) ∧ G a = some (.lst (ws.map V.str))
def sp_sorts : Sp := fun vs H Q _ => ∃ (R : Addr) (rs : List V) (kw : List (Str × List Str)), vs = [.ref R] ∧ H R = some (.lst rs) ∧ Paired (fun v e => RwAt H v (e.1 :: e.2)) rs kw ∧ kw.length ≤ 1000 ∧ (∀ e ∈ kw, e.1 ∈ S4) ∧
  (∀ (i j : Nat) (e e' : Str × List Str), i ≤ j → kw[i]? = some e → kw[j]? = some e' → S4.idxOf e.1 ≤ S4.idxOf e'.1) ∧ ∀ (d : Addr) (ad : Str → Addr) (H' : Hp), Same H H' → H' d = some (.dK (ksS ad)) → (∀ s ∈ S4, ∃ vs, H' (ad s) = some (.lst vs) ∧ Paired (RwAt H') vs (selS s kw)) → Q (.ref d) H'
section
variable {P : Program} {w : World} {K : PySem.W.Frag} {mg : Str → Option Value} {base : Heap} {t : Adr}
theorem ok_by_sorts (T : Txt K mg t) : FnOk P w K mg base CX0 1 t.f_by_sorts t.d_by_sorts ["rows"] sp_sorts := by
  refine T.F_by_sorts.ok sc_by_sorts (fun vs H Q E h => ?_) (fun cdv A outer s H vs Q E hr h => ?_)
  · obtain ⟨R, rs, kw, rfl, _⟩ := h
    rfl
  · obtain ⟨R, rs, kw, rfl, hR, pr, lk, ks, mo, k⟩ := h
    have hu := hu_of hr
    have lp := Paired.length pr
    have tS : ∀ G : Hp, SqT K G t.p_SORTS (S4.map V.str) := fun G => .inr T.tu_SORTS
    refine ⟨_, (pss_cons (ps_set (i := 1) sc_by_sorts.nd rfl (Or.inl rfl) pe_dnewK)
      (pss_cons (ps_for PassesOwn.never rfl (pi_tup (pe_globE T.cn_SORTS rfl)) (pg_name (i := 2) sc_by_sorts.nd rfl (Or.inl rfl) (Or.inl rfl))
        (pss_one (ps_dput hu (pv 1) (pv 2) (pe_lst pa_nil) rfl)))
      (pss_cons (ps_set (i := 3) sc_by_sorts.nd rfl (Or.inl rfl) pe_int)
      (pss_cons (ps_for PassesOwn.never rfl (pi_list (pv 0)) (pg_name (i := 4) sc_by_sorts.nd rfl (Or.inl rfl) (Or.inl rfl))
        (pss_cons (ps_if (pt_cmpR op_notIn_seq (pe_ix ix_list (pv 4) pe_int (fun _ _ => rfl)) (pe_slice sl_tupK (pe_globE T.cn_SORTS rfl) (po_some (pv 3)) po_none) (by with_unfolding_all rfl))
          (pss_one ps_never)
          pss_nil)
        (pss_cons (ps_set (i := 3) sc_by_sorts.nd rfl (Or.inl rfl) (pe_bm PySem.F.plainAttrs_tuple PySem.F.slot_tuple_index PySem.F.type_tuple_index mt_tindexS (pe_globE T.cn_SORTS rfl) (pa_cons (pe_ix ix_list (pv 4) pe_int (fun _ _ => rfl)) pa_nil)))
        (pss_one (ps_expr (pe_bm PySem.F.plainAttrs_list PySem.F.slot_list_append PySem.F.type_list_append mt_append (pe_dget hu (pv 1) (pe_ix ix_list (pv 4) pe_int (fun _ _ => rfl)) (fun _ _ => rfl)) (pa_cons (pe_slice sl_list (pv 4) (po_some pe_int) po_none) pa_nil)))))))
      (pss_one (ps_ret (pv 1))))))), ?_⟩
    intro d hd
    have hdG : upd H d (.dK []) d = some (.dK []) := upd_same
    have sd : Same H (upd H d (.dK [])) := same_new hd
    refine ⟨t.p_SORTS, rfl, ⟨_, tS _⟩, ?_⟩
    refine for_tup (K := K) (a := t.p_SORTS) (xs := S4.map V.str) (fun i σ G => ∃ (o2 : Option V) (as : List Addr), σ = [some (.ref R), some (.ref d), o2, none, none] ∧ Same H G ∧ G d = some (.dK ((S4.zip as).map fun e => (Sum.inr e.1, V.ref e.2))) ∧ as.length = i ∧ as.Nodup ∧ ∀ a ∈ as, G a = some (.lst []) ∧ H a = none) ⟨none, [], rfl, sd, hdG, rfl, .nil, fun _ z => nomatch z⟩ (fun i σ G _ _ => tS G) ?_ ?_
    · rintro i x σ G hx ⟨o2, as, rfl, sG, hdG, la, nd, al⟩
      rw [List.getElem?_map] at hx
      obtain ⟨s, hs, rfl⟩ := Option.map_eq_some_iff.mp hx
      have i4 : i < 4 := (List.getElem?_eq_some_iff.mp hs).1
      refine ⟨line_le (by simp), fun z hz => ?_⟩
      have zd : z ≠ d := (ne_of_none hdG hz).symm
      have zl : ((S4.zip as).map fun e => ((Sum.inr e.1 : Key), V.ref e.2)).length ≤ 4 := by rw [List.length_map, List.length_zip]; exact Nat.min_le_left _ _
      refine ⟨_, rfl, _, rfl, d, _, rfl, DPut.k (k := Sum.inr s) (by rw [upd_ne zd.symm]; exact hdG) (line_lt (by omega)), ?_⟩
      rw [putK_new (fun e he => by
        obtain ⟨⟨s', z'⟩, h1, rfl⟩ := List.mem_map.mp he
        intro c
        obtain ⟨j, hj, hj'⟩ := zip_fst h1
        have : s' = s := by injection c
        subst this
        have := S4_at hs hj'
        omega)]
      refine ⟨_, as ++ [z], rfl, same_fresh (sG.trans (same_new hz)) hd, ?_, by simp; omega, ?_, fun a ha => ?_⟩
      · rw [upd_same, zip_snoc (by rw [la]; exact hs), List.map_append]
        rfl
      · refine List.nodup_append.mpr ⟨nd, by simp, fun a ha b hb => ?_⟩
        rw [List.mem_singleton.mp hb]
        exact ne_of_none (al a ha).1 hz
      · rcases List.mem_append.mp ha with ha | ha
        · obtain ⟨h1, h2⟩ := al a ha
          exact ⟨by rw [upd_ne (ne_of h1 hdG (by intro z; cases z)), upd_ne (ne_of_none h1 hz)]; exact h1, h2⟩
        · rw [List.mem_singleton.mp ha]
          exact ⟨by rw [upd_ne zd]; exact upd_same, sG.free hz⟩
    rintro σ G ⟨o2, as, rfl, sG, hdG, la, nd, al⟩
    obtain ⟨ad, e1, e2, e3⟩ := ad_of (show as.length = 4 from la) nd
    rw [e1] at hdG
    have fA : ∀ s ∈ S4, H (ad s) = none := fun s hs => (al _ (e2 s hs)).2
    have lA : ∀ s ∈ S4, G (ad s) = some (.lst []) := fun s hs => (al _ (e2 s hs)).1
    clear e1 e2 al nd la
    refine ⟨_, rfl, R, rfl, ⟨_, SqL.of (sG _ _ hR)⟩, ?_⟩
    refine for_list (K := K) (a := R) (xs := rs) (fun i σ G => ∃ (o2 o4 : Option V) (L : Nat), σ = [some (.ref R), some (.ref d), o2, some (.int (L : Nat)), o4] ∧ Same H G ∧ G d = some (.dK (ksS ad)) ∧ L ≤ 4 ∧ (∀ j e, i ≤ j → kw[j]? = some e → L ≤ S4.idxOf e.1) ∧ ∀ s ∈ S4, ∃ vs, G (ad s) = some (.lst vs) ∧ Paired (RwX ad G) vs (selS s (kw.take i))) ⟨o2, none, 0, rfl, sG, hdG, by decide, fun _ _ _ _ => Nat.zero_le _, fun s hs => ⟨[], lA s hs, .nil⟩⟩ (fun i σ G _ h => by obtain ⟨_, _, _, _, s', _⟩ := h; exact SqL.of (s' _ _ hR)) ?_ ?_
    · rintro i x σ G hx ⟨o2, o4, L, rfl, sG, hdG, L4, hL, al⟩
      obtain ⟨e, he, a, rfl, ha⟩ := pget2 pr hx
      have es := ks e (List.mem_of_getElem? he)
      have ev : (!(inV (V.str e.1) ((S4.drop L).map V.str))) = false := by rw [inV_str, decide_eq_true (mem_drop es (hL i e (Nat.le_refl _) he))]; rfl
      refine ⟨_, rfl, a, _, _, _, rfl, rfl, SqL.of (sG _ _ ha), atI_nat (j := 0) rfl, _, rfl, _, rfl, t.p_SORTS, _, rfl, tS _, fun p G2 s2 sq => ?_⟩
      rw [cut_drop L4] at sq
      refine ⟨p, _, rfl, .inr sq, rfl, flat_strs _, false, congrArg V.bl ev, iteF ?_⟩
      have hs2 := sG.trans s2
      have ha2 := hs2 _ _ ha
      refine ⟨.inr (.inl ⟨rfl, T.td_SORTS⟩), _, rfl, a, _, _, _, rfl, rfl, SqL.of ha2, atI_nat (j := 0) rfl, t.p_SORTS, S4, e.1, rfl, rfl, tS _, es, ?_⟩
      obtain ⟨vs, hv, pv⟩ := al e.1 es
      have hd2 := s2 _ _ hdG
      have hv2 := s2 _ _ hv
      have gd : DGet G2 d (.str e.1) (some (.ref (ad e.1))) := .inl ⟨_, Sum.inr e.1, .inl hd2, rfl, ks_val es⟩
      refine ⟨_, rfl, _, rfl, a, _, _, _, rfl, rfl, SqL.of ha2, atI_nat (j := 0) rfl, d, _, rfl, gd, .inl ⟨rfl, _, SqL.of hv2⟩, _, rfl, _, rfl, a, _, rfl, SqL.of ha2, fun c hc => ?_⟩
      rw [show cutV ((e.1 :: e.2).map V.str) (some 1) none = e.2.map V.str from cut_drop (ys := e.1 :: e.2) (i := 1) (by simp)]
      have cv : c ≠ ad e.1 := (ne_of_none hv2 hc).symm
      have lv := Paired.length pv
      have ls : (selS e.1 (kw.take i)).length ≤ 1000 := by
        unfold selS
        rw [List.length_map]
        refine Nat.le_trans (List.length_filter_le _ _) ?_
        rw [List.length_take]; omega
      refine ⟨ad e.1, _, _, rfl, rfl, by rw [upd_ne cv.symm]; exact hv2, line_lt (by omega), ?_⟩
      have cA : ∀ s ∈ S4, c ≠ ad s := fun s hs => by
        obtain ⟨vs', h1, _⟩ := al s hs
        exact (ne_of_none (s2 _ _ h1) hc).symm
      have dv : d ≠ ad e.1 := ne_of hd2 hv2 (by intro z; cases z)
      refine ⟨_, _, _, rfl, same_fresh (hs2.trans (same_new hc)) (fA _ es), by rw [upd_ne dv, upd_ne (ne_of_none hd2 hc)]; exact hd2, ?_, fun j e' hj he' => mo i j e e' (by omega) he he', fun s hs => ?_⟩
      · have := List.idxOf_lt_length_iff.mpr es
        have : S4.length = 4 := rfl
        omega
      · obtain ⟨vs', h1, p1⟩ := al s hs
        have up : ∀ v ws, RwX ad G v ws → RwX ad (upd (upd G2 c (.lst (e.2.map V.str))) (ad e.1) (.lst (vs ++ [.ref c]))) v ws := fun v ws z => by
          obtain ⟨b, z1, z2, z3⟩ := z
          exact ⟨b, z1, z2, by rw [upd_ne (z2 _ es), upd_ne (ne_of_none (s2 _ _ z3) hc)]; exact s2 _ _ z3⟩
        by_cases se : s = e.1
        · subst se
          rw [hv] at h1
          cases h1
          refine ⟨vs ++ [.ref c], upd_same, ?_⟩
          rw [selS_take he, if_pos rfl]
          exact Paired.snoc ⟨c, rfl, cA, by rw [upd_ne cv]; exact upd_same⟩ (Paired.mapP pv up)
        · have ns : ad s ≠ ad e.1 := fun z => se (e3 s hs _ es z)
          refine ⟨vs', by rw [upd_ne ns, upd_ne (ne_of_none (s2 _ _ h1) hc)]; exact s2 _ _ h1, ?_⟩
          rw [selS_take he, if_neg (fun z => se z.symm), List.append_nil]
          exact Paired.mapP p1 up
    · rintro σ G ⟨o2, o4, L, rfl, sG, hdG, _, _, al⟩
      refine ⟨_, rfl, k d ad G sG hdG fun s hs => ?_⟩
      obtain ⟨vs, h1, p1⟩ := al s hs
      rw [lp, List.take_length] at p1
      exact ⟨vs, h1, Paired.mapP p1 fun _ _ z => by obtain ⟨b, z1, _, z3⟩ := z; exact ⟨b, z1, z3⟩⟩
end
end My

set_option Elab.async false
set_option linter.all false
set_option maxRecDepth 100000
set_option maxHeartbeats 4000000
namespace My
open PySem L2 M84
local macro_rules | `(tactic| walk_at "lk") => `(tactic| first | with_reducible exact lk0 | (refine lk1 (by decide +kernel) ?_; walk_at "lk") | rfl)
theorem cutV_drop {xs : List V} {p : Nat} (h : p ≤ xs.length) : cutV xs (some (p : Int)) none = xs.drop p := by
  unfold cutV
  rw [HT.sIx_none, HT.sIx_nat, Nat.min_eq_left h]
  exact List.take_of_length_le (by rw [List.length_drop]; omega)
structure Prg where
  wh : Nat
  ax : List (Str × Nat)
  tb : List (Str × List Str)
  ls : List Lt
  os : List Str
structure PrgOk (p : Prg) : Prop where
  w2 : 2 ≤ p.wh
  w30 : p.wh < 10 ^ 30
  ax : ∀ e ∈ p.ax, Ltr e.1 ∧ 1 ≤ e.2 ∧ e.2 ≤ 60
  tb : ∀ e ∈ p.tb, TbOk e
  ls : ∀ e ∈ p.ls, LtOk e ∧ (ltW e).length ≤ 1000
  os : ∀ x ∈ p.os, Ltr x
  l1 : p.ax.length ≤ 20
  l2 : p.tb.length ≤ 20
  l3 : p.ls.length ≤ 20
  l4 : p.os.length ≤ 20
def kwP (p : Prg) : List (Str × List Str) := p.ax.map (fun e => (("axis" : Str), axW e)) ++ (p.tb.map (fun e => (("table" : Str), tbW e)) ++ (p.ls.map (fun e => (("let" : Str), ltW e)) ++ p.os.map (fun x => (("out" : Str), [x]))))
def rowsP (p : Prg) : List (List Str) := [("wheel" : Str), (toString (p.wh : Int) : Str)] :: (kwP p).map fun e => e.1 :: e.2
def axP (p : Prg) : List (Str × Int) := p.ax.map fun e => (e.1, (e.2 : Int))
def sp_prog (A : Adr) : Sp := fun vs H Q _ => ∃ (x : Str) (p : Prg), vs = [.str x] ∧ x.length ≤ 12000000 ∧ Txt.split x "\n" = (rowsP p).map (Txt.join " ") ∧ (∀ ws ∈ rowsP p, Txt.split (Txt.join " " ws) " " = ws ∧ (Txt.join " " ws).length ≤ 12000000) ∧ PrgOk p ∧
  ∀ (q : Addr) (H' : Hp), Same H H' → PrAt A H' q p.wh (axP p) p.tb p.ls p.os → Q (.ref q) H'
theorem sel_map {α : Type} {f : α → List Str} {c s : Str} : ∀ {l : List α}, selS s (l.map fun e => (c, f e)) = if c = s then l.map f else []
  | [] => by simp [selS]
  | a :: l => by
    have ih := sel_map (f := f) (c := c) (s := s) (l := l)
    unfold selS at ih ⊢
    by_cases h : c = s
    · rw [if_pos h] at ih ⊢
      simp [h] at ih ⊢
      exact ih
    · rw [if_neg h] at ih ⊢
      simp [h] at ih ⊢
theorem sel_app {s : Str} {l m : List (Str × List Str)} : selS s (l ++ m) = selS s l ++ selS s m := by unfold selS; rw [List.filter_append, List.map_append]
theorem sel_ax (p : Prg) : selS "axis" (kwP p) = p.ax.map axW := by
  unfold kwP
  rw [sel_app, sel_app, sel_app, sel_map, sel_map, sel_map, sel_map, if_pos rfl, if_neg (by decide), if_neg (by decide), if_neg (by decide)]
  simp
theorem sel_tb (p : Prg) : selS "table" (kwP p) = p.tb.map tbW := by
  unfold kwP
  rw [sel_app, sel_app, sel_app, sel_map, sel_map, sel_map, sel_map, if_neg (by decide), if_pos rfl, if_neg (by decide), if_neg (by decide)]
  simp
theorem sel_lt (p : Prg) : selS "let" (kwP p) = p.ls.map ltW := by
  unfold kwP
  rw [sel_app, sel_app, sel_app, sel_map, sel_map, sel_map, sel_map, if_neg (by decide), if_neg (by decide), if_pos rfl, if_neg (by decide)]
  simp
theorem sel_ou (p : Prg) : selS "out" (kwP p) = p.os.map fun x => [x] := by
  unfold kwP
  rw [sel_app, sel_app, sel_app, sel_map, sel_map, sel_map, sel_map, if_neg (by decide), if_neg (by decide), if_neg (by decide), if_pos rfl]
  simp
theorem kw_in (p : Prg) : ∀ e ∈ kwP p, e.1 ∈ S4 := by
  intro e he
  unfold kwP at he
  simp only [List.mem_append, List.mem_map] at he
  rcases he with ⟨_, _, rfl⟩ | ⟨_, _, rfl⟩ | ⟨_, _, rfl⟩ | ⟨_, _, rfl⟩ <;> simp [S4]
theorem kw_pw (p : Prg) : (kwP p).Pairwise fun a b => S4.idxOf a.1 ≤ S4.idxOf b.1 := by
  have i0 : S4.idxOf ("axis" : Str) = 0 := by decide +kernel
  have i1 : S4.idxOf ("table" : Str) = 1 := by decide +kernel
  have i2 : S4.idxOf ("let" : Str) = 2 := by decide +kernel
  have i3 : S4.idxOf ("out" : Str) = 3 := by decide +kernel
  have one : ∀ {α : Type} (f : α → List Str) (c : Str) (l : List α), (l.map fun e => (c, f e)).Pairwise fun a b => S4.idxOf a.1 ≤ S4.idxOf b.1 := fun f c l => by
    rw [List.pairwise_map]
    exact List.pairwise_of_forall fun _ _ => Nat.le_refl _
  unfold kwP
  rw [List.pairwise_append, List.pairwise_append, List.pairwise_append]
  refine ⟨one _ _ _, ⟨one _ _ _, ⟨one _ _ _, one _ _ _, ?_⟩, ?_⟩, ?_⟩
  · intro a ha b hb
    obtain ⟨_, _, rfl⟩ := List.mem_map.mp ha
    obtain ⟨_, _, rfl⟩ := List.mem_map.mp hb
    show S4.idxOf ("let" : Str) ≤ S4.idxOf ("out" : Str)
    omega
  · intro a ha b hb
    obtain ⟨_, _, rfl⟩ := List.mem_map.mp ha
    show S4.idxOf ("table" : Str) ≤ _
    rcases List.mem_append.mp hb with hb | hb <;> obtain ⟨_, _, rfl⟩ := List.mem_map.mp hb
    · show _ ≤ S4.idxOf ("let" : Str); omega
    · show _ ≤ S4.idxOf ("out" : Str); omega
  · intro a ha b hb
    obtain ⟨_, _, rfl⟩ := List.mem_map.mp ha
    show S4.idxOf ("axis" : Str) ≤ _
    rw [i0]
    exact Nat.zero_le _
theorem kw_mono (p : Prg) (i j : Nat) (e e' : Str × List Str) (hij : i ≤ j) (h : (kwP p)[i]? = some e) (h' : (kwP p)[j]? = some e') : S4.idxOf e.1 ≤ S4.idxOf e'.1 := by
  rcases Nat.lt_or_eq_of_le hij with z | z
  · obtain ⟨hi, e1⟩ := List.getElem?_eq_some_iff.mp h
    obtain ⟨hj, e2⟩ := List.getElem?_eq_some_iff.mp h'
    have := (List.pairwise_iff_getElem.mp (kw_pw p)) i j hi hj z
    rw [e1, e2] at this
    exact this
  · subst z
    rw [h] at h'
    cases h'
    exact Nat.le_refl _
theorem kw_len {p : Prg} (h : PrgOk p) : (kwP p).length ≤ 80 := by
  have := h.l1; have := h.l2; have := h.l3; have := h.l4
  unfold kwP
  simp only [List.length_append, List.length_map]
  omega
theorem pmap {α β γ : Type} {F : α → β → Prop} {f : γ → β} : ∀ {l : List α} {m : List γ}, Paired F l (m.map f) → Paired (fun a c => F a (f c)) l m
  | [], [], _ => .nil
  | [], c :: m, h => by cases h
  | a :: l, [], h => by cases h
  | a :: l, c :: m, h => by
    rw [List.map_cons] at h
    cases h with
    | cons r t => exact .cons r (pmap t)
theorem reps_pr {α : Type} {G : Hp} {F : V → α → Prop} {d : α → PyData} (f : ∀ v e, F v e → Rep G v (d e)) : ∀ {ys : List V} {es : List α}, Paired F ys es → Reps G ys (es.map d)
  | _, _, .nil => .nil
  | _, _, .cons a b => .cons (f _ _ a) (reps_pr f b)
end My

set_option Elab.async false
set_option linter.all false
set_option maxRecDepth 100000
set_option maxHeartbeats 4000000
namespace My
open PySem L2 M84
local macro_rules | `(tactic| walk_at "lk") => `(tactic| first | with_reducible exact lk0 | (refine lk1 (by decide +kernel) ?_; walk_at "lk") | rfl)
theorem lt5 {n : Nat} (h : n ≤ 12000000) : n + 2 ≤ sizeLine := by rw [sizeLine_eq]; omega
section
variable {P : Program} {w : World} {K : PySem.W.Frag} {mg : Str → Option Value} {base : Heap} {t : Adr}
theorem ok_read_program (T : Txt K mg t) : FnOk P w K mg base CX0 20 t.f_read_program t.d_read_program ["text"] (sp_prog t) := by
  have G_Program_init := ok_Program_init (P := P) (w := w) (base := base) T
  have G_by_sorts := ok_by_sorts (P := P) (w := w) (base := base) T
  have G_read_axis := ok_read_axis (P := P) (w := w) (base := base) T
  have G_read_let := ok_read_let (P := P) (w := w) (base := base) T
  have G_read_out := ok_read_out (P := P) (w := w) (base := base) T
  have G_read_table := ok_read_table (P := P) (w := w) (base := base) T
  have G_read_wheel := ok_read_wheel (P := P) (w := w) (base := base) T
  have G_Program_init := ok_Program_init (P := P) (w := w) (base := base) T
  refine T.F_read_program.ok sc_read_program (fun vs H Q E h => ?_) (fun cdv A outer s H vs Q E hr h => ?_)
  · obtain ⟨x, p, rfl, _⟩ := h
    rfl
  · obtain ⟨x, p, rfl, lx, sx, sw, ok, k⟩ := h
    have hu := hu_of hr
    have lk := kw_len ok
    have lr : (rowsP p).length ≤ 81 := by unfold rowsP; simp; omega
    refine ⟨_, (pss_cons (ps_setC (i₀ := 1) (N' := ["row"]) (ix := (List.replicate 1 none)) sc_read_program.nd rfl (Or.inl rfl) rfl (clok_none rfl (by decide +kernel) (by decide +kernel)) (ixok_none rfl) (pi_list (pe_bm PySem.F.plainAttrs_str PySem.F.slot_str_split PySem.F.type_str_split mt_split (pv 0) (pa_cons pe_str pa_nil))) (fun _ _ _ _ => (pg_name (i := 0) nd_comp_3 rfl (Or.inl rfl) (Or.inr rfl))) (fun _ _ _ _ => (pe_bmK (K := K) rfl PySem.F.plainAttrs_str PySem.F.slot_str_split PySem.F.type_str_split mt_split (pv 0) (pa_cons pe_str pa_nil))))
      (pss_cons (ps_set (i := 2) sc_read_program.nd rfl (Or.inl rfl) (pe_call G_read_wheel (hr.mono (by omega)) rfl T.m_read_wheel T.F_read_wheel.kp T.b_read_wheel .nil pass0 (pa_cons (pe_ix ix_list (pv 1) pe_int (fun _ _ => rfl)) pa_nil)))
      (pss_cons (ps_set (i := 3) sc_read_program.nd rfl (Or.inl rfl) (pe_call G_by_sorts (hr.mono (by omega)) rfl T.m_by_sorts T.F_by_sorts.kp T.b_by_sorts .nil pass0 (pa_cons (pe_slice sl_list (pv 1) (po_some pe_int) po_none) pa_nil)))
      (pss_cons (ps_setC (i₀ := 4) (N' := ["words"]) (ix := (List.replicate 1 none)) sc_read_program.nd rfl (Or.inl rfl) rfl (clok_none rfl (by decide +kernel) (by decide +kernel)) (ixok_none rfl) (pi_list (pe_dget hu (pv 3) pe_str (fun _ _ => rfl))) (fun _ _ _ _ => (pg_name (i := 0) nd_comp_4 rfl (Or.inl rfl) (Or.inr rfl))) (fun _ _ _ _ => (pe_call G_read_axis (hr.mono (by omega)) rfl T.m_read_axis T.F_read_axis.kp T.b_read_axis .nil pass0 (pa_cons (pv 0) pa_nil))))
      (pss_cons (ps_setC (i₀ := 5) (N' := ["words"]) (ix := (List.replicate 1 none)) sc_read_program.nd rfl (Or.inl rfl) rfl (clok_none rfl (by decide +kernel) (by decide +kernel)) (ixok_none rfl) (pi_list (pe_dget hu (pv 3) pe_str (fun _ _ => rfl))) (fun _ _ _ _ => (pg_name (i := 0) nd_comp_5 rfl (Or.inl rfl) (Or.inr rfl))) (fun _ _ _ _ => (pe_call G_read_table (hr.mono (by omega)) rfl T.m_read_table T.F_read_table.kp T.b_read_table .nil pass0 (pa_cons (pv 0) pa_nil))))
      (pss_cons (ps_setC (i₀ := 6) (N' := ["words"]) (ix := (List.replicate 1 none)) sc_read_program.nd rfl (Or.inl rfl) rfl (clok_none rfl (by decide +kernel) (by decide +kernel)) (ixok_none rfl) (pi_list (pe_dget hu (pv 3) pe_str (fun _ _ => rfl))) (fun _ _ _ _ => (pg_name (i := 0) nd_comp_6 rfl (Or.inl rfl) (Or.inr rfl))) (fun _ _ _ _ => (pe_call G_read_let (hr.mono (by omega)) rfl T.m_read_let T.F_read_let.kp T.b_read_let .nil pass0 (pa_cons (pv 0) pa_nil))))
      (pss_cons (ps_setC (i₀ := 7) (N' := ["words"]) (ix := (List.replicate 1 none)) sc_read_program.nd rfl (Or.inl rfl) rfl (clok_none rfl (by decide +kernel) (by decide +kernel)) (ixok_none rfl) (pi_list (pe_dget hu (pv 3) pe_str (fun _ _ => rfl))) (fun _ _ _ _ => (pg_name (i := 0) nd_comp_7 rfl (Or.inl rfl) (Or.inr rfl))) (fun _ _ _ _ => (pe_call G_read_out (hr.mono (by omega)) rfl T.m_read_out T.F_read_out.kp T.b_read_out .nil pass0 (pa_cons (pv 0) pa_nil))))
      (pss_one (ps_ret (pe_make T.mk_Program G_Program_init (hr.mono (by omega)) rfl T.m_Program T.b_Program_init .nil pass0 (pa_cons (pv 2) (pa_cons (pv 4) (pa_cons (pv 5) (pa_cons (pv 6) (pa_cons (pv 7) pa_nil))))))))))))))), ?_⟩
    refine ⟨_, rfl, rfl, x, "\n", rfl, rfl, rfl, lt5 lx, fun l hl => ?_⟩
    rw [sx]
    have s1 := same_new (o := .lst (((rowsP p).map (Txt.join " ")).map V.str)) hl
    have h1 : upd H l (.lst (((rowsP p).map (Txt.join " ")).map V.str)) l = some (.lst (((rowsP p).map (Txt.join " ")).map V.str)) := upd_same
    generalize upd H l (.lst (((rowsP p).map (Txt.join " ")).map V.str)) = H1 at s1 h1 ⊢
    refine ⟨l, rfl, ⟨_, SqL.of h1⟩, fun D hD => ?_⟩
    refine comp_listQ (K := K) (a := l) (D := D) (xs := ((rowsP p).map (Txt.join " ")).map V.str) (fun i ys G => Same H1 G ∧ G D = some (.lst ys) ∧ Paired (fun v ws => ∃ a, v = V.ref a ∧ a ≠ D ∧ G a = some (.lst (ws.map V.str))) ys ((rowsP p).take i)) ⟨same_new hD, upd_same, .nil⟩ (fun i ys G ⟨s2, _⟩ => SqL.of (s2 _ _ h1)) ?_ ?_
    · rintro i v ys G hv ⟨sG, hDG, pr⟩
      rw [List.getElem?_map, List.getElem?_map] at hv
      cases he : (rowsP p)[i]? with
      | none => rw [he] at hv; cases hv
      | some ws =>
        rw [he] at hv
        cases hv
        obtain ⟨sp, lw⟩ := sw ws (List.mem_of_getElem? he)
        have lp := Paired.length pr
        rw [List.length_take] at lp
        refine ⟨True.intro, _, rfl, rfl, _, " ", rfl, rfl, rfl, lt5 lw, fun c hc => ?_⟩
        rw [sp]
        have cD : c ≠ D := (ne_of_none hDG hc).symm
        refine ⟨by rw [upd_ne cD.symm]; exact hDG, line_lt (by omega), same_fresh (sG.trans (same_new hc)) hD, upd_same, ?_⟩
        rw [List.take_add_one, he, Option.toList_some]
        refine Paired.snoc ⟨c, rfl, cD, by rw [upd_ne cD]; exact upd_same⟩ (Paired.mapP pr fun _ _ z => ?_)
        obtain ⟨b, z1, z2, z3⟩ := z
        exact ⟨b, z1, z2, by rw [upd_ne z2, upd_ne (ne_of_none z3 hc)]; exact z3⟩
    rintro ys H2 ⟨s2, hD2, pr⟩
    rw [show (((rowsP p).map (Txt.join " ")).map V.str).length = (rowsP p).length by simp, List.take_length] at pr
    unfold rowsP at pr
    cases pr with
    | @cons y0 _ yr _ hy pr =>
    obtain ⟨a0, rfl, _, ha0⟩ := hy
    refine ⟨_, rfl, D, _, _, _, rfl, rfl, SqL.of hD2, atI_nat (j := 0) rfl, a0, p.wh, rfl, ha0, ok.w2, ok.w30, fun H3 s3 => ?_⟩
    refine ⟨_, rfl, _, rfl, D, _, rfl, SqL.of (s3 _ _ hD2), fun c hc => ?_⟩
    rw [show cutV (V.ref a0 :: yr) (some 1) none = yr from cutV_drop (xs := V.ref a0 :: yr) (p := 1) (by simp)]
    have s4 := same_new (o := .lst yr) hc
    have h4 : upd H3 c (.lst yr) c = some (.lst yr) := upd_same
    generalize upd H3 c (.lst yr) = H4 at s4 h4 ⊢
    have s24 := s3.trans s4
    refine ⟨c, yr, kwP p, rfl, h4, Paired.mapP (pmap pr) (fun _ _ z => by obtain ⟨b, z1, _, z3⟩ := z; exact ⟨b, z1, s24 _ _ z3⟩), by omega, kw_in p, kw_mono p, fun d ad H5 s5 hd5 al => ?_⟩
    have gd : ∀ s ∈ S4, ∀ G, Same H5 G → DGet G d (.str s) (some (.ref (ad s))) := fun s hs G sG => .inl ⟨_, Sum.inr s, .inl (sG _ _ hd5), rfl, ks_val hs⟩
    obtain ⟨va, hva, pa⟩ := al "axis" (by simp [S4])
    obtain ⟨vt, hvt, pt⟩ := al "table" (by simp [S4])
    obtain ⟨vl, hvl, pl⟩ := al "let" (by simp [S4])
    obtain ⟨vo, hvo, po⟩ := al "out" (by simp [S4])
    rw [sel_ax] at pa
    rw [sel_tb] at pt
    rw [sel_lt] at pl
    rw [sel_ou] at po
    have pa := pmap pa
    have pt := pmap pt
    have pl := pmap pl
    have po := pmap po
    have q1 := ok.l1
    have q2 := ok.l2
    have q3 := ok.l3
    have q4 := ok.l4
    clear pr al h4 hD2 h1
    have s05 := s1.trans (s2.trans (s24.trans s5))
    clear s1 s2 s3 s4 s24 s5
    -- axes
    refine ⟨_, rfl, d, _, rfl, gd "axis" (by simp [S4]) _ (Same.refl _), ad "axis", rfl, ⟨_, SqL.of hva⟩, fun D1 hD1 => ?_⟩
    refine comp_listQ (K := K) (a := ad "axis") (D := D1) (xs := va) (fun i ys G => Same H5 G ∧ G D1 = some (.lst ys) ∧ Paired (fun v (e : Str × Nat) => ∃ q, v = V.ref q ∧ G q = some (.tup [.str e.1, .int (e.2 : Nat)])) ys (p.ax.take i)) ⟨same_new hD1, upd_same, .nil⟩ (fun i ys G ⟨s2, _⟩ => SqL.of (s2 _ _ hva)) ?_ ?_
    · rintro i v ys G hv ⟨sG, hDG, pr⟩
      obtain ⟨e, he, a, rfl, ha⟩ := pget2 pa hv
      obtain ⟨o1, o2, o3⟩ := ok.ax e (List.mem_of_getElem? he)
      have lp := Paired.length pr
      rw [List.length_take] at lp
      refine ⟨True.intro, _, rfl, a, e, rfl, sG _ _ ha, o1, o2, o3, fun q G2 s2 hq => ⟨s2 _ _ hDG, line_lt (by omega), same_fresh (sG.trans s2) hD1, upd_same, ?_⟩⟩
      rw [List.take_add_one, he, Option.toList_some]
      refine Paired.snoc ⟨q, rfl, by rw [upd_ne (ne_of hq (s2 _ _ hDG) (by intro z; cases z))]; exact hq⟩ (Paired.mapP pr fun _ _ z => ?_)
      obtain ⟨b, z1, z3⟩ := z
      exact ⟨b, z1, by rw [upd_ne (ne_of (s2 _ _ z3) (s2 _ _ hDG) (by intro z; cases z))]; exact s2 _ _ z3⟩
    rintro y1 H6 ⟨s6, hD6, p6⟩
    rw [Paired.length pa, List.take_length] at p6
    -- tables
    refine ⟨_, rfl, d, _, rfl, gd "table" (by simp [S4]) _ s6, ad "table", rfl, ⟨_, SqL.of (s6 _ _ hvt)⟩, fun D2 hD2 => ?_⟩
    refine comp_listQ (K := K) (a := ad "table") (D := D2) (xs := vt) (fun i ys G => Same H6 G ∧ G D2 = some (.lst ys) ∧ Paired (fun v (e : Str × List Str) => ∃ q c, v = V.ref q ∧ c ≠ D2 ∧ G q = some (.tup [.str e.1, .ref c]) ∧ G c = some (.lst (e.2.map V.str))) ys (p.tb.take i)) ⟨same_new hD2, upd_same, .nil⟩ (fun i ys G ⟨s2, _⟩ => SqL.of (s2 _ _ (s6 _ _ hvt))) ?_ ?_
    · rintro i v ys G hv ⟨sG, hDG, pr⟩
      obtain ⟨e, he, a, rfl, ha⟩ := pget2 pt hv
      have lp := Paired.length pr
      rw [List.length_take] at lp
      refine ⟨True.intro, _, rfl, a, e, rfl, sG _ _ (s6 _ _ ha), ok.tb e (List.mem_of_getElem? he), fun q c G2 s2 hq hc fc => ⟨s2 _ _ hDG, line_lt (by omega), same_fresh (sG.trans s2) hD2, upd_same, ?_⟩⟩
      have cD : c ≠ D2 := (ne_of_none hDG fc).symm
      rw [List.take_add_one, he, Option.toList_some]
      refine Paired.snoc ⟨q, c, rfl, cD, by rw [upd_ne (ne_of hq (s2 _ _ hDG) (by intro z; cases z))]; exact hq, by rw [upd_ne cD]; exact hc⟩ (Paired.mapP pr fun _ _ z => ?_)
      obtain ⟨b, c', z1, z2, z3, z4⟩ := z
      exact ⟨b, c', z1, z2, by rw [upd_ne (ne_of (s2 _ _ z3) (s2 _ _ hDG) (by intro z; cases z))]; exact s2 _ _ z3, by rw [upd_ne z2]; exact s2 _ _ z4⟩
    rintro y2 H7 ⟨s7, hD7, p7⟩
    rw [Paired.length pt, List.take_length] at p7
    have s57 := s6.trans s7
    -- lets
    refine ⟨_, rfl, d, _, rfl, gd "let" (by simp [S4]) _ s57, ad "let", rfl, ⟨_, SqL.of (s57 _ _ hvl)⟩, fun D3 hD3 => ?_⟩
    refine comp_listQ (K := K) (a := ad "let") (D := D3) (xs := vl) (fun i ys G => Same H7 G ∧ G D3 = some (.lst ys) ∧ Paired (LetAt t (fun _ => True) (restr (fun b => b ≠ D3) G)) ys (p.ls.take i)) ⟨same_new hD3, upd_same, .nil⟩ (fun i ys G ⟨s2, _⟩ => SqL.of (s2 _ _ (s57 _ _ hvl))) ?_ ?_
    · rintro i v ys G hv ⟨sG, hDG, pr⟩
      obtain ⟨e, he, a, rfl, ha⟩ := pget2 pl hv
      obtain ⟨o1, o2⟩ := ok.ls e (List.mem_of_getElem? he)
      have lp := Paired.length pr
      rw [List.length_take] at lp
      refine ⟨True.intro, _, rfl, a, e, rfl, sG _ _ (s57 _ _ ha), o1, o2, fun v G2 s2 la => ⟨s2 _ _ hDG, line_lt (by omega), same_fresh (sG.trans s2) hD3, upd_same, ?_⟩⟩
      rw [List.take_add_one, he, Option.toList_some]
      refine Paired.snoc (la.same fun b o z => ?_) (Paired.mapP pr fun _ _ z => z.same fun b o z => ?_)
      · obtain ⟨z1, z2⟩ := restr_some z
        have nb : b ≠ D3 := (ne_of_none hDG z1).symm
        exact restr_mk nb (by rw [upd_ne nb]; exact z2)
      · obtain ⟨z1, z2⟩ := restr_some z
        exact restr_mk z1 (by rw [upd_ne z1]; exact s2 _ _ z2)
    rintro y3 H8 ⟨s8, hD8, p8⟩
    rw [Paired.length pl, List.take_length] at p8
    have s58 := s57.trans s8
    -- outs
    refine ⟨_, rfl, d, _, rfl, gd "out" (by simp [S4]) _ s58, ad "out", rfl, ⟨_, SqL.of (s58 _ _ hvo)⟩, fun D4 hD4 => ?_⟩
    refine comp_listQ (K := K) (a := ad "out") (D := D4) (xs := vo) (fun i ys G => Same H8 G ∧ G D4 = some (.lst ys) ∧ ys = (p.os.take i).map V.str) ⟨same_new hD4, upd_same, rfl⟩ (fun i ys G ⟨s2, _⟩ => SqL.of (s2 _ _ (s58 _ _ hvo))) ?_ ?_
    · rintro i v ys G hv ⟨sG, hDG, rfl⟩
      obtain ⟨e, he, a, rfl, ha⟩ := pget2 po hv
      refine ⟨True.intro, _, rfl, a, e, rfl, sG _ _ (s58 _ _ ha), ok.os e (List.mem_of_getElem? he), fun G2 s2 => ⟨s2 _ _ hDG, line_lt (by rw [List.length_map, List.length_take]; omega), same_fresh (sG.trans s2) hD4, upd_same, ?_⟩⟩
      rw [List.take_add_one, he, Option.toList_some, List.map_append]
      rfl
    rintro y4 H9 ⟨s9, hD9, rfl⟩
    rw [Paired.length po, List.take_length] at hD9
    have s89 := s8.trans s9
    have s79 := s7.trans s89
    refine ⟨_, rfl, _, rfl, _, rfl, _, rfl, _, rfl, fun y dy hy hdy hne => ?_⟩
    have u : Same H9 (upd (upd H9 dy (.own y)) y (.ins t.C_Program dy [])) := same_fresh (same_new hdy) hy
    have r1 : Rep H9 (.ref D1) (encIx (axP p)) := by
      refine .lst (s79 _ _ hD6) ?_
      have := reps_pr (G := H9) (d := fun e : Str × Nat => encI (e.1, (e.2 : Int))) (fun v e z => by obtain ⟨q, rfl, hq⟩ := z; exact .tup (s79 _ _ hq) (.cons (.str _) (.cons (.int _) .nil))) p6
      unfold axP
      rw [List.map_map]
      exact this
    have r2 : Rep H9 (.ref D2) (encTb p.tb) := .lst (s89 _ _ hD7) (reps_pr (fun v e z => by obtain ⟨q, c, rfl, _, hq, hc⟩ := z; exact T_rep (s89 _ _ hq) (s89 _ _ hc)) p7)
    have l3 := Paired.length p8
    have p9 : LetsAt t (fun _ => True) H9 y3 p.ls := Paired.mapP p8 fun _ _ z => z.same fun b o e => s9 _ _ (restr_some e).2
    refine ⟨y, dy, D1, D2, D3, D4, p.wh, axP p, p.tb, y3, p.os, rfl, upd_same, r1.same u, by unfold axP; rw [List.length_map]; omega, r2.same u, by omega, fun e he => Nat.le_trans (ok.tb e he).ln (by decide), u _ _ (s9 _ _ hD8), by omega, fun v hv => ?_, (S_rep hD9).same u, by omega, fun a' t' l' o' H' e1 x1 x2 n1 e2 x3 kb => ⟨rfl, ?_⟩⟩
    · obtain ⟨i, hi⟩ := List.getElem?_of_mem hv
      obtain ⟨e, _, a, dx, cc, n, dn, rfl, ha, _⟩ := pget2 p9 hi
      exact ⟨a, dx, _, rfl, ne_of_none ha hy, u _ _ ha⟩
    · have sF : Same H9 H' := fun b o e => kb b o (ne_of_none e hy) (u _ _ e)
      refine k y H' (s05.trans (s57.trans (s89.trans sF))) ⟨dy, a', t', l', o', e1, x1.imp fun _ _ z => (restr_some z).2, x2.imp fun _ _ z => (restr_some z).2, ⟨y3, e2, Paired.mapP p9 fun _ _ z => z.same sF⟩, x3.imp fun _ _ z => (restr_some z).2⟩
end
end My

set_option Elab.async false
set_option linter.all false
set_option maxRecDepth 100000
set_option maxHeartbeats 4000000
namespace My
open PySem L2 M84
local macro_rules | `(tactic| walk_at "lk") => `(tactic| first | with_reducible exact lk0 | (refine lk1 (by decide +kernel) ?_; walk_at "lk") | rfl)
theorem pow60 : (0 : Int) < 10 ^ (60 : Int).toNat := by decide +kernel
theorem e_if : sg ("if" : Str) = [105, 102] := by decide +kernel
theorem e_sum : sg ("sum" : Str) = [115, 117, 109] := by decide +kernel
theorem ltr_if : Ltr "if" := ⟨by rw [e_if]; simp, by rw [e_if]; decide, by decide +kernel⟩
theorem ltr_sum : Ltr "sum" := ⟨by rw [e_sum]; simp, by rw [e_sum]; decide, by decide +kernel⟩
theorem abc_let : ∀ c ∈ abc.cps.toList, 97 ≤ c ∧ c ≤ 122 := by decide +kernel
def sp_cell (K : PySem.W.Frag) : Sp := fun vs H Q _ => ∃ (a : Addr) (ns : List Int) (k : Int), vs = [.ref a, .int k] ∧ SqL K H a (ns.map V.int) ∧ 0 ≤ k ∧ ∀ z : Int, Q (.int z) H
def sp_mixed : Sp := fun vs H Q _ => ∃ c k : Int, vs = [.int c, .int k] ∧ ∀ z : Int, Q (.int z) H
def sp_nb : Sp := fun vs H Q _ => ∃ r : Int, vs = [.int r] ∧ ∀ x : Str, Ltr x → x ≠ "sum" → x ≠ "if" → Q (.str x) H
def sp_any : Sp := fun vs H Q _ => ∃ r : Int, vs = [.int r] ∧ ∀ (x : Str) (H' : Hp), Same H H' → Ltr x → Q (.str x) H'
def sp_nu : Sp := fun vs H Q _ => ∃ r : Int, vs = [.int r] ∧ ∀ z : Int, B30 z → Q (.int z) H
def sp_long : Sp := fun vs H Q _ => ∃ r : Int, vs = [.int r] ∧ ∀ n : Nat, n ≤ 12 → Q (.int n) H
section
variable {P : Program} {w : World} {K : PySem.W.Frag} {mg : Str → Option Value} {base : Heap} {t : Adr}
theorem ok_l_cell_at (T : Txt K mg t) : FnOk P w K mg base CX0 1 t.f_l_cell_at t.d_l_cell_at ["_law_script", "_law_k"] (sp_cell K) := by
  refine T.F_l_cell_at.ok sc_l_cell_at (fun vs H Q E h => ?_) (fun cdv A outer s H vs Q E hr h => ?_)
  · obtain ⟨a, ns, k, rfl, _⟩ := h
    rfl
  · obtain ⟨a, ns, k, rfl, hS, k0, q⟩ := h
    refine ⟨_, (pss_cons (ps_if (pt_cmpR op_lt (pv 1) (pe_callB call_len_seq (by rfl) T.z_len PySem.boot_len (pa_cons (pv 0) pa_nil)) (nomark _))
        (pss_one (ps_ret (pe_ix ix_list (pv 0) (pv 1) (fun _ _ => rfl))))
        pss_nil)
      (pss_one (ps_ret pe_int))), ?_⟩
    refine ⟨_, rfl, _, rfl, a, _, rfl, .inl hS, _, _, rfl, rfl, _, rfl, iteD (fun hk => ?_) (fun _ => q 0)⟩
    obtain ⟨z, _, e⟩ := at_mapV (f := V.int) (xs := ns) k0 (by simpa using hk)
    exact ⟨_, rfl, _, rfl, a, _, _, _, rfl, rfl, hS, e, q _⟩
theorem ok_l_mixed (T : Txt K mg t) : FnOk P w K mg base CX0 1 t.f_l_mixed t.d_l_mixed ["_law_cell", "_law_k"] sp_mixed := by
  refine T.F_l_mixed.ok sc_l_mixed (fun vs H Q E h => ?_) (fun cdv A outer s H vs Q E hr h => ?_)
  · obtain ⟨c, k, rfl, _⟩ := h
    rfl
  · obtain ⟨c, k, rfl, q⟩ := h
    refine ⟨_, (pss_one (ps_ret (pe_op op_add (pe_op op_mul (pe_op op_mod (pv 0) (pe_op op_pow pe_int pe_int)) pe_int) (pe_op op_mul (pe_op op_add (pv 1) pe_int) pe_int)))), ?_⟩
    exact ⟨_, rfl, _, _, rfl, rfl, ⟨by decide, by decide, by decide⟩, _, _, rfl, rfl, pow60, _, _, rfl, rfl, .inr ⟨by decide, by decide⟩, _, rfl, _, _, rfl, rfl, _, _, rfl, rfl, .inr ⟨by decide, by decide⟩, _, _, rfl, rfl, q _⟩
theorem ok_l_name_by (T : Txt K mg t) : FnOk P w K mg base CX0 1 t.f_l_name_by t.d_l_name_by ["_law_rest"] sp_nb := by
  refine T.F_l_name_by.ok sc_l_name_by (fun vs H Q E h => ?_) (fun cdv A outer s H vs Q E hr h => ?_)
  · obtain ⟨r, rfl, _⟩ := h
    rfl
  · obtain ⟨r, rfl, q⟩ := h
    refine ⟨_, (pss_cons (ps_set (i := 1) sc_l_name_by.nd rfl (Or.inl rfl) pe_str)
      (pss_cons (ps_for PassesOwn.never rfl (pi_range1 rfl T.z_range (pa_cons (pe_op op_add (pe_op op_add pe_int (pe_op op_mod (pv 0) pe_int)) (pe_op op_mul (pe_op op_mod (pe_op op_fdiv (pv 0) pe_int) pe_int) (pe_op op_mod (pe_op op_fdiv (pv 0) pe_int) pe_int))) pa_nil)) (pg_name (i := 2) sc_l_name_by.nd rfl (Or.inl rfl) (Or.inl rfl))
        (pss_cons (ps_set (i := 1) sc_l_name_by.nd rfl (Or.inl rfl) (pe_op op_add_str (pv 1) (pe_ix ix_str pe_str (pe_op op_mod (pe_op op_fdiv (pv 0) pe_int) pe_int) (fun _ _ => rfl))))
        (pss_one (ps_set (i := 0) sc_l_name_by.nd rfl (Or.inl rfl) (pe_op op_fdiv (pv 0) pe_int)))))
      (pss_cut (ps_if (PW.pt (pw_or (pt_cmpR op_eq (pv 1) pe_str (nomark _)) (pw_or1 (pt_cmpR op_eq (pv 1) pe_str (nomark _)))))
        (pss_one (ps_set (i := 1) sc_l_name_by.nd rfl (Or.inl rfl) (pe_op op_add_str pe_str (pv 1))))
        pss_nil)
      (pss_one (ps_ret (pv 1)))))), ?_⟩
    obtain ⟨n, hn, n1, n12⟩ : ∃ n : Nat, 1 + r % 3 + r / 3 % 4 * (r / 12 % 4) = (n : Int) ∧ 1 ≤ n ∧ n ≤ 12 := by
      have a1 : 0 ≤ r % 3 ∧ r % 3 ≤ 2 := by omega
      have a2 : 0 ≤ r / 3 % 4 ∧ r / 3 % 4 ≤ 3 := by omega
      have a3 : 0 ≤ r / 12 % 4 ∧ r / 12 % 4 ≤ 3 := by omega
      generalize r / 3 % 4 = b at a2 ⊢
      generalize r / 12 % 4 = c at a3 ⊢
      have b4 : b = 0 ∨ b = 1 ∨ b = 2 ∨ b = 3 := by omega
      refine ⟨(1 + r % 3 + b * c).toNat, ?_, ?_, ?_⟩ <;> rcases b4 with rfl | rfl | rfl | rfl <;> omega
    refine ⟨_, rfl, _, _, rfl, rfl, (by show (0 : Int) < 3; decide), _, _, rfl, rfl, _, rfl, _, _, rfl, rfl, ⟨by decide, by decide⟩, _, _, rfl, rfl, (by show (0 : Int) < 4; decide), _, rfl, _, _, rfl, rfl, ⟨by decide, by decide⟩, _, _, rfl, rfl, (by show (0 : Int) < 4; decide), _, _, rfl, rfl, .inr ⟨by show -(2 ^ 64) < r / 12 % 4; omega, by show r / 12 % 4 < 2 ^ 64; omega⟩, _, _, rfl, rfl, (n : Int), congrArg (fun z => [V.int z]) hn, by omega, by omega, ?_⟩
    refine for_range (n := ((n : Int)).toNat) (fun i σ G => H = G ∧ ∃ (r' : Int) (o2 : Option V) (x : Str), σ = [some (.int r'), some (.str x), o2] ∧ (sg x).length = i ∧ ∀ c ∈ sg x, 97 ≤ c ∧ c ≤ 122) ⟨rfl, r, none, "", rfl, rfl, by intro c hc; rw [show sg ("" : Str) = [] by decide +kernel] at hc; cases hc⟩ ?_ ?_
    · rintro i σ G hi ⟨rfl, r', o2, x, rfl, lx, cx⟩
      obtain ⟨ch, e1, e2⟩ := atI_ok (xs := abc.cps.toList) (i := r' / 48 % 26) (by omega) (by rw [abc_len]; omega)
      have sl := sg_len x
      have l1 : (⟨#[ch]⟩ : Str).length = 1 := rfl
      refine ⟨_, rfl, _, rfl, _, _, rfl, rfl, ⟨by decide, by decide⟩, _, _, rfl, rfl, (by show (0 : Int) < 26; decide), _, _, ch, rfl, rfl, line_le (by show abc.length ≤ _; rw [abc_len']; decide), e2, _, _, rfl, rfl, line_le (by omega), ?_⟩
      refine ⟨_, rfl, _, _, rfl, rfl, ⟨by decide, by decide⟩, rfl, _, _, _, rfl, ?_, fun c hc => ?_⟩
      · rw [sg_app, List.length_append, lx]; rfl
      · rw [sg_app] at hc
        rcases List.mem_append.mp hc with h | h
        · exact cx c h
        · rw [show c = ch by simpa [sg] using h]
          exact abc_let ch (List.mem_of_getElem? e1)
    rintro σ G ⟨rfl, r', o2, x, rfl, lx, cx⟩
    have lx : (sg x).length = n := by rw [lx]; omega
    have ne : sg x ≠ [] := fun e => by rw [e] at lx; simp at lx; omega
    have lt : Ltr x := ⟨ne, cx, by rw [← sg_len]; omega⟩
    refine ⟨fun σ G => H = G ∧ ∃ y : Str, σ = [some (.int r'), some (.str y), o2] ∧ Ltr y ∧ y ≠ "sum" ∧ y ≠ "if", ?_, ?_⟩
    · have fin : (x = "if" ∨ x = "sum") → Ltr ("i" ++ x) ∧ ("i" ++ x) ≠ "sum" ∧ ("i" ++ x) ≠ "if" := fun h => by
        rcases h with rfl | rfl
        · have e : sg (("i" : Str) ++ "if") = [105, 105, 102] := by decide +kernel
          exact ⟨⟨by rw [e]; simp, by rw [e]; decide, by decide +kernel⟩, by decide +kernel, by decide +kernel⟩
        · have e : sg (("i" : Str) ++ "sum") = [105, 115, 117, 109] := by decide +kernel
          exact ⟨⟨by rw [e]; simp, by rw [e]; decide, by decide +kernel⟩, by decide +kernel, by decide +kernel⟩
      have l20 := lt.ln
      have li : ("i" : Str).length = 1 := by decide +kernel
      refine ⟨_, rfl, rfl, _, rfl, iteD (fun h1 => ?_) (fun h1 => ?_)⟩
      · obtain ⟨f1, f2, f3⟩ := fin (.inl (by injection h1))
        exact ⟨_, rfl, _, _, rfl, rfl, line_le (by omega), rfl, _, rfl, f1, f2, f3⟩
      · refine ⟨_, rfl, rfl, _, rfl, iteD (fun h2 => ?_) (fun h2 => ?_)⟩
        · obtain ⟨f1, f2, f3⟩ := fin (.inr (by injection h2))
          exact ⟨_, rfl, _, _, rfl, rfl, line_le (by omega), rfl, _, rfl, f1, f2, f3⟩
        · exact ⟨rfl, x, rfl, lt, fun e => h2 (by rw [e]), fun e => h1 (by rw [e])⟩
    rintro σ G ⟨rfl, y, rfl, y1, y2, y3⟩
    exact ⟨_, rfl, q y y1 y2 y3⟩
theorem ok_l_any_by (T : Txt K mg t) : FnOk P w K mg base CX0 2 t.f_l_any_by t.d_l_any_by ["_law_rest"] sp_any := by
  have G_l_name_by := ok_l_name_by (P := P) (w := w) (base := base) T
  refine T.F_l_any_by.ok sc_l_any_by (fun vs H Q E h => ?_) (fun cdv A outer s H vs Q E hr h => ?_)
  · obtain ⟨r, rfl, _⟩ := h
    rfl
  · obtain ⟨r, rfl, q⟩ := h
    refine ⟨_, (pss_cons (ps_if (pt_cmpR op_eq (pe_op op_mod (pe_op op_fdiv (pv 0) pe_int) pe_int) pe_int (nomark _))
        (pss_one (ps_ret (pe_ix ix_list (pe_lst (pa_cons pe_str (pa_cons pe_str pa_nil))) (pe_op op_mod (pe_op op_fdiv (pv 0) pe_int) pe_int) (fun _ _ => rfl))))
        pss_nil)
      (pss_one (ps_ret (pe_call G_l_name_by (hr.mono (by omega)) rfl T.m_l_name_by T.F_l_name_by.kp T.b_l_name_by .nil pass0 (pa_cons (pv 0) pa_nil))))), ?_⟩
    refine ⟨_, rfl, _, _, rfl, rfl, ⟨by decide, by decide⟩, _, _, rfl, rfl, (by show (0 : Int) < 8; decide), rfl, _, rfl, iteD (fun _ => ?_) (fun _ => ?_)⟩
    · refine ⟨line_le (by show 2 ≤ 1000000; decide), fun z hz => ?_⟩
      obtain ⟨x, hx, e⟩ := at_mapV (f := V.str) (xs := (["if", "sum"] : List Str)) (i := r / 88 % 2) (by omega) (by show r / 88 % 2 < 2; omega)
      have lx : Ltr x := by
        have := List.mem_of_getElem? hx
        simp only [List.mem_cons, List.not_mem_nil, or_false] at this
        rcases this with rfl | rfl
        · exact ltr_if
        · exact ltr_sum
      exact ⟨_, rfl, _, _, rfl, rfl, ⟨by decide, by decide⟩, _, _, rfl, rfl, (by show (0 : Int) < 2; decide), z, _, _, _, rfl, rfl, SqL.of upd_same, e, q x _ (same_new hz) lx⟩
    · exact ⟨_, rfl, r, rfl, fun x lx _ _ => q x H (Same.refl _) lx⟩
theorem ok_l_number_by (T : Txt K mg t) : FnOk P w K mg base CX0 1 t.f_l_number_by t.d_l_number_by ["_law_rest"] sp_nu := by
  refine T.F_l_number_by.ok sc_l_number_by (fun vs H Q E h => ?_) (fun cdv A outer s H vs Q E hr h => ?_)
  · obtain ⟨r, rfl, _⟩ := h
    rfl
  · obtain ⟨r, rfl, q⟩ := h
    have e30 : ((10 : Int) ^ (30 : Int).toNat) = 1000000000000000000000000000000 := by decide +kernel
    have n30 : (10 : Nat) ^ 30 = 1000000000000000000000000000000 := by decide +kernel
    have hp : (0 : Int) < 2 * (10 : Int) ^ (30 : Int).toNat - 1 := by rw [e30]; decide
    refine ⟨_, (pss_cons (ps_if (pt_cmpR op_eq (pe_op op_mod (pv 0) pe_int) pe_int (nomark _))
        (pss_one (ps_ret (pe_op op_sub (pe_op op_mod (pe_op op_fdiv (pv 0) pe_int) (pe_op op_sub (pe_op op_mul pe_int (pe_op op_pow pe_int pe_int)) pe_int)) (pe_op op_sub (pe_op op_pow pe_int pe_int) pe_int))))
        pss_nil)
      (pss_one (ps_ret (pe_op op_sub (pe_op op_mod (pe_op op_fdiv (pv 0) pe_int) pe_int) pe_int)))), ?_⟩
    refine ⟨_, rfl, _, _, rfl, rfl, (by show (0 : Int) < 3; decide), rfl, _, rfl, iteD (fun _ => ?_) (fun _ => ?_)⟩
    · refine ⟨_, rfl, _, _, rfl, rfl, ⟨by decide, by decide⟩, _, _, rfl, rfl, ⟨by decide, by decide, by decide⟩, _, _, rfl, rfl, .inl ⟨by decide, by decide⟩, _, _, rfl, rfl, _, _, rfl, rfl, hp, _, _, rfl, rfl, ⟨by decide, by decide, by decide⟩, _, _, rfl, rfl, _, _, rfl, rfl, q _ ?_⟩
      have h1 := Int.emod_nonneg (r / 3) (show (2 * (10 : Int) ^ (30 : Int).toNat - 1) ≠ 0 by omega)
      have h2 := Int.emod_lt_of_pos (r / 3) hp
      unfold B30
      rw [e30] at h1 h2 ⊢
      rw [n30]
      omega
    · refine ⟨_, rfl, _, _, rfl, rfl, ⟨by decide, by decide⟩, _, _, rfl, rfl, (by show (0 : Int) < 25; decide), _, _, rfl, rfl, q _ ?_⟩
      unfold B30
      rw [n30]
      omega
theorem ok_l_long (T : Txt K mg t) : FnOk P w K mg base CX0 1 t.f_l_long t.d_l_long ["_law_rest"] sp_long := by
  refine T.F_l_long.ok sc_l_long (fun vs H Q E h => ?_) (fun cdv A outer s H vs Q E hr h => ?_)
  · obtain ⟨r, rfl, _⟩ := h
    rfl
  · obtain ⟨r, rfl, q⟩ := h
    have fin : ∀ z : Int, 0 ≤ z → z ≤ 12 → Q (.int z) H := fun z h0 h1 => by
      have := q z.toNat (by omega)
      rw [show ((z.toNat : Nat) : Int) = z by omega] at this
      exact this
    refine ⟨_, (pss_cons (ps_if (pt_cmpR op_eq (pe_op op_mod (pe_op op_fdiv (pv 0) pe_int) pe_int) pe_int (nomark _))
        (pss_one (ps_ret (pe_op op_add pe_int (pe_op op_mod (pe_op op_fdiv (pv 0) pe_int) pe_int))))
        pss_nil)
      (pss_one (ps_ret (pe_op op_mod (pv 0) pe_int)))), ?_⟩
    refine ⟨_, rfl, _, _, rfl, rfl, ⟨by decide, by decide⟩, _, _, rfl, rfl, (by show (0 : Int) < 8; decide), rfl, _, rfl, iteD (fun _ => ?_) (fun _ => ?_)⟩
    · exact ⟨_, rfl, _, _, rfl, rfl, ⟨by decide, by decide⟩, _, _, rfl, rfl, (by show (0 : Int) < 9; decide), _, _, rfl, rfl, fin (4 + r / 32 % 9) (by omega) (by omega)⟩
    · exact ⟨_, rfl, _, _, rfl, rfl, (by show (0 : Int) < 4; decide), fin (r % 4) (by omega) (by omega)⟩
end
end My

set_option Elab.async false
set_option linter.all false
set_option maxRecDepth 100000
set_option maxHeartbeats 4000000
namespace My
open PySem L2 M84
local macro_rules | `(tactic| walk_at "lk") => `(tactic| first | with_reducible exact lk0 | (refine lk1 (by decide +kernel) ?_; walk_at "lk") | rfl)
theorem jn_snoc {c : Nat} {p : List Nat} : ∀ {ps : List (List Nat)}, ps ≠ [] → jn c (ps ++ [p]) = jn c ps ++ c :: p
  | [], h => absurd rfl h
  | [q], _ => rfl
  | q :: r :: ps, _ => by
    have := jn_snoc (c := c) (p := p) (ps := r :: ps) (by simp)
    rw [List.cons_append, List.cons_append, jn, ← List.cons_append, this, jn]
    simp
def preW (ix : List (Str × Int)) : Str := if ix = [] then insW ix else insW ix ++ ","
theorem ins_add (ix : List (Str × Int)) (e : Str × Int) : insW (ix ++ [e]) = preW ix ++ idxW e := by
  refine sg_inj ?_
  unfold preW
  by_cases h : ix = []
  · rw [if_pos h, h, sg_app, sg_ins, sg_ins, sg_idx]
    rfl
  · rw [if_neg h, sg_app, sg_app, sg_ins, sg_ins, sg_idx, List.map_append, List.map_cons, List.map_nil, jn_snoc (by simpa using h), e_comma]
    simp [sg]
theorem app3 (a b c d : Str) : a ++ b ++ c ++ d = a ++ b ++ (c ++ d) := sg_inj (by simp only [sg_app, List.append_assoc])
def sp_rb : Sp := fun vs H Q _ => ∃ r : Int, vs = [.int r] ∧ ∀ (a : Str) (ix : List (Str × Int)) (H' : Hp), Same H H' → Ltr a → ix.length ≤ 12 → (∀ e ∈ ix, IxOk e) → Q (.str (a ++ "[" ++ insW ix ++ "]")) H'
theorem ix_snoc {ix : List (Str × Int)} {e : Str × Int} (h : ∀ e ∈ ix, IxOk e) (he : IxOk e) : ∀ e' ∈ ix ++ [e], IxOk e' := fun e' h' => (List.mem_append.mp h').elim (h e') (fun z => by rw [List.mem_singleton.mp z]; exact he)
theorem b30_0 : B30 0 := by unfold B30; decide
section
variable {P : Program} {w : World} {K : PySem.W.Frag} {mg : Str → Option Value} {base : Heap} {t : Adr}
theorem ok_l_read_by (T : Txt K mg t) : FnOk P w K mg base CX0 3 t.f_l_read_by t.d_l_read_by ["_law_rest"] sp_rb := by
  have G_l_any_by := ok_l_any_by (P := P) (w := w) (base := base) T
  have G_l_long := ok_l_long (P := P) (w := w) (base := base) T
  have G_l_number_by := ok_l_number_by (P := P) (w := w) (base := base) T
  refine T.F_l_read_by.ok sc_l_read_by (fun vs H Q E h => ?_) (fun cdv A outer s H vs Q E hr h => ?_)
  · obtain ⟨r, rfl, _⟩ := h
    rfl
  · obtain ⟨r, rfl, q⟩ := h
    have lo : ("[" : Str).length = 1 := by decide +kernel
    have lc : ("]" : Str).length = 1 := by decide +kernel
    have lk : ("," : Str).length = 1 := by decide +kernel
    have lp : ("+" : Str).length = 1 := by decide +kernel
    refine ⟨_, (pss_cons (ps_set (i := 1) sc_l_read_by.nd rfl (Or.inl rfl) (pe_op op_add_str (pe_call G_l_any_by (hr.mono (by omega)) rfl T.m_l_any_by T.F_l_any_by.kp T.b_l_any_by .nil pass0 (pa_cons (pv 0) pa_nil)) pe_str))
      (pss_cons (ps_set (i := 0) sc_l_read_by.nd rfl (Or.inl rfl) (pe_op op_fdiv (pv 0) (pe_op op_pow pe_int pe_int)))
      (pss_cons (ps_for PassesOwn.never rfl (pi_range1 rfl T.z_range (pa_cons (pe_call G_l_long (hr.mono (by omega)) rfl T.m_l_long T.F_l_long.kp T.b_l_long .nil pass0 (pa_cons (pv 0) pa_nil)) pa_nil)) (pg_name (i := 2) sc_l_read_by.nd rfl (Or.inl rfl) (Or.inl rfl))
        (pss_cons (ps_set (i := 0) sc_l_read_by.nd rfl (Or.inl rfl) (pe_op op_fdiv (pv 0) pe_int))
        (pss_cut (ps_if (pt_cmpR op_gt (pv 2) pe_int (nomark _))
          (pss_one (ps_set (i := 1) sc_l_read_by.nd rfl (Or.inl rfl) (pe_op op_add_str (pv 1) pe_str)))
          pss_nil)
        (pss_cons (ps_set (i := 3) sc_l_read_by.nd rfl (Or.inl rfl) (pe_call G_l_number_by (hr.mono (by omega)) rfl T.m_l_number_by T.F_l_number_by.kp T.b_l_number_by .nil pass0 (pa_cons (pe_op op_fdiv (pv 0) pe_int) pa_nil)))
        (pss_cut (ps_if (pt_cmpR op_eq (pe_op op_mod (pv 0) pe_int) pe_int (nomark _))
          (pss_one (ps_set (i := 1) sc_l_read_by.nd rfl (Or.inl rfl) (pe_op op_add_str (pv 1) (pe_callTy call_str_int (by rfl) T.z_str PyProof.Rows.boot_str (pa_cons (pv 3) pa_nil)))))
          (pss_cons (ps_set (i := 1) sc_l_read_by.nd rfl (Or.inl rfl) (pe_op op_add_str (pv 1) (pe_call G_l_any_by (hr.mono (by omega)) rfl T.m_l_any_by T.F_l_any_by.kp T.b_l_any_by .nil pass0 (pa_cons (pe_op op_fdiv (pv 0) pe_int) pa_nil))))
          (pss_cut (ps_if (PW.pt (pw_and (pt_cmpR op_eq (pe_op op_mod (pv 0) pe_int) pe_int (nomark _)) (pw_and1 (pt_cmpR op_lt (pv 3) pe_int (nomark _)))))
            (pss_one (ps_set (i := 1) sc_l_read_by.nd rfl (Or.inl rfl) (pe_op op_add_str (pv 1) (pe_callTy call_str_int (by rfl) T.z_str PyProof.Rows.boot_str (pa_cons (pv 3) pa_nil)))))
            pss_nil)
          (pss_one (ps_if (PW.pt (pw_and (pt_cmpR op_eq (pe_op op_mod (pv 0) pe_int) pe_int (nomark _)) (pw_and1 (pt_cmpR op_gt (pv 3) pe_int (nomark _)))))
            (pss_one (ps_set (i := 1) sc_l_read_by.nd rfl (Or.inl rfl) (pe_op op_add_str (pe_op op_add_str (pv 1) pe_str) (pe_callTy call_str_int (by rfl) T.z_str PyProof.Rows.boot_str (pa_cons (pv 3) pa_nil)))))
            pss_nil)))))
        (pss_one (ps_set (i := 0) sc_l_read_by.nd rfl (Or.inl rfl) (pe_op op_fdiv (pv 0) pe_int))))))))
      (pss_one (ps_ret (pe_op op_add_str (pv 1) pe_str)))))), ?_⟩
    refine ⟨_, rfl, r, rfl, fun a H1 s1 la => ?_⟩
    have l20 := la.ln
    refine ⟨_, _, rfl, rfl, line_le (by omega), ?_⟩
    refine ⟨_, rfl, _, _, rfl, rfl, ⟨by decide, by decide, by decide⟩, _, _, rfl, rfl, ⟨by decide, by decide⟩, ?_⟩
    refine ⟨_, rfl, _, rfl, fun m hm => ⟨_, rfl, by omega, by omega, ?_⟩⟩
    have lW : ∀ ix : List (Str × Int), ix.length ≤ 12 → (∀ e ∈ ix, IxOk e) → (a ++ "[" ++ insW ix).length ≤ 821 := fun ix h1 h2 => by
      have := insW_lenB (fun e he => ixW (h2 e he)) h1
      rw [Str.length_append, Str.length_append]; omega
    refine for_range (n := ((m : Nat) : Int).toNat) (fun i σ G => ∃ (r' : Int) (o2 o3 : Option V) (ix : List (Str × Int)), σ = [some (.int r'), some (.str (a ++ "[" ++ insW ix)), o2, o3] ∧ Same H1 G ∧ ix.length = i ∧ ∀ e ∈ ix, IxOk e) ⟨_, none, none, [], by rw [show a ++ "[" ++ insW [] = a ++ "[" from sg_inj (by rw [sg_app, sg_ins]; simp [jn])]; rfl, Same.refl _, rfl, by intro e he; cases he⟩ ?_ ?_
    · rintro i σ G hi ⟨r', o2, o3, ix, rfl, sG, li, ok⟩
      have hi : i < 12 := by omega
      have lw := lW ix (by omega) ok
      refine ⟨_, rfl, _, _, rfl, rfl, ⟨by decide, by decide⟩, ?_⟩
      have lpre : (a ++ "[" ++ preW ix).length ≤ 822 := by
        unfold preW
        split
        · omega
        · rw [← app3, Str.length_append]; omega
      refine ⟨fun σ G' => σ = [some (.int (r' / 4)), some (.str (a ++ "[" ++ preW ix)), some (.int (0 + (i : Int))), o3] ∧ G = G', ?_, ?_⟩
      · refine ⟨_, rfl, _, _, rfl, rfl, _, rfl, iteD (fun h0 => ?_) (fun h0 => ?_)⟩
        · have h0 : 0 + (i : Int) > 0 := h0
          have ne : ix ≠ [] := fun e => by rw [e] at li; simp at li; omega
          refine ⟨_, rfl, _, _, rfl, rfl, line_le (by omega), ?_, rfl⟩
          unfold preW
          rw [if_neg ne, ← app3]
          rfl
        · have h0 : ¬ 0 + (i : Int) > 0 := h0
          have e0 : ix = [] := List.length_eq_zero_iff.mp (by omega)
          refine ⟨?_, rfl⟩
          unfold preW
          rw [if_pos e0]
          rfl
      rintro σ G' ⟨rfl, rfl⟩
      refine ⟨_, rfl, _, _, rfl, rfl, ⟨by decide, by decide⟩, _, rfl, fun z hz => ?_⟩
      have hl := log_ok (sm_b30 hz)
      have lz := int_lenB hz
      refine ⟨fun σ G' => ∃ e : Str × Int, σ = [some (.int (r' / 4)), some (.str (a ++ "[" ++ insW (ix ++ [e]))), some (.int (0 + (i : Int))), some (.int z)] ∧ Same G G' ∧ IxOk e, ?_, ?_⟩
      · refine ⟨_, rfl, _, _, rfl, rfl, (by show (0 : Int) < 4; decide), rfl, _, rfl, iteD (fun h0 => ?_) (fun h0 => ?_)⟩
        · refine ⟨_, rfl, _, rfl, z, rfl, hl, _, _, rfl, rfl, line_le (by omega), ("", z), ?_, Same.refl _, .inl rfl, hz⟩
          rw [ins_add, ← app3]
          rfl
        · refine ⟨_, rfl, _, rfl, _, _, rfl, rfl, ⟨by decide, by decide⟩, _, rfl, fun x G2 s2 lx => ⟨_, _, rfl, rfl, line_le (by have := lx.ln; omega), ?_⟩⟩
          have nx : x ≠ "" := fun e => lx.ne (by rw [e]; decide +kernel)
          have l2 := lx.ln
          have lwx : (a ++ "[" ++ preW ix ++ x).length ≤ 842 := by rw [Str.length_append]; omega
          refine ⟨fun σ G' => ∃ y : Str, σ = [some (.int (r' / 4)), some (.str y), some (.int (0 + (i : Int))), some (.int z)] ∧ G2 = G' ∧ (r' / 4 % 4 = 1 ∧ z < 0 ∧ y = a ++ "[" ++ preW ix ++ x ++ (toString z : Str) ∨ ¬ (r' / 4 % 4 = 1 ∧ z < 0) ∧ y = a ++ "[" ++ preW ix ++ x), ?_, ?_⟩
          · refine ⟨_, rfl, _, _, rfl, rfl, (by show (0 : Int) < 4; decide), rfl, _, rfl, iteD (fun h1 => ?_) (fun h1 => ?_)⟩
            · have h1 : r' / 4 % 4 = 1 := by injection h1
              refine ⟨_, rfl, _, _, rfl, rfl, _, rfl, iteD (fun h2 => ?_) (fun h2 => ?_)⟩
              · exact ⟨_, rfl, _, rfl, z, rfl, hl, _, _, rfl, rfl, line_le (by omega), _, rfl, rfl, .inl ⟨h1, h2, rfl⟩⟩
              · exact ⟨_, rfl, rfl, .inr ⟨fun c => h2 c.2, rfl⟩⟩
            · exact ⟨_, rfl, rfl, .inr ⟨fun c => h1 (by show V.int (r' / 4 % 4) = V.int 1; rw [c.1]), rfl⟩⟩
          rintro σ G' ⟨y, rfl, rfl, hy⟩
          have fin : ∀ e : Str × Int, IxOk e → y = a ++ "[" ++ preW ix ++ idxW e → ∃ e : Str × Int, ([some (.int (r' / 4)), some (.str y), some (.int (0 + (i : Int))), some (.int z)] : St) = [some (.int (r' / 4)), some (.str (a ++ "[" ++ insW (ix ++ [e]))), some (.int (0 + (i : Int))), some (.int z)] ∧ Same G G2 ∧ IxOk e := fun e he hy => ⟨e, by rw [hy, ins_add, app3], s2, he⟩
          refine ⟨_, rfl, _, _, rfl, rfl, (by show (0 : Int) < 4; decide), rfl, _, rfl, iteD (fun h1 => ?_) (fun h1 => ?_)⟩
          · have h1 : r' / 4 % 4 = 1 := by injection h1
            refine ⟨_, rfl, _, _, rfl, rfl, _, rfl, iteD (fun h2 => ?_) (fun h2 => ?_)⟩
            · have h2 : z > 0 := h2
              rcases hy with ⟨_, h3, _⟩ | ⟨_, hy⟩
              · omega
              · subst hy
                have l4 : (a ++ "[" ++ preW ix ++ x ++ "+").length ≤ 843 := by rw [Str.length_append]; omega
                refine ⟨_, rfl, _, _, rfl, rfl, line_le (by omega), _, rfl, z, rfl, hl, _, _, rfl, rfl, line_le (by omega), (x, z), ?_, s2, .inr lx, hz⟩
                have e : idxW (x, z) = x ++ "+" ++ (toString z : Str) := by
                  unfold idxW
                  rw [if_neg nx, if_neg (by show ¬ z = 0; omega), if_pos h2]
                rw [ins_add, ← app3, e]
                rw [show a ++ "[" ++ preW ix ++ (x ++ "+" ++ (toString z : Str)) = a ++ "[" ++ preW ix ++ x ++ "+" ++ (toString z : Str) from sg_inj (by simp only [sg_app, List.append_assoc])]
                rfl
            · have h2 : ¬ z > 0 := h2
              rcases hy with ⟨_, h3, hy⟩ | ⟨h3, hy⟩
              · refine fin (x, z) ⟨.inr lx, hz⟩ ?_
                have e : idxW (x, z) = x ++ (toString z : Str) := by
                  unfold idxW
                  rw [if_neg nx, if_neg (by show ¬ z = 0; omega), if_neg h2]
                rw [hy, e]
                exact sg_inj (by simp only [sg_app, List.append_assoc])
              · refine fin (x, 0) ⟨.inr lx, b30_0⟩ ?_
                have e : idxW (x, 0) = x := by unfold idxW; rw [if_neg nx, if_pos rfl]
                rw [hy, e]
          · rcases hy with ⟨h3, _, hy⟩ | ⟨h3, hy⟩
            · exact absurd (show V.int (r' / 4 % 4) = V.int 1 by rw [h3]) h1
            · refine fin (x, 0) ⟨.inr lx, b30_0⟩ ?_
              have e : idxW (x, 0) = x := by unfold idxW; rw [if_neg nx, if_pos rfl]
              rw [hy, e]
      rintro σ G' ⟨e, rfl, s2, oe⟩
      exact ⟨_, rfl, _, _, rfl, rfl, ⟨by decide, by decide⟩, _, _, _, _, rfl, sG.trans s2, by rw [List.length_append, li]; rfl, ix_snoc ok oe⟩
    · rintro σ G ⟨r', o2, o3, ix, rfl, sG, li, ok⟩
      have := lW ix (by omega) ok
      exact ⟨_, rfl, _, _, rfl, rfl, line_le (by omega), q a ix G (s1.trans sG) la (by omega) ok⟩
end
end My

set_option Elab.async false
set_option linter.all false
set_option maxRecDepth 100000
set_option maxHeartbeats 4000000
namespace My
open PySem L2 M84
local macro_rules | `(tactic| walk_at "lk") => `(tactic| first | with_reducible exact lk0 | (refine lk1 (by decide +kernel) ?_; walk_at "lk") | rfl)
def sp_wb (K : PySem.W.Frag) (n : Nat) : Sp := fun vs H Q _ => ∃ (a : Addr) (ns : List Int) (at_ : Int), vs = [.ref a, .int at_, .int (n : Nat)] ∧ SqL K H a (ns.map V.int) ∧ 0 ≤ at_ ∧
  ∀ (p W : Addr) (u : Tm) (at' : Int) (H' : Hp), Same H H' → H' p = some (.tup [.ref W, .int at']) → H' W = some (.lst ((words u).map V.str)) → H W = none → TmOk u → dep u ≤ n + 1 → nod u + 1 ≤ 2 ^ (n + 1) → 0 ≤ at' → Q (.ref p) H'
theorem op_of {x : Str} (h : x ∈ (["+", "-", "*"] : List Str)) : ∃ o : Op3, x = o.sign := by
  simp only [List.mem_cons, List.not_mem_nil, or_false] at h
  rcases h with rfl | rfl | rfl
  · exact ⟨.plus, rfl⟩
  · exact ⟨.minus, rfl⟩
  · exact ⟨.times, rfl⟩
section
variable {P : Program} {w : World} {K : PySem.W.Frag} {mg : Str → Option Value} {base : Heap} {t : Adr}
theorem wb_step (T : Txt K mg t) {n m : Nat} {sp' : Sp} (hn : n ≤ 4) (hm : 4 ≤ m) (G_l_words_by : FnOk P w K mg base CX0 m t.f_l_words_by t.d_l_words_by ["_law_cells", "_law_at", "_law_room"] sp') (hs0 : ∀ vs H Q, 1 ≤ n → sp_wb K (n - 1) vs H Q E0 → sp' vs H Q E0) : FnOk P w K mg base CX0 (m + 1) t.f_l_words_by t.d_l_words_by ["_law_cells", "_law_at", "_law_room"] (sp_wb K n) := by
  have G_l_any_by := ok_l_any_by (P := P) (w := w) (base := base) T
  have G_l_cell_at := ok_l_cell_at (P := P) (w := w) (base := base) T
  have G_l_mixed := ok_l_mixed (P := P) (w := w) (base := base) T
  have G_l_name_by := ok_l_name_by (P := P) (w := w) (base := base) T
  have G_l_number_by := ok_l_number_by (P := P) (w := w) (base := base) T
  have G_l_read_by := ok_l_read_by (P := P) (w := w) (base := base) T
  refine T.F_l_words_by.ok sc_l_words_by (fun vs H Q E h => ?_) (fun cdv A outer s H vs Q E hr h => ?_)
  · obtain ⟨a, ns, at_, rfl, _⟩ := h
    rfl
  · obtain ⟨a, ns, at_, rfl, hS, h0, k⟩ := h
    have p32 : 2 ^ (n + 1) ≤ 32 := Nat.pow_le_pow_right (by decide) (by omega : n + 1 ≤ 5)
    refine ⟨_, (pss_cons (ps_set (i := 3) sc_l_words_by.nd rfl (Or.inl rfl) (pe_call G_l_mixed (hr.mono (by omega)) rfl T.m_l_mixed T.F_l_mixed.kp T.b_l_mixed .nil pass0 (pa_cons (pe_call G_l_cell_at (hr.mono (by omega)) rfl T.m_l_cell_at T.F_l_cell_at.kp T.b_l_cell_at .nil pass0 (pa_cons (pv 0) (pa_cons (pv 1) pa_nil))) (pa_cons (pv 1) pa_nil))))
      (pss_cons (ps_set (i := 4) sc_l_words_by.nd rfl (Or.inl rfl) (pe_op op_mod (pv 3) pe_int))
      (pss_cons (ps_set (i := 3) sc_l_words_by.nd rfl (Or.inl rfl) (pe_op op_fdiv (pv 3) pe_int))
      (pss_cut (ps_if (PW.pt (pw_and (pt_cmpR op_gt (pv 2) pe_int (nomark _)) (pw_and1 (pt_cmpR op_gt (pv 4) pe_int (nomark _)))))
        (pss_cons (ps_asg (pe_call G_l_words_by (hr.mono (by omega)) rfl T.m_l_words_by T.F_l_words_by.kp T.b_l_words_by .nil pass0 (pa_cons (pv 0) (pa_cons (pe_op op_add (pv 1) pe_int) (pa_cons (pe_op op_sub (pv 2) pe_int) pa_nil)))) (pg_tup (n := 2) rfl (pgs_cons (pg_name (i := 5) sc_l_words_by.nd rfl (Or.inl rfl) (Or.inl rfl)) (pgs_cons (pg_name (i := 1) sc_l_words_by.nd rfl (Or.inl rfl) (Or.inl rfl)) pgs_nil))))
        (pss_cut (ps_if (pt_cmpR op_eq (pv 4) pe_int (nomark _))
          (pss_one (ps_ret (pe_tup (pa_cons (pe_op op_cat (pe_lst (pa_cons pe_str (pa_cons (pe_call G_l_any_by (hr.mono (by omega)) rfl T.m_l_any_by T.F_l_any_by.kp T.b_l_any_by .nil pass0 (pa_cons (pv 3) pa_nil)) pa_nil))) (pv 5)) (pa_cons (pv 1) pa_nil)))))
          pss_nil)
        (pss_cons (ps_asg (pe_call G_l_words_by (hr.mono (by omega)) rfl T.m_l_words_by T.F_l_words_by.kp T.b_l_words_by .nil pass0 (pa_cons (pv 0) (pa_cons (pv 1) (pa_cons (pe_op op_sub (pv 2) pe_int) pa_nil)))) (pg_tup (n := 2) rfl (pgs_cons (pg_name (i := 6) sc_l_words_by.nd rfl (Or.inl rfl) (Or.inl rfl)) (pgs_cons (pg_name (i := 1) sc_l_words_by.nd rfl (Or.inl rfl) (Or.inl rfl)) pgs_nil))))
        (pss_cut (ps_if (pt_cmpR op_eq (pv 4) pe_int (nomark _))
          (pss_one (ps_ret (pe_tup (pa_cons (pe_op op_cat (pe_op op_cat (pe_lst (pa_cons (pe_ix ix_list (pe_lst (pa_cons pe_str (pa_cons pe_str (pa_cons pe_str pa_nil)))) (pe_op op_mod (pv 3) pe_int) (fun _ _ => rfl)) pa_nil)) (pv 5)) (pv 6)) (pa_cons (pv 1) pa_nil)))))
          pss_nil)
        (pss_cons (ps_set (i := 7) sc_l_words_by.nd rfl (Or.inl rfl) (pe_lst (pa_cons pe_str (pa_cons (pe_call G_l_any_by (hr.mono (by omega)) rfl T.m_l_any_by T.F_l_any_by.kp T.b_l_any_by .nil pass0 (pa_cons (pv 3) pa_nil)) (pa_cons (pe_callTy call_str_int (by rfl) T.z_str PyProof.Rows.boot_str (pa_cons (pe_call G_l_number_by (hr.mono (by omega)) rfl T.m_l_number_by T.F_l_number_by.kp T.b_l_number_by .nil pass0 (pa_cons (pe_op op_fdiv (pv 3) (pe_op op_pow pe_int pe_int)) pa_nil)) pa_nil)) (pa_cons (pe_callTy call_str_int (by rfl) T.z_str PyProof.Rows.boot_str (pa_cons (pe_call G_l_number_by (hr.mono (by omega)) rfl T.m_l_number_by T.F_l_number_by.kp T.b_l_number_by .nil pass0 (pa_cons (pe_op op_fdiv (pv 3) pe_int) pa_nil)) pa_nil)) pa_nil))))))
        (pss_one (ps_ret (pe_tup (pa_cons (pe_op op_cat (pe_op op_cat (pv 7) (pv 5)) (pv 6)) (pa_cons (pv 1) pa_nil))))))))))
        pss_nil)
      (pss_cut (ps_if (pt_cmpR op_lt (pv 4) pe_int (nomark _))
        (pss_one (ps_ret (pe_tup (pa_cons (pe_lst (pa_cons (pe_callTy call_str_int (by rfl) T.z_str PyProof.Rows.boot_str (pa_cons (pe_call G_l_number_by (hr.mono (by omega)) rfl T.m_l_number_by T.F_l_number_by.kp T.b_l_number_by .nil pass0 (pa_cons (pv 3) pa_nil)) pa_nil)) pa_nil)) (pa_cons (pe_op op_add (pv 1) pe_int) pa_nil)))))
        pss_nil)
      (pss_cut (ps_if (pt_cmpR op_eq (pv 4) pe_int (nomark _))
        (pss_one (ps_ret (pe_tup (pa_cons (pe_lst (pa_cons (pe_call G_l_name_by (hr.mono (by omega)) rfl T.m_l_name_by T.F_l_name_by.kp T.b_l_name_by .nil pass0 (pa_cons (pv 3) pa_nil)) pa_nil)) (pa_cons (pe_op op_add (pv 1) pe_int) pa_nil)))))
        pss_nil)
      (pss_one (ps_ret (pe_tup (pa_cons (pe_lst (pa_cons (pe_call G_l_read_by (hr.mono (by omega)) rfl T.m_l_read_by T.F_l_read_by.kp T.b_l_read_by .nil pass0 (pa_cons (pv 3) pa_nil)) pa_nil)) (pa_cons (pe_op op_add (pv 1) pe_int) pa_nil))))))))))), ?_⟩
    refine ⟨_, rfl, _, rfl, a, ns, at_, rfl, hS, h0, fun z => ⟨_, rfl, _, _, rfl, fun r => ?_⟩⟩
    refine ⟨_, rfl, _, _, rfl, rfl, (by show (0 : Int) < 8; decide), ?_⟩
    refine ⟨_, rfl, _, _, rfl, rfl, ⟨by decide, by decide⟩, ?_⟩
    refine ⟨fun σ G => σ = [some (.ref a), some (.int at_), some (.int (n : Nat)), some (.int (r / 8)), some (.int (r % 8)), none, none, none] ∧ H = G, ?_, ?_⟩
    · refine ⟨_, rfl, _, _, rfl, rfl, _, rfl, iteD (fun h1 => ⟨_, rfl, _, _, rfl, rfl, _, rfl, iteD (fun h2 => ?_) (fun h2 => ⟨rfl, rfl⟩)⟩) (fun h1 => ⟨rfl, rfl⟩)⟩
      have h1 : ((n : Nat) : Int) > 0 := h1
      have n1 : 1 ≤ n := by omega
      have en : ((n : Nat) : Int) - 1 = ((n - 1 : Nat) : Int) := by omega
      have e2 : 2 ^ (n + 1) = 2 ^ n + 2 ^ n := by rw [Nat.pow_succ]; omega
      refine ⟨_, rfl, _, rfl, _, _, rfl, rfl, _, rfl, _, _, rfl, rfl, hs0 _ _ _ n1 ⟨a, ns, at_ + 1, congrArg (fun z => [V.ref a, V.int (at_ + 1), V.int z]) en, hS, by omega, fun p1 W1 u1 at1 H1 s1 hp1 hW1 fW1 k1 d1 m1 a1 => ?_⟩⟩
      rw [show n - 1 + 1 = n by omega] at d1 m1
      have w1 := words_len u1
      refine ⟨p1, _, rfl, SqT.of hp1, rfl, _, _, rfl, _, _, rfl, rfl, ?_⟩
      refine ⟨fun σ G => σ = [some (.ref a), some (.int at1), some (.int (n : Nat)), some (.int (r / 8)), some (.int (r % 8)), some (.ref W1), none, none] ∧ H1 = G, ?_, ?_⟩
      · refine ⟨_, rfl, rfl, _, rfl, iteD (fun _ => ?_) (fun _ => ⟨rfl, rfl⟩)⟩
        refine ⟨_, rfl, _, rfl, fun x H2 s2 lx => ⟨line_le (by show 2 ≤ 1000000; decide), fun z hz => ?_⟩⟩
        have s3 := same_new (o := .lst [V.str "sum", .str x]) hz
        have hz3 : upd H2 z (.lst [V.str "sum", .str x]) z = some (.lst [V.str "sum", .str x]) := upd_same
        generalize upd H2 z (.lst [V.str "sum", .str x]) = H3 at s3 hz3 ⊢
        have s13 := s2.trans s3
        refine ⟨_, rfl, z, W1, _, _, rfl, rfl, hz3, s13 _ _ hW1, line_le (by simp; omega), fun q hq => ⟨_, rfl, line_le (by show 2 ≤ 1000000; decide), fun p hp => ?_⟩⟩
        have s4 := same_new (o := .lst ([V.str "sum", .str x] ++ (words u1).map V.str)) hq
        have s5 := same_new (o := .tup [V.ref q, .int at1]) hp
        exact k p q (.sum x u1) at1 _ (s1.trans (s13.trans (s4.trans s5))) upd_same (s5 _ _ (by rw [upd_same]; simp [words])) (s1.free (s13.free hq)) ⟨lx, k1⟩ (by simp only [dep]; omega) (by simp only [nod]; omega) a1
      rintro σ G ⟨rfl, rfl⟩
      refine ⟨_, rfl, _, rfl, _, rfl, _, _, rfl, rfl, hs0 _ _ _ n1 ⟨a, ns, at1, congrArg (fun z => [V.ref a, V.int at1, V.int z]) en, s1.seq hS, a1, fun p2 W2 u2 at2 H2 s2 hp2 hW2 fW2 k2 d2 m2 a2 => ?_⟩⟩
      rw [show n - 1 + 1 = n by omega] at d2 m2
      have w2 := words_len u2
      have hW12 := s2 _ _ hW1
      refine ⟨p2, _, rfl, SqT.of hp2, rfl, _, _, rfl, _, _, rfl, rfl, ?_⟩
      refine ⟨fun σ G => σ = [some (.ref a), some (.int at2), some (.int (n : Nat)), some (.int (r / 8)), some (.int (r % 8)), some (.ref W1), some (.ref W2), none] ∧ H2 = G, ?_, ?_⟩
      · refine ⟨_, rfl, rfl, _, rfl, iteD (fun _ => ?_) (fun _ => ⟨rfl, rfl⟩)⟩
        refine ⟨line_le (by show 3 ≤ 1000000; decide), fun z0 hz0 => ?_⟩
        obtain ⟨x, hx, e⟩ := at_mapV (f := V.str) (xs := (["+", "-", "*"] : List Str)) (i := r / 8 % 3) (by omega) (by show r / 8 % 3 < 3; omega)
        obtain ⟨o, rfl⟩ := op_of (List.mem_of_getElem? hx)
        have s30 := same_new (o := .lst [V.str "+", .str "-", .str "*"]) hz0
        refine ⟨_, rfl, _, _, rfl, rfl, (by show (0 : Int) < 3; decide), z0, _, _, _, rfl, rfl, SqL.of upd_same, e, line_le (by show 1 ≤ 1000000; decide), fun z hz => ?_⟩
        have s3 := s30.trans (same_new (o := .lst [V.str o.sign]) hz)
        have hz3 : upd (upd H2 z0 (.lst [V.str "+", .str "-", .str "*"])) z (.lst [V.str o.sign]) z = some (.lst [V.str o.sign]) := upd_same
        generalize upd (upd H2 z0 (.lst [V.str "+", .str "-", .str "*"])) z (.lst [V.str o.sign]) = H3 at s3 hz3 ⊢
        refine ⟨_, rfl, z, W1, _, _, rfl, rfl, hz3, s3 _ _ hW12, line_le (by simp; omega), fun q1 hq1 => ?_⟩
        have s4 := same_new (o := .lst ([V.str o.sign] ++ (words u1).map V.str)) hq1
        refine ⟨_, rfl, q1, W2, _, _, rfl, rfl, upd_same, s4 _ _ (s3 _ _ hW2), line_le (by simp; omega), fun q hq => ⟨_, rfl, line_le (by show 2 ≤ 1000000; decide), fun p hp => ?_⟩⟩
        have s5 := same_new (o := .lst ([V.str o.sign] ++ (words u1).map V.str ++ (words u2).map V.str)) hq
        have s6 := same_new (o := .tup [V.ref q, .int at2]) hp
        exact k p q (.pair o u1 u2) at2 _ (s1.trans (s2.trans (s3.trans (s4.trans (s5.trans s6))))) upd_same (s6 _ _ (by rw [upd_same]; simp [words])) (s1.free (s2.free (s3.free (s4.free hq)))) ⟨k1, k2⟩ (by simp only [dep]; omega) (by simp only [nod]; omega) a2
      rintro σ G ⟨rfl, rfl⟩
      refine ⟨_, rfl, _, rfl, fun x H3 s3 lx => ⟨_, rfl, _, _, rfl, rfl, ⟨by decide, by decide, by decide⟩, _, _, rfl, rfl, ⟨by decide, by decide⟩, _, rfl, fun lo hlo => ⟨lo, rfl, log_ok (sm_b30 hlo), _, rfl, _, _, rfl, rfl, ⟨by decide, by decide⟩, _, rfl, fun hi hhi => ⟨hi, rfl, log_ok (sm_b30 hhi), line_le (by show 4 ≤ 1000000; decide), fun z hz => ?_⟩⟩⟩⟩
      have s4 := same_new (o := .lst [V.str "if", .str x, .str (toString lo), .str (toString hi)]) hz
      have hz4 : upd H3 z (.lst [V.str "if", .str x, .str (toString lo), .str (toString hi)]) z = some (.lst [V.str "if", .str x, .str (toString lo), .str (toString hi)]) := upd_same
      generalize upd H3 z (.lst [V.str "if", .str x, .str (toString lo), .str (toString hi)]) = H4 at s4 hz4 ⊢
      have s24 := s3.trans s4
      refine ⟨_, rfl, _, rfl, z, W1, _, _, rfl, rfl, hz4, s24 _ _ hW12, line_le (by simp; omega), fun q1 hq1 => ?_⟩
      have s5 := same_new (o := .lst ([V.str "if", .str x, .str (toString lo), .str (toString hi)] ++ (words u1).map V.str)) hq1
      refine ⟨_, rfl, q1, W2, _, _, rfl, rfl, upd_same, s5 _ _ (s24 _ _ hW2), line_le (by simp; omega), fun q hq => ⟨_, rfl, line_le (by show 2 ≤ 1000000; decide), fun p hp => ?_⟩⟩
      have s6 := same_new (o := .lst ([V.str "if", .str x, .str (toString lo), .str (toString hi)] ++ (words u1).map V.str ++ (words u2).map V.str)) hq
      have s7 := same_new (o := .tup [V.ref q, .int at2]) hp
      exact k p q (.guard x lo hi u1 u2) at2 _ (s1.trans (s2.trans (s24.trans (s5.trans (s6.trans s7))))) upd_same (s7 _ _ (by rw [upd_same]; simp [words])) (s1.free (s2.free (s24.free (s5.free hq)))) ⟨lx, hlo, hhi, k1, k2⟩ (by simp only [dep]; omega) (by simp only [nod]; omega) a2
    rintro σ G ⟨rfl, rfl⟩
    have p2 : 2 ≤ 2 ^ (n + 1) := by have := Nat.pow_le_pow_right (n := 2) (by decide) (show 1 ≤ n + 1 by omega); omega
    have lf : ∀ (W p : Addr) (u : Tm) (x : Str) (H2 : Hp), leaf u = true → words u = [x] → TmOk u → Same H H2 → H2 W = none → upd H2 W (.lst [.str x]) p = none → Q (.ref p) (upd (upd H2 W (.lst [.str x])) p (.tup [.ref W, .int (at_ + 1)])) := fun W p u x H2 l hw ok s2 hW hp => by
      have s3 := same_new (o := .lst [V.str x]) hW
      have s4 := same_new (o := .tup [V.ref W, .int (at_ + 1)]) hp
      have e : dep u = 1 ∧ nod u = 1 := by cases u <;> first | exact ⟨rfl, rfl⟩ | cases l
      exact k p W u (at_ + 1) _ (s2.trans (s3.trans s4)) upd_same (s4 _ _ (by rw [upd_same, hw]; rfl)) (s2.free hW) ok (by omega) (by omega) (by omega)
    refine ⟨fun σ G => σ = [some (.ref a), some (.int at_), some (.int (n : Nat)), some (.int (r / 8)), some (.int (r % 8)), none, none, none] ∧ H = G, ?_, ?_⟩
    · refine ⟨_, rfl, _, _, rfl, rfl, _, rfl, iteD (fun _ => ?_) (fun _ => ⟨rfl, rfl⟩)⟩
      exact ⟨_, rfl, _, rfl, fun z hz => ⟨z, rfl, log_ok (sm_b30 hz), line_le (by show 1 ≤ 1000000; decide), fun W hW => ⟨_, rfl, _, _, rfl, rfl, line_le (by show 2 ≤ 1000000; decide), fun p hp => lf W p (.num z) _ H rfl rfl hz (Same.refl _) hW hp⟩⟩⟩
    rintro σ G ⟨rfl, rfl⟩
    refine ⟨fun σ G => σ = [some (.ref a), some (.int at_), some (.int (n : Nat)), some (.int (r / 8)), some (.int (r % 8)), none, none, none] ∧ H = G, ?_, ?_⟩
    · refine ⟨_, rfl, rfl, _, rfl, iteD (fun _ => ?_) (fun _ => ⟨rfl, rfl⟩)⟩
      exact ⟨_, rfl, _, rfl, fun x x1 x2 x3 => ⟨line_le (by show 1 ≤ 1000000; decide), fun W hW => ⟨_, rfl, _, _, rfl, rfl, line_le (by show 2 ≤ 1000000; decide), fun p hp => lf W p (.place x) _ H rfl rfl ⟨x1, x2, x3⟩ (Same.refl _) hW hp⟩⟩⟩
    rintro σ G ⟨rfl, rfl⟩
    exact ⟨_, rfl, _, rfl, fun b ix H2 s2 lb li ok => ⟨line_le (by show 1 ≤ 1000000; decide), fun W hW => ⟨_, rfl, _, _, rfl, rfl, line_le (by show 2 ≤ 1000000; decide), fun p hp => lf W p (.read b ix) _ H2 rfl rfl ⟨lb, li, ok⟩ s2 hW hp⟩⟩⟩
theorem ok_wb (T : Txt K mg t) : ∀ n : Nat, n ≤ 4 → FnOk P w K mg base CX0 (n + 5) t.f_l_words_by t.d_l_words_by ["_law_cells", "_law_at", "_law_room"] (sp_wb K n)
  | 0, h => wb_step T h (m := 4) (by omega) (FnOk.none (sp := fun _ _ _ _ => False) fun _ _ _ _ h => h) fun _ _ _ h => absurd h (by omega)
  | n + 1, h => wb_step T h (by omega) (ok_wb T n (by omega)) fun _ _ _ _ h => h
theorem ok_l_words_by (T : Txt K mg t) : FnOk P w K mg base CX0 9 t.f_l_words_by t.d_l_words_by ["_law_cells", "_law_at", "_law_room"] (sp_wb K 4) := ok_wb T 4 (by omega)
end
end My

set_option Elab.async false
set_option linter.all false
set_option maxRecDepth 100000
set_option maxHeartbeats 4000000
namespace My
open PySem L2 M84
local macro_rules | `(tactic| walk_at "lk") => `(tactic| first | with_reducible exact lk0 | (refine lk1 (by decide +kernel) ?_; walk_at "lk") | rfl)
def AxP (G : Hp) (v : V) (e : Str × Nat) : Prop := ∃ q, v = .ref q ∧ G q = some (.tup [.str e.1, .int (e.2 : Nat)])
def TbP (L : Addr → Prop) (G : Hp) (v : V) (e : Str × List Str) : Prop := ∃ q c, v = .ref q ∧ L c ∧ G q = some (.tup [.str e.1, .ref c]) ∧ G c = some (.lst (e.2.map V.str))
def LtP (L : Addr → Prop) (G : Hp) (v : V) (e : Lt) : Prop := ∃ q c W, v = .ref q ∧ (L c ∧ L W) ∧ G q = some (.tup [.str e.1, .ref c, .ref W]) ∧ G c = some (.lst (e.2.1.map V.str)) ∧ G W = some (.lst ((words e.2.2).map V.str))
theorem AxP.same {G G' : Hp} {v : V} {e : Str × Nat} (h : AxP G v e) (s : ∀ b o, (∀ xs, o ≠ .lst xs) → G b = some o → G' b = some o) : AxP G' v e := by
  obtain ⟨q, rfl, h1⟩ := h
  exact ⟨q, rfl, s _ _ (by intro xs z; cases z) h1⟩
theorem TbP.same {L L' : Addr → Prop} {G G' : Hp} {v : V} {e : Str × List Str} (h : TbP L G v e) (l : ∀ c, L c → L' c) (s : ∀ b o, (∀ xs, o ≠ .lst xs) ∨ L b → G b = some o → G' b = some o) : TbP L' G' v e := by
  obtain ⟨q, c, rfl, hc, h1, h2⟩ := h
  exact ⟨q, c, rfl, l _ hc, s _ _ (.inl (by intro xs z; cases z)) h1, s _ _ (.inr hc) h2⟩
theorem LtP.same {L L' : Addr → Prop} {G G' : Hp} {v : V} {e : Lt} (h : LtP L G v e) (l : ∀ c, L c → L' c) (s : ∀ b o, (∀ xs, o ≠ .lst xs) ∨ L b → G b = some o → G' b = some o) : LtP L' G' v e := by
  obtain ⟨q, c, W, rfl, hc, h1, h2, h3⟩ := h
  exact ⟨q, c, W, rfl, ⟨l _ hc.1, l _ hc.2⟩, s _ _ (.inl (by intro xs z; cases z)) h1, s _ _ (.inr hc.1) h2, s _ _ (.inr hc.2) h3⟩
/-- what stays when the list B is put anew behind a growth -/
theorem put_keep {B : Addr} {G G2 : Hp} {xs ys : List V} (s : Same G G2) (hB : G2 B = some (.lst xs)) : ∀ b o, (∀ xs, o ≠ .lst xs) ∨ b ≠ B → G b = some o → upd G2 B (.lst ys) b = some o := fun b o h e => by
  have nb : b ≠ B := h.elim (fun z e' => by rw [e'] at e; rw [s _ _ e] at hB; cases hB; exact z _ rfl) id
  rw [upd_ne nb]
  exact s _ _ e
theorem cutI (ns : List Int) (lo hi : Option Int) : ∃ cs : List Int, cutV (ns.map V.int) lo hi = cs.map V.int := by
  refine ⟨(ns.drop (HT.sIx ns.length 0 lo)).take (HT.sIx ns.length ns.length hi - HT.sIx ns.length 0 lo), ?_⟩
  unfold cutV
  rw [List.length_map, List.map_take, List.map_drop]
theorem w2 {i : Int} (h0 : 0 ≤ i) (h4 : i < 2) : ∃ v : Int, atI [V.int 30, V.int (10 ^ (30 : Int).toNat - 2)] i = some (.int v) ∧ 0 < v ∧ v ≤ 999999999999999999999999999998 := by
  have e : (10 : Int) ^ (30 : Int).toNat - 2 = 999999999999999999999999999998 := by decide
  rw [e]
  have : i = 0 ∨ i = 1 := by omega
  rcases this with rfl | rfl
  · exact ⟨30, rfl, by decide, by decide⟩
  · exact ⟨_, rfl, by decide, by decide⟩
def sp_ns : Sp := fun vs H Q _ => ∃ (r : Int) (n : Nat), vs = [.int r, .int n] ∧ n ≤ 14 ∧ ∀ (D : Addr) (xs : List Str) (H' : Hp), Same H H' → H D = none → H' D = some (.lst (xs.map V.str)) → xs.length = n → (∀ x ∈ xs, Ltr x) → Q (.ref D) H'
def sp_pb (K : PySem.W.Frag) : Sp := fun vs H Q _ => ∃ (sc : Addr) (ns : List Int), vs = [.ref sc] ∧ SqL K H sc (ns.map V.int) ∧ ∀ (q A B C D : Addr) (p : Prg) (va vt vl : List V) (H' : Hp), Same H H' → H' q = some (.tup [.int p.wh, .ref A, .ref B, .ref C, .ref D]) → H' A = some (.lst va) → Paired (AxP H') va p.ax → H' B = some (.lst vt) → Paired (TbP (fun _ => True) H') vt p.tb →
  H' C = some (.lst vl) → Paired (LtP (fun _ => True) H') vl p.ls → H' D = some (.lst (p.os.map V.str)) → PrgOk p → (∀ e ∈ p.ls, nod e.2.2 ≤ 31) → Q (.ref q) H'
theorem mem_snoc {α : Type} {F : α → Prop} {l : List α} {a : α} (h : ∀ x ∈ l, F x) (ha : F a) : ∀ x ∈ l ++ [a], F x := fun x hx => (List.mem_append.mp hx).elim (h x) (fun z => by rw [List.mem_singleton.mp z]; exact ha)
section
variable {P : Program} {w : World} {K : PySem.W.Frag} {mg : Str → Option Value} {base : Heap} {t : Adr}
theorem ok_l_names_by (T : Txt K mg t) : FnOk P w K mg base CX0 3 t.f_l_names_by t.d_l_names_by ["_law_rest", "_law_many"] sp_ns := by
  have G_l_any_by := ok_l_any_by (P := P) (w := w) (base := base) T
  refine T.F_l_names_by.ok sc_l_names_by (fun vs H Q E h => ?_) (fun cdv A outer s H vs Q E hr h => ?_)
  · obtain ⟨r, n, rfl, _⟩ := h
    rfl
  · obtain ⟨r, n, rfl, hn, k⟩ := h
    refine ⟨_, (pss_cons (ps_set (i := 2) sc_l_names_by.nd rfl (Or.inl rfl) (pe_lst pa_nil))
      (pss_cons (ps_for PassesOwn.never rfl (pi_range1 rfl T.z_range (pa_cons (pv 1) pa_nil)) (pg_name (i := 3) sc_l_names_by.nd rfl (Or.inl rfl) (Or.inl rfl))
        (pss_cons (ps_expr (pe_bm PySem.F.plainAttrs_list PySem.F.slot_list_append PySem.F.type_list_append mt_append (pv 2) (pa_cons (pe_call G_l_any_by (hr.mono (by omega)) rfl T.m_l_any_by T.F_l_any_by.kp T.b_l_any_by .nil pass0 (pa_cons (pe_op op_fdiv (pv 0) (pe_op op_pow pe_int pe_int)) pa_nil)) pa_nil)))
        (pss_one (ps_set (i := 0) sc_l_names_by.nd rfl (Or.inl rfl) (pe_op op_fdiv (pv 0) pe_int)))))
      (pss_one (ps_ret (pv 2))))), ?_⟩
    refine ⟨line_le (by simp), fun D hD => ?_⟩
    refine ⟨_, rfl, _, rfl, by omega, by omega, ?_⟩
    refine for_range (n := ((n : Nat) : Int).toNat) (fun i σ G => ∃ (r' : Int) (o3 : Option V) (xs : List Str), σ = [some (.int r'), some (.int (n : Nat)), some (.ref D), o3] ∧ Same H G ∧ G D = some (.lst (xs.map V.str)) ∧ xs.length = i ∧ ∀ x ∈ xs, Ltr x) ⟨r, none, [], rfl, same_new hD, upd_same, rfl, by intro x hx; cases hx⟩ ?_ ?_
    · rintro i σ G hi ⟨r', o3, xs, rfl, sG, hG, lx, ok⟩
      refine ⟨_, rfl, .inl ⟨rfl, _, SqL.of hG⟩, _, rfl, _, _, rfl, rfl, ⟨by decide, by decide, by decide⟩, _, _, rfl, rfl, ⟨by decide, by decide⟩, _, rfl, fun x G2 s2 ltr => ⟨D, _, _, rfl, rfl, s2 _ _ hG, line_lt (by rw [List.length_map]; omega), ?_⟩⟩
      refine ⟨_, rfl, _, _, rfl, rfl, ⟨by decide, by decide⟩, _, _, xs ++ [x], rfl, same_fresh (sG.trans s2) hD, by rw [upd_same]; simp, by simp [lx], mem_snoc ok ltr⟩
    · rintro σ G ⟨r', o3, xs, rfl, sG, hG, lx, ok⟩
      exact ⟨_, rfl, k D xs G sG hD hG (by omega) ok⟩
theorem ok_l_program_by (T : Txt K mg t) : FnOk P w K mg base CX0 10 t.f_l_program_by t.d_l_program_by ["_law_script"] (sp_pb K) := by
  have G_l_any_by := ok_l_any_by (P := P) (w := w) (base := base) T
  have G_l_cell_at := ok_l_cell_at (P := P) (w := w) (base := base) T
  have G_l_long := ok_l_long (P := P) (w := w) (base := base) T
  have G_l_mixed := ok_l_mixed (P := P) (w := w) (base := base) T
  have G_l_names_by := ok_l_names_by (P := P) (w := w) (base := base) T
  have G_l_words_by := ok_l_words_by (P := P) (w := w) (base := base) T
  refine T.F_l_program_by.ok sc_l_program_by (fun vs H Q E h => ?_) (fun cdv A outer s H vs Q E hr h => ?_)
  · obtain ⟨sc, ns, rfl, _⟩ := h
    rfl
  · obtain ⟨sc, ns, rfl, hS, k⟩ := h
    refine ⟨_, (pss_cons (ps_set (i := 1) sc_l_program_by.nd rfl (Or.inl rfl) (pe_op op_add pe_int (pe_op op_mod (pe_op op_fdiv (pe_call G_l_cell_at (hr.mono (by omega)) rfl T.m_l_cell_at T.F_l_cell_at.kp T.b_l_cell_at .nil pass0 (pa_cons (pv 0) (pa_cons pe_int pa_nil))) pe_int) (pe_ix ix_list (pe_lst (pa_cons pe_int (pa_cons (pe_op op_sub (pe_op op_pow pe_int pe_int) pe_int) pa_nil))) (pe_op op_mod (pe_call G_l_cell_at (hr.mono (by omega)) rfl T.m_l_cell_at T.F_l_cell_at.kp T.b_l_cell_at .nil pass0 (pa_cons (pv 0) (pa_cons pe_int pa_nil))) pe_int) (fun _ _ => rfl)))))
      (pss_cons (ps_set (i := 2) sc_l_program_by.nd rfl (Or.inl rfl) (pe_lst pa_nil))
      (pss_cons (ps_for PassesOwn.never rfl (pi_range1 rfl T.z_range (pa_cons (pe_op op_mod (pe_call G_l_cell_at (hr.mono (by omega)) rfl T.m_l_cell_at T.F_l_cell_at.kp T.b_l_cell_at .nil pass0 (pa_cons (pv 0) (pa_cons pe_int pa_nil))) pe_int) pa_nil)) (pg_name (i := 3) sc_l_program_by.nd rfl (Or.inl rfl) (Or.inl rfl))
        (pss_cons (ps_set (i := 4) sc_l_program_by.nd rfl (Or.inl rfl) (pe_call G_l_mixed (hr.mono (by omega)) rfl T.m_l_mixed T.F_l_mixed.kp T.b_l_mixed .nil pass0 (pa_cons (pe_call G_l_cell_at (hr.mono (by omega)) rfl T.m_l_cell_at T.F_l_cell_at.kp T.b_l_cell_at .nil pass0 (pa_cons (pv 0) (pa_cons pe_int pa_nil))) (pa_cons (pv 3) pa_nil))))
        (pss_one (ps_expr (pe_bm PySem.F.plainAttrs_list PySem.F.slot_list_append PySem.F.type_list_append mt_append (pv 2) (pa_cons (pe_tup (pa_cons (pe_call G_l_any_by (hr.mono (by omega)) rfl T.m_l_any_by T.F_l_any_by.kp T.b_l_any_by .nil pass0 (pa_cons (pv 4) pa_nil)) (pa_cons (pe_op op_add pe_int (pe_op op_mod (pe_op op_fdiv (pv 4) (pe_op op_pow pe_int pe_int)) pe_int)) pa_nil))) pa_nil))))))
      (pss_cons (ps_set (i := 5) sc_l_program_by.nd rfl (Or.inl rfl) (pe_lst pa_nil))
      (pss_cons (ps_for PassesOwn.never rfl (pi_range1 rfl T.z_range (pa_cons (pe_op op_mod (pe_call G_l_cell_at (hr.mono (by omega)) rfl T.m_l_cell_at T.F_l_cell_at.kp T.b_l_cell_at .nil pass0 (pa_cons (pv 0) (pa_cons pe_int pa_nil))) pe_int) pa_nil)) (pg_name (i := 3) sc_l_program_by.nd rfl (Or.inl rfl) (Or.inl rfl))
        (pss_cons (ps_set (i := 4) sc_l_program_by.nd rfl (Or.inl rfl) (pe_call G_l_mixed (hr.mono (by omega)) rfl T.m_l_mixed T.F_l_mixed.kp T.b_l_mixed .nil pass0 (pa_cons (pe_call G_l_cell_at (hr.mono (by omega)) rfl T.m_l_cell_at T.F_l_cell_at.kp T.b_l_cell_at .nil pass0 (pa_cons (pv 0) (pa_cons pe_int pa_nil))) (pa_cons (pv 3) pa_nil))))
        (pss_one (ps_expr (pe_bm PySem.F.plainAttrs_list PySem.F.slot_list_append PySem.F.type_list_append mt_append (pv 5) (pa_cons (pe_tup (pa_cons (pe_call G_l_any_by (hr.mono (by omega)) rfl T.m_l_any_by T.F_l_any_by.kp T.b_l_any_by .nil pass0 (pa_cons (pv 4) pa_nil)) (pa_cons (pe_call G_l_names_by (hr.mono (by omega)) rfl T.m_l_names_by T.F_l_names_by.kp T.b_l_names_by .nil pass0 (pa_cons (pe_op op_fdiv (pv 4) pe_int) (pa_cons (pe_call G_l_long (hr.mono (by omega)) rfl T.m_l_long T.F_l_long.kp T.b_l_long .nil pass0 (pa_cons (pe_op op_fdiv (pv 4) (pe_op op_pow pe_int pe_int)) pa_nil)) pa_nil))) pa_nil))) pa_nil))))))
      (pss_cons (ps_set (i := 6) sc_l_program_by.nd rfl (Or.inl rfl) (pe_lst pa_nil))
      (pss_cons (ps_set (i := 7) sc_l_program_by.nd rfl (Or.inl rfl) pe_int)
      (pss_cons (ps_for PassesOwn.never rfl (pi_range1 rfl T.z_range (pa_cons (pe_op op_mod (pe_call G_l_cell_at (hr.mono (by omega)) rfl T.m_l_cell_at T.F_l_cell_at.kp T.b_l_cell_at .nil pass0 (pa_cons (pv 0) (pa_cons pe_int pa_nil))) pe_int) pa_nil)) (pg_name (i := 3) sc_l_program_by.nd rfl (Or.inl rfl) (Or.inl rfl))
        (pss_cons (ps_set (i := 4) sc_l_program_by.nd rfl (Or.inl rfl) (pe_call G_l_mixed (hr.mono (by omega)) rfl T.m_l_mixed T.F_l_mixed.kp T.b_l_mixed .nil pass0 (pa_cons (pe_call G_l_cell_at (hr.mono (by omega)) rfl T.m_l_cell_at T.F_l_cell_at.kp T.b_l_cell_at .nil pass0 (pa_cons (pv 0) (pa_cons pe_int pa_nil))) (pa_cons (pv 3) pa_nil))))
        (pss_cons (ps_asg (pe_call G_l_words_by (hr.mono (by omega)) rfl T.m_l_words_by T.F_l_words_by.kp T.b_l_words_by .nil pass0 (pa_cons (pe_slice sl_list (pv 0) (po_some pe_int) (po_some pe_int)) (pa_cons (pv 7) (pa_cons pe_int pa_nil)))) (pg_tup (n := 2) rfl (pgs_cons (pg_name (i := 8) sc_l_program_by.nd rfl (Or.inl rfl) (Or.inl rfl)) (pgs_cons (pg_name (i := 7) sc_l_program_by.nd rfl (Or.inl rfl) (Or.inl rfl)) pgs_nil))))
        (pss_one (ps_expr (pe_bm PySem.F.plainAttrs_list PySem.F.slot_list_append PySem.F.type_list_append mt_append (pv 6) (pa_cons (pe_tup (pa_cons (pe_call G_l_any_by (hr.mono (by omega)) rfl T.m_l_any_by T.F_l_any_by.kp T.b_l_any_by .nil pass0 (pa_cons (pv 4) pa_nil)) (pa_cons (pe_call G_l_names_by (hr.mono (by omega)) rfl T.m_l_names_by T.F_l_names_by.kp T.b_l_names_by .nil pass0 (pa_cons (pe_op op_fdiv (pv 4) pe_int) (pa_cons (pe_call G_l_long (hr.mono (by omega)) rfl T.m_l_long T.F_l_long.kp T.b_l_long .nil pass0 (pa_cons (pe_op op_fdiv (pv 4) (pe_op op_pow pe_int pe_int)) pa_nil)) pa_nil))) (pa_cons (pv 8) pa_nil)))) pa_nil)))))))
      (pss_cons (ps_set (i := 9) sc_l_program_by.nd rfl (Or.inl rfl) (pe_call G_l_names_by (hr.mono (by omega)) rfl T.m_l_names_by T.F_l_names_by.kp T.b_l_names_by .nil pass0 (pa_cons (pe_call G_l_mixed (hr.mono (by omega)) rfl T.m_l_mixed T.F_l_mixed.kp T.b_l_mixed .nil pass0 (pa_cons (pe_call G_l_cell_at (hr.mono (by omega)) rfl T.m_l_cell_at T.F_l_cell_at.kp T.b_l_cell_at .nil pass0 (pa_cons (pv 0) (pa_cons pe_int pa_nil))) (pa_cons pe_int pa_nil))) (pa_cons (pe_op op_mod (pe_call G_l_cell_at (hr.mono (by omega)) rfl T.m_l_cell_at T.F_l_cell_at.kp T.b_l_cell_at .nil pass0 (pa_cons (pv 0) (pa_cons pe_int pa_nil))) pe_int) pa_nil))))
      (pss_one (ps_ret (pe_tup (pa_cons (pv 1) (pa_cons (pv 2) (pa_cons (pv 5) (pa_cons (pv 6) (pa_cons (pv 9) pa_nil))))))))))))))))), ?_⟩
    refine ⟨_, rfl, sc, ns, 0, rfl, hS, by decide, fun c0 => ⟨_, _, rfl, rfl, ⟨by decide, by decide⟩, _, _, rfl, rfl, ⟨by decide, by decide, by decide⟩, _, _, rfl, rfl, line_le (by show 2 ≤ 1000000; decide), fun z1 hz1 => ?_⟩⟩
    have u1 : Same H (upd H z1 (.lst [.int 30, .int (10 ^ (30 : Int).toNat - 2)])) := same_new hz1
    have f1 : upd H z1 (.lst [.int 30, .int (10 ^ (30 : Int).toNat - 2)]) z1 = some (.lst [.int 30, .int (10 ^ (30 : Int).toNat - 2)]) := upd_same
    generalize upd H z1 (.lst [.int 30, .int (10 ^ (30 : Int).toNat - 2)]) = H1 at u1 f1 ⊢
    refine ⟨_, rfl, sc, ns, 0, rfl, u1.seq hS, by decide, fun c1 => ?_⟩
    obtain ⟨v, hv, v0, v30⟩ := w2 (i := c1 % 2) (by omega) (by omega)
    refine ⟨_, _, rfl, rfl, (by show (0 : Int) < 2; decide), z1, _, _, .int v, rfl, rfl, SqL.of f1, hv, _, _, rfl, rfl, v0, _, _, rfl, rfl, ?_⟩
    dsimp only
    obtain ⟨wh, hwh, wp⟩ : ∃ wh : Nat, 2 + c0 / 2 % v = (wh : Nat) ∧ (2 ≤ wh ∧ wh < 10 ^ 30) := by
      have h1 := Int.emod_nonneg (c0 / 2) (show v ≠ 0 by omega)
      have h2 := Int.emod_lt_of_pos (c0 / 2) v0
      have e : (10 : Nat) ^ 30 = 1000000000000000000000000000000 := by decide
      rw [e]
      exact ⟨(2 + c0 / 2 % v).toNat, by omega, by omega, by omega⟩
    rw [hwh]
    -- axes
    refine ⟨line_le (by simp), fun A0 hA0 => ?_⟩
    have sA : Same H1 (upd H1 A0 (.lst [])) := same_new hA0
    refine ⟨_, rfl, sc, ns, 1, rfl, (u1.trans sA).seq hS, by decide, fun c2 => ⟨_, _, rfl, rfl, (by show (0 : Int) < 9; decide), _, rfl, by omega, by omega, ?_⟩⟩
    refine for_range (n := (c2 % 9).toNat) (fun i σ G => ∃ (o3 o4 : Option V) (vs : List V) (es : List (Str × Nat)), σ = [some (.ref sc), some (.int (wh : Nat)), some (.ref A0), o3, o4, none, none, none, none, none] ∧ Same H1 G ∧ G A0 = some (.lst vs) ∧ Paired (AxP G) vs es ∧ es.length = i ∧ ∀ e ∈ es, Ltr e.1 ∧ 1 ≤ e.2 ∧ e.2 ≤ 60) ⟨none, none, [], [], rfl, sA, upd_same, .nil, rfl, by intro e he; cases he⟩ ?_ ?_
    · rintro i σ G hi ⟨o3, o4, vs, es, rfl, sG, hG, pr, le, ok⟩
      have lv := Paired.length pr
      refine ⟨_, rfl, sc, ns, 1, rfl, (u1.trans sG).seq hS, by decide, fun c3 => ⟨_, rfl, _, _, rfl, fun r => ?_⟩⟩
      refine ⟨_, rfl, .inl ⟨rfl, _, SqL.of hG⟩, _, rfl, _, rfl, fun x G2 s2 lx => ⟨_, rfl, _, _, rfl, rfl, ⟨by decide, by decide, by decide⟩, _, _, rfl, rfl, ⟨by decide, by decide⟩, _, _, rfl, rfl, (by show (0 : Int) < 60; decide), _, _, rfl, rfl, line_le (by show 2 ≤ 1000000; decide), fun q hq => ?_⟩⟩
      obtain ⟨m, hm, m1, m60⟩ : ∃ m : Nat, 1 + r / 10 ^ (9 : Int).toNat % 60 = (m : Int) ∧ 1 ≤ m ∧ m ≤ 60 := ⟨(1 + r / 10 ^ (9 : Int).toNat % 60).toNat, by omega, by omega, by omega⟩
      dsimp only
      rw [hm]
      have s3 := s2.trans (same_new (o := .tup [V.str x, .int (m : Nat)]) hq)
      have hq3 : upd G2 q (.tup [V.str x, .int (m : Nat)]) q = some (.tup [V.str x, .int (m : Nat)]) := upd_same
      generalize upd G2 q (.tup [V.str x, .int (m : Nat)]) = G3 at s3 hq3 ⊢
      refine ⟨A0, _, _, rfl, rfl, s3 _ _ hG, line_lt (by omega), _, _, _, es ++ [(x, m)], rfl, same_fresh (sG.trans s3) hA0, upd_same, Paired.snoc ⟨q, rfl, by rw [upd_ne (ne_of hq3 (s3 _ _ hG) (by intro z; cases z))]; exact hq3⟩ (Paired.mapP pr fun _ _ z => z.same fun b o h e => put_keep s3 (s3 _ _ hG) b o (.inl h) e), by simp [le], mem_snoc ok ⟨lx, m1, m60⟩⟩
    rintro σ H2 ⟨o3, o4, va, ax, rfl, s2, hA2, pA, lA, okA⟩
    -- tables
    refine ⟨line_le (by simp), fun B0 hB0 => ?_⟩
    have sB : Same H2 (upd H2 B0 (.lst [])) := same_new hB0
    have u2 := u1.trans s2
    refine ⟨_, rfl, sc, ns, 2, rfl, (u2.trans sB).seq hS, by decide, fun c4 => ⟨_, _, rfl, rfl, (by show (0 : Int) < 7; decide), _, rfl, by omega, by omega, ?_⟩⟩
    refine for_range (n := (c4 % 7).toNat) (fun i σ G => ∃ (o3 o4 : Option V) (vs : List V) (es : List (Str × List Str)), σ = [some (.ref sc), some (.int (wh : Nat)), some (.ref A0), o3, o4, some (.ref B0), none, none, none, none] ∧ Same H2 G ∧ G B0 = some (.lst vs) ∧ Paired (TbP (fun c => c ≠ B0) G) vs es ∧ es.length = i ∧ ∀ e ∈ es, TbOk e) ⟨o3, o4, [], [], rfl, sB, upd_same, .nil, rfl, by intro e he; cases he⟩ ?_ ?_
    · rintro i σ G hi ⟨o3, o4, vs, es, rfl, sG, hG, pr, le, ok⟩
      have lv := Paired.length pr
      refine ⟨_, rfl, sc, ns, 2, rfl, (u2.trans sG).seq hS, by decide, fun c3 => ⟨_, rfl, _, _, rfl, fun r => ?_⟩⟩
      refine ⟨_, rfl, .inl ⟨rfl, _, SqL.of hG⟩, _, rfl, _, rfl, fun x G2 s2 lx => ⟨_, rfl, _, _, rfl, rfl, ⟨by decide, by decide⟩, _, rfl, _, _, rfl, rfl, ⟨by decide, by decide, by decide⟩, _, _, rfl, rfl, ⟨by decide, by decide⟩, _, rfl, fun m hm => ⟨_, m, rfl, by omega, fun D xs G3 s3 hD hx lx3 ok3 => ⟨line_le (by show 2 ≤ 1000000; decide), fun q hq => ?_⟩⟩⟩⟩
      have s4 := (s2.trans s3).trans (same_new (o := .tup [V.str x, .ref D]) hq)
      have hq4 : upd G3 q (.tup [V.str x, .ref D]) q = some (.tup [V.str x, .ref D]) := upd_same
      have hD4 : upd G3 q (.tup [V.str x, .ref D]) D = some (.lst (xs.map V.str)) := same_new hq _ _ hx
      have dB : D ≠ B0 := (ne_of_none (s2 _ _ hG) hD).symm
      generalize upd G3 q (.tup [V.str x, .ref D]) = G4 at s4 hq4 hD4 ⊢
      refine ⟨B0, _, _, rfl, rfl, s4 _ _ hG, line_lt (by omega), _, _, _, es ++ [(x, xs)], rfl, same_fresh (sG.trans s4) hB0, upd_same, Paired.snoc ⟨q, D, rfl, dB, by rw [upd_ne (ne_of hq4 (s4 _ _ hG) (by intro z; cases z))]; exact hq4, by rw [upd_ne dB]; exact hD4⟩ (Paired.mapP pr fun _ _ z => z.same (fun _ z => z) fun b o h e => put_keep s4 (s4 _ _ hG) b o h e), by simp [le], mem_snoc ok ⟨lx, ok3, by show xs.length ≤ 12; omega⟩⟩
    rintro σ H3 ⟨o3, o4, vt, tb, rfl, s3, hB3, pB, lB, okB⟩
    -- lets
    refine ⟨line_le (by simp), fun C0 hC0 => ?_⟩
    have sC : Same H3 (upd H3 C0 (.lst [])) := same_new hC0
    have u3 := u2.trans s3
    refine ⟨_, rfl, sc, ns, 3, rfl, (u3.trans sC).seq hS, by decide, fun c5 => ⟨_, _, rfl, rfl, (by show (0 : Int) < 9; decide), _, rfl, by omega, by omega, ?_⟩⟩
    refine for_range (n := (c5 % 9).toNat) (fun i σ G => ∃ (o3 o4 o8 : Option V) (at_ : Int) (vs : List V) (es : List Lt), σ = [some (.ref sc), some (.int (wh : Nat)), some (.ref A0), o3, o4, some (.ref B0), some (.ref C0), some (.int at_), o8, none] ∧ Same H3 G ∧ G C0 = some (.lst vs) ∧ Paired (LtP (fun c => c ≠ C0) G) vs es ∧ es.length = i ∧ 0 ≤ at_ ∧ ∀ e ∈ es, LtOk e ∧ nod e.2.2 ≤ 31) ⟨o3, o4, none, 0, [], [], rfl, sC, upd_same, .nil, rfl, by decide, by intro e he; cases he⟩ ?_ ?_
    · rintro i σ G hi ⟨o3, o4, o8, at_, vs, es, rfl, sG, hG, pr, le, a0, ok⟩
      have lv := Paired.length pr
      refine ⟨_, rfl, sc, ns, 3, rfl, (u3.trans sG).seq hS, by decide, fun c3 => ⟨_, rfl, _, _, rfl, fun r => ?_⟩⟩
      obtain ⟨cs, hcs⟩ := cutI ns (some 5) (some 68)
      refine ⟨_, rfl, _, rfl, _, rfl, sc, _, rfl, (u3.trans sG).seq hS, fun c hc => ?_⟩
      rw [hcs]
      have s1 := same_new (o := .lst (cs.map V.int)) hc
      refine ⟨_, rfl, c, cs, at_, rfl, SqL.of upd_same, a0, fun p1 W1 u at1 G1 s1' hp1 hW1 fW k1 d1 m1 a1 => ?_⟩
      have sg1 := s1.trans s1'
      refine ⟨p1, _, rfl, SqT.of hp1, rfl, _, _, rfl, _, _, rfl, rfl, ?_⟩
      refine ⟨_, rfl, .inl ⟨rfl, _, SqL.of (sg1 _ _ hG)⟩, _, rfl, _, rfl, fun x G2 s2 lx => ⟨_, rfl, _, _, rfl, rfl, ⟨by decide, by decide⟩, _, rfl, _, _, rfl, rfl, ⟨by decide, by decide, by decide⟩, _, _, rfl, rfl, ⟨by decide, by decide⟩, _, rfl, fun m hm => ⟨_, m, rfl, by omega, fun D xs G3 s3 hD hx lx3 ok3 => ⟨_, rfl, line_le (by show 3 ≤ 1000000; decide), fun q hq => ?_⟩⟩⟩⟩
      have sq := same_new (o := .tup [V.str x, .ref D, .ref W1]) hq
      have s4 := (sg1.trans (s2.trans s3)).trans sq
      have hq4 : upd G3 q (.tup [V.str x, .ref D, .ref W1]) q = some (.tup [V.str x, .ref D, .ref W1]) := upd_same
      have hD4 : upd G3 q (.tup [V.str x, .ref D, .ref W1]) D = some (.lst (xs.map V.str)) := sq _ _ hx
      have hW4 : upd G3 q (.tup [V.str x, .ref D, .ref W1]) W1 = some (.lst ((words u).map V.str)) := sq _ _ ((s2.trans s3) _ _ hW1)
      have dC : D ≠ C0 := (ne_of_none ((sg1.trans s2) _ _ hG) hD).symm
      have wC : W1 ≠ C0 := (ne_of_none (s1 _ _ hG) fW).symm
      generalize upd G3 q (.tup [V.str x, .ref D, .ref W1]) = G4 at s4 hq4 hD4 hW4 ⊢
      refine ⟨C0, _, _, rfl, rfl, s4 _ _ hG, line_lt (by omega), _, _, _, _, _, es ++ [(x, xs, u)], rfl, same_fresh (sG.trans s4) hC0, upd_same, Paired.snoc ⟨q, D, W1, rfl, ⟨dC, wC⟩, by rw [upd_ne (ne_of hq4 (s4 _ _ hG) (by intro z; cases z))]; exact hq4, by rw [upd_ne dC]; exact hD4, by rw [upd_ne wC]; exact hW4⟩ (Paired.mapP pr fun _ _ z => z.same (fun _ z => z) fun b o h e => put_keep s4 (s4 _ _ hG) b o h e), by simp [le], a1, mem_snoc ok ⟨⟨lx, ok3, by show xs.length ≤ 12; omega, k1, d1⟩, by show nod u ≤ 31; have : 2 ^ (4 + 1) = 32 := rfl; omega⟩⟩
    rintro σ H4 ⟨o3, o4, o8, at_, vl, ls, rfl, s4, hC4, pC, lC, _, okC⟩
    have u4 := u3.trans s4
    refine ⟨_, rfl, sc, ns, 4, rfl, u4.seq hS, by decide, fun c6 => ⟨_, _, rfl, fun r => ⟨_, rfl, sc, ns, 4, rfl, u4.seq hS, by decide, fun c7 => ⟨_, _, rfl, rfl, (by show (0 : Int) < 15; decide), r, (c7 % 15).toNat, ?_, by omega, fun D xs H5 s5 hD hx lx5 ok5 => ?_⟩⟩⟩⟩
    · show [V.int r, V.int (c7 % 15)] = _
      rw [show ((c7 % 15).toNat : Int) = c7 % 15 by omega]
    refine ⟨_, rfl, _, rfl, _, rfl, _, rfl, _, rfl, line_le (by show 5 ≤ 1000000; decide), fun q hq => ?_⟩
    have s6 := same_new (o := .tup [V.int (wh : Nat), .ref A0, .ref B0, .ref C0, .ref D]) hq
    have s46 := s5.trans s6
    have s36 := s4.trans s46
    have s26 := s3.trans s36
    refine k q A0 B0 C0 D ⟨wh, ax, tb, ls, xs⟩ va vt vl _ (u4.trans s46) upd_same (s26 _ _ hA2) (Paired.mapP pA fun _ _ z => z.same fun b o _ e => s26 _ _ e) (s36 _ _ hB3) (Paired.mapP pB fun _ _ z => z.same (fun _ _ => trivial) fun b o _ e => s36 _ _ e) (s46 _ _ hC4) (Paired.mapP pC fun _ _ z => z.same (fun _ _ => trivial) fun b o _ e => s46 _ _ e) (s6 _ _ hx) ⟨wp.1, wp.2, okA, okB, fun e he => ⟨(okC e he).1, ?_⟩, ok5, by show ax.length ≤ 20; omega, by show tb.length ≤ 20; omega, by show ls.length ≤ 20; omega, by show xs.length ≤ 20; omega⟩ fun e he => (okC e he).2
    have h1 := (okC e he).1.ln
    have h2 := (okC e he).2
    have h3 := words_len e.2.2
    show (e.1 :: (e.2.1 ++ ("=" : Str) :: words e.2.2)).length ≤ 1000
    simp only [List.length_cons, List.length_append]
    omega
end
end My

set_option Elab.async false
set_option linter.all false
set_option maxRecDepth 100000
set_option maxHeartbeats 4000000
namespace My
open PySem L2 M84
local macro_rules | `(tactic| walk_at "lk") => `(tactic| first | with_reducible exact lk0 | (refine lk1 (by decide +kernel) ?_; walk_at "lk") | rfl)
/-- a word: not too long, no blank and no end of a row in it -/
structure GoodW (x : Str) : Prop where
  ln : x.length ≤ 1000
  sg : ∀ c ∈ sg x, 33 ≤ c
theorem gw_ltr {x : Str} (h : Ltr x) : GoodW x := ⟨by have := h.ln; omega, fun c hc => by have := h.dg c hc; omega⟩
theorem gw_int {z : Int} (h : B30 z) : GoodW (toString z : Str) := ⟨by have := int_lenB h; omega, fun c hc => by
  have hc : c ∈ M84.sg (Str.ofString (toString z)) := hc
  rw [sg_int] at hc
  have := zsg_dg z c hc
  omega⟩
theorem gw_words : ∀ {u : Tm}, TmOk u → ∀ x ∈ words u, GoodW x
  | .num z, h, x, hx => by rw [List.mem_singleton.mp hx]; exact gw_int h
  | .place y, h, x, hx => by rw [List.mem_singleton.mp hx]; exact gw_ltr h.1
  | .read a ix, h, x, hx => by
    rw [List.mem_singleton.mp hx]
    have li := insW_lenB (fun e he => ixW (h.2.2 e he)) h.2.1
    have l20 := h.1.ln
    have lo : ("[" : Str).length = 1 := by decide +kernel
    have lc : ("]" : Str).length = 1 := by decide +kernel
    refine ⟨by rw [Str.length_append, Str.length_append, Str.length_append]; omega, fun c hc => ?_⟩
    rw [sg_app, sg_app, sg_app, e_open, e_close] at hc
    simp only [List.mem_append] at hc
    rcases hc with ((hc | hc) | hc) | hc
    · have := h.1.dg c hc; omega
    · rw [show c = 91 by simpa [M84.sg] using hc]; decide
    · have := ins_sgn h.2.2 c hc
      unfold IxC at this
      omega
    · rw [show c = 93 by simpa [M84.sg] using hc]; decide
  | .sum y b, h, x, hx => by
    simp only [words, List.mem_append, List.mem_cons, List.not_mem_nil, or_false] at hx
    rcases hx with (rfl | rfl) | hx
    · exact gw_ltr ltr_sum
    · exact gw_ltr h.1
    · exact gw_words h.2 x hx
  | .pair o l r, h, x, hx => by
    simp only [words, List.mem_append, List.mem_cons, List.not_mem_nil, or_false] at hx
    rcases hx with (rfl | hx) | hx
    · cases o <;> exact ⟨by decide +kernel, by decide +kernel⟩
    · exact gw_words h.1 x hx
    · exact gw_words h.2 x hx
  | .guard y lo hi l r, h, x, hx => by
    simp only [words, List.mem_append, List.mem_cons, List.not_mem_nil, or_false] at hx
    rcases hx with ((rfl | rfl | rfl | rfl) | hx) | hx
    · exact gw_ltr ltr_if
    · exact gw_ltr h.1
    · exact gw_int h.2.1
    · exact gw_int h.2.2.1
    · exact gw_words h.2.2.2.1 x hx
    · exact gw_words h.2.2.2.2 x hx
structure RowG (ws : List Str) : Prop where
  gw : ∀ x ∈ ws, GoodW x
  ne : ws ≠ []
  ln : ws.length ≤ 140
theorem b60 {n : Nat} (h : n ≤ 60) : B30 (n : Int) := by unfold B30; exact Nat.lt_of_le_of_lt (show (n : Int).natAbs ≤ 60 by omega) (by decide)
theorem row_ax {e : Str × Nat} (h : Ltr e.1) (h60 : e.2 ≤ 60) : RowG (("axis" : Str) :: axW e) := ⟨fun x hx => by
  simp only [axW, List.mem_cons, List.not_mem_nil, or_false] at hx
  rcases hx with rfl | rfl | rfl
  · exact ⟨by decide +kernel, by decide +kernel⟩
  · exact gw_ltr h
  · exact gw_int (b60 h60), by simp, by simp [axW]⟩
theorem row_tb {e : Str × List Str} (h : TbOk e) : RowG (("table" : Str) :: tbW e) := ⟨fun x hx => by
  simp only [tbW, List.mem_cons] at hx
  rcases hx with rfl | rfl | hx
  · exact ⟨by decide +kernel, by decide +kernel⟩
  · exact gw_ltr h.nm
  · exact gw_ltr (h.ax x hx), by simp, by have := h.ln; simp [tbW]; omega⟩
theorem row_lt {e : Lt} (h : LtOk e) (hn : nod e.2.2 ≤ 31) : RowG (("let" : Str) :: ltW e) := ⟨fun x hx => by
  simp only [ltW, List.mem_cons, List.mem_append] at hx
  rcases hx with rfl | rfl | hx | rfl | hx
  · exact ⟨by decide +kernel, by decide +kernel⟩
  · exact gw_ltr h.nm
  · exact gw_ltr (h.ax x hx)
  · exact ⟨by decide +kernel, by decide +kernel⟩
  · exact gw_words h.tm x hx, by simp, by
    have := h.ln
    have := words_len e.2.2
    simp only [ltW, List.length_cons, List.length_append]
    omega⟩
theorem row_ou {x : Str} (h : Ltr x) : RowG [("out" : Str), x] := ⟨fun y hy => by
  simp only [List.mem_cons, List.not_mem_nil, or_false] at hy
  rcases hy with rfl | rfl
  · exact ⟨by decide +kernel, by decide +kernel⟩
  · exact gw_ltr h, by simp, by simp⟩
theorem rows_ok {p : Prg} (h : PrgOk p) (hn : ∀ e ∈ p.ls, nod e.2.2 ≤ 31) : ∀ ws ∈ rowsP p, RowG ws := by
  intro ws hw
  unfold rowsP at hw
  rcases List.mem_cons.mp hw with rfl | hw
  · refine ⟨fun x hx => ?_, by simp, by simp⟩
    simp only [List.mem_cons, List.not_mem_nil, or_false] at hx
    rcases hx with rfl | rfl
    · exact ⟨by decide +kernel, by decide +kernel⟩
    · exact gw_int (show B30 (p.wh : Int) from h.w30)
  · obtain ⟨e, he, rfl⟩ := List.mem_map.mp hw
    unfold kwP at he
    simp only [List.mem_append, List.mem_map] at he
    rcases he with ⟨a, ha, rfl⟩ | ⟨a, ha, rfl⟩ | ⟨a, ha, rfl⟩ | ⟨a, ha, rfl⟩
    · exact row_ax (h.ax a ha).1 (h.ax a ha).2.2
    · exact row_tb (h.tb a ha)
    · exact row_lt (h.ls a ha).1 (hn a ha)
    · exact row_ou (h.os a ha)
theorem map_sg_inj : ∀ {l m : List Str}, l.map sg = m.map sg → l = m
  | [], [], _ => rfl
  | [], b :: m, e => by cases e
  | a :: l, [], e => by cases e
  | a :: l, b :: m, e => by
    rw [List.map_cons, List.map_cons] at e
    injection e with e1 e2
    rw [sg_inj e1, map_sg_inj e2]
theorem split_join {c : Nat} {ws : List Str} (ne : ws ≠ []) (h : ∀ x ∈ ws, c ∉ sg x) : Txt.split (Txt.join ⟨#[c]⟩ ws) ⟨#[c]⟩ = ws := by
  refine map_sg_inj ?_
  rw [split_eq, sg_txtjoin, spl_jn (by simpa using ne)]
  intro p hp
  obtain ⟨x, hx, rfl⟩ := List.mem_map.mp hp
  exact h x hx
theorem sum_1000 : ∀ {ws : List Str}, (∀ x ∈ ws, x.length ≤ 1000) → (ws.map (·.length)).sum ≤ 1000 * ws.length
  | [], _ => by simp
  | x :: r, h => by
    have := sum_1000 (ws := r) fun y hy => h y (.tail _ hy)
    have := h x (.head _)
    simp only [List.map_cons, List.sum_cons, List.length_cons]
    omega
theorem sum_k {k : Nat} : ∀ {ws : List Str}, (∀ x ∈ ws, x.length ≤ k) → (ws.map (·.length)).sum ≤ k * ws.length
  | [], _ => by simp
  | x :: r, h => by
    have := sum_k (k := k) (ws := r) fun y hy => h y (.tail _ hy)
    have := h x (.head _)
    simp only [List.map_cons, List.sum_cons, List.length_cons, Nat.mul_add, Nat.mul_one]
    omega
theorem join_len (c : Nat) (ws : List Str) : (Txt.join ⟨#[c]⟩ ws).length ≤ (ws.map (·.length)).sum + ws.length := by
  have e : Txt.join ⟨#[c]⟩ ws = Str.join ⟨#[c]⟩ ws := StrLaws.glued_eq_join _ _
  have j := StrLaws.join_length_le ⟨#[c]⟩ ws
  have p : (⟨#[c]⟩ : Str).length = 1 := rfl
  rw [e]
  rw [p] at j
  omega
theorem row_len {ws : List Str} (h : RowG ws) : (Txt.join " " ws).length ≤ 140140 := by
  rw [e_blank]
  have := join_len 32 ws
  have := sum_1000 fun x hx => (h.gw x hx).ln
  have := h.ln
  omega
theorem row_split {ws : List Str} (h : RowG ws) : Txt.split (Txt.join " " ws) " " = ws := by
  rw [e_blank]
  exact split_join h.ne fun x hx m => by have := (h.gw x hx).sg _ m; omega
theorem row_10 {ws : List Str} (h : RowG ws) : 10 ∉ sg (Txt.join " " ws) := fun m => by
  rw [e_blank, sg_txtjoin] at m
  rcases mem_jn m with z | ⟨p, hp, z⟩
  · omega
  · obtain ⟨x, hx, rfl⟩ := List.mem_map.mp hp
    have := (h.gw x hx).sg _ z
    omega
def txP (p : Prg) : Str := Txt.join "\n" ((rowsP p).map (Txt.join " "))
theorem rows_len {p : Prg} (h : PrgOk p) : (rowsP p).length ≤ 81 := by have := kw_len h; unfold rowsP; simp; omega
theorem rowsT_sum {p : Prg} (h : PrgOk p) (hn : ∀ e ∈ p.ls, nod e.2.2 ≤ 31) : (((rowsP p).map (Txt.join " ")).map (·.length)).sum ≤ 140140 * 81 := by
  have l := rows_len h
  have := sum_k (k := 140140) (ws := (rowsP p).map (Txt.join " ")) fun x hx => by
    obtain ⟨ws, hw, rfl⟩ := List.mem_map.mp hx
    exact row_len (rows_ok h hn ws hw)
  rw [List.length_map] at this
  omega
theorem tx_len {p : Prg} (h : PrgOk p) (hn : ∀ e ∈ p.ls, nod e.2.2 ≤ 31) : (txP p).length ≤ 12000000 := by
  unfold txP
  rw [e_row]
  have l := rows_len h
  have := join_len 10 ((rowsP p).map (Txt.join " "))
  have := rowsT_sum h hn
  rw [List.length_map] at *
  omega
theorem tx_split {p : Prg} (h : PrgOk p) (hn : ∀ e ∈ p.ls, nod e.2.2 ≤ 31) : Txt.split (txP p) "\n" = (rowsP p).map (Txt.join " ") := by
  unfold txP
  rw [e_row]
  refine split_join (by unfold rowsP; simp) fun x hx => ?_
  obtain ⟨ws, hw, rfl⟩ := List.mem_map.mp hx
  exact row_10 (rows_ok h hn ws hw)
theorem join2 (a b : Str) : Txt.join " " [a, b] = a ++ " " ++ b := by
  refine sg_inj ?_
  rw [e_blank, sg_txtjoin, sg_app, sg_app]
  simp [jn, sg]
theorem join3 (a b c : Str) : Txt.join " " [a, b, c] = a ++ " " ++ b ++ " " ++ c := by
  refine sg_inj ?_
  rw [e_blank, sg_txtjoin, sg_app, sg_app, sg_app, sg_app]
  simp [jn, sg]
end My

set_option Elab.async false
set_option linter.all false
set_option maxRecDepth 100000
set_option maxHeartbeats 4000000
namespace My
open PySem L2 M84
local macro_rules | `(tactic| walk_at "lk") => `(tactic| first | with_reducible exact lk0 | (refine lk1 (by decide +kernel) ?_; walk_at "lk") | rfl)
structure PgAt (H : Hp) (A B C D : Addr) (p : Prg) : Prop where
  a : ∃ va, H A = some (.lst va) ∧ Paired (AxP H) va p.ax
  b : ∃ vt, H B = some (.lst vt) ∧ Paired (TbP (fun _ => True) H) vt p.tb
  c : ∃ vl, H C = some (.lst vl) ∧ Paired (LtP (fun _ => True) H) vl p.ls
  d : H D = some (.lst (p.os.map V.str))
theorem PgAt.same {H H' : Hp} {A B C D : Addr} {p : Prg} (h : PgAt H A B C D p) (s : Same H H') : PgAt H' A B C D p := by
  obtain ⟨⟨va, a1, a2⟩, ⟨vt, b1, b2⟩, ⟨vl, c1, c2⟩, d⟩ := h
  exact ⟨⟨va, s _ _ a1, Paired.mapP a2 fun _ _ z => z.same fun b o _ e => s _ _ e⟩, ⟨vt, s _ _ b1, Paired.mapP b2 fun _ _ z => z.same (fun _ _ => trivial) fun b o _ e => s _ _ e⟩, ⟨vl, s _ _ c1, Paired.mapP c2 fun _ _ z => z.same (fun _ _ => trivial) fun b o _ e => s _ _ e⟩, s _ _ d⟩
def sp_rows : Sp := fun vs H Q _ => ∃ (q A B C D : Addr) (p : Prg), vs = [.ref q] ∧ H q = some (.tup [.int p.wh, .ref A, .ref B, .ref C, .ref D]) ∧ PgAt H A B C D p ∧ PrgOk p ∧ (∀ e ∈ p.ls, nod e.2.2 ≤ 31) ∧ ∀ (R : Addr) (H' : Hp), Same H H' → H R = none → H' R = some (.lst (((rowsP p).map (Txt.join " ")).map V.str)) → Q (.ref R) H'
theorem snoc_map {α : Type} {xs : List Str} {l : List α} {f : α → Str} {i : Nat} {e : α} (he : l[i]? = some e) : (xs ++ (l.take (i + 1)).map f).map V.str = (xs ++ (l.take i).map f).map V.str ++ [V.str (f e)] := by
  rw [List.take_add_one, he, Option.toList_some]
  simp
section
variable {P : Program} {w : World} {K : PySem.W.Frag} {mg : Str → Option Value} {base : Heap} {t : Adr}
theorem ok_l_rows (T : Txt K mg t) : FnOk P w K mg base CX0 1 t.f_l_rows t.d_l_rows ["_law_program"] sp_rows := by
  refine T.F_l_rows.ok sc_l_rows (fun vs H Q E h => ?_) (fun cdv A outer s H vs Q E hr h => ?_)
  · obtain ⟨q, A, B, C, D, p, rfl, _⟩ := h
    rfl
  · obtain ⟨q, A0, B0, C0, D0, p, rfl, hq, ⟨⟨va, hA, pA⟩, ⟨vt, hB, pB⟩, ⟨vl, hC, pC⟩, hD⟩, ok, hn, k⟩ := h
    have l1 := ok.l1
    have l2 := ok.l2
    have l3 := ok.l3
    have l4 := ok.l4
    refine ⟨_, (pss_cons (ps_asg (pv 0) (pg_tup (n := 5) rfl (pgs_cons (pg_name (i := 1) sc_l_rows.nd rfl (Or.inl rfl) (Or.inl rfl)) (pgs_cons (pg_name (i := 2) sc_l_rows.nd rfl (Or.inl rfl) (Or.inl rfl)) (pgs_cons (pg_name (i := 3) sc_l_rows.nd rfl (Or.inl rfl) (Or.inl rfl)) (pgs_cons (pg_name (i := 4) sc_l_rows.nd rfl (Or.inl rfl) (Or.inl rfl)) (pgs_cons (pg_name (i := 5) sc_l_rows.nd rfl (Or.inl rfl) (Or.inl rfl)) pgs_nil)))))))
      (pss_cons (ps_set (i := 6) sc_l_rows.nd rfl (Or.inl rfl) (pe_lst (pa_cons (pe_op op_add_str pe_str (pe_callTy call_str_int (by rfl) T.z_str PyProof.Rows.boot_str (pa_cons (pv 1) pa_nil))) pa_nil)))
      (pss_cons (ps_for PassesOwn.never rfl (pi_list (pv 2)) (pg_tup (n := 2) rfl (pgs_cons (pg_name (i := 7) sc_l_rows.nd rfl (Or.inl rfl) (Or.inl rfl)) (pgs_cons (pg_name (i := 8) sc_l_rows.nd rfl (Or.inl rfl) (Or.inl rfl)) pgs_nil)))
        (pss_one (ps_expr (pe_bm PySem.F.plainAttrs_list PySem.F.slot_list_append PySem.F.type_list_append mt_append (pv 6) (pa_cons (pe_op op_add_str (pe_op op_add_str (pe_op op_add_str pe_str (pv 7)) pe_str) (pe_callTy call_str_int (by rfl) T.z_str PyProof.Rows.boot_str (pa_cons (pv 8) pa_nil))) pa_nil)))))
      (pss_cons (ps_for PassesOwn.never rfl (pi_list (pv 3)) (pg_tup (n := 2) rfl (pgs_cons (pg_name (i := 7) sc_l_rows.nd rfl (Or.inl rfl) (Or.inl rfl)) (pgs_cons (pg_name (i := 9) sc_l_rows.nd rfl (Or.inl rfl) (Or.inl rfl)) pgs_nil)))
        (pss_one (ps_expr (pe_bm PySem.F.plainAttrs_list PySem.F.slot_list_append PySem.F.type_list_append mt_append (pv 6) (pa_cons (pe_bm PySem.F.plainAttrs_str PySem.F.slot_str_join PySem.F.type_str_join mt_join pe_str (pa_cons (pe_op op_cat (pe_lst (pa_cons pe_str (pa_cons (pv 7) pa_nil))) (pv 9)) pa_nil)) pa_nil)))))
      (pss_cons (ps_for PassesOwn.never rfl (pi_list (pv 4)) (pg_tup (n := 3) rfl (pgs_cons (pg_name (i := 7) sc_l_rows.nd rfl (Or.inl rfl) (Or.inl rfl)) (pgs_cons (pg_name (i := 9) sc_l_rows.nd rfl (Or.inl rfl) (Or.inl rfl)) (pgs_cons (pg_name (i := 10) sc_l_rows.nd rfl (Or.inl rfl) (Or.inl rfl)) pgs_nil))))
        (pss_one (ps_expr (pe_bm PySem.F.plainAttrs_list PySem.F.slot_list_append PySem.F.type_list_append mt_append (pv 6) (pa_cons (pe_bm PySem.F.plainAttrs_str PySem.F.slot_str_join PySem.F.type_str_join mt_join pe_str (pa_cons (pe_op op_cat (pe_op op_cat (pe_op op_cat (pe_lst (pa_cons pe_str (pa_cons (pv 7) pa_nil))) (pv 9)) (pe_lst (pa_cons pe_str pa_nil))) (pv 10)) pa_nil)) pa_nil)))))
      (pss_cons (ps_for PassesOwn.never rfl (pi_list (pv 5)) (pg_name (i := 7) sc_l_rows.nd rfl (Or.inl rfl) (Or.inl rfl))
        (pss_one (ps_expr (pe_bm PySem.F.plainAttrs_list PySem.F.slot_list_append PySem.F.type_list_append mt_append (pv 6) (pa_cons (pe_op op_add_str pe_str (pv 7)) pa_nil)))))
      (pss_one (ps_ret (pv 6))))))))), ?_⟩
    refine ⟨_, rfl, q, _, rfl, SqT.of hq, rfl, _, _, rfl, _, _, rfl, _, _, rfl, _, _, rfl, _, _, rfl, rfl, ?_⟩
    have bw : B30 (p.wh : Int) := ok.w30
    have lw := int_lenB bw
    have k0 : ("wheel " : Str).length = 6 := by decide +kernel
    refine ⟨_, rfl, _, rfl, log_ok (sm_b30 bw), _, _, rfl, rfl, line_le (by omega), line_le (by show 1 ≤ 1000000; decide), fun R hR => ?_⟩
    have e0 : ("wheel " : Str) ++ (toString (p.wh : Int) : Str) = Txt.join " " [("wheel" : Str), (toString (p.wh : Int) : Str)] := by rw [join2, show ("wheel" : Str) ++ " " = "wheel " by decide +kernel]
    rw [e0]
    generalize hx0 : Txt.join " " [("wheel" : Str), (toString (p.wh : Int) : Str)] = x0
    have sR : Same H (upd H R (.lst [.str x0])) := same_new hR
    -- axes
    refine ⟨_, rfl, A0, rfl, ⟨_, SqL.of (sR _ _ hA)⟩, ?_⟩
    refine for_list (K := K) (a := A0) (xs := va) (fun i σ G => ∃ (o7 o8 : Option V), σ = [some (.ref q), some (.int (p.wh : Nat)), some (.ref A0), some (.ref B0), some (.ref C0), some (.ref D0), some (.ref R), o7, o8, none, none] ∧ Same H G ∧ G R = some (.lst (([x0] ++ (p.ax.take i).map fun e => Txt.join " " (("axis" : Str) :: axW e)).map V.str))) ⟨none, none, rfl, sR, upd_same⟩ (fun i σ G _ h => by obtain ⟨_, _, _, s', _⟩ := h; exact SqL.of (s' _ _ hA)) ?_ ?_
    · rintro i v σ G hv ⟨o7, o8, rfl, sG, hG⟩
      obtain ⟨e, he, b, rfl, hb⟩ := pget2 pA hv
      obtain ⟨le, _, e60⟩ := ok.ax e (List.mem_of_getElem? he)
      have b6 := b60 e60
      have lz := int_lenB b6
      have ln := le.ln
      have q1 : ("axis " : Str).length = 5 := by decide +kernel
      have q2 : (" " : Str).length = 1 := by decide +kernel
      have q3 : (("axis " : Str) ++ e.1).length ≤ 25 := by rw [Str.length_append]; omega
      have q4 : (("axis " : Str) ++ e.1 ++ " ").length ≤ 26 := by rw [Str.length_append]; omega
      refine ⟨b, _, rfl, SqT.of (sG _ _ hb), rfl, _, _, rfl, _, _, rfl, rfl, ?_⟩
      refine ⟨_, rfl, .inl ⟨rfl, _, SqL.of hG⟩, _, rfl, _, _, rfl, rfl, line_le (by omega), _, _, rfl, rfl, line_le (by omega), _, rfl, _, rfl, log_ok (sm_b30 b6), _, _, rfl, rfl, line_le (by omega), R, _, _, rfl, rfl, hG, line_lt (by rw [List.length_map, List.length_append, List.length_map, List.length_take, List.length_singleton]; omega), _, _, rfl, same_fresh sG hR, ?_⟩
      have ej : ("axis " : Str) ++ e.1 ++ " " ++ (toString ((e.2 : Nat) : Int) : Str) = Txt.join " " (("axis" : Str) :: axW e) := by unfold axW; rw [join3, show ("axis" : Str) ++ " " = "axis " by decide +kernel]
      rw [upd_same, snoc_map he, ← ej]
    rintro σ H1 ⟨o7, o8, rfl, s1, h1⟩
    rw [Paired.length pA, List.take_length] at h1
    generalize hx1 : [x0] ++ p.ax.map (fun e => Txt.join " " (("axis" : Str) :: axW e)) = x1 at h1
    have lx1 : x1.length ≤ 21 := by rw [← hx1, List.length_append, List.length_map, List.length_singleton]; omega
    -- tables
    refine ⟨_, rfl, B0, rfl, ⟨_, SqL.of (s1 _ _ hB)⟩, ?_⟩
    refine for_list (K := K) (a := B0) (xs := vt) (fun i σ G => ∃ (o7 o9 : Option V), σ = [some (.ref q), some (.int (p.wh : Nat)), some (.ref A0), some (.ref B0), some (.ref C0), some (.ref D0), some (.ref R), o7, o8, o9, none] ∧ Same H G ∧ G R = some (.lst ((x1 ++ (p.tb.take i).map fun e => Txt.join " " (("table" : Str) :: tbW e)).map V.str))) ⟨o7, none, rfl, s1, by rw [List.take_zero, List.map_nil, List.append_nil]; exact h1⟩ (fun i σ G _ h => by obtain ⟨_, _, _, s', _⟩ := h; exact SqL.of (s' _ _ hB)) ?_ ?_
    · rintro i v σ G hv ⟨o7, o9, rfl, sG, hG⟩
      obtain ⟨e, he, b, c, rfl, _, hb, hc⟩ := pget2 pB hv
      have oe := ok.tb e (List.mem_of_getElem? he)
      have rg := row_tb oe
      have lr := rg.ln
      have sm := sum_1000 fun x hx => (rg.gw x hx).ln
      have q2 : (" " : Str).length = 1 := by decide +kernel
      have l12 := oe.ln
      refine ⟨b, _, rfl, SqT.of (sG _ _ hb), rfl, _, _, rfl, _, _, rfl, rfl, ?_⟩
      refine ⟨_, rfl, .inl ⟨rfl, _, SqL.of hG⟩, rfl, _, rfl, line_le (by show 2 ≤ 1000000; decide), fun z hz => ?_⟩
      have s2 := same_new (o := .lst [V.str "table", .str e.1]) hz
      refine ⟨_, rfl, z, c, _, _, rfl, rfl, upd_same, s2 _ _ (sG _ _ hc), line_le (by simp; omega), fun y hy => ?_⟩
      have s3 := s2.trans (same_new (o := .lst ([V.str "table", .str e.1] ++ e.2.map V.str)) hy)
      refine ⟨" ", y, ("table" : Str) :: tbW e, rfl, rfl, SqL.of upd_same, by rw [q2]; omega, R, _, _, rfl, rfl, s3 _ _ hG, line_lt (by rw [List.length_map, List.length_append, List.length_map, List.length_take]; omega), _, _, rfl, same_fresh (sG.trans s3) hR, ?_⟩
      rw [upd_same, snoc_map he]
    rintro σ H2 ⟨o7, o9, rfl, s2, h2⟩
    rw [Paired.length pB, List.take_length] at h2
    generalize hx2 : x1 ++ p.tb.map (fun e => Txt.join " " (("table" : Str) :: tbW e)) = x2 at h2
    have lx2 : x2.length ≤ 41 := by rw [← hx2, List.length_append, List.length_map]; omega
    -- lets
    refine ⟨_, rfl, C0, rfl, ⟨_, SqL.of (s2 _ _ hC)⟩, ?_⟩
    refine for_list (K := K) (a := C0) (xs := vl) (fun i σ G => ∃ (o7 o9 o10 : Option V), σ = [some (.ref q), some (.int (p.wh : Nat)), some (.ref A0), some (.ref B0), some (.ref C0), some (.ref D0), some (.ref R), o7, o8, o9, o10] ∧ Same H G ∧ G R = some (.lst ((x2 ++ (p.ls.take i).map fun e => Txt.join " " (("let" : Str) :: ltW e)).map V.str))) ⟨o7, o9, none, rfl, s2, by rw [List.take_zero, List.map_nil, List.append_nil]; exact h2⟩ (fun i σ G _ h => by obtain ⟨_, _, _, _, s', _⟩ := h; exact SqL.of (s' _ _ hC)) ?_ ?_
    · rintro i v σ G hv ⟨o7, o9, o10, rfl, sG, hG⟩
      obtain ⟨e, he, b, c, W, rfl, _, hb, hc, hW⟩ := pget2 pC hv
      have oe := (ok.ls e (List.mem_of_getElem? he)).1
      have rg := row_lt oe (hn e (List.mem_of_getElem? he))
      have lr := rg.ln
      have sm := sum_1000 fun x hx => (rg.gw x hx).ln
      have q2 : (" " : Str).length = 1 := by decide +kernel
      have l12 := oe.ln
      have lwd : (words e.2.2).length ≤ 140 := by simp only [ltW, List.length_cons, List.length_append] at lr; omega
      refine ⟨b, _, rfl, SqT.of (sG _ _ hb), rfl, _, _, rfl, _, _, rfl, _, _, rfl, rfl, ?_⟩
      refine ⟨_, rfl, .inl ⟨rfl, _, SqL.of hG⟩, rfl, _, rfl, line_le (by show 2 ≤ 1000000; decide), fun z hz => ?_⟩
      have s2 := same_new (o := .lst [V.str "let", .str e.1]) hz
      refine ⟨_, rfl, z, c, _, _, rfl, rfl, upd_same, s2 _ _ (sG _ _ hc), line_le (by simp; omega), fun y1 hy1 => ?_⟩
      have s3 := s2.trans (same_new (o := .lst ([V.str "let", .str e.1] ++ e.2.1.map V.str)) hy1)
      have hy3 : upd (upd G z (.lst [V.str "let", .str e.1])) y1 (.lst ([V.str "let", .str e.1] ++ e.2.1.map V.str)) y1 = some (.lst ([V.str "let", .str e.1] ++ e.2.1.map V.str)) := upd_same
      generalize upd (upd G z (.lst [V.str "let", .str e.1])) y1 (.lst ([V.str "let", .str e.1] ++ e.2.1.map V.str)) = G3 at s3 hy3 ⊢
      refine ⟨line_le (by show 1 ≤ 1000000; decide), fun z2 hz2 => ?_⟩
      have s4 := same_new (o := .lst [V.str "="]) hz2
      refine ⟨y1, z2, _, _, rfl, rfl, s4 _ _ hy3, upd_same, line_le (by simp; omega), fun y2 hy2 => ?_⟩
      have s5 := s4.trans (same_new (o := .lst ([V.str "let", .str e.1] ++ e.2.1.map V.str ++ [V.str "="])) hy2)
      have hy5 : upd (upd G3 z2 (.lst [V.str "="])) y2 (.lst ([V.str "let", .str e.1] ++ e.2.1.map V.str ++ [V.str "="])) y2 = some (.lst ([V.str "let", .str e.1] ++ e.2.1.map V.str ++ [V.str "="])) := upd_same
      generalize upd (upd G3 z2 (.lst [V.str "="])) y2 (.lst ([V.str "let", .str e.1] ++ e.2.1.map V.str ++ [V.str "="])) = G5 at s5 hy5 ⊢
      have s35 := s3.trans s5
      refine ⟨_, rfl, y2, W, _, _, rfl, rfl, hy5, s35 _ _ (sG _ _ hW), line_le (by simp; omega), fun y hy => ?_⟩
      have s6 := s35.trans (same_new (o := .lst ([V.str "let", .str e.1] ++ e.2.1.map V.str ++ [V.str "="] ++ (words e.2.2).map V.str)) hy)
      have ew : ([V.str "let", .str e.1] ++ e.2.1.map V.str ++ [V.str "="] ++ (words e.2.2).map V.str) = (("let" : Str) :: ltW e).map V.str := by simp [ltW]
      refine ⟨" ", y, ("let" : Str) :: ltW e, rfl, rfl, SqL.of (by rw [upd_same, ew]), by rw [q2]; omega, R, _, _, rfl, rfl, s6 _ _ hG, line_lt (by rw [List.length_map, List.length_append, List.length_map, List.length_take]; omega), _, _, _, rfl, same_fresh (sG.trans s6) hR, ?_⟩
      rw [upd_same, snoc_map he]
    rintro σ H3 ⟨o7, o9, o10, rfl, s3, h3⟩
    rw [Paired.length pC, List.take_length] at h3
    generalize hx3 : x2 ++ p.ls.map (fun e => Txt.join " " (("let" : Str) :: ltW e)) = x3 at h3
    have lx3 : x3.length ≤ 61 := by rw [← hx3, List.length_append, List.length_map]; omega
    -- outs
    refine ⟨_, rfl, D0, rfl, ⟨_, SqL.of (s3 _ _ hD)⟩, ?_⟩
    refine for_list (K := K) (a := D0) (xs := p.os.map V.str) (fun i σ G => ∃ (o7 : Option V), σ = [some (.ref q), some (.int (p.wh : Nat)), some (.ref A0), some (.ref B0), some (.ref C0), some (.ref D0), some (.ref R), o7, o8, o9, o10] ∧ Same H G ∧ G R = some (.lst ((x3 ++ (p.os.take i).map fun x => Txt.join " " [("out" : Str), x]).map V.str))) ⟨o7, rfl, s3, by rw [List.take_zero, List.map_nil, List.append_nil]; exact h3⟩ (fun i σ G _ h => by obtain ⟨_, _, s', _⟩ := h; exact SqL.of (s' _ _ hD)) ?_ ?_
    · rintro i v σ G hv ⟨o7, rfl, sG, hG⟩
      rw [List.getElem?_map] at hv
      obtain ⟨x, hx, rfl⟩ := Option.map_eq_some_iff.mp hv
      have ln := (ok.os x (List.mem_of_getElem? hx)).ln
      have q1 : ("out " : Str).length = 4 := by decide +kernel
      refine ⟨_, rfl, .inl ⟨rfl, _, SqL.of hG⟩, _, rfl, _, _, rfl, rfl, line_le (by omega), R, _, _, rfl, rfl, hG, line_lt (by rw [List.length_map, List.length_append, List.length_map, List.length_take]; omega), _, rfl, same_fresh sG hR, ?_⟩
      have ej : ("out " : Str) ++ x = Txt.join " " [("out" : Str), x] := by rw [join2, show ("out" : Str) ++ " " = "out " by decide +kernel]
      rw [upd_same, snoc_map hx, ← ej]
    rintro σ H4 ⟨o7, rfl, s4, h4⟩
    rw [List.length_map, List.take_length] at h4
    refine ⟨_, rfl, k R H4 s4 hR ?_⟩
    rw [h4]
    congr 3
    rw [← hx3, ← hx2, ← hx1, ← hx0]
    unfold rowsP kwP
    simp only [List.map_cons, List.map_append, List.map_map, List.append_assoc, List.cons_append, List.nil_append]
    rfl
end
end My

set_option Elab.async false
set_option linter.all false
set_option maxRecDepth 100000
set_option maxHeartbeats 4000000
namespace My
open PySem L2 M84
local macro_rules | `(tactic| walk_at "lk") => `(tactic| first | with_reducible exact lk0 | (refine lk1 (by decide +kernel) ?_; walk_at "lk") | rfl)
theorem z_int {x : Str} {z : Int} (e : sg x = zsg z) (h : B30 z) : PySem.intText? x = some z ∧ x.length ≤ 40 := by
  have f := figs_ok h
  have l2 := f.l2
  have l1 := f.l1
  have hl : x.length ≤ 40 := by
    rw [← sg_len, e]
    unfold zsg
    split
    · simp; omega
    · omega
  refine ⟨?_, hl⟩
  unfold zsg at e
  by_cases z0 : z < 0
  · rw [if_pos z0] at e
    rw [PySem.intText_neg (cs := figs z.natAbs) e f.dg (figs_ne _) (by omega), figs_val]
    congr 1
    omega
  · rw [if_neg z0] at e
    have e' : sg x = figs z.natAbs := e
    rw [int_of (by rw [e']; exact f), e', figs_val]
    congr 1
    omega
theorem part_none {x : Str} {c : Nat} (h : c ∉ sg x) : Txt.partition x ⟨#[c]⟩ = (x, Str.empty, Str.empty) := by
  rcases PyProof.Rows.partition_whole x ⟨#[c]⟩ with ⟨e, _⟩ | ⟨i, _, hi, _⟩
  · exact e
  · exact absurd ((PyProof.Rows.mem_iff_at x c).mpr ⟨i, hi⟩) h
theorem e_digs : sg ("-0123456789" : Str) = [45, 48, 49, 50, 51, 52, 53, 54, 55, 56, 57] := by decide +kernel
theorem in_digs (c : Nat) : (!(Builtin.Str.occurrences ("-0123456789" : Str) ⟨#[c]⟩ 0 ("-0123456789" : Str).length 1).isEmpty) = bgn c := by
  rw [inS, e_digs]
  unfold bgn isfig
  rw [Bool.eq_iff_iff]
  simp
  omega
theorem head_at {x : Str} {c : Nat} {r : List Nat} (h : sg x = c :: r) : atI x.cps.toList 0 = some c := by
  have h : x.cps.toList = c :: r := h
  rw [h]
  exact atI_nat (j := 0) rfl
def sp_lt (A : Adr) (n : Nat) : Sp := fun vs H Q _ => ∃ (L : Addr) (ws rest : List Str) (g : Nat) (u : Tm), vs = [.ref L, .int (g : Nat)] ∧ H L = some (.lst (ws.map V.str)) ∧ ws.drop g = words u ++ rest ∧ TmOk u ∧ dep u ≤ n ∧
  ∀ (p : Addr) (v : V) (H' : Hp), Same H H' → H' p = some (.tup [v, .int ((g + (words u).length : Nat) : Int)]) → Ob A (restr (fun b => H b = none) H') v u → Q (.ref p) H'
theorem ob_new {A : Adr} {H H1 H2 H3 : Hp} {v : V} {u : Tm} (s1 : Same H H1) (s2 : Same H2 H3) (ob : Ob A (restr (fun b => H1 b = none) H2) v u) : Ob A (restr (fun b => H b = none) H3) v u :=
  ob.imp fun b o e => restr_mk (s1.free (restr_some e).1) (s2 _ _ (restr_some e).2)
section
variable {P : Program} {w : World} {K : PySem.W.Frag} {mg : Str → Option Value} {base : Heap} {t : Adr}
theorem ok_l_index (T : Txt K mg t) : FnOk P w K mg base CX0 1 t.f_l_index t.d_l_index ["_law_word"] sp_idx := by
  refine T.F_l_index.ok sc_l_index (fun vs H Q E h => ?_) (fun cdv A outer s H vs Q E hr h => ?_)
  · obtain ⟨x, e, rfl, _⟩ := h
    rfl
  · obtain ⟨x, e, rfl, ex, ok, k⟩ := h
    have lx : x.length ≤ 60 := by
      have := idx_len ok
      rw [← sg_len, sg_idx, ← ex, sg_len] at this
      exact this
    obtain ⟨c, r, hc, bc⟩ := ix_head ok
    refine ⟨_, (pss_cons (ps_if (pt_cmpR op_in_str (pe_ix ix_str (pv 0) pe_int (fun _ _ => rfl)) pe_str (by with_unfolding_all rfl))
        (pss_one (ps_ret (pe_tup (pa_cons pe_str (pa_cons (pe_callTy call_int_text (by rfl) T.z_int PyProof.Rows.boot_int (pa_cons (pv 0) pa_nil)) pa_nil)))))
        pss_nil)
      (pss_cons (ps_for PassesOwn.never rfl (pi_str pe_str) (pg_name (i := 1) sc_l_index.nd rfl (Or.inl rfl) (Or.inl rfl))
        (pss_cons (ps_asg (pe_bm PySem.F.plainAttrs_str PySem.F.slot_str_partition PySem.F.type_str_partition mt_part (pv 0) (pa_cons (pv 1) pa_nil)) (pg_tup (n := 3) rfl (pgs_cons (pg_name (i := 2) sc_l_index.nd rfl (Or.inl rfl) (Or.inl rfl)) (pgs_cons (pg_name (i := 3) sc_l_index.nd rfl (Or.inl rfl) (Or.inl rfl)) (pgs_cons (pg_name (i := 4) sc_l_index.nd rfl (Or.inl rfl) (Or.inl rfl)) pgs_nil)))))
        (pss_cons (ps_if (PW.pt (pw_and (pt_cmpR op_eq (pv 3) (pv 1) (nomark _)) (pw_and1 (pt_cmpR op_eq (pv 1) pe_str (nomark _)))))
          (pss_one (ps_ret (pe_tup (pa_cons (pv 2) (pa_cons (pe_op op_sub pe_int (pe_callTy call_int_text (by rfl) T.z_int PyProof.Rows.boot_int (pa_cons (pv 4) pa_nil))) pa_nil)))))
          pss_nil)
        (pss_one (ps_if (pt_cmpR op_eq (pv 3) (pv 1) (nomark _))
          (pss_one (ps_ret (pe_tup (pa_cons (pv 2) (pa_cons (pe_callTy call_int_text (by rfl) T.z_int PyProof.Rows.boot_int (pa_cons (pv 4) pa_nil)) pa_nil)))))
          pss_nil)))))
      (pss_one (ps_ret (pe_tup (pa_cons (pv 0) (pa_cons pe_int pa_nil))))))), ?_⟩
    refine ⟨_, rfl, x, _, c, rfl, rfl, line_le (by omega), head_at (by rw [ex, hc]), _, _, rfl, rfl, _, rfl, ?_⟩
    rw [in_digs, bc]
    by_cases n : e.1 = ""
    · rw [decide_eq_true n]
      obtain ⟨hi, hl⟩ := z_int (x := x) (z := e.2) (by rw [ex]; unfold ixS; rw [if_pos n]) ok.2
      refine iteT ⟨_, rfl, x, _, rfl, hi, by omega, line_le (by show 2 ≤ 1000000; decide), fun q hq => ?_⟩
      exact k q _ (same_new hq) (by rw [upd_same, n])
    · rw [decide_eq_false n]
      have l := ok.1.resolve_left n
      have exn := ex
      unfold ixS at exn
      rw [if_neg n] at exn
      have e2 : ("+-" : Str).cps = #[43, 45] := by decide +kernel
      refine iteF ⟨"+-", rfl, ?_⟩
      refine for_str (fun i σ G => ∃ (o1 o2 o3 o4 : Option V), σ = [some (.str x), o1, o2, o3, o4] ∧ Same H G ∧ (1 ≤ i → ¬ 0 < e.2) ∧ (2 ≤ i → ¬ e.2 < 0)) ⟨none, none, none, none, rfl, Same.refl _, fun h => absurd h (by omega), fun h => absurd h (by omega)⟩ ?_ ?_
      · rintro i c' σ G hi ⟨o1, o2, o3, o4, rfl, sG, h1, h2⟩
        rw [e2] at hi
        have hi2 : i = 0 ∨ i = 1 := by
          have := (Array.getElem?_eq_some_iff.mp hi).1
          simp at this
          omega
        rcases hi2 with rfl | rfl
        · have : c' = 43 := by simpa using hi.symm
          subst this
          refine ⟨_, rfl, rfl, _, rfl, x, _, rfl, rfl, rfl, line_le (by omega), fun q hq => ?_⟩
          by_cases p : 0 < e.2
          · rw [if_neg (by omega), if_pos p] at exn
            rw [part_eq exn (ltr_no l (by decide)), tx_sg]
            obtain ⟨hi, hl⟩ := z_int (x := tx (figs e.2.natAbs)) (z := e.2) (by rw [sg_tx]; unfold zsg; rw [if_neg (by omega)]) ok.2
            refine ⟨q, _, rfl, SqT.of upd_same, rfl, _, _, rfl, _, _, rfl, _, _, rfl, rfl, ?_⟩
            refine ⟨_, rfl, _, rfl, rfl, _, rfl, iteYes rfl ⟨_, rfl, rfl, _, rfl, iteNo (by intro z; injection z with z; exact absurd z (by decide +kernel)) ?_⟩⟩
            refine ⟨_, rfl, _, rfl, rfl, _, rfl, iteYes rfl ?_⟩
            refine ⟨_, rfl, _, rfl, _, e.2, rfl, hi, by show (tx (figs e.2.natAbs)).length ≤ 640; omega, line_le (by show 2 ≤ 1000000; decide), fun q2 hq2 => k q2 _ (sG.trans ((same_new hq).trans (same_new hq2))) (by rw [upd_same])⟩
          · have n43 : 43 ∉ sg x := by
              rw [exn]
              split
              · exact ltr_no l (by decide)
              · intro z
                rcases List.mem_append.mp z with z | z
                · exact ltr_no l (by decide) z
                · rcases List.mem_cons.mp z with z | z
                  · omega
                  · exact figs_no (.inl (by decide)) z
            rw [part_none n43]
            have ne : ¬ (V.str Str.empty = V.str (⟨#[43]⟩ : Str)) := by intro z; injection z with z; exact absurd z (by decide +kernel)
            refine ⟨q, _, rfl, SqT.of upd_same, rfl, _, _, rfl, _, _, rfl, _, _, rfl, rfl, ?_⟩
            refine ⟨_, rfl, _, rfl, rfl, _, rfl, iteNo ne ?_⟩
            refine ⟨_, rfl, _, rfl, rfl, _, rfl, iteNo ne ?_⟩
            exact ⟨_, _, _, _, rfl, sG.trans (same_new hq), fun _ => p, fun h => absurd h (by omega)⟩
        · have : c' = 45 := by simpa using hi.symm
          subst this
          have p := h1 (by omega)
          refine ⟨_, rfl, rfl, _, rfl, x, _, rfl, rfl, rfl, line_le (by omega), fun q hq => ?_⟩
          by_cases z0 : e.2 = 0
          · rw [if_pos z0] at exn
            rw [part_none (by rw [exn]; exact ltr_no l (by decide))]
            have ne : ¬ (V.str Str.empty = V.str (⟨#[45]⟩ : Str)) := by intro z; injection z with z; exact absurd z (by decide +kernel)
            refine ⟨q, _, rfl, SqT.of upd_same, rfl, _, _, rfl, _, _, rfl, _, _, rfl, rfl, ?_⟩
            refine ⟨_, rfl, _, rfl, rfl, _, rfl, iteNo ne ?_⟩
            refine ⟨_, rfl, _, rfl, rfl, _, rfl, iteNo ne ?_⟩
            exact ⟨_, _, _, _, rfl, sG.trans (same_new hq), fun _ => p, fun _ => by omega⟩
          · rw [if_neg z0, if_neg p] at exn
            rw [part_eq exn (ltr_no l (by decide)), tx_sg]
            have b2 : B30 (-e.2) := by have := ok.2; unfold B30 at this ⊢; rw [Int.natAbs_neg]; exact this
            obtain ⟨hi, hl⟩ := z_int (x := tx (figs e.2.natAbs)) (z := -e.2) (by rw [sg_tx]; unfold zsg; rw [if_neg (by omega), Int.natAbs_neg]) b2
            refine ⟨q, _, rfl, SqT.of upd_same, rfl, _, _, rfl, _, _, rfl, _, _, rfl, rfl, ?_⟩
            refine ⟨_, rfl, _, rfl, rfl, _, rfl, iteYes rfl ⟨_, rfl, rfl, _, rfl, iteYes (by rw [e_minus]) ?_⟩⟩
            refine ⟨_, rfl, _, rfl, _, -e.2, rfl, hi, by show (tx (figs e.2.natAbs)).length ≤ 640; omega, _, _, rfl, rfl, line_le (by show 2 ≤ 1000000; decide), fun q2 hq2 => k q2 _ (sG.trans ((same_new hq).trans (same_new hq2))) ?_⟩
            rw [upd_same]
            show some (HO.tup [.str e.1, .int (0 - -e.2)]) = _
            rw [show (0 : Int) - -e.2 = e.2 by omega]
      · rintro σ G ⟨o1, o2, o3, o4, rfl, sG, h1, h2⟩
        have sz : ("+-" : Str).cps.size = 2 := by decide +kernel
        have p1 := h1 (by rw [sz]; omega)
        have p2 := h2 (by rw [sz]; omega)
        have z0 : e.2 = 0 := by omega
        rw [if_pos z0] at exn
        have ee : x = e.1 := sg_inj exn
        exact ⟨_, rfl, line_le (by show 2 ≤ 1000000; decide), fun q hq => k q _ (sG.trans (same_new hq)) (by rw [upd_same, ee, z0])⟩
theorem ok_l_read (T : Txt K mg t) : FnOk P w K mg base CX0 7 t.f_l_read t.d_l_read ["_law_word"] (sp_rd t) := by
  have G_Read_init := ok_Read_init (P := P) (w := w) (base := base) T
  have G_l_index := ok_l_index (P := P) (w := w) (base := base) T
  refine T.F_l_read.ok sc_l_read (fun vs H Q E h => ?_) (fun cdv A outer s H vs Q E hr h => ?_)
  · obtain ⟨x, a, ix, rfl, _⟩ := h
    rfl
  · obtain ⟨x, a, ix, rfl, ex, la, li, ok, k⟩ := h
    have lin : (insW ix).length ≤ 800 := insW_lenB (fun e he => ixW (ok e he)) li
    have lx : x.length ≤ 1000 := by
      have := la.ln
      rw [← sg_len] at this lin
      rw [← sg_len, ex]
      unfold rdS
      rw [List.length_append, List.length_cons, List.length_append, List.length_singleton]
      omega
    refine ⟨_, (pss_cons (ps_asg (pe_bm PySem.F.plainAttrs_str PySem.F.slot_str_partition PySem.F.type_str_partition mt_part (pv 0) (pa_cons pe_str pa_nil)) (pg_tup (n := 3) rfl (pgs_cons (pg_name (i := 1) sc_l_read.nd rfl (Or.inl rfl) (Or.inl rfl)) (pgs_cons (pg_name (i := 2) sc_l_read.nd rfl (Or.inl rfl) (Or.inl rfl)) (pgs_cons (pg_name (i := 3) sc_l_read.nd rfl (Or.inl rfl) (Or.inl rfl)) pgs_nil)))))
      (pss_cons (ps_set (i := 4) sc_l_read.nd rfl (Or.inl rfl) (pe_lst pa_nil))
      (pss_cut (ps_if (pt_cmpR op_ne (pv 3) pe_str (nomark _))
        (pss_one (ps_setC (i₀ := 4) (N' := ["_law_one"]) (ix := (List.replicate 1 none)) sc_l_read.nd rfl (Or.inl rfl) rfl (clok_none rfl (by decide +kernel) (by decide +kernel)) (ixok_none rfl) (pi_list (pe_bm PySem.F.plainAttrs_str PySem.F.slot_str_split PySem.F.type_str_split mt_split (pe_slice sl_str (pv 3) po_none (po_some (pe_un un_neg pe_int))) (pa_cons pe_str pa_nil))) (fun _ _ _ _ => (pg_name (i := 0) nd_comp_16 rfl (Or.inl rfl) (Or.inr rfl))) (fun _ _ _ _ => (pe_call G_l_index (hr.mono (by omega)) rfl T.m_l_index T.F_l_index.kp T.b_l_index .nil pass0 (pa_cons (pv 0) pa_nil)))))
        pss_nil)
      (pss_one (ps_ret (pe_make T.mk_Read G_Read_init (hr.mono (by omega)) rfl T.m_Read T.b_Read_init .nil pass0 (pa_cons (pv 1) (pa_cons (pv 4) pa_nil)))))))), ?_⟩
    refine ⟨_, rfl, rfl, x, _, rfl, rfl, rfl, line_le (by omega), fun q hq => ?_⟩
    rw [e_open, part_eq (show sg x = sg a ++ 91 :: (sg (insW ix) ++ [93]) from ex) (ltr_no la (by decide)), tx_sg]
    have s1 := same_new (o := .tup [V.str a, .str ⟨#[91]⟩, .str (tx (sg (insW ix) ++ [93]))]) hq
    refine ⟨q, _, rfl, SqT.of upd_same, rfl, _, _, rfl, _, _, rfl, _, _, rfl, rfl, ?_⟩
    generalize upd H q (.tup [V.str a, .str ⟨#[91]⟩, .str (tx (sg (insW ix) ++ [93]))]) = H1 at s1 ⊢
    have lt : (tx (sg (insW ix) ++ [93])).length ≤ 801 := by rw [← sg_len, sg_tx, List.length_append, List.length_singleton, sg_len]; omega
    have l1 : 1 ≤ (tx (sg (insW ix) ++ [93])).length := by rw [← sg_len, sg_tx]; simp
    have es : Txt.slice (tx (sg (insW ix) ++ [93])) none (some (-1)) = insW ix := by
      refine sg_inj ?_
      rw [sl_last l1, sg_tx, List.dropLast_concat]
    refine ⟨line_le (by simp), fun l0 hl0 => ?_⟩
    have s2 := same_new (o := .lst []) hl0
    have hl2 : upd H1 l0 (.lst []) l0 = some (.lst []) := upd_same
    generalize upd H1 l0 (.lst []) = H2 at s2 hl2 ⊢
    refine ⟨fun σ G => ∃ D : Addr, σ = [some (.str x), some (.str a), some (.str ⟨#[91]⟩), some (.str (tx (sg (insW ix) ++ [93]))), some (.ref D)] ∧ Same H2 G ∧ Rep G (.ref D) (encIx ix), ?_, ?_⟩
    · refine ⟨_, rfl, rfl, _, rfl, iteND (fun h0 => ?_) (fun h0 => ?_)⟩
      · have ne : ix ≠ [] := fun e => h0 (by
          rw [e]
          show V.str (tx (sg (insW []) ++ [93])) = V.str "]"
          rw [e_close]
          rfl)
        have sp := ins_split ok ne
        refine ⟨_, rfl, _, rfl, _, rfl, _, rfl, line_le (Nat.le_trans lt (by decide)), rfl, _, ",", rfl, rfl, rfl, ?_, fun l hl => ?_⟩
        · show (Txt.slice (tx (sg (insW ix) ++ [93])) none (some (-1))).length + 2 ≤ sizeLine
          rw [es]
          exact line_le (by omega)
        have sp' : Txt.split (Txt.slice (tx (sg (insW ix) ++ [93])) none (some (-1))) "," = ix.map idxW := by rw [es]; exact sp
        rw [show Txt.split (Txt.slice (a, (⟨#[91]⟩ : Str), tx (sg (insW ix) ++ [93])).2.2 none (some (-1))) "," = ix.map idxW from sp']
        have s3 := same_new (o := .lst ((ix.map idxW).map V.str)) hl
        have hl3 : upd H2 l (.lst ((ix.map idxW).map V.str)) l = some (.lst ((ix.map idxW).map V.str)) := upd_same
        generalize upd H2 l (.lst ((ix.map idxW).map V.str)) = H3 at s3 hl3 ⊢
        refine ⟨l, rfl, ⟨_, SqL.of hl3⟩, fun D hD => ?_⟩
        refine comp_listQ (K := K) (a := l) (D := D) (xs := (ix.map idxW).map V.str) (fun i ys G => Same H3 G ∧ G D = some (.lst ys) ∧ Paired (fun v e => ∃ q, v = V.ref q ∧ G q = some (.tup [.str e.1, .int e.2])) ys (ix.take i)) ⟨same_new hD, upd_same, .nil⟩ (fun i ys G ⟨s2, _⟩ => SqL.of (s2 _ _ hl3)) ?_ ?_
        · rintro i v ys G hv ⟨sG, hD2, pr⟩
          rw [List.getElem?_map, List.getElem?_map] at hv
          cases he : ix[i]? with
          | none => rw [he] at hv; cases hv
          | some e =>
            rw [he] at hv
            cases hv
            have lp := Paired.length pr
            rw [List.length_take] at lp
            refine ⟨True.intro, _, rfl, _, e, rfl, sg_idx e, ok e (List.mem_of_getElem? he), fun p G2 sg2 hp => ⟨sg2 _ _ hD2, line_lt (by omega), same_fresh (sG.trans sg2) hD, upd_same, ?_⟩⟩
            have pD : p ≠ D := ne_of hp (sg2 _ _ hD2) (by intro z; cases z)
            rw [List.take_add_one, he, Option.toList_some]
            refine Paired.snoc ⟨p, rfl, by rw [upd_ne pD]; exact hp⟩ (Paired.mapP pr fun _ _ z => ?_)
            obtain ⟨q', e1, e2⟩ := z
            exact ⟨q', e1, by rw [upd_ne (ne_of e2 hD2 (by intro z; cases z))]; exact sg2 _ _ e2⟩
        · rintro ys G ⟨sG, hD2, pr⟩
          rw [show ((ix.map idxW).map V.str).length = ix.length by simp, List.take_length] at pr
          exact ⟨D, rfl, s3.trans sG, .lst hD2 (reps_pr (d := encI) (fun v e z => by obtain ⟨q', rfl, e2⟩ := z; exact .tup e2 (.cons (.str _) (.cons (.int _) .nil))) pr)⟩
      · have e0 : ix = [] := by
          have h0 : V.str (tx (sg (insW ix) ++ [93])) = V.str "]" := h0
          injection h0 with h0
          have : sg (tx (sg (insW ix) ++ [93])) = sg ("]" : Str) := by rw [h0]
          rw [sg_tx, e_close] at this
          have h2 : sg (insW ix) = [] := by
            have := congrArg List.length this
            simp [sg] at this
            simpa [sg] using this
          exact (ins_nil ok).mp (sg_inj (by rw [h2]; decide +kernel))
        exact ⟨l0, rfl, Same.refl _, by rw [e0]; exact .lst hl2 .nil⟩
    rintro σ G ⟨D, rfl, sG, rp⟩
    refine ⟨_, rfl, _, rfl, fun y dx hy hdx hne => ?_⟩
    have u3 : Same G (upd (upd G dx (.own y)) y (.ins t.C_Read dx [])) := same_fresh (same_new hdx) hy
    refine ⟨y, dx, D, a, ix, rfl, upd_same, rp.same u3, by omega, fun l1 H4 hy4 rp4 kb4 => ⟨rfl, ?_⟩⟩
    have s4 : Same G H4 := fun b o e => kb4 b o (ne_of_none e hy) (u3 _ _ e)
    have f : ∀ b, G b = none → H b = none := fun b z => s1.free (s2.free (sG.free z))
    exact k _ _ (s1.trans (s2.trans (sG.trans s4))) (.read (restr_mk (f _ hy) hy4) (rp4.imp fun b o e => restr_mk (f _ (u3.free (restr_some e).1)) (restr_some e).2))
end
end My

set_option Elab.async false
set_option linter.all false
set_option maxRecDepth 100000
set_option maxHeartbeats 4000000
namespace My
open PySem L2 M84
local macro_rules | `(tactic| walk_at "lk") => `(tactic| first | with_reducible exact lk0 | (refine lk1 (by decide +kernel) ?_; walk_at "lk") | rfl)
theorem ends_no {x : Str} {c : Nat} (h : c ∉ sg x) : Txt.endswith x ⟨#[c]⟩ = false := by
  cases e : Txt.endswith x ⟨#[c]⟩ with
  | false => rfl
  | true =>
    unfold Txt.endswith at e
    rw [Bool.and_eq_true, decide_eq_true_eq] at e
    have l1 : 1 ≤ x.length := by have h1 : 0 + 1 ≤ x.length := e.1; omega
    have := (StrLaws.subAt_one x c (x.length - 1)).mp ⟨by show x.length - 1 + 1 ≤ x.length; omega, e.2⟩
    exact absurd (List.mem_of_getElem? this) h
theorem at_w {ws : List Str} {g : Nat} {z : Int} {x : Str} (h : ws[g]? = some x) (e : z = (g : Nat)) : atI (ws.map V.str) z = some (.str x) := by
  rw [e]
  exact atI_nat (by rw [List.getElem?_map, h]; rfl)
theorem nsum {o : Op3} : ¬ V.str o.sign = V.str "sum" := by cases o <;> (intro z; injection z with z; exact absurd z (by decide +kernel))
theorem nif {o : Op3} : ¬ V.str o.sign = V.str "if" := by cases o <;> (intro z; injection z with z; exact absurd z (by decide +kernel))
section
variable {P : Program} {w : World} {K : PySem.W.Frag} {mg : Str → Option Value} {base : Heap} {t : Adr}
theorem lt_step (T : Txt K mg t) {n m : Nat} (hm : 7 ≤ m) (G_l_term : FnOk P w K mg base CX0 m t.f_l_term t.d_l_term ["_law_words", "_law_at"] (sp_lt t n)) : FnOk P w K mg base CX0 (m + 1) t.f_l_term t.d_l_term ["_law_words", "_law_at"] (sp_lt t (n + 1)) := by
  have G_Sum_init := ok_Sum_init (P := P) (w := w) (base := base) T
  have G_Pair_init := ok_Pair_init (P := P) (w := w) (base := base) T
  have G_Guard_init := ok_Guard_init (P := P) (w := w) (base := base) T
  have G_Number_init := ok_Number_init (P := P) (w := w) (base := base) T
  have G_Place_init := ok_Place_init (P := P) (w := w) (base := base) T
  have G_l_read := ok_l_read (P := P) (w := w) (base := base) T
  refine T.F_l_term.ok sc_l_term (fun vs H Q E h => ?_) (fun cdv A outer s H vs Q E hr h => ?_)
  · obtain ⟨L, ws, rest, g, u, rfl, _⟩ := h
    rfl
  · obtain ⟨L, ws, rest, g, u, rfl, hL, hd, ok, dp, k⟩ := h
    refine ⟨_, (pss_cons (ps_set (i := 2) sc_l_term.nd rfl (Or.inl rfl) (pe_ix ix_list (pv 0) (pv 1) (fun _ _ => rfl)))
      (pss_cons (ps_if (pt_cmpR op_eq (pv 2) pe_str (nomark _))
        (pss_cons (ps_asg (pe_call G_l_term (hr.mono (by omega)) rfl T.m_l_term T.F_l_term.kp T.b_l_term .nil pass0 (pa_cons (pv 0) (pa_cons (pe_op op_add (pv 1) pe_int) pa_nil))) (pg_tup (n := 2) rfl (pgs_cons (pg_name (i := 3) sc_l_term.nd rfl (Or.inl rfl) (Or.inl rfl)) (pgs_cons (pg_name (i := 4) sc_l_term.nd rfl (Or.inl rfl) (Or.inl rfl)) pgs_nil))))
        (pss_one (ps_ret (pe_tup (pa_cons (pe_make T.mk_Sum G_Sum_init (hr.mono (by omega)) rfl T.m_Sum T.b_Sum_init .nil pass0 (pa_cons (pe_ix ix_list (pv 0) (pe_op op_add (pv 1) pe_int) (fun _ _ => rfl)) (pa_cons (pv 3) pa_nil))) (pa_cons (pv 4) pa_nil))))))
        pss_nil)
      (pss_cons (ps_if (pt_cmpR op_eq (pv 2) pe_str (nomark _))
        (pss_cons (ps_asg (pe_call G_l_term (hr.mono (by omega)) rfl T.m_l_term T.F_l_term.kp T.b_l_term .nil pass0 (pa_cons (pv 0) (pa_cons (pe_op op_add (pv 1) pe_int) pa_nil))) (pg_tup (n := 2) rfl (pgs_cons (pg_name (i := 5) sc_l_term.nd rfl (Or.inl rfl) (Or.inl rfl)) (pgs_cons (pg_name (i := 4) sc_l_term.nd rfl (Or.inl rfl) (Or.inl rfl)) pgs_nil))))
        (pss_cons (ps_asg (pe_call G_l_term (hr.mono (by omega)) rfl T.m_l_term T.F_l_term.kp T.b_l_term .nil pass0 (pa_cons (pv 0) (pa_cons (pv 4) pa_nil))) (pg_tup (n := 2) rfl (pgs_cons (pg_name (i := 6) sc_l_term.nd rfl (Or.inl rfl) (Or.inl rfl)) (pgs_cons (pg_name (i := 4) sc_l_term.nd rfl (Or.inl rfl) (Or.inl rfl)) pgs_nil))))
        (pss_one (ps_ret (pe_tup (pa_cons (pe_make T.mk_Guard G_Guard_init (hr.mono (by omega)) rfl T.m_Guard T.b_Guard_init .nil pass0 (pa_cons (pe_ix ix_list (pv 0) (pe_op op_add (pv 1) pe_int) (fun _ _ => rfl)) (pa_cons (pe_callTy call_int_text (by rfl) T.z_int PyProof.Rows.boot_int (pa_cons (pe_ix ix_list (pv 0) (pe_op op_add (pv 1) pe_int) (fun _ _ => rfl)) pa_nil)) (pa_cons (pe_callTy call_int_text (by rfl) T.z_int PyProof.Rows.boot_int (pa_cons (pe_ix ix_list (pv 0) (pe_op op_add (pv 1) pe_int) (fun _ _ => rfl)) pa_nil)) (pa_cons (pv 5) (pa_cons (pv 6) pa_nil)))))) (pa_cons (pv 4) pa_nil)))))))
        pss_nil)
      (pss_cons (ps_if (PW.pt (pw_or (pt_cmpR op_eq (pv 2) pe_str (nomark _)) (pw_or (pt_cmpR op_eq (pv 2) pe_str (nomark _)) (pw_or1 (pt_cmpR op_eq (pv 2) pe_str (nomark _))))))
        (pss_cons (ps_asg (pe_call G_l_term (hr.mono (by omega)) rfl T.m_l_term T.F_l_term.kp T.b_l_term .nil pass0 (pa_cons (pv 0) (pa_cons (pe_op op_add (pv 1) pe_int) pa_nil))) (pg_tup (n := 2) rfl (pgs_cons (pg_name (i := 7) sc_l_term.nd rfl (Or.inl rfl) (Or.inl rfl)) (pgs_cons (pg_name (i := 4) sc_l_term.nd rfl (Or.inl rfl) (Or.inl rfl)) pgs_nil))))
        (pss_cons (ps_asg (pe_call G_l_term (hr.mono (by omega)) rfl T.m_l_term T.F_l_term.kp T.b_l_term .nil pass0 (pa_cons (pv 0) (pa_cons (pv 4) pa_nil))) (pg_tup (n := 2) rfl (pgs_cons (pg_name (i := 8) sc_l_term.nd rfl (Or.inl rfl) (Or.inl rfl)) (pgs_cons (pg_name (i := 4) sc_l_term.nd rfl (Or.inl rfl) (Or.inl rfl)) pgs_nil))))
        (pss_cons (ps_if (pt_cmpR op_eq (pv 2) pe_str (nomark _))
          (pss_one (ps_ret (pe_tup (pa_cons (pe_make T.mk_Plus G_Pair_init (hr.mono (by omega)) rfl T.m_Plus T.b_Pair_init .nil pass0 (pa_cons (pv 7) (pa_cons (pv 8) pa_nil))) (pa_cons (pv 4) pa_nil)))))
          pss_nil)
        (pss_cons (ps_if (pt_cmpR op_eq (pv 2) pe_str (nomark _))
          (pss_one (ps_ret (pe_tup (pa_cons (pe_make T.mk_Minus G_Pair_init (hr.mono (by omega)) rfl T.m_Minus T.b_Pair_init .nil pass0 (pa_cons (pv 7) (pa_cons (pv 8) pa_nil))) (pa_cons (pv 4) pa_nil)))))
          pss_nil)
        (pss_one (ps_ret (pe_tup (pa_cons (pe_make T.mk_Times G_Pair_init (hr.mono (by omega)) rfl T.m_Times T.b_Pair_init .nil pass0 (pa_cons (pv 7) (pa_cons (pv 8) pa_nil))) (pa_cons (pv 4) pa_nil)))))))))
        pss_nil)
      (pss_cons (ps_if (pt_val (pe_bm PySem.F.plainAttrs_str PySem.F.slot_str_endswith PySem.F.type_str_endswith mt_ends (pv 2) (pa_cons pe_str pa_nil)))
        (pss_one (ps_ret (pe_tup (pa_cons (pe_call G_l_read (hr.mono (by omega)) rfl T.m_l_read T.F_l_read.kp T.b_l_read .nil pass0 (pa_cons (pv 2) pa_nil)) (pa_cons (pe_op op_add (pv 1) pe_int) pa_nil)))))
        pss_nil)
      (pss_cons (ps_if (pt_cmpR op_in_str (pe_ix ix_str (pv 2) pe_int (fun _ _ => rfl)) pe_str (by with_unfolding_all rfl))
        (pss_one (ps_ret (pe_tup (pa_cons (pe_make T.mk_Number G_Number_init (hr.mono (by omega)) rfl T.m_Number T.b_Number_init .nil pass0 (pa_cons (pe_callTy call_int_text (by rfl) T.z_int PyProof.Rows.boot_int (pa_cons (pv 2) pa_nil)) pa_nil)) (pa_cons (pe_op op_add (pv 1) pe_int) pa_nil)))))
        pss_nil)
      (pss_one (ps_ret (pe_tup (pa_cons (pe_make T.mk_Place G_Place_init (hr.mono (by omega)) rfl T.m_Place T.b_Place_init .nil pass0 (pa_cons (pv 2) pa_nil)) (pa_cons (pe_op op_add (pv 1) pe_int) pa_nil))))))))))), ?_⟩
    have cl : ∀ (d : Nat), (g : Int) + (d : Nat) = ((g + d : Nat) : Int) := fun d => by omega
    have av : ∀ (d : Nat), [V.ref L, V.int ((g : Int) + (d : Nat))] = [V.ref L, V.int ((g + d : Nat) : Int)] := fun d => by rw [cl]
    rcases lf_cases u with ⟨lf, x, hw⟩ | ⟨x, b, rfl⟩ | ⟨o, l, rt, rfl⟩ | ⟨x, lo, hi, l, rt, rfl⟩
    · obtain ⟨n1, n2, n3⟩ := leaf_word lf hw ok
      obtain ⟨x1, _, _⟩ := drop_cons (by rw [hw] at hd; exact hd)
      have m1 : ¬ V.str x = V.str "+" := fun z => n1 (by injection z with z; rw [z]; simp)
      have m2 : ¬ V.str x = V.str "-" := fun z => n1 (by injection z with z; rw [z]; simp)
      have m3 : ¬ V.str x = V.str "*" := fun z => n1 (by injection z with z; rw [z]; simp)
      have lu : (words u).length = 1 := by rw [hw]; rfl
      refine ⟨_, rfl, _, rfl, L, _, _, _, rfl, rfl, SqL.of hL, at_w x1 rfl, ?_⟩
      refine ⟨_, rfl, rfl, _, rfl, iteNo (by intro z; injection z with z; exact n2 z) ?_⟩
      refine ⟨_, rfl, rfl, _, rfl, iteNo (by intro z; injection z with z; exact n3 z) ?_⟩
      refine ⟨_, rfl, rfl, _, rfl, iteNo m1 ⟨_, rfl, rfl, _, rfl, iteNo m2 ⟨_, rfl, rfl, _, rfl, iteNo m3 ?_⟩⟩⟩
      have fin : ∀ (v : V) (H2 : Hp) (p : Addr), Same H H2 → H2 p = none → Ob t (restr (fun b => H b = none) H2) v u → Q (.ref p) (upd H2 p (.tup [v, .int ((g : Int) + 1)])) := fun v H2 p s2 hp ob => by
        have s3 := same_new (o := .tup [v, .int ((g : Int) + 1)]) hp
        exact k p v _ (s2.trans s3) (by rw [upd_same, lu]; rfl) (ob.imp (restr_same s3))
      cases u with
      | num z =>
        have ex : x = (toString z : Str) := by simpa [words] using hw.symm
        have es : sg x = zsg z := by rw [ex]; exact sg_int z
        obtain ⟨c, r, hc, hh⟩ := zsg_head z
        have bc : bgn c = true := by
          unfold bgn isfig
          rcases hh with ⟨z, _⟩ | ⟨z, _⟩
          · rw [decide_eq_true z]; rfl
          · rw [decide_eq_true z, Bool.or_true]
        obtain ⟨hi, hl⟩ := z_int es ok
        refine ⟨_, rfl, rfl, x, _, rfl, rfl, _, rfl, ?_⟩
        rw [e_close, ends_no (fun m => by rw [es] at m; have := zsg_dg z _ m; omega)]
        refine iteF ⟨_, rfl, x, _, c, rfl, rfl, line_le (by omega), head_at (by rw [es, hc]), _, _, rfl, rfl, _, rfl, ?_⟩
        rw [in_digs, bc]
        refine iteT ⟨_, rfl, x, z, rfl, hi, by omega, fun y dy hy hdy hne => ⟨y, _, dy, _, rfl, upd_same, T.cl_Number, T.na_Number_number, rfl, _, rfl, _, _, rfl, rfl, line_le (by show 2 ≤ 1000000; decide), fun p hp => ?_⟩⟩
        exact fin _ _ p (same_made hy hdy) hp (.num (restr_mk hy upd_same))
      | place z =>
        have ex : x = z := by simpa [words] using hw.symm
        subst ex
        cases hs : sg x with
        | nil => exact absurd hs ok.1.ne
        | cons c r =>
          have hc := ok.1.dg c (by rw [hs]; exact .head _)
          have bc : bgn c = false := by
            unfold bgn isfig
            rw [decide_eq_false (by omega), decide_eq_false (by omega)]
            rfl
          have l20 := ok.1.ln
          refine ⟨_, rfl, rfl, x, _, rfl, rfl, _, rfl, ?_⟩
          rw [e_close, ends_no (ltr_no ok.1 (by decide))]
          refine iteF ⟨_, rfl, x, _, c, rfl, rfl, line_le (by omega), head_at hs, _, _, rfl, rfl, _, rfl, ?_⟩
          rw [in_digs, bc]
          refine iteF ⟨_, rfl, fun y dy hy hdy hne => ⟨y, _, dy, _, rfl, upd_same, T.cl_Place, T.na_Place_axis, rfl, _, rfl, _, _, rfl, rfl, line_le (by show 2 ≤ 1000000; decide), fun p hp => ?_⟩⟩
          exact fin _ _ p (same_made hy hdy) hp (.place (restr_mk hy upd_same))
      | read a ix =>
        have ex : x = a ++ "[" ++ insW ix ++ "]" := by simpa [words] using hw.symm
        have es : sg x = rdS a ix := by
          rw [ex, sg_app, sg_app, sg_app, e_open, e_close]
          unfold rdS
          simp [sg]
        refine ⟨_, rfl, rfl, x, _, rfl, rfl, _, rfl, ?_⟩
        rw [e_close, ends_c (p := sg a ++ 91 :: sg (insW ix)) (by rw [es]; unfold rdS; simp)]
        refine iteT ⟨_, rfl, x, a, ix, rfl, es, ok.1, ok.2.1, ok.2.2, fun v H2 s2 ob => ⟨_, rfl, _, _, rfl, rfl, line_le (by show 2 ≤ 1000000; decide), fun p hp => fin v H2 p s2 hp ob⟩⟩
      | sum x b => cases lf
      | pair o l r => cases lf
      | guard x lo hi l r => cases lf
    · have hd : ws.drop g = ("sum" : Str) :: (x :: (words b ++ rest)) := hd
      obtain ⟨x1, hd1, _⟩ := drop_cons hd
      obtain ⟨x2, hd2, _⟩ := drop_cons hd1
      have dp : dep b + 1 ≤ n + 1 := dp
      refine ⟨_, rfl, _, rfl, L, _, _, _, rfl, rfl, SqL.of hL, at_w x1 rfl, ?_⟩
      refine ⟨_, rfl, rfl, _, rfl, iteYes rfl ?_⟩
      refine ⟨_, rfl, _, rfl, _, _, rfl, rfl, L, ws, rest, g + 2, b, av 2, hL, hd2, ok.2, by omega, fun p1 v1 H1 s1 hp1 ob1 => ?_⟩
      refine ⟨p1, _, rfl, SqT.of hp1, rfl, _, _, rfl, _, _, rfl, rfl, ?_⟩
      refine ⟨_, rfl, _, rfl, _, _, rfl, rfl, L, _, _, _, rfl, rfl, SqL.of (s1 _ _ hL), at_w x2 (cl 1), _, rfl, fun y dy hy hdy hne => ⟨y, _, dy, _, _, rfl, upd_same, T.cl_Sum, T.na_Sum_axis, T.na_Sum_body, rfl, _, rfl, line_le (by show 2 ≤ 1000000; decide), fun p hp => ?_⟩⟩
      have s2 : Same H1 (upd (upd (upd H1 dy (.own y)) y (.ins t.C_Sum dy [])) y (.ins t.C_Sum dy [("axis", .str x), ("body", v1)])) := same_made hy hdy
      have s3 := s2.trans (same_new (o := .tup [V.ref y, .int ((g + 2 + (words b).length : Nat) : Int)]) hp)
      refine k p (.ref y) _ (s1.trans s3) ?_ (.sum (restr_mk (s1.free hy) (same_new hp _ _ upd_same)) (ob_new (Same.refl _) s3 ob1))
      rw [upd_same, show g + (words (.sum x b)).length = g + 2 + (words b).length by simp [words]; omega]
    · have hd : ws.drop g = o.sign :: (words l ++ (words rt ++ rest)) := by rw [hd]; simp [words]
      obtain ⟨x1, hd1, _⟩ := drop_cons hd
      have dp : max (dep l) (dep rt) + 1 ≤ n + 1 := dp
      refine ⟨_, rfl, _, rfl, L, _, _, _, rfl, rfl, SqL.of hL, at_w x1 rfl, ?_⟩
      refine ⟨_, rfl, rfl, _, rfl, iteNo nsum ?_⟩
      refine ⟨_, rfl, rfl, _, rfl, iteNo nif ?_⟩
      have fin : ∀ (H2 : Hp) (v1 v2 : V) (y dy p : Addr), Same H H2 → Ob t (restr (fun b => H b = none) H2) v1 l → Ob t (restr (fun b => H b = none) H2) v2 rt → H2 y = none → H2 dy = none → upd (upd (upd H2 dy (.own y)) y (.ins (clsOf t o) dy [])) y (.ins (clsOf t o) dy [("left", v1), ("right", v2)]) p = none →
          Q (.ref p) (upd (upd (upd (upd H2 dy (.own y)) y (.ins (clsOf t o) dy [])) y (.ins (clsOf t o) dy [("left", v1), ("right", v2)])) p (.tup [.ref y, .int ((g + 1 + (words l).length + (words rt).length : Nat) : Int)])) := fun H2 v1 v2 y dy p s2 ob1 ob2 hy hdy hp => by
        have s3 : Same H2 (upd (upd (upd H2 dy (.own y)) y (.ins (clsOf t o) dy [])) y (.ins (clsOf t o) dy [("left", v1), ("right", v2)])) := same_made hy hdy
        have s4 := s3.trans (same_new (o := .tup [V.ref y, .int ((g + 1 + (words l).length + (words rt).length : Nat) : Int)]) hp)
        refine k p (.ref y) _ (s2.trans s4) ?_ (.pair (restr_mk (s2.free hy) (same_new hp _ _ upd_same)) (ob1.imp (restr_same s4)) (ob2.imp (restr_same s4)))
        rw [upd_same, show g + (words (.pair o l rt)).length = g + 1 + (words l).length + (words rt).length by simp [words]; omega]
      have c1 : [V.ref L, V.int ((g : Int) + 1)] = [V.ref L, V.int ((g + 1 : Nat) : Int)] := av 1
      have go : ∀ (Z : Hp → V → V → Prop), (∀ H2 v1 v2, Same H H2 → Ob t (restr (fun b => H b = none) H2) v1 l → Ob t (restr (fun b => H b = none) H2) v2 rt → Z H2 v1 v2) → ∀ (H1 : Hp) (v1 : V), Same H H1 → Ob t (restr (fun b => H b = none) H1) v1 l → ∀ (H2 : Hp) (v2 : V), Same H1 H2 → Ob t (restr (fun b => H1 b = none) H2) v2 rt → Z H2 v1 v2 := fun Z hZ H1 v1 s1 ob1 H2 v2 s2 ob2 => hZ H2 v1 v2 (s1.trans s2) (ob1.imp (restr_same s2)) (ob_new s1 (Same.refl _) ob2)
      cases o with
      | plus =>
        refine ⟨_, rfl, rfl, _, rfl, iteYes rfl ?_⟩
        refine ⟨_, rfl, _, rfl, _, _, rfl, rfl, L, ws, _, g + 1, l, c1, hL, hd1, ok.1, by omega, fun p1 v1 H1 s1 hp1 ob1 => ⟨p1, _, rfl, SqT.of hp1, rfl, _, _, rfl, _, _, rfl, rfl, ?_⟩⟩
        refine ⟨_, rfl, _, rfl, L, ws, rest, g + 1 + (words l).length, rt, rfl, s1 _ _ hL, drop_app hd1, ok.2, by omega, fun p2 v2 H2 s2 hp2 ob2 => ⟨p2, _, rfl, SqT.of hp2, rfl, _, _, rfl, _, _, rfl, rfl, ?_⟩⟩
        exact ⟨_, rfl, rfl, _, rfl, iteYes rfl ⟨_, rfl, _, rfl, fun y dy hy hdy hne => ⟨y, _, dy, _, _, rfl, upd_same, T.cl_Plus, T.na_Plus_left, T.na_Plus_right, rfl, _, rfl, line_le (by show 2 ≤ 1000000; decide), fun p hp => go (fun H2 v1 v2 => H2 y = none → H2 dy = none → _ → Q (.ref p) _) (fun H2 v1 v2 s a b h1 h2 h3 => fin H2 v1 v2 y dy p s a b h1 h2 h3) H1 v1 s1 ob1 H2 v2 s2 ob2 hy hdy hp⟩⟩⟩
      | minus =>
        refine ⟨_, rfl, rfl, _, rfl, iteNo (by intro z; injection z with z; exact absurd z (by decide +kernel)) ⟨_, rfl, rfl, _, rfl, iteYes rfl ?_⟩⟩
        refine ⟨_, rfl, _, rfl, _, _, rfl, rfl, L, ws, _, g + 1, l, c1, hL, hd1, ok.1, by omega, fun p1 v1 H1 s1 hp1 ob1 => ⟨p1, _, rfl, SqT.of hp1, rfl, _, _, rfl, _, _, rfl, rfl, ?_⟩⟩
        refine ⟨_, rfl, _, rfl, L, ws, rest, g + 1 + (words l).length, rt, rfl, s1 _ _ hL, drop_app hd1, ok.2, by omega, fun p2 v2 H2 s2 hp2 ob2 => ⟨p2, _, rfl, SqT.of hp2, rfl, _, _, rfl, _, _, rfl, rfl, ?_⟩⟩
        exact ⟨_, rfl, rfl, _, rfl, iteNo (by intro z; injection z with z; exact absurd z (by decide +kernel)) ⟨_, rfl, rfl, _, rfl, iteYes rfl ⟨_, rfl, _, rfl, fun y dy hy hdy hne => ⟨y, _, dy, _, _, rfl, upd_same, T.cl_Minus, T.na_Minus_left, T.na_Minus_right, rfl, _, rfl, line_le (by show 2 ≤ 1000000; decide), fun p hp => go (fun H2 v1 v2 => H2 y = none → H2 dy = none → _ → Q (.ref p) _) (fun H2 v1 v2 s a b h1 h2 h3 => fin H2 v1 v2 y dy p s a b h1 h2 h3) H1 v1 s1 ob1 H2 v2 s2 ob2 hy hdy hp⟩⟩⟩⟩
      | times =>
        refine ⟨_, rfl, rfl, _, rfl, iteNo (by intro z; injection z with z; exact absurd z (by decide +kernel)) ⟨_, rfl, rfl, _, rfl, iteNo (by intro z; injection z with z; exact absurd z (by decide +kernel)) ⟨_, rfl, rfl, _, rfl, iteYes rfl ?_⟩⟩⟩
        refine ⟨_, rfl, _, rfl, _, _, rfl, rfl, L, ws, _, g + 1, l, c1, hL, hd1, ok.1, by omega, fun p1 v1 H1 s1 hp1 ob1 => ⟨p1, _, rfl, SqT.of hp1, rfl, _, _, rfl, _, _, rfl, rfl, ?_⟩⟩
        refine ⟨_, rfl, _, rfl, L, ws, rest, g + 1 + (words l).length, rt, rfl, s1 _ _ hL, drop_app hd1, ok.2, by omega, fun p2 v2 H2 s2 hp2 ob2 => ⟨p2, _, rfl, SqT.of hp2, rfl, _, _, rfl, _, _, rfl, rfl, ?_⟩⟩
        exact ⟨_, rfl, rfl, _, rfl, iteNo (by intro z; injection z with z; exact absurd z (by decide +kernel)) ⟨_, rfl, rfl, _, rfl, iteNo (by intro z; injection z with z; exact absurd z (by decide +kernel)) ⟨_, rfl, _, rfl, fun y dy hy hdy hne => ⟨y, _, dy, _, _, rfl, upd_same, T.cl_Times, T.na_Times_left, T.na_Times_right, rfl, _, rfl, line_le (by show 2 ≤ 1000000; decide), fun p hp => go (fun H2 v1 v2 => H2 y = none → H2 dy = none → _ → Q (.ref p) _) (fun H2 v1 v2 s a b h1 h2 h3 => fin H2 v1 v2 y dy p s a b h1 h2 h3) H1 v1 s1 ob1 H2 v2 s2 ob2 hy hdy hp⟩⟩⟩⟩
    · have hd : ws.drop g = ("if" : Str) :: (x :: (toString lo : Str) :: (toString hi : Str) :: (words l ++ (words rt ++ rest))) := by rw [hd]; simp [words]
      obtain ⟨x1, hd1, _⟩ := drop_cons hd
      obtain ⟨x2, hd2, _⟩ := drop_cons hd1
      obtain ⟨x3, hd3, _⟩ := drop_cons hd2
      obtain ⟨x4, hd4, _⟩ := drop_cons hd3
      have dp : max (dep l) (dep rt) + 1 ≤ n + 1 := dp
      obtain ⟨il, ll⟩ := z_int (sg_int lo) ok.2.1
      obtain ⟨ih, lh⟩ := z_int (sg_int hi) ok.2.2.1
      refine ⟨_, rfl, _, rfl, L, _, _, _, rfl, rfl, SqL.of hL, at_w x1 rfl, ?_⟩
      refine ⟨_, rfl, rfl, _, rfl, iteNo (by intro z; injection z with z; exact absurd z (by decide +kernel)) ?_⟩
      refine ⟨_, rfl, rfl, _, rfl, iteYes rfl ?_⟩
      refine ⟨_, rfl, _, rfl, _, _, rfl, rfl, L, ws, _, g + 4, l, av 4, hL, hd4, ok.2.2.2.1, by omega, fun p1 v1 H1 s1 hp1 ob1 => ⟨p1, _, rfl, SqT.of hp1, rfl, _, _, rfl, _, _, rfl, rfl, ?_⟩⟩
      refine ⟨_, rfl, _, rfl, L, ws, rest, g + 4 + (words l).length, rt, rfl, s1 _ _ hL, drop_app hd4, ok.2.2.2.2, by omega, fun p2 v2 H2 s2 hp2 ob2 => ⟨p2, _, rfl, SqT.of hp2, rfl, _, _, rfl, _, _, rfl, rfl, ?_⟩⟩
      have s12 := s1.trans s2
      have hL2 := s12 _ _ hL
      refine ⟨_, rfl, _, rfl, _, _, rfl, rfl, L, _, _, _, rfl, rfl, SqL.of hL2, at_w x2 (cl 1), _, rfl, _, rfl, _, _, rfl, rfl, L, _, _, _, rfl, rfl, SqL.of hL2, at_w x3 (cl 2), _, lo, rfl, il, by omega, _, rfl, _, rfl, _, _, rfl, rfl, L, _, _, _, rfl, rfl, SqL.of hL2, at_w x4 (cl 3), _, hi, rfl, ih, by omega, _, rfl, _, rfl, fun y dy hy hdy hne => ⟨y, dy, _, _, _, _, _, rfl, upd_same, rfl, _, rfl, line_le (by show 2 ≤ 1000000; decide), fun p hp => ?_⟩⟩
      have s3 : Same H2 (upd (upd (upd H2 dy (.own y)) y (.ins t.C_Guard dy [])) y (.ins t.C_Guard dy [("axis", .str x), ("low", .int lo), ("high", .int hi), ("inner", v1), ("outer", v2)])) := same_made hy hdy
      have s4 := s3.trans (same_new (o := .tup [V.ref y, .int ((g + 4 + (words l).length + (words rt).length : Nat) : Int)]) hp)
      refine k p (.ref y) _ (s12.trans s4) ?_ (.guard (restr_mk (s12.free hy) (same_new hp _ _ upd_same)) (ob_new (Same.refl _) (s2.trans s4) ob1) (ob_new s1 s4 ob2))
      rw [upd_same, show g + (words (.guard x lo hi l rt)).length = g + 4 + (words l).length + (words rt).length by simp [words]; omega]
theorem ok_lt (T : Txt K mg t) : ∀ n : Nat, FnOk P w K mg base CX0 (n + 7) t.f_l_term t.d_l_term ["_law_words", "_law_at"] (sp_lt t n)
  | 0 => FnOk.none fun vs H Q E h => by
    obtain ⟨L, ws, rest, g, u, _, _, _, _, dp, _⟩ := h
    have := dep_pos u
    omega
  | n + 1 => lt_step T (by omega) (ok_lt T n)
theorem ok_l_term (T : Txt K mg t) : FnOk P w K mg base CX0 12 t.f_l_term t.d_l_term ["_law_words", "_law_at"] (sp_lt t 5) := ok_lt T 5
end
end My

set_option Elab.async false
set_option linter.all false
set_option maxRecDepth 100000
set_option maxHeartbeats 4000000
namespace My
open PySem L2 M84
local macro_rules | `(tactic| walk_at "lk") => `(tactic| first | with_reducible exact lk0 | (refine lk1 (by decide +kernel) ?_; walk_at "lk") | rfl)
theorem pr_reps {α : Type} {G : Hp} {F : V → α → Prop} {d : α → PyData} (f : ∀ v e, Rep G v (d e) → F v e) : ∀ {es : List α} {ys : List V}, Reps G ys (es.map d) → Paired F ys es
  | [], _, r => by cases r; exact .nil
  | e :: es, _, r => by
    rw [List.map_cons] at r
    cases r with
    | cons a r => exact .cons (f _ _ a) (pr_reps f r)
theorem ax_of {H : Hp} {a : Addr} {p : Prg} (h : Rep H (.ref a) (encIx (axP p))) : ∃ va, H a = some (.lst va) ∧ Paired (AxP H) va p.ax := by
  obtain ⟨_, es, q, el, rs⟩ := rep_lst (show Rep H (.ref a) (.list ((axP p).map encI)) from h)
  cases q
  refine ⟨es, el, pr_reps (G := H) (d := fun e : Str × Nat => encI (e.1, (e.2 : Int))) (fun v e z => ?_) ?_⟩
  · obtain ⟨b, rfl, hb⟩ := rep_I z
    exact ⟨b, rfl, hb⟩
  · unfold axP at rs
    rw [List.map_map] at rs
    exact rs
theorem tb_of {H : Hp} {a : Addr} {tb : List (Str × List Str)} (h : Rep H (.ref a) (encTb tb)) : ∃ va, H a = some (.lst va) ∧ Paired (TbP (fun _ => True) H) va tb := by
  obtain ⟨_, es, q, el, rs⟩ := rep_lst (show Rep H (.ref a) (.list (tb.map encT)) from h)
  cases q
  refine ⟨es, el, pr_reps (fun v e z => ?_) rs⟩
  obtain ⟨b, c, rfl, hb, hc⟩ := rep_T z
  exact ⟨b, c, rfl, trivial, hb, hc⟩
def sp_pt (A : Adr) : Sp := fun vs H Q _ => ∃ (q : Addr) (p : Prg), vs = [.ref q] ∧ PrAt A H q p.wh (axP p) p.tb p.ls p.os ∧ PrgOk p ∧ (∀ e ∈ p.ls, nod e.2.2 ≤ 31) ∧ ∀ H', Same H H' → Q (.str (txP p)) H'
/-- rows as lists of words, none of them R or D -/
def RwN (R D : Addr) (G : Hp) (v : V) (ws : List Str) : Prop := ∃ a, v = .ref a ∧ (a ≠ R ∧ a ≠ D) ∧ G a = some (.lst (ws.map V.str))
structure CpAt (G0 G : Hp) (R D : Addr) (ys : List V) (new : List (List Str)) : Prop where
  s : Same G0 G
  hD : G D = some (.lst ys)
  pr : Paired (RwN R D G) ys new
theorem CpAt.add {G0 G G2 : Hp} {R D c : Addr} {u : HO} {ys : List V} {new : List (List Str)} {ws : List Str} (h : CpAt G0 G R D ys new) (hR : G0 R = some u) (hD0 : G0 D = none) (s : Same G G2) (hc : G2 c = none) :
    CpAt G0 (upd (upd G2 c (.lst (ws.map V.str))) D (.lst (ys ++ [.ref c]))) R D (ys ++ [.ref c]) (new ++ [ws]) := by
  have hD2 := s _ _ h.hD
  have hR2 := (h.s.trans s) _ _ hR
  have cD : c ≠ D := (ne_of_none hD2 hc).symm
  have cR : c ≠ R := (ne_of_none hR2 hc).symm
  refine ⟨same_fresh (h.s.trans (s.trans (same_new hc))) hD0, upd_same, Paired.snoc ⟨c, rfl, ⟨cR, cD⟩, by rw [upd_ne cD]; exact upd_same⟩ (Paired.mapP h.pr fun _ _ z => ?_)⟩
  obtain ⟨b, z1, z2, z3⟩ := z
  exact ⟨b, z1, z2, by rw [upd_ne z2.2, upd_ne (ne_of_none (s _ _ z3) hc)]; exact s _ _ z3⟩
theorem papp {α β : Type} {F : α → β → Prop} : ∀ {l : List α} {m : List β} {l' : List α} {m' : List β}, Paired F l m → Paired F l' m' → Paired F (l ++ l') (m ++ m')
  | _, _, _, _, .nil, h => h
  | _, _, _, _, .cons r t, h => .cons r (papp t h)
structure RsAt (H G : Hp) (R : Addr) (vs : List V) (rows : List (List Str)) : Prop where
  s : Same H G
  hR : G R = some (.lst vs)
  pr : Paired (RwN R R G) vs rows
theorem RsAt.ext {H G0 G : Hp} {R D : Addr} {vs ys : List V} {rows new : List (List Str)} (h : RsAt H G0 R vs rows) (h0 : H R = none) (c : CpAt G0 G R D ys new) : RsAt H (upd G R (.lst (vs ++ ys))) R (vs ++ ys) (rows ++ new) := by
  refine ⟨same_fresh (h.s.trans c.s) h0, upd_same, papp (Paired.mapP h.pr fun _ _ z => ?_) (Paired.mapP c.pr fun _ _ z => ?_)⟩
  · obtain ⟨b, z1, z2, z3⟩ := z
    exact ⟨b, z1, z2, by rw [upd_ne z2.1]; exact c.s _ _ z3⟩
  · obtain ⟨b, z1, z2, z3⟩ := z
    exact ⟨b, z1, ⟨z2.1, z2.1⟩, by rw [upd_ne z2.1]; exact z3⟩
section
variable {P : Program} {w : World} {K : PySem.W.Frag} {mg : Str → Option Value} {base : Heap} {t : Adr}
theorem ok_program_text (T : Txt K mg t) : FnOk P w K mg base CX0 9 t.f_program_text t.d_program_text ["program"] (sp_pt t) := by
  refine T.F_program_text.ok sc_program_text (fun vs H Q E h => ?_) (fun cdv A outer s H vs Q E hr h => ?_)
  · obtain ⟨q, p, rfl, _⟩ := h
    rfl
  · obtain ⟨q, p, rfl, pr, ok, hn, k⟩ := h
    obtain ⟨dx, a, tt, l, o, hf, ra, rt, ⟨xs, hl, pl⟩, ro⟩ := pr.ob
    obtain ⟨ya, hya, pya⟩ := ax_of ra
    obtain ⟨yt, hyt, pyt⟩ := tb_of rt
    obtain ⟨o', eo, ho⟩ := rep_S ro
    cases eo
    have l1 := ok.l1
    have l2 := ok.l2
    have l3 := ok.l3
    have l4 := ok.l4
    have bw : B30 (p.wh : Int) := ok.w30
    refine ⟨_, (pss_cons (ps_set (i := 1) sc_program_text.nd rfl (Or.inl rfl) (pe_lst (pa_cons (pe_lst (pa_cons pe_str (pa_cons (pe_callTy call_str_int (by rfl) T.z_str PyProof.Rows.boot_str (pa_cons (pe_fld (pv 0) rfl) pa_nil)) pa_nil))) pa_nil)))
      (pss_cons (ps_expr (pe_bm PySem.F.plainAttrs_list PySem.F.slot_list_extend PySem.F.type_list_extend mt_extend (pv 1) (pa_cons (pe_comp (N' := ["name", "length"]) (ix := (List.replicate 2 none)) (g := gTup K 2 (gCons (gName 0) (gCons (gName 1) gNil))) rfl (clok_none rfl (by decide +kernel) (by decide +kernel)) (ixok_none rfl) (pi_list (pe_fld (pv 0) rfl)) (fun _ _ _ _ => (pg_tup (n := 2) rfl (pgs_cons (pg_name (i := 0) nd_comp_11 rfl (Or.inl rfl) (Or.inr rfl)) (pgs_cons (pg_name (i := 1) nd_comp_11 rfl (Or.inl rfl) (Or.inr rfl)) pgs_nil)))) (fun _ _ _ _ => (pe_lst (pa_cons pe_str (pa_cons (pv 0) (pa_cons (pe_callTy call_str_int (by rfl) T.z_str PyProof.Rows.boot_str (pa_cons (pv 1) pa_nil)) pa_nil)))))) pa_nil)))
      (pss_cons (ps_expr (pe_bm PySem.F.plainAttrs_list PySem.F.slot_list_extend PySem.F.type_list_extend mt_extend (pv 1) (pa_cons (pe_comp (N' := ["name", "axes"]) (ix := (List.replicate 2 none)) (g := gTup K 2 (gCons (gName 0) (gCons (gName 1) gNil))) rfl (clok_none rfl (by decide +kernel) (by decide +kernel)) (ixok_none rfl) (pi_list (pe_fld (pv 0) rfl)) (fun _ _ _ _ => (pg_tup (n := 2) rfl (pgs_cons (pg_name (i := 0) nd_comp_12 rfl (Or.inl rfl) (Or.inr rfl)) (pgs_cons (pg_name (i := 1) nd_comp_12 rfl (Or.inl rfl) (Or.inr rfl)) pgs_nil)))) (fun _ _ _ _ => (pe_op op_cat (pe_lst (pa_cons pe_str (pa_cons (pv 0) pa_nil))) (pv 1)))) pa_nil)))
      (pss_cons (ps_expr (pe_bm PySem.F.plainAttrs_list PySem.F.slot_list_extend PySem.F.type_list_extend mt_extend (pv 1) (pa_cons (pe_comp (N' := ["let"]) (ix := (List.replicate 1 none)) rfl (clok_none rfl (by decide +kernel) (by decide +kernel)) (ixok_none rfl) (pi_list (pe_fld (pv 0) rfl)) (fun _ _ _ _ => (pg_name (i := 0) nd_comp_13 rfl (Or.inl rfl) (Or.inr rfl))) (fun _ _ _ _ => (pe_op op_cat (pe_op op_cat (pe_op op_cat (pe_lst (pa_cons pe_str (pa_cons (pe_fldK (K := K) rfl (pv 0) rfl) pa_nil))) (pe_fldK (K := K) rfl (pv 0) rfl)) (pe_lst (pa_cons pe_str pa_nil))) (pe_methE (P := P) (w := w) (K := K) (mg := mg) (base := base) hr rfl rfl rfl rfl rfl rfl (pe_fldK (K := K) rfl (pv 0) rfl))))) pa_nil)))
      (pss_cons (ps_expr (pe_bm PySem.F.plainAttrs_list PySem.F.slot_list_extend PySem.F.type_list_extend mt_extend (pv 1) (pa_cons (pe_comp (N' := ["name"]) (ix := (List.replicate 1 none)) rfl (clok_none rfl (by decide +kernel) (by decide +kernel)) (ixok_none rfl) (pi_list (pe_fld (pv 0) rfl)) (fun _ _ _ _ => (pg_name (i := 0) nd_comp_14 rfl (Or.inl rfl) (Or.inr rfl))) (fun _ _ _ _ => (pe_lst (pa_cons pe_str (pa_cons (pv 0) pa_nil))))) pa_nil)))
      (pss_one (ps_ret (pe_bm PySem.F.plainAttrs_str PySem.F.slot_str_join PySem.F.type_str_join mt_join pe_str (pa_cons (pe_comp (N' := ["words"]) (ix := (List.replicate 1 none)) rfl (clok_none rfl (by decide +kernel) (by decide +kernel)) (ixok_none rfl) (pi_list (pv 1)) (fun _ _ _ _ => (pg_name (i := 0) nd_comp_15 rfl (Or.inl rfl) (Or.inr rfl))) (fun _ _ _ _ => (pe_bmK (K := K) rfl PySem.F.plainAttrs_str PySem.F.slot_str_join PySem.F.type_str_join (mt_joinK (K := K) rfl) pe_str (pa_cons (pv 0) pa_nil)))) pa_nil))))))))), ?_⟩
    refine ⟨_, rfl, q, _, dx, _, _, rfl, hf, T.cl_Program, T.na_Program_wheel, (by walk_at "lk"), _, rfl, log_ok (sm_b30 bw), line_le (by show 2 ≤ 1000000; decide), fun w0 hw0 => ⟨line_le (by show 1 ≤ 1000000; decide), fun R hR => ?_⟩⟩
    have sw := same_new (o := .lst [V.str "wheel", .str (toString (p.wh : Int))]) hw0
    have hR0 : H R = none := sw.free hR
    have wR : w0 ≠ R := fun z => by rw [← z, upd_same] at hR; cases hR
    have r0 : RsAt H (upd (upd H w0 (.lst [V.str "wheel", .str (toString (p.wh : Int))])) R (.lst [.ref w0])) R [.ref w0] [[("wheel" : Str), (toString (p.wh : Int) : Str)]] := ⟨sw.trans (same_new hR), upd_same, .cons ⟨w0, rfl, ⟨wR, wR⟩, by rw [upd_ne wR]; exact upd_same⟩ .nil⟩
    generalize upd (upd H w0 (.lst [V.str "wheel", .str (toString (p.wh : Int))])) R (.lst [.ref w0]) = H1 at r0 ⊢
    -- axes
    refine ⟨_, rfl, .inl ⟨rfl, _, SqL.of r0.hR⟩, _, rfl, q, _, dx, _, _, rfl, r0.s _ _ hf, T.cl_Program, T.na_Program_axes, (by walk_at "lk"), a, rfl, ⟨_, SqL.of (r0.s _ _ hya)⟩, fun D hD => ?_⟩
    refine comp_listQ (K := K) (a := a) (D := D) (xs := ya) (fun i ys G => CpAt H1 G R D ys ((p.ax.take i).map fun e => ("axis" : Str) :: axW e)) ⟨same_new hD, upd_same, .nil⟩ (fun i ys G c => SqL.of (c.s _ _ (r0.s _ _ hya))) ?_ ?_
    · rintro i v ys G hv c
      obtain ⟨e, he, b, rfl, hb⟩ := pget2 pya hv
      have b6 := b60 (ok.ax e (List.mem_of_getElem? he)).2.2
      have lp := Paired.length c.pr
      rw [List.length_map, List.length_take] at lp
      refine ⟨b, _, rfl, SqT.of (c.s _ _ (r0.s _ _ hb)), rfl, _, _, rfl, _, _, rfl, rfl, True.intro, _, rfl, _, rfl, _, rfl, log_ok (sm_b30 b6), line_le (by show 3 ≤ 1000000; decide), fun z hz => ⟨same_new hz _ _ c.hD, line_lt (by omega), ?_⟩⟩
      rw [List.take_add_one, he, Option.toList_some, List.map_append]
      exact c.add (ws := ("axis" : Str) :: axW e) r0.hR hD (Same.refl _) hz
    rintro ys G c
    rw [Paired.length pya, List.take_length] at c
    have ly := Paired.length c.pr
    have lr := Paired.length r0.pr
    refine ⟨R, D, _, _, rfl, rfl, c.s _ _ r0.hR, c.hD, line_le (by rw [List.length_map] at ly; simp; omega), ?_⟩
    have r1 := r0.ext hR0 c
    generalize upd G R (.lst ([V.ref w0] ++ ys)) = H2 at r1 ⊢
    clear c ly lr hD r0
    generalize hv1 : [V.ref w0] ++ ys = v1 at r1
    -- tables
    refine ⟨_, rfl, .inl ⟨rfl, _, SqL.of r1.hR⟩, _, rfl, q, _, dx, _, _, rfl, r1.s _ _ hf, T.cl_Program, T.na_Program_tables, (by walk_at "lk"), tt, rfl, ⟨_, SqL.of (r1.s _ _ hyt)⟩, fun D hD => ?_⟩
    refine comp_listQ (K := K) (a := tt) (D := D) (xs := yt) (fun i ys G => CpAt H2 G R D ys ((p.tb.take i).map fun e => ("table" : Str) :: tbW e)) ⟨same_new hD, upd_same, .nil⟩ (fun i ys G c => SqL.of (c.s _ _ (r1.s _ _ hyt))) ?_ ?_
    · rintro i v ys G hv c
      obtain ⟨e, he, b, cc, rfl, _, hb, hcc⟩ := pget2 pyt hv
      have l12 := (ok.tb e (List.mem_of_getElem? he)).ln
      have lp := Paired.length c.pr
      rw [List.length_map, List.length_take] at lp
      refine ⟨b, _, rfl, SqT.of (c.s _ _ (r1.s _ _ hb)), rfl, _, _, rfl, _, _, rfl, rfl, True.intro, _, rfl, line_le (by show 2 ≤ 1000000; decide), fun z1 hz1 => ?_⟩
      have s1 := same_new (o := .lst [V.str "table", .str e.1]) hz1
      refine ⟨_, rfl, z1, cc, _, _, rfl, rfl, upd_same, s1 _ _ (c.s _ _ (r1.s _ _ hcc)), line_le (by simp; omega), fun z hz => ⟨same_new hz _ _ (s1 _ _ c.hD), line_lt (by omega), ?_⟩⟩
      rw [List.take_add_one, he, Option.toList_some, List.map_append]
      exact c.add (ws := ("table" : Str) :: tbW e) r1.hR hD s1 hz
    rintro ys2 G c
    rw [Paired.length pyt, List.take_length] at c
    have ly := Paired.length c.pr
    have lr := Paired.length r1.pr
    refine ⟨R, D, _, _, rfl, rfl, c.s _ _ r1.hR, c.hD, line_le (by rw [List.length_map] at ly; simp at lr; omega), ?_⟩
    have r2 := r1.ext hR0 c
    generalize upd G R (.lst (v1 ++ ys2)) = H3 at r2 ⊢
    clear c ly lr hD r1
    generalize hv2 : v1 ++ ys2 = v2 at r2
    -- lets
    refine ⟨_, rfl, .inl ⟨rfl, _, SqL.of r2.hR⟩, _, rfl, q, _, dx, _, _, rfl, r2.s _ _ hf, T.cl_Program, T.na_Program_lets, (by walk_at "lk"), l, rfl, ⟨_, SqL.of (r2.s _ _ hl)⟩, fun D hD => ?_⟩
    refine comp_listQ (K := K) (a := l) (D := D) (xs := xs) (fun i ys G => CpAt H3 G R D ys ((p.ls.take i).map fun e => ("let" : Str) :: ltW e)) ⟨same_new hD, upd_same, .nil⟩ (fun i ys G c => SqL.of (c.s _ _ (r2.s _ _ hl))) ?_ ?_
    · rintro i v ys G hv c
      obtain ⟨e, he, y, dy, cc, nv, dn, rfl, hy, _, hcc, ob⟩ := pget2 pl hv
      have oe := (ok.ls e (List.mem_of_getElem? he)).1
      have nd := hn e (List.mem_of_getElem? he)
      have l12 := oe.ln
      have lwd := words_len e.2.2
      have lp := Paired.length c.pr
      rw [List.length_map, List.length_take] at lp
      have sc := r2.s.trans c.s
      refine ⟨True.intro, _, rfl, y, _, dy, _, _, rfl, sc _ _ hy, T.cl_Let, T.na_Let_name, (by walk_at "lk"), line_le (by show 2 ≤ 1000000; decide), fun z1 hz1 => ?_⟩
      have s1 := same_new (o := .lst [V.str "let", .str e.1]) hz1
      have hz1' : upd G z1 (.lst [V.str "let", .str e.1]) z1 = some (.lst [V.str "let", .str e.1]) := upd_same
      generalize upd G z1 (.lst [V.str "let", .str e.1]) = G1 at s1 hz1' ⊢
      refine ⟨_, rfl, y, _, dy, _, _, rfl, s1 _ _ (sc _ _ hy), T.cl_Let, T.na_Let_axes, (by walk_at "lk"), z1, cc, _, _, rfl, rfl, hz1', s1 _ _ (sc _ _ hcc), line_le (by simp; omega), fun z2 hz2 => ?_⟩
      have s2 := s1.trans (same_new (o := .lst ([V.str "let", .str e.1] ++ e.2.1.map V.str)) hz2)
      have hz2' : upd G1 z2 (.lst ([V.str "let", .str e.1] ++ e.2.1.map V.str)) z2 = some (.lst ([V.str "let", .str e.1] ++ e.2.1.map V.str)) := upd_same
      generalize upd G1 z2 (.lst ([V.str "let", .str e.1] ++ e.2.1.map V.str)) = G2 at s2 hz2' ⊢
      refine ⟨line_le (by show 1 ≤ 1000000; decide), fun z3 hz3 => ?_⟩
      have s3 := same_new (o := .lst [V.str "="]) hz3
      refine ⟨z2, z3, _, _, rfl, rfl, s3 _ _ hz2', upd_same, line_le (by simp; omega), fun z4 hz4 => ?_⟩
      have s4 := s2.trans (s3.trans (same_new (o := .lst ([V.str "let", .str e.1] ++ e.2.1.map V.str ++ [V.str "="])) hz4))
      have hz4' : upd (upd G2 z3 (.lst [V.str "="])) z4 (.lst ([V.str "let", .str e.1] ++ e.2.1.map V.str ++ [V.str "="])) z4 = some (.lst ([V.str "let", .str e.1] ++ e.2.1.map V.str ++ [V.str "="])) := upd_same
      generalize upd (upd G2 z3 (.lst [V.str "="])) z4 (.lst ([V.str "let", .str e.1] ++ e.2.1.map V.str ++ [V.str "="])) = G4 at s4 hz4' ⊢
      refine ⟨_, rfl, y, _, dy, _, _, rfl, s4 _ _ (sc _ _ hy), T.cl_Let, T.na_Let_term, (by walk_at "lk"), ?_⟩
      obtain ⟨a', C', dx', fs', k', f', fd', ps', sp', rfl, e', c2, m', l', F', hk', b', q2⟩ := wok (P := P) (w := w) (base := base) T 5 G4 nv e.2.2 (ob.imp (sc.trans s4)) (tmW oe.tm) oe.dp (by omega)
      refine ⟨a', C', dx', fs', k', f', fd', ps', sp', rfl, e', c2, m', l', F', hr.mono (by omega), b', q2 _ fun p2 G5 hp2 s5 h2 => ?_⟩
      refine ⟨z4, p2, _, _, rfl, rfl, s5 _ _ hz4', h2, line_le (by simp; omega), fun z hz => ?_⟩
      have ew : ([V.str "let", .str e.1] ++ e.2.1.map V.str ++ [V.str "="] ++ (words e.2.2).map V.str) = (("let" : Str) :: ltW e).map V.str := by simp [ltW]
      rw [ew]
      refine ⟨same_new hz _ _ ((s4.trans s5) _ _ c.hD), line_lt (by omega), ?_⟩
      rw [List.take_add_one, he, Option.toList_some, List.map_append]
      exact c.add (ws := ("let" : Str) :: ltW e) r2.hR hD (s4.trans s5) hz
    rintro ys3 G c
    rw [Paired.length pl, List.take_length] at c
    have ly := Paired.length c.pr
    have lr := Paired.length r2.pr
    refine ⟨R, D, _, _, rfl, rfl, c.s _ _ r2.hR, c.hD, line_le (by rw [List.length_map] at ly; simp at lr; omega), ?_⟩
    have r3 := r2.ext hR0 c
    generalize upd G R (.lst (v2 ++ ys3)) = H4 at r3 ⊢
    clear c ly lr hD r2
    generalize hv3 : v2 ++ ys3 = v3 at r3
    -- outs
    refine ⟨_, rfl, .inl ⟨rfl, _, SqL.of r3.hR⟩, _, rfl, q, _, dx, _, _, rfl, r3.s _ _ hf, T.cl_Program, T.na_Program_outs, (by walk_at "lk"), o, rfl, ⟨_, SqL.of (r3.s _ _ ho)⟩, fun D hD => ?_⟩
    refine comp_listQ (K := K) (a := o) (D := D) (xs := p.os.map V.str) (fun i ys G => CpAt H4 G R D ys ((p.os.take i).map fun x => [("out" : Str), x])) ⟨same_new hD, upd_same, .nil⟩ (fun i ys G c => SqL.of (c.s _ _ (r3.s _ _ ho))) ?_ ?_
    · rintro i v ys G hv c
      rw [List.getElem?_map] at hv
      obtain ⟨x, hx, rfl⟩ := Option.map_eq_some_iff.mp hv
      have lp := Paired.length c.pr
      rw [List.length_map, List.length_take] at lp
      refine ⟨True.intro, _, rfl, line_le (by show 2 ≤ 1000000; decide), fun z hz => ⟨same_new hz _ _ c.hD, line_lt (by omega), ?_⟩⟩
      rw [List.take_add_one, hx, Option.toList_some, List.map_append]
      exact c.add (ws := [("out" : Str), x]) r3.hR hD (Same.refl _) hz
    rintro ys4 G c
    rw [List.length_map, List.take_length] at c
    have ly := Paired.length c.pr
    have lr := Paired.length r3.pr
    refine ⟨R, D, _, _, rfl, rfl, c.s _ _ r3.hR, c.hD, line_le (by rw [List.length_map] at ly; simp at lr; omega), ?_⟩
    have r4 := r3.ext hR0 c
    generalize upd G R (.lst (v3 ++ ys4)) = H5 at r4 ⊢
    clear c ly lr hD r3
    generalize hv4 : v3 ++ ys4 = v4 at r4
    have er : [[("wheel" : Str), (toString (p.wh : Int) : Str)]] ++ List.map (fun e => ("axis" : Str) :: axW e) p.ax ++ List.map (fun e => ("table" : Str) :: tbW e) p.tb ++ List.map (fun e => ("let" : Str) :: ltW e) p.ls ++ List.map (fun x => [("out" : Str), x]) p.os = rowsP p := by
      unfold rowsP kwP
      simp only [List.map_cons, List.map_append, List.map_map, List.append_assoc, List.cons_append, List.nil_append]
      rfl
    rw [er] at r4
    -- the text
    have lv := Paired.length r4.pr
    have lr := rows_len ok
    refine ⟨rfl, _, rfl, R, rfl, ⟨_, SqL.of r4.hR⟩, fun D hD => ?_⟩
    refine comp_listQ (K := K) (a := R) (D := D) (xs := v4) (fun i ys G => Same H5 G ∧ G D = some (.lst ys) ∧ ys = (((rowsP p).take i).map (Txt.join " ")).map V.str) ⟨same_new hD, upd_same, rfl⟩ (fun i ys G ⟨s2, _⟩ => SqL.of (s2 _ _ r4.hR)) ?_ ?_
    · rintro i v ys G hv ⟨sG, hDG, rfl⟩
      obtain ⟨ws, hw, b, rfl, _, hb⟩ := pget2 r4.pr hv
      have rg := rows_ok ok hn ws (List.mem_of_getElem? hw)
      have ln := rg.ln
      have sm := sum_1000 fun x hx => (rg.gw x hx).ln
      have q2 : (" " : Str).length = 1 := by decide +kernel
      refine ⟨True.intro, rfl, _, rfl, " ", b, ws, rfl, rfl, SqL.of (sG _ _ hb), by rw [q2]; omega, hDG, line_lt (by rw [List.length_map, List.length_map, List.length_take]; omega), same_fresh sG hD, upd_same, ?_⟩
      rw [List.take_add_one, hw, Option.toList_some, List.map_append, List.map_append]
      rfl
    · rintro ys G ⟨sG, hDG, rfl⟩
      rw [lv, List.take_length] at hDG
      have q2 : ("\n" : Str).length = 1 := by decide +kernel
      have sm := rowsT_sum ok hn
      exact ⟨"\n", D, _, rfl, rfl, SqL.of hDG, by rw [q2, List.length_map]; omega, k G (r4.s.trans sG)⟩
end
end My

set_option Elab.async false
set_option linter.all false
set_option maxRecDepth 100000
set_option maxHeartbeats 4000000
namespace My
open PySem L2 M84
local macro_rules | `(tactic| walk_at "lk") => `(tactic| first | with_reducible exact lk0 | (refine lk1 (by decide +kernel) ?_; walk_at "lk") | rfl)
def spLaw (K : PySem.W.Frag) : Sp := fun vs H Q _ => ∃ (a : Addr) (ns : List Int), vs = [.ref a] ∧ SqL K H a (ns.map V.int) ∧ ns.length ≤ 63 ∧ ∀ H', Q (.bl true) H'
section
variable {P : Program} {w : World} {K : PySem.W.Frag} {mg : Str → Option Value} {base : Heap} {t : Adr}
theorem ok_law (T : Txt K mg t) : FnOk P w K mg base CX0 21 t.f_law t.d_law ["_law_script"] (spLaw K) := by
  have G_Let_init := ok_Let_init (P := P) (w := w) (base := base) T
  have G_Program_init := ok_Program_init (P := P) (w := w) (base := base) T
  have G_l_program_by := ok_l_program_by (P := P) (w := w) (base := base) T
  have G_l_rows := ok_l_rows (P := P) (w := w) (base := base) T
  have G_l_term := ok_l_term (P := P) (w := w) (base := base) T
  have G_program_text := ok_program_text (P := P) (w := w) (base := base) T
  have G_read_program := ok_read_program (P := P) (w := w) (base := base) T
  refine T.F_law.ok sc_law (fun vs H Q E h => ?_) (fun cdv A outer s H vs Q E hr h => ?_)
  · obtain ⟨a, ns, rfl, _⟩ := h
    rfl
  · obtain ⟨sc, ns, rfl, hS, ln, k⟩ := h
    refine ⟨_, (pss_cons (ps_asg (pe_call G_l_program_by (hr.mono (by omega)) rfl T.m_l_program_by T.F_l_program_by.kp T.b_l_program_by .nil pass0 (pa_cons (pv 0) pa_nil)) (pg_tup (n := 5) rfl (pgs_cons (pg_name (i := 1) sc_law.nd rfl (Or.inl rfl) (Or.inl rfl)) (pgs_cons (pg_name (i := 2) sc_law.nd rfl (Or.inl rfl) (Or.inl rfl)) (pgs_cons (pg_name (i := 3) sc_law.nd rfl (Or.inl rfl) (Or.inl rfl)) (pgs_cons (pg_name (i := 4) sc_law.nd rfl (Or.inl rfl) (Or.inl rfl)) (pgs_cons (pg_name (i := 5) sc_law.nd rfl (Or.inl rfl) (Or.inl rfl)) pgs_nil)))))))
      (pss_cons (ps_set (i := 6) sc_law.nd rfl (Or.inl rfl) (pe_bm PySem.F.plainAttrs_str PySem.F.slot_str_join PySem.F.type_str_join mt_join pe_str (pa_cons (pe_call G_l_rows (hr.mono (by omega)) rfl T.m_l_rows T.F_l_rows.kp T.b_l_rows .nil pass0 (pa_cons (pe_tup (pa_cons (pv 1) (pa_cons (pv 2) (pa_cons (pv 3) (pa_cons (pv 4) (pa_cons (pv 5) pa_nil)))))) pa_nil)) pa_nil)))
      (pss_cons (ps_setC (i₀ := 7) (N' := ["_law_name", "_law_own"]) (ix := (List.replicate 2 none)) (g := gTup K 2 (gCons (gName 0) (gCons (gName 1) gNil))) sc_law.nd rfl (Or.inl rfl) rfl (clok_none rfl (by decide +kernel) (by decide +kernel)) (ixok_none rfl) (pi_list (pv 3)) (fun _ _ _ _ => (pg_tup (n := 2) rfl (pgs_cons (pg_name (i := 0) nd_comp_17 rfl (Or.inl rfl) (Or.inr rfl)) (pgs_cons (pg_name (i := 1) nd_comp_17 rfl (Or.inl rfl) (Or.inr rfl)) pgs_nil)))) (fun _ _ _ _ => (pe_tup (pa_cons (pv 0) (pa_cons (pe_callTy (call_list_ofK (K := K) rfl) (by rfl) T.z_list PyProof.Rows.boot_list (pa_cons (pv 1) pa_nil)) pa_nil)))))
      (pss_cons (ps_setC (i₀ := 8) (N' := ["_law_name", "_law_own", "_law_words"]) (ix := (List.replicate 3 none)) (g := gTup K 3 (gCons (gName 0) (gCons (gName 1) (gCons (gName 2) gNil)))) sc_law.nd rfl (Or.inl rfl) rfl (clok_none rfl (by decide +kernel) (by decide +kernel)) (ixok_none rfl) (pi_list (pv 4)) (fun _ _ _ _ => (pg_tup (n := 3) rfl (pgs_cons (pg_name (i := 0) nd_comp_18 rfl (Or.inl rfl) (Or.inr rfl)) (pgs_cons (pg_name (i := 1) nd_comp_18 rfl (Or.inl rfl) (Or.inr rfl)) (pgs_cons (pg_name (i := 2) nd_comp_18 rfl (Or.inl rfl) (Or.inr rfl)) pgs_nil))))) (fun _ _ _ _ => (pe_make T.mk_Let G_Let_init (hr.mono (by omega)) rfl T.m_Let T.b_Let_init .nil pass0 (pa_cons (pv 0) (pa_cons (pe_callTy (call_list_ofK (K := K) rfl) (by rfl) T.z_list PyProof.Rows.boot_list (pa_cons (pv 1) pa_nil)) (pa_cons (pe_ix (ix_tupK (K := K) rfl) (pe_call G_l_term (hr.mono (by omega)) rfl T.m_l_term T.F_l_term.kp T.b_l_term .nil pass0 (pa_cons (pv 2) (pa_cons pe_int pa_nil))) pe_int (fun _ _ => rfl)) pa_nil))))))
      (pss_cons (ps_set (i := 9) sc_law.nd rfl (Or.inl rfl) (pe_call G_program_text (hr.mono (by omega)) rfl T.m_program_text T.F_program_text.kp T.b_program_text .nil pass0 (pa_cons (pe_make T.mk_Program G_Program_init (hr.mono (by omega)) rfl T.m_Program T.b_Program_init .nil pass0 (pa_cons (pv 1) (pa_cons (pe_callTy call_list_of (by rfl) T.z_list PyProof.Rows.boot_list (pa_cons (pv 2) pa_nil)) (pa_cons (pv 7) (pa_cons (pv 8) (pa_cons (pe_callTy call_list_of (by rfl) T.z_list PyProof.Rows.boot_list (pa_cons (pv 5) pa_nil)) pa_nil)))))) pa_nil)))
      (pss_cons (ps_if (PW.pt (pw_or (pt_not (pt_val (pe_callB call_isinst (by rfl) T.z_isinstance PyProof.Rows.boot_isinstance (pa_cons (pv 9) (pa_cons (pe_bltn (v := V.ty "str") rfl T.z_str PyProof.Rows.boot_str rfl) pa_nil))))) (pw_or1 (pt_cmpR op_ne (pv 9) (pv 6) (nomark _)))))
        (pss_one (ps_ret pe_bl))
        pss_nil)
      (pss_one (ps_ret (pe_cmpR op_eq (pe_call G_program_text (hr.mono (by omega)) rfl T.m_program_text T.F_program_text.kp T.b_program_text .nil pass0 (pa_cons (pe_call G_read_program (hr.mono (by omega)) rfl T.m_read_program T.F_read_program.kp T.b_read_program .nil pass0 (pa_cons (pv 6) pa_nil)) pa_nil)) (pv 6) (nomark _)))))))))), ?_⟩
    refine ⟨_, rfl, sc, ns, rfl, hS, fun q A0 B0 C0 D0 p va vt vl H1 s1 hq hA pA hB pB hC pC hD ok hn => ?_⟩
    have pg : PgAt H1 A0 B0 C0 D0 p := ⟨⟨va, hA, pA⟩, ⟨vt, hB, pB⟩, ⟨vl, hC, pC⟩, hD⟩
    refine ⟨q, _, rfl, SqT.of hq, rfl, _, _, rfl, _, _, rfl, _, _, rfl, _, _, rfl, _, _, rfl, rfl, ?_⟩
    refine ⟨rfl, _, rfl, _, rfl, _, rfl, _, rfl, _, rfl, line_le (by show 5 ≤ 1000000; decide), fun q2 hq2 => ?_⟩
    have s2 := same_new (o := .tup [V.int (p.wh : Nat), .ref A0, .ref B0, .ref C0, .ref D0]) hq2
    have hq3 : upd H1 q2 (.tup [V.int (p.wh : Nat), .ref A0, .ref B0, .ref C0, .ref D0]) q2 = some (.tup [V.int (p.wh : Nat), .ref A0, .ref B0, .ref C0, .ref D0]) := upd_same
    generalize upd H1 q2 (.tup [V.int (p.wh : Nat), .ref A0, .ref B0, .ref C0, .ref D0]) = H2 at s2 hq3 ⊢
    refine ⟨q2, A0, B0, C0, D0, p, rfl, hq3, pg.same s2, ok, hn, fun R H3 s3 hR h3 => ?_⟩
    have l1 : ("\n" : Str).length = 1 := by decide +kernel
    have lr := rows_len ok
    have sm := rowsT_sum ok hn
    refine ⟨"\n", R, _, rfl, rfl, SqL.of h3, by rw [l1, List.length_map]; omega, ?_⟩
    have s13 := s2.trans s3
    clear s2 s3 hq3 hq2 hR h3
    show tSeq _ _ _ _ _
    have hB3 := s13 _ _ hB
    have hC3 := s13 _ _ hC
    have q1 := ok.l1
    have q2 := ok.l2
    have q3 := ok.l3
    have q4 := ok.l4
    -- tables
    refine ⟨_, rfl, B0, rfl, ⟨_, SqL.of hB3⟩, fun S1 hS1 => ?_⟩
    refine comp_listQ (K := K) (a := B0) (D := S1) (xs := vt) (fun i ys G => Same H3 G ∧ G S1 = some (.lst ys) ∧ Paired (TbP (fun c => c ≠ S1) G) ys (p.tb.take i)) ⟨same_new hS1, upd_same, .nil⟩ (fun i ys G ⟨s2, _⟩ => SqL.of (s2 _ _ hB3)) ?_ ?_
    · rintro i v ys G hv ⟨sG, hG, pr⟩
      obtain ⟨e, he, b, c, rfl, _, hb, hc⟩ := pget2 pB hv
      have l12 := (ok.tb e (List.mem_of_getElem? he)).ln
      have lp := Paired.length pr
      rw [List.length_take] at lp
      have sG1 := s13.trans sG
      refine ⟨b, _, rfl, SqT.of (sG1 _ _ hb), rfl, _, _, rfl, _, _, rfl, rfl, True.intro, _, rfl, _, rfl, c, _, rfl, .inl (SqL.of (sG1 _ _ hc)), fun z hz => ⟨line_le (by show 2 ≤ 1000000; decide), fun y hy => ?_⟩⟩
      have s2 := same_new (o := .lst (e.2.map V.str)) hz
      have s3 := same_new (o := .tup [V.str e.1, .ref z]) hy
      have s23 := s2.trans s3
      have hz3 := s3 _ _ (upd_same (H := G) (a := z) (o := .lst (e.2.map V.str)))
      have hy3 : upd (upd G z (.lst (e.2.map V.str))) y (.tup [V.str e.1, .ref z]) y = some (.tup [V.str e.1, .ref z]) := upd_same
      have zS : z ≠ S1 := (ne_of_none hG hz).symm
      generalize upd (upd G z (.lst (e.2.map V.str))) y (.tup [V.str e.1, .ref z]) = G3 at s23 hz3 hy3 ⊢
      refine ⟨s23 _ _ hG, line_lt (by omega), same_fresh (sG.trans s23) hS1, upd_same, ?_⟩
      rw [List.take_add_one, he, Option.toList_some]
      exact Paired.snoc ⟨y, z, rfl, zS, by rw [upd_ne (ne_of hy3 (s23 _ _ hG) (by intro z; cases z))]; exact hy3, by rw [upd_ne zS]; exact hz3⟩ (Paired.mapP pr fun _ _ z => z.same (fun _ z => z) fun b o h e => put_keep s23 (s23 _ _ hG) b o h e)
    rintro ysT H4 ⟨s4, hS4, pT⟩
    rw [Paired.length pB, List.take_length] at pT
    have s14 := s13.trans s4
    -- lets
    refine ⟨_, rfl, C0, rfl, ⟨_, SqL.of (s4 _ _ hC3)⟩, fun D hD1 => ?_⟩
    refine comp_listQ (K := K) (a := C0) (D := D) (xs := vl) (fun i ys G => Same H4 G ∧ G D = some (.lst ys) ∧ Paired (LetAt t (fun _ => True) (restr (fun b => b ≠ D) G)) ys (p.ls.take i)) ⟨same_new hD1, upd_same, .nil⟩ (fun i ys G ⟨s2, _⟩ => SqL.of (s2 _ _ (s4 _ _ hC3))) ?_ ?_
    · rintro i v ys G hv ⟨sG, hG, pr⟩
      obtain ⟨e, he, b, c, W, rfl, _, hb, hc, hW⟩ := pget2 pC hv
      have oe := (ok.ls e (List.mem_of_getElem? he)).1
      have l12 := oe.ln
      have lp := Paired.length pr
      rw [List.length_take] at lp
      have sG1 := s14.trans sG
      refine ⟨b, _, rfl, SqT.of (sG1 _ _ hb), rfl, _, _, rfl, _, _, rfl, _, _, rfl, rfl, True.intro, _, rfl, _, rfl, c, _, rfl, .inl (SqL.of (sG1 _ _ hc)), fun z hz => ?_⟩
      have s2 := same_new (o := .lst (e.2.1.map V.str)) hz
      have hz2 : upd G z (.lst (e.2.1.map V.str)) z = some (.lst (e.2.1.map V.str)) := upd_same
      generalize upd G z (.lst (e.2.1.map V.str)) = G2 at s2 hz2 ⊢
      refine ⟨_, rfl, W, words e.2.2, [], 0, e.2.2, rfl, s2 _ _ (sG1 _ _ hW), by simp, oe.tm, oe.dp, fun p1 v1 G3 s3 hp1 ob1 => ⟨p1, _, _, _, rfl, rfl, SqT.of hp1, atI_nat (j := 0) rfl, ?_⟩⟩
      intro y dy hy hdy hne
      have u : Same G3 (upd (upd G3 dy (.own y)) y (.ins t.C_Let dy [])) := same_fresh (same_new hdy) hy
      refine ⟨y, dy, z, v1, e.1, e.2.1, rfl, upd_same, u _ _ (s3 _ _ hz2), by omega, fun c6 H6 hc6 hy6 hcc kb => ⟨rfl, ?_⟩⟩
      have s6 : Same G3 H6 := fun b o e => kb b o (ne_of_none e hy) (u _ _ e)
      have s26 := s2.trans (s3.trans s6)
      have hD6 := s26 _ _ hG
      have hD3 := (s2.trans s3) _ _ hG
      have nD : ∀ b, G3 b = none → b ≠ D := fun b z => (ne_of_none hD3 z).symm
      refine ⟨hD6, line_lt (by omega), same_fresh (sG.trans s26) hD1, upd_same, ?_⟩
      rw [List.take_add_one, he, Option.toList_some]
      have up : ∀ b o, b ≠ D → H6 b = some o → restr (fun b => b ≠ D) (upd H6 D (.lst (ys ++ [.ref y]))) b = some o := fun b o nb z => restr_mk nb (by rw [upd_ne nb]; exact z)
      refine Paired.snoc ⟨y, dy, c6, v1, (), rfl, up _ _ (nD _ hy) hy6, trivial, up _ _ (nD _ (u.free hc6)) hcc, ob1.imp fun b o z => ?_⟩ (Paired.mapP pr fun _ _ z => z.same fun b o z => up b o (restr_some z).1 (s26 _ _ (restr_some z).2))
      obtain ⟨z1, z2⟩ := restr_some z
      exact up b o (ne_of_none (s2 _ _ hG) z1).symm (s6 _ _ z2)
    rintro ysL H5 ⟨s5, hD5, pL⟩
    rw [Paired.length pC, List.take_length] at pL
    have s15 := s14.trans s5
    have lL := Paired.length pL
    -- the program
    refine ⟨_, rfl, _, rfl, A0, _, rfl, .inl (SqL.of (s15 _ _ hA)), fun A1 hA1 => ?_⟩
    have s6 := same_new (o := .lst va) hA1
    have hA6 : upd H5 A1 (.lst va) A1 = some (.lst va) := upd_same
    generalize upd H5 A1 (.lst va) = H6 at s6 hA6 ⊢
    refine ⟨_, rfl, _, rfl, _, rfl, D0, _, rfl, .inl (SqL.of (s6 _ _ (s15 _ _ hD))), fun O1 hO1 => ?_⟩
    have s7 := same_new (o := .lst (p.os.map V.str)) hO1
    have hO7 : upd H6 O1 (.lst (p.os.map V.str)) O1 = some (.lst (p.os.map V.str)) := upd_same
    generalize upd H6 O1 (.lst (p.os.map V.str)) = H7 at s7 hO7 ⊢
    have s57 := s6.trans s7
    have s17 := s15.trans s57
    intro y dy hy hdy hne
    have u : Same H7 (upd (upd H7 dy (.own y)) y (.ins t.C_Program dy [])) := same_fresh (same_new hdy) hy
    have r1 : Rep H7 (.ref A1) (encIx (axP p)) := by
      refine .lst (s7 _ _ hA6) ?_
      have := reps_pr (G := H7) (d := fun e : Str × Nat => encI (e.1, (e.2 : Int))) (fun v e z => by obtain ⟨q, rfl, hq⟩ := z; exact .tup (s17 _ _ hq) (.cons (.str _) (.cons (.int _) .nil))) pA
      unfold axP
      rw [List.map_map]
      exact this
    have s47 := s5.trans s57
    have r2 : Rep H7 (.ref S1) (encTb p.tb) := .lst (s47 _ _ hS4) (reps_pr (fun v e z => by obtain ⟨q, c, rfl, _, hq, hc⟩ := z; exact T_rep (s47 _ _ hq) (s47 _ _ hc)) pT)
    have p9 : LetsAt t (fun _ => True) H7 ysL p.ls := Paired.mapP pL fun _ _ z => z.same fun b o e => s57 _ _ (restr_some e).2
    refine ⟨y, dy, A1, S1, D, O1, p.wh, axP p, p.tb, ysL, p.os, rfl, upd_same, r1.same u, by unfold axP; rw [List.length_map]; omega, r2.same u, by omega, fun e he => Nat.le_trans (ok.tb e he).ln (by decide), u _ _ (s57 _ _ hD5), by omega, fun v hv => ?_, (S_rep hO7).same u, by omega, fun a' t' l' o' H' e1 x1 x2 n1 e2 x3 kb => ⟨rfl, ?_⟩⟩
    · obtain ⟨i, hi⟩ := List.getElem?_of_mem hv
      obtain ⟨e, _, a, dx, cc, n, dn, rfl, ha, _⟩ := pget2 p9 hi
      exact ⟨a, dx, _, rfl, ne_of_none ha hy, u _ _ ha⟩
    have sF : Same H7 H' := fun b o e => kb b o (ne_of_none e hy) (u _ _ e)
    have prA : PrAt t H' y p.wh (axP p) p.tb p.ls p.os := ⟨dy, a', t', l', o', e1, x1.imp fun _ _ z => (restr_some z).2, x2.imp fun _ _ z => (restr_some z).2, ⟨ysL, e2, Paired.mapP p9 fun _ _ z => z.same sF⟩, x3.imp fun _ _ z => (restr_some z).2⟩
    refine ⟨y, p, rfl, prA, ok, hn, fun H8 s8 => ?_⟩
    refine ⟨_, rfl, _, _, _, _, rfl, TyOf.str (txP p), isi_same "str", true, rfl, iteF ?_⟩
    refine ⟨_, rfl, _, rfl, rfl, _, rfl, iteND (fun e => absurd rfl e) (fun _ => ?_)⟩
    refine ⟨_, rfl, txP p, p, rfl, tx_len ok hn, tx_split ok hn, fun ws hw => ⟨row_split (rows_ok ok hn ws hw), Nat.le_trans (row_len (rows_ok ok hn ws hw)) (by decide)⟩, ok, fun f H9 s9 pr => ?_⟩
    refine ⟨f, p, rfl, pr, ok, hn, fun H10 s10 => ⟨_, rfl, rfl, ?_⟩⟩
    show Q (.bl (decide (V.str (txP p) = V.str (txP p)))) H10
    rw [decide_eq_true rfl]
    exact k _
end
end My

set_option Elab.async false
set_option linter.all false
set_option maxRecDepth 100000
set_option maxHeartbeats 4000000
/-! The head lays a twin of each constant that it meets; of the large ones its equation is quadratic in the constants within. A constant that bears the twin's name already keeps it from laying that one. -/
namespace PySem.W.Fast
def tw14988094142863602431 := ()
def tw11621116272688327558 := ()
def tw8179973237649556005 := ()
def tw4904739998498015567 := ()
def tw17631829569972262961 := ()
def tw14458435739000863734 := ()
def tw12008897546151872547 := ()
def tw10387879879699337440 := ()
def tw1673944146738462513 := ()
def tw6099946423896960207 := ()
def tw14038685650661728228 := ()
def tw12207616378761744594 := ()
def tw18201066624021338677 := ()
def tw11676769655508576400 := ()
def tw14171935434317003463 := ()
def tw13885996099968758946 := ()
def tw7143597071565261953 := ()
def tw17213011606140942288 := ()
def tw4932095082977964443 := ()
def tw7733711716024666200 := ()
def tw15913834577048110449 := ()
def tw689375701331460540 := ()
def tw12427699076033228237 := ()
def tw12319922439928116831 := ()
def tw13404223138599183635 := ()
def tw11068794963414704084 := ()
def tw16429462138313140518 := ()
def tw17230864334700881110 := ()
def tw13193593718389289684 := ()
def tw9236745043474706757 := ()
def tw5966950181550998958 := ()
def tw684227802088578918 := ()
def tw5103084779937969477 := ()
def tw11072932673194258587 := ()
def tw8953595741395465663 := ()
def tw4382854243762900309 := ()
def tw12184744010537131245 := ()
def tw9881762030044979746 := ()
def tw6299355523266679773 := ()
def tw10401278729205427964 := ()
def tw4964621115149194898 := ()
def tw1272897349727750138 := ()
def tw7907883187312463601 := ()
def tw16791635937577513594 := ()
def tw15463258840814262226 := ()
def tw8243422530528460125 := ()
def tw15509870776072881607 := ()
def tw1827712939153396834 := ()
def tw16238524444129301613 := ()
def tw12482372003264995635 := ()
def tw181815423419126587 := ()
def tw10812978524356182058 := ()
def tw16966523380488209104 := ()
def tw8386782943043744316 := ()
def tw13204933066193405020 := ()
def tw17870133259914393022 := ()
def tw5035094898490999514 := ()
def tw2497576509502138838 := ()
def tw6254409539368839585 := ()
def tw16995177552013572080 := ()
def tw11731664170148165171 := ()
def tw1536050840676266455 := ()
def tw1974764517080460266 := ()
def tw17519893609963311381 := ()
def tw6918468261410952304 := ()
def tw17736619046464575605 := ()
def tw12559878177463537153 := ()
def tw12440196145758374310 := ()
def tw16149989086869441831 := ()
def tw15153573993193208346 := ()
def tw16963970038187527861 := ()
def tw8895342475520912505 := ()
def tw5070225563950261741 := ()
def tw18075411529502021544 := ()
def tw93146619077265825 := ()
def tw5071553029217777770 := ()
def tw11231705502129669875 := ()
def tw5189186430713413179 := ()
def tw5401172572067305826 := ()
def tw1104959209611697774 := ()
def tw11265226270247508594 := ()
def tw4118723468502001671 := ()
def tw15231551630874156601 := ()
def tw1488273402026128217 := ()
def tw13657003362248576592 := ()
def tw648631976781947184 := ()
def tw17262973019342904002 := ()
def tw4517406066038603588 := ()
def tw14646195559909838808 := ()
def tw5237945110057746510 := ()
def tw8182964744528174269 := ()
def tw10993316980689659097 := ()
def tw12121195523377407981 := ()
def tw17126894332904958192 := ()
def tw7805793723923776251 := ()
def tw13703076681228583312 := ()
def tw8406037182900636198 := ()
def tw18283221721218643866 := ()
def tw3536598229139879980 := ()
def tw11829296015799701025 := ()
def tw6606722388372595097 := ()
def tw11218616933866042552 := ()
def tw10539937362103007763 := ()
def tw16609822789912521831 := ()
def tw12047509267983889939 := ()
def tw2926325833776071042 := ()
def tw14307763708621532683 := ()
def tw11261917889527599027 := ()
def tw13027209234847590008 := ()
def tw4246233248775686385 := ()
def tw10136946205249893487 := ()
def tw5824361369292549519 := ()
def tw14837597548924271012 := ()
def tw16356358565413337624 := ()
def tw15651708843449187410 := ()
def tw467088805194134185 := ()
def tw18035429772820594358 := ()
def tw4841852246144019228 := ()
def tw7947113480403214425 := ()
def tw13229879859355889944 := ()
def tw17938466956711349416 := ()
def tw11110958758041238137 := ()
def tw15583263176527404057 := ()
def tw3566584413970234314 := ()
def tw6973941325867677819 := ()
def tw7442898746283861701 := ()
def tw12874225605797365997 := ()
def tw8548119992443527926 := ()
def tw10011065320714273957 := ()
def tw15738024945860659757 := ()
def tw7340804916122757310 := ()
def tw8989155312468247793 := ()
def tw10435634646898126821 := ()
def tw4139351602442310491 := ()
def tw724391156273432259 := ()
def tw9453462734110448012 := ()
def tw13309326433001931630 := ()
def tw14924144137636226675 := ()
def tw12089910544301210451 := ()
def tw7616179630720446623 := ()
def tw15106321040799523222 := ()
def tw3980119336016518160 := ()
def tw8879969213146828797 := ()
def tw5306337332701086247 := ()
def tw16754784460895327959 := ()
def tw6951131125576746407 := ()
def tw13470454045804076247 := ()
def tw16064445796537427896 := ()
def tw4800094102235701585 := ()
def tw4214704039250204374 := ()
def tw8949875852393742039 := ()
def tw8864414526475664937 := ()
def tw15475871609529837439 := ()
def tw3762884906646168506 := ()
def tw22404615238337732 := ()
def tw9326176883932485369 := ()
def tw16973304305439790185 := ()
def tw14408845996186162994 := ()
def tw7647224948935555242 := ()
def tw199600082917727497 := ()
def tw17893579916276893598 := ()
def tw7363922887341509172 := ()
def tw4594262309560386047 := ()
def tw12145267846422464676 := ()
def tw6766699687211660222 := ()
def tw15876306016188082021 := ()
def tw10624627417350332580 := ()
def tw16449115527448854510 := ()
def tw16078761083867750138 := ()
def tw4521598354082527550 := ()
def tw7795357917159396721 := ()
def tw7814512704330899010 := ()
def tw10664512483101404866 := ()
def tw2074653162825245485 := ()
def tw17787784557149938437 := ()
def tw16038217191041681490 := ()
def tw13621476754653179456 := ()
def tw4090100387492647184 := ()
def tw9074933338919064544 := ()
def tw5203706639796857961 := ()
def tw14738799434931846243 := ()
def tw2406509602744202 := ()
def tw9071683649214922438 := ()
def tw6194305279196353637 := ()
def tw6062812316447276510 := ()
def tw13721445733666418942 := ()
def tw17398567158296236253 := ()
def tw365002441069304309 := ()
def tw8414712704740681927 := ()
def tw160324093075711229 := ()
def tw4400906805006747735 := ()
def tw6403725723333989463 := ()
def tw4734240753514367108 := ()
def tw2009040986688443146 := ()
def tw5571386150060080915 := ()
def tw4610602957261702653 := ()
def tw12469539644862097054 := ()
def tw10605168884873613008 := ()
def tw4768834932293097384 := ()
def tw3514657207933348100 := ()
def tw15063229957112239633 := ()
def tw4962058911848499109 := ()
def tw11771412647007862873 := ()
def tw10101253665703839322 := ()
def tw3846891472315937960 := ()
def tw12229317865875396528 := ()
def tw9546833327116081601 := ()
def tw15807605470513360881 := ()
def tw13296163575014821255 := ()
def tw9542181856581788955 := ()
def tw6285146789491478539 := ()
def tw14979204032038632963 := ()
def tw11893297920522752699 := ()
def tw11037823020262979180 := ()
def tw16162184317073053307 := ()
def tw6882458628844431189 := ()
def tw6745762682437018589 := ()
def tw15487913464552418905 := ()
def tw12876019649154496082 := ()
def tw7196523748467116983 := ()
def tw17038190537230332756 := ()
def tw10361483894418334078 := ()
def tw18415241249479981906 := ()
def tw12118836582944901021 := ()
def tw13787107645012341313 := ()
def tw3053040004251144078 := ()
def tw11754402720346870251 := ()
def tw14008132048340844287 := ()
def tw11374310058197735699 := ()
def tw9036144928539463228 := ()
def tw4923099784036808127 := ()
def tw4870509183955705946 := ()
def tw11043578837887708191 := ()
def tw18005856038140667975 := ()
def tw12574192834060354698 := ()
def tw10844337434778718180 := ()
def tw6951755813931872064 := ()
def tw509883588779715534 := ()
def tw3723984673187050644 := ()
def tw10831080807505433041 := ()
def tw14883251379400646030 := ()
def tw13742247761740701106 := ()
def tw10304044162858363520 := ()
def tw10122512463821115152 := ()
def tw5847055789448338192 := ()
def tw4932637973971686286 := ()
def tw3763802034378336835 := ()
def tw10544644070916574322 := ()
def tw830279074954799022 := ()
def tw15234474926992951466 := ()
def tw6568651621000133151 := ()
def tw7440183665687964854 := ()
def tw9045669789882363664 := ()
def tw9323425927095565188 := ()
def tw10970416996170831155 := ()
def tw487469544814926263 := ()
def tw243449179052664153 := ()
def tw18319092911037294184 := ()
def tw14137733215413398485 := ()
def tw17002741290410893978 := ()
def tw2908087443674928532 := ()
def tw17653572040200217319 := ()
def tw3754281234342135259 := ()
def tw11950368153369217320 := ()
def tw16714572177169169870 := ()
def tw8452808388097477388 := ()
def tw9616343931914525068 := ()
def tw8965698819855885998 := ()
def tw3974579960416239733 := ()
def tw8352630786462701124 := ()
def tw18214508223469028254 := ()
def tw12339586569567139536 := ()
def tw9215438493486095856 := ()
def tw18204603257698278075 := ()
def tw8530499664585463911 := ()
def tw18119578971047718726 := ()
def tw15589636634439623205 := ()
def tw8945632344058725677 := ()
def tw5735135591337103140 := ()
def tw5330730107150978404 := ()
def tw17909850590718521021 := ()
def tw17864183742708414496 := ()
def tw15554381506533674343 := ()
def tw10901590450947392408 := ()
def tw3510251653283654108 := ()
def tw7278885584579570449 := ()
def tw2845023952871417019 := ()
def tw4776105056177437505 := ()
def tw3428828720608221998 := ()
def tw3178431363675102335 := ()
def tw13491591163237192012 := ()
def tw12650721435571975926 := ()
def tw9002594835723488879 := ()
def tw8339095936367303673 := ()
def tw6904062865037073840 := ()
def tw3784273849739057431 := ()
def tw477995600847539369 := ()
def tw4572372116080723899 := ()
def tw13836782989855328228 := ()
def tw10831516461803682239 := ()
def tw14659901508679523606 := ()
def tw3064194038465779214 := ()
def tw17338612152389662869 := ()
def tw15814996824298064676 := ()
def tw10496419735350616675 := ()
def tw12828525865068567625 := ()
def tw8052769494546104534 := ()
def tw1861510526835868640 := ()
def tw10479212370207750614 := ()
def tw6780028299022389723 := ()
end PySem.W.Fast
namespace My
open PySem L2
abbrev LkF (K : PySem.W.Frag) (x q : Str) (st : Stmt) (f : Addr) : Prop := ∃ (oc : Value) (od : Option Addr) (kV dc pm : Value) (an : Option Addr) (cd ct : Value) (sl : Array (Option Value)), K.lookup f = some ⟨oc, od, .func (PySem.W.fnOf x q (defArgs st) (defBody st) (defScope st) .none kV dc pm an cd ct), sl⟩ ∧ PySem.W.codeIn K cd q = true ∧ PySem.W.keepIn K (.ref f) = true
theorem lkF_mk {K : PySem.W.Frag} {x q : Str} {st : Stmt} {f : Addr} {oc : Value} {od : Option Addr} {kV dc pm : Value} {an : Option Addr} {cd ct : Value} {sl : Array (Option Value)} (l : K.lookup f = some ⟨oc, od, .func (PySem.W.fnOf x q (defArgs st) (defBody st) (defScope st) .none kV dc pm an cd ct), sl⟩) (c : PySem.W.codeIn K cd q = true) (k : PySem.W.keepIn K (.ref f) = true) : LkF K x q st f := ⟨_, _, _, _, _, _, _, _, _, l, c, k⟩
theorem fn_mk {K : PySem.W.Frag} {x q : Str} {st : Stmt} {f : Addr} {ps : List Str} (l : LkF K x q st f) (h : ∀ (kV doc pm : Value) (an : Option Addr) (cdv ct : Value) (us : List Value), us.length = ps.length → bindArgs (PySem.W.fnOf x q (defArgs st) (defBody st) (defScope st) .none kV doc pm an cdv ct) ⟨us, []⟩ = pure (ps.zip us)) : ∃ d, Fun K x q st f d ∧ Binds K d ps [] ∧ PySem.W.keepIn K (.ref f) = true := by
  obtain ⟨_, _, _, _, _, _, _, _, _, l, c, k⟩ := l
  have F := fun_mk (st := st) l c k
  exact ⟨_, F, F.binds h, k⟩
theorem len0 {p : List Value → Prop} (h : p []) : ∀ us : List Value, us.length = 0 → p us := fun us e => by rw [List.length_eq_zero_iff.mp e]; exact h
theorem lenS {n : Nat} {p : List Value → Prop} (h : ∀ (a : Value) (us : List Value), us.length = n → p (a :: us)) : ∀ us : List Value, us.length = n + 1 → p us
  | a :: r, e => h a r (Nat.succ.inj e)
theorem all_mk {l : PySem.W.OpenLaw} {w : World} {K : PySem.W.Frag} {h : Heap} {mg : Str → Option Value} {fa : Addr} (X : K.In h) (G : h.Ns mainGlobals mg) (hfa : mg "law" = some (.ref fa))
    {C_LoomError C_NoText C_Let C_Program C_Term C_Number C_Place C_Read C_Pair C_Plus C_Minus C_Times C_Sum C_Guard C_WordRow : Addr}
    (aC_LoomError : PySem.W.nsIn K mainGlobals "LoomError" = some (some (.ref C_LoomError)))
    (aC_NoText : PySem.W.nsIn K mainGlobals "NoText" = some (some (.ref C_NoText)))
    (aC_Let : PySem.W.nsIn K mainGlobals "Let" = some (some (.ref C_Let)))
    (aC_Program : PySem.W.nsIn K mainGlobals "Program" = some (some (.ref C_Program)))
    (aC_Term : PySem.W.nsIn K mainGlobals "Term" = some (some (.ref C_Term)))
    (aC_Number : PySem.W.nsIn K mainGlobals "Number" = some (some (.ref C_Number)))
    (aC_Place : PySem.W.nsIn K mainGlobals "Place" = some (some (.ref C_Place)))
    (aC_Read : PySem.W.nsIn K mainGlobals "Read" = some (some (.ref C_Read)))
    (aC_Pair : PySem.W.nsIn K mainGlobals "Pair" = some (some (.ref C_Pair)))
    (aC_Plus : PySem.W.nsIn K mainGlobals "Plus" = some (some (.ref C_Plus)))
    (aC_Minus : PySem.W.nsIn K mainGlobals "Minus" = some (some (.ref C_Minus)))
    (aC_Times : PySem.W.nsIn K mainGlobals "Times" = some (some (.ref C_Times)))
    (aC_Sum : PySem.W.nsIn K mainGlobals "Sum" = some (some (.ref C_Sum)))
    (aC_Guard : PySem.W.nsIn K mainGlobals "Guard" = some (some (.ref C_Guard)))
    (aC_WordRow : PySem.W.nsIn K mainGlobals "WordRow" = some (some (.ref C_WordRow)))
    {f0 : Addr}
    (a0 : PySem.W.nsIn K mainGlobals "copied" = some (some (.ref f0)))
    (l0 : LkF K "copied" "copied" s_copied f0)
    {f1 : Addr}
    (a1 : PySem.W.findIn K (.ref C_Let) "__init__" = some (some (.ref f1)))
    (l1 : LkF K "__init__" "Let.__init__" s_Let_init f1)
    (i1 : PySem.W.isFn K (.ref f1) = true)
    {f2 : Addr}
    (a2 : PySem.W.findIn K (.ref C_Program) "__init__" = some (some (.ref f2)))
    (l2 : LkF K "__init__" "Program.__init__" s_Program_init f2)
    (i2 : PySem.W.isFn K (.ref f2) = true)
    {f3 : Addr}
    (a3 : PySem.W.findIn K (.ref C_Number) "__init__" = some (some (.ref f3)))
    (l3 : LkF K "__init__" "Number.__init__" s_Number_init f3)
    (i3 : PySem.W.isFn K (.ref f3) = true)
    {f4 : Addr}
    (a4 : PySem.W.findIn K (.ref C_Number) "words" = some (some (.ref f4)))
    (l4 : LkF K "words" "Number.words" s_Number_words f4)
    (i4 : PySem.W.isFn K (.ref f4) = true)
    {f5 : Addr}
    (a5 : PySem.W.findIn K (.ref C_Place) "__init__" = some (some (.ref f5)))
    (l5 : LkF K "__init__" "Place.__init__" s_Place_init f5)
    (i5 : PySem.W.isFn K (.ref f5) = true)
    {f6 : Addr}
    (a6 : PySem.W.findIn K (.ref C_Place) "words" = some (some (.ref f6)))
    (l6 : LkF K "words" "Place.words" s_Place_words f6)
    (i6 : PySem.W.isFn K (.ref f6) = true)
    {f7 : Addr}
    (a7 : PySem.W.findIn K (.ref C_Read) "__init__" = some (some (.ref f7)))
    (l7 : LkF K "__init__" "Read.__init__" s_Read_init f7)
    (i7 : PySem.W.isFn K (.ref f7) = true)
    {f8 : Addr}
    (a8 : PySem.W.findIn K (.ref C_Read) "words" = some (some (.ref f8)))
    (l8 : LkF K "words" "Read.words" s_Read_words f8)
    (i8 : PySem.W.isFn K (.ref f8) = true)
    {f9 : Addr}
    (a9 : PySem.W.nsIn K mainGlobals "index_word" = some (some (.ref f9)))
    (l9 : LkF K "index_word" "index_word" s_index_word f9)
    {f10 : Addr}
    (a10 : PySem.W.findIn K (.ref C_Pair) "__init__" = some (some (.ref f10)))
    (l10 : LkF K "__init__" "Pair.__init__" s_Pair_init f10)
    (i10 : PySem.W.isFn K (.ref f10) = true)
    {f11 : Addr}
    (a11 : PySem.W.findIn K (.ref C_Pair) "words" = some (some (.ref f11)))
    (l11 : LkF K "words" "Pair.words" s_Pair_words f11)
    (i11 : PySem.W.isFn K (.ref f11) = true)
    {f12 : Addr}
    (a12 : PySem.W.findIn K (.ref C_Plus) "sign" = some (some (.ref f12)))
    (l12 : LkF K "sign" "Plus.sign" s_Plus_sign f12)
    (i12 : PySem.W.isFn K (.ref f12) = true)
    {f13 : Addr}
    (a13 : PySem.W.findIn K (.ref C_Minus) "sign" = some (some (.ref f13)))
    (l13 : LkF K "sign" "Minus.sign" s_Minus_sign f13)
    (i13 : PySem.W.isFn K (.ref f13) = true)
    {f14 : Addr}
    (a14 : PySem.W.findIn K (.ref C_Times) "sign" = some (some (.ref f14)))
    (l14 : LkF K "sign" "Times.sign" s_Times_sign f14)
    (i14 : PySem.W.isFn K (.ref f14) = true)
    {f15 : Addr}
    (a15 : PySem.W.findIn K (.ref C_Sum) "__init__" = some (some (.ref f15)))
    (l15 : LkF K "__init__" "Sum.__init__" s_Sum_init f15)
    (i15 : PySem.W.isFn K (.ref f15) = true)
    {f16 : Addr}
    (a16 : PySem.W.findIn K (.ref C_Sum) "words" = some (some (.ref f16)))
    (l16 : LkF K "words" "Sum.words" s_Sum_words f16)
    (i16 : PySem.W.isFn K (.ref f16) = true)
    {f17 : Addr}
    (a17 : PySem.W.findIn K (.ref C_Guard) "__init__" = some (some (.ref f17)))
    (l17 : LkF K "__init__" "Guard.__init__" s_Guard_init f17)
    (i17 : PySem.W.isFn K (.ref f17) = true)
    {f18 : Addr}
    (a18 : PySem.W.findIn K (.ref C_Guard) "words" = some (some (.ref f18)))
    (l18 : LkF K "words" "Guard.words" s_Guard_words f18)
    (i18 : PySem.W.isFn K (.ref f18) = true)
    {f19 : Addr}
    (a19 : PySem.W.nsIn K mainGlobals "is_of_letters" = some (some (.ref f19)))
    (l19 : LkF K "is_of_letters" "is_of_letters" s_is_of_letters f19)
    {f20 : Addr}
    (a20 : PySem.W.nsIn K mainGlobals "read_program" = some (some (.ref f20)))
    (l20 : LkF K "read_program" "read_program" s_read_program f20)
    {f21 : Addr}
    (a21 : PySem.W.nsIn K mainGlobals "by_sorts" = some (some (.ref f21)))
    (l21 : LkF K "by_sorts" "by_sorts" s_by_sorts f21)
    {f22 : Addr}
    (a22 : PySem.W.nsIn K mainGlobals "read_wheel" = some (some (.ref f22)))
    (l22 : LkF K "read_wheel" "read_wheel" s_read_wheel f22)
    {f23 : Addr}
    (a23 : PySem.W.nsIn K mainGlobals "read_axis" = some (some (.ref f23)))
    (l23 : LkF K "read_axis" "read_axis" s_read_axis f23)
    {f24 : Addr}
    (a24 : PySem.W.nsIn K mainGlobals "read_table" = some (some (.ref f24)))
    (l24 : LkF K "read_table" "read_table" s_read_table f24)
    {f25 : Addr}
    (a25 : PySem.W.nsIn K mainGlobals "read_let" = some (some (.ref f25)))
    (l25 : LkF K "read_let" "read_let" s_read_let f25)
    {f26 : Addr}
    (a26 : PySem.W.nsIn K mainGlobals "read_out" = some (some (.ref f26)))
    (l26 : LkF K "read_out" "read_out" s_read_out f26)
    {f27 : Addr}
    (a27 : PySem.W.nsIn K mainGlobals "look_number_of" = some (some (.ref f27)))
    (l27 : LkF K "look_number_of" "look_number_of" s_look_number_of f27)
    {f28 : Addr}
    (a28 : PySem.W.nsIn K mainGlobals "read_names" = some (some (.ref f28)))
    (l28 : LkF K "read_names" "read_names" s_read_names f28)
    {f29 : Addr}
    (a29 : PySem.W.nsIn K mainGlobals "read_name" = some (some (.ref f29)))
    (l29 : LkF K "read_name" "read_name" s_read_name f29)
    {f30 : Addr}
    (a30 : PySem.W.nsIn K mainGlobals "read_number" = some (some (.ref f30)))
    (l30 : LkF K "read_number" "read_number" s_read_number f30)
    {f31 : Addr}
    (a31 : PySem.W.nsIn K mainGlobals "read_counting" = some (some (.ref f31)))
    (l31 : LkF K "read_counting" "read_counting" s_read_counting f31)
    {f32 : Addr}
    (a32 : PySem.W.nsIn K mainGlobals "read_natural" = some (some (.ref f32)))
    (l32 : LkF K "read_natural" "read_natural" s_read_natural f32)
    {f33 : Addr}
    (a33 : PySem.W.nsIn K mainGlobals "is_figure" = some (some (.ref f33)))
    (l33 : LkF K "is_figure" "is_figure" s_is_figure f33)
    {f34 : Addr}
    (a34 : PySem.W.findIn K (.ref C_WordRow) "__init__" = some (some (.ref f34)))
    (l34 : LkF K "__init__" "WordRow.__init__" s_WordRow_init f34)
    (i34 : PySem.W.isFn K (.ref f34) = true)
    {f35 : Addr}
    (a35 : PySem.W.findIn K (.ref C_WordRow) "next_word" = some (some (.ref f35)))
    (l35 : LkF K "next_word" "WordRow.next_word" s_WordRow_next_word f35)
    (i35 : PySem.W.isFn K (.ref f35) = true)
    {f36 : Addr}
    (a36 : PySem.W.nsIn K mainGlobals "read_term" = some (some (.ref f36)))
    (l36 : LkF K "read_term" "read_term" s_read_term f36)
    {f37 : Addr}
    (a37 : PySem.W.nsIn K mainGlobals "next_term" = some (some (.ref f37)))
    (l37 : LkF K "next_term" "next_term" s_next_term f37)
    {f38 : Addr}
    (a38 : PySem.W.nsIn K mainGlobals "next_pair" = some (some (.ref f38)))
    (l38 : LkF K "next_pair" "next_pair" s_next_pair f38)
    {f39 : Addr}
    (a39 : PySem.W.nsIn K mainGlobals "next_guard" = some (some (.ref f39)))
    (l39 : LkF K "next_guard" "next_guard" s_next_guard f39)
    {f40 : Addr}
    (a40 : PySem.W.nsIn K mainGlobals "read_leaf" = some (some (.ref f40)))
    (l40 : LkF K "read_leaf" "read_leaf" s_read_leaf f40)
    {f41 : Addr}
    (a41 : PySem.W.nsIn K mainGlobals "begins_number" = some (some (.ref f41)))
    (l41 : LkF K "begins_number" "begins_number" s_begins_number f41)
    {f42 : Addr}
    (a42 : PySem.W.nsIn K mainGlobals "read_read" = some (some (.ref f42)))
    (l42 : LkF K "read_read" "read_read" s_read_read f42)
    {f43 : Addr}
    (a43 : PySem.W.nsIn K mainGlobals "read_index" = some (some (.ref f43)))
    (l43 : LkF K "read_index" "read_index" s_read_index f43)
    {f44 : Addr}
    (a44 : PySem.W.nsIn K mainGlobals "program_text" = some (some (.ref f44)))
    (l44 : LkF K "program_text" "program_text" s_program_text f44)
    {f45 : Addr}
    (a45 : PySem.W.nsIn K mainGlobals "_law_cell_at" = some (some (.ref f45)))
    (l45 : LkF K "_law_cell_at" "_law_cell_at" s_l_cell_at f45)
    {f46 : Addr}
    (a46 : PySem.W.nsIn K mainGlobals "_law_mixed" = some (some (.ref f46)))
    (l46 : LkF K "_law_mixed" "_law_mixed" s_l_mixed f46)
    {f47 : Addr}
    (a47 : PySem.W.nsIn K mainGlobals "_law_name_by" = some (some (.ref f47)))
    (l47 : LkF K "_law_name_by" "_law_name_by" s_l_name_by f47)
    {f48 : Addr}
    (a48 : PySem.W.nsIn K mainGlobals "_law_any_by" = some (some (.ref f48)))
    (l48 : LkF K "_law_any_by" "_law_any_by" s_l_any_by f48)
    {f49 : Addr}
    (a49 : PySem.W.nsIn K mainGlobals "_law_number_by" = some (some (.ref f49)))
    (l49 : LkF K "_law_number_by" "_law_number_by" s_l_number_by f49)
    {f50 : Addr}
    (a50 : PySem.W.nsIn K mainGlobals "_law_long" = some (some (.ref f50)))
    (l50 : LkF K "_law_long" "_law_long" s_l_long f50)
    {f51 : Addr}
    (a51 : PySem.W.nsIn K mainGlobals "_law_read_by" = some (some (.ref f51)))
    (l51 : LkF K "_law_read_by" "_law_read_by" s_l_read_by f51)
    {f52 : Addr}
    (a52 : PySem.W.nsIn K mainGlobals "_law_words_by" = some (some (.ref f52)))
    (l52 : LkF K "_law_words_by" "_law_words_by" s_l_words_by f52)
    {f53 : Addr}
    (a53 : PySem.W.nsIn K mainGlobals "_law_names_by" = some (some (.ref f53)))
    (l53 : LkF K "_law_names_by" "_law_names_by" s_l_names_by f53)
    {f54 : Addr}
    (a54 : PySem.W.nsIn K mainGlobals "_law_program_by" = some (some (.ref f54)))
    (l54 : LkF K "_law_program_by" "_law_program_by" s_l_program_by f54)
    {f55 : Addr}
    (a55 : PySem.W.nsIn K mainGlobals "_law_rows" = some (some (.ref f55)))
    (l55 : LkF K "_law_rows" "_law_rows" s_l_rows f55)
    {f56 : Addr}
    (a56 : PySem.W.nsIn K mainGlobals "_law_index" = some (some (.ref f56)))
    (l56 : LkF K "_law_index" "_law_index" s_l_index f56)
    {f57 : Addr}
    (a57 : PySem.W.nsIn K mainGlobals "_law_read" = some (some (.ref f57)))
    (l57 : LkF K "_law_read" "_law_read" s_l_read f57)
    {f58 : Addr}
    (a58 : PySem.W.nsIn K mainGlobals "_law_term" = some (some (.ref f58)))
    (l58 : LkF K "_law_term" "_law_term" s_l_term f58)
    {f59 : Addr}
    (a59 : PySem.W.nsIn K mainGlobals "law" = some (some (.ref f59)))
    (l59 : LkF K "law" "law" s_law f59)
    {pt_MOST_FIGURES : Tok}
    (aP_MOST_FIGURES : PySem.W.nsIn K mainGlobals "MOST_FIGURES" = some (some (.int (30) pt_MOST_FIGURES)))
    {pt_LEAST_WHEEL : Tok}
    (aP_LEAST_WHEEL : PySem.W.nsIn K mainGlobals "LEAST_WHEEL" = some (some (.int (2) pt_LEAST_WHEEL)))
    {pt_LEAST_LENGTH : Tok}
    (aP_LEAST_LENGTH : PySem.W.nsIn K mainGlobals "LEAST_LENGTH" = some (some (.int (1) pt_LEAST_LENGTH)))
    {pt_MOST_LENGTH : Tok}
    (aP_MOST_LENGTH : PySem.W.nsIn K mainGlobals "MOST_LENGTH" = some (some (.int (60) pt_MOST_LENGTH)))
    {p_SORTS : Addr} {pn_SORTS : Nat} {ps_SORTS : Array (Option Value)} {pt0_SORTS pt1_SORTS pt2_SORTS pt3_SORTS : Tok}
    (aP_SORTS : PySem.W.nsIn K mainGlobals "SORTS" = some (some (.ref p_SORTS)))
    (lP_SORTS : K.lookup p_SORTS = some ⟨.type "tuple", none, .seq #[.str "axis" pt0_SORTS, .str "table" pt1_SORTS, .str "let" pt2_SORTS, .str "out" pt3_SORTS] pn_SORTS, ps_SORTS⟩)
    (pg_Guard : PySem.W.plainGet K C_Guard Str.empty = true)
    (hd_Guard : PySem.W.hasDictIn K C_Guard = true)
    (po_Guard : PySem.W.plainOver K C_Guard = true)
    (sa_Guard : PySem.W.findIn K (.ref C_Guard) "__setattr__" = some (some (.builtin "object.__setattr__")))
    (mk_Guard : PySem.W.makesIn K C_Guard = true)
    (kc_Guard : PySem.W.keepIn K (.ref C_Guard) = true)
    (in_Guard : PySem.W.findIn K (.ref C_Guard) "__init__" = some (some (.ref f17)))
    (na_Guard_axis : PySem.W.findIn K (.ref C_Guard) "axis" = some none)
    (na_Guard_low : PySem.W.findIn K (.ref C_Guard) "low" = some none)
    (na_Guard_high : PySem.W.findIn K (.ref C_Guard) "high" = some none)
    (na_Guard_inner : PySem.W.findIn K (.ref C_Guard) "inner" = some none)
    (na_Guard_outer : PySem.W.findIn K (.ref C_Guard) "outer" = some none)
    (me_Guard_words : PySem.W.findIn K (.ref C_Guard) "words" = some (some (.ref f18)))
    (t1_Guard : PySem.W.findIn K (.ref C_Guard) "__class__" = some (some (.builtin "object.__class__")))
    (t2_0 : PySem.W.specialIn K (.builtin "object.__class__") "__get__" = some (some (.builtin "getset_descriptor.__get__")))
    (t3_0 : PySem.W.takesIn K (.builtin "object.__class__") = some true)
    (t4_Guard : PySem.W.mroIn K C_Guard (.type "object") = some true)
    (pg_Let : PySem.W.plainGet K C_Let Str.empty = true)
    (hd_Let : PySem.W.hasDictIn K C_Let = true)
    (po_Let : PySem.W.plainOver K C_Let = true)
    (sa_Let : PySem.W.findIn K (.ref C_Let) "__setattr__" = some (some (.builtin "object.__setattr__")))
    (mk_Let : PySem.W.makesIn K C_Let = true)
    (kc_Let : PySem.W.keepIn K (.ref C_Let) = true)
    (in_Let : PySem.W.findIn K (.ref C_Let) "__init__" = some (some (.ref f1)))
    (na_Let_name : PySem.W.findIn K (.ref C_Let) "name" = some none)
    (na_Let_axes : PySem.W.findIn K (.ref C_Let) "axes" = some none)
    (na_Let_term : PySem.W.findIn K (.ref C_Let) "term" = some none)
    (t1_Let : PySem.W.findIn K (.ref C_Let) "__class__" = some (some (.builtin "object.__class__")))
    (t4_Let : PySem.W.mroIn K C_Let (.type "object") = some true)
    (mb_Let_list : PySem.W.mroIn K C_Let (.type "list") = some false)
    (mb_Let_tuple : PySem.W.mroIn K C_Let (.type "tuple") = some false)
    (mb_Let_dict : PySem.W.mroIn K C_Let (.type "dict") = some false)
    (pg_Minus : PySem.W.plainGet K C_Minus Str.empty = true)
    (hd_Minus : PySem.W.hasDictIn K C_Minus = true)
    (po_Minus : PySem.W.plainOver K C_Minus = true)
    (sa_Minus : PySem.W.findIn K (.ref C_Minus) "__setattr__" = some (some (.builtin "object.__setattr__")))
    (mk_Minus : PySem.W.makesIn K C_Minus = true)
    (kc_Minus : PySem.W.keepIn K (.ref C_Minus) = true)
    (in_Minus : PySem.W.findIn K (.ref C_Minus) "__init__" = some (some (.ref f10)))
    (na_Minus_left : PySem.W.findIn K (.ref C_Minus) "left" = some none)
    (na_Minus_right : PySem.W.findIn K (.ref C_Minus) "right" = some none)
    (me_Minus_sign : PySem.W.findIn K (.ref C_Minus) "sign" = some (some (.ref f13)))
    (me_Minus_words : PySem.W.findIn K (.ref C_Minus) "words" = some (some (.ref f11)))
    (t1_Minus : PySem.W.findIn K (.ref C_Minus) "__class__" = some (some (.builtin "object.__class__")))
    (t4_Minus : PySem.W.mroIn K C_Minus (.type "object") = some true)
    (pg_Number : PySem.W.plainGet K C_Number Str.empty = true)
    (hd_Number : PySem.W.hasDictIn K C_Number = true)
    (po_Number : PySem.W.plainOver K C_Number = true)
    (sa_Number : PySem.W.findIn K (.ref C_Number) "__setattr__" = some (some (.builtin "object.__setattr__")))
    (mk_Number : PySem.W.makesIn K C_Number = true)
    (kc_Number : PySem.W.keepIn K (.ref C_Number) = true)
    (in_Number : PySem.W.findIn K (.ref C_Number) "__init__" = some (some (.ref f3)))
    (na_Number_number : PySem.W.findIn K (.ref C_Number) "number" = some none)
    (me_Number_words : PySem.W.findIn K (.ref C_Number) "words" = some (some (.ref f4)))
    (t1_Number : PySem.W.findIn K (.ref C_Number) "__class__" = some (some (.builtin "object.__class__")))
    (t4_Number : PySem.W.mroIn K C_Number (.type "object") = some true)
    (pg_Place : PySem.W.plainGet K C_Place Str.empty = true)
    (hd_Place : PySem.W.hasDictIn K C_Place = true)
    (po_Place : PySem.W.plainOver K C_Place = true)
    (sa_Place : PySem.W.findIn K (.ref C_Place) "__setattr__" = some (some (.builtin "object.__setattr__")))
    (mk_Place : PySem.W.makesIn K C_Place = true)
    (kc_Place : PySem.W.keepIn K (.ref C_Place) = true)
    (in_Place : PySem.W.findIn K (.ref C_Place) "__init__" = some (some (.ref f5)))
    (na_Place_axis : PySem.W.findIn K (.ref C_Place) "axis" = some none)
    (me_Place_words : PySem.W.findIn K (.ref C_Place) "words" = some (some (.ref f6)))
    (t1_Place : PySem.W.findIn K (.ref C_Place) "__class__" = some (some (.builtin "object.__class__")))
    (t4_Place : PySem.W.mroIn K C_Place (.type "object") = some true)
    (pg_Plus : PySem.W.plainGet K C_Plus Str.empty = true)
    (hd_Plus : PySem.W.hasDictIn K C_Plus = true)
    (po_Plus : PySem.W.plainOver K C_Plus = true)
    (sa_Plus : PySem.W.findIn K (.ref C_Plus) "__setattr__" = some (some (.builtin "object.__setattr__")))
    (mk_Plus : PySem.W.makesIn K C_Plus = true)
    (kc_Plus : PySem.W.keepIn K (.ref C_Plus) = true)
    (in_Plus : PySem.W.findIn K (.ref C_Plus) "__init__" = some (some (.ref f10)))
    (na_Plus_left : PySem.W.findIn K (.ref C_Plus) "left" = some none)
    (na_Plus_right : PySem.W.findIn K (.ref C_Plus) "right" = some none)
    (me_Plus_sign : PySem.W.findIn K (.ref C_Plus) "sign" = some (some (.ref f12)))
    (me_Plus_words : PySem.W.findIn K (.ref C_Plus) "words" = some (some (.ref f11)))
    (t1_Plus : PySem.W.findIn K (.ref C_Plus) "__class__" = some (some (.builtin "object.__class__")))
    (t4_Plus : PySem.W.mroIn K C_Plus (.type "object") = some true)
    (pg_Program : PySem.W.plainGet K C_Program Str.empty = true)
    (hd_Program : PySem.W.hasDictIn K C_Program = true)
    (po_Program : PySem.W.plainOver K C_Program = true)
    (sa_Program : PySem.W.findIn K (.ref C_Program) "__setattr__" = some (some (.builtin "object.__setattr__")))
    (mk_Program : PySem.W.makesIn K C_Program = true)
    (kc_Program : PySem.W.keepIn K (.ref C_Program) = true)
    (in_Program : PySem.W.findIn K (.ref C_Program) "__init__" = some (some (.ref f2)))
    (na_Program_wheel : PySem.W.findIn K (.ref C_Program) "wheel" = some none)
    (na_Program_axes : PySem.W.findIn K (.ref C_Program) "axes" = some none)
    (na_Program_tables : PySem.W.findIn K (.ref C_Program) "tables" = some none)
    (na_Program_lets : PySem.W.findIn K (.ref C_Program) "lets" = some none)
    (na_Program_outs : PySem.W.findIn K (.ref C_Program) "outs" = some none)
    (t1_Program : PySem.W.findIn K (.ref C_Program) "__class__" = some (some (.builtin "object.__class__")))
    (t4_Program : PySem.W.mroIn K C_Program (.type "object") = some true)
    (pg_Read : PySem.W.plainGet K C_Read Str.empty = true)
    (hd_Read : PySem.W.hasDictIn K C_Read = true)
    (po_Read : PySem.W.plainOver K C_Read = true)
    (sa_Read : PySem.W.findIn K (.ref C_Read) "__setattr__" = some (some (.builtin "object.__setattr__")))
    (mk_Read : PySem.W.makesIn K C_Read = true)
    (kc_Read : PySem.W.keepIn K (.ref C_Read) = true)
    (in_Read : PySem.W.findIn K (.ref C_Read) "__init__" = some (some (.ref f7)))
    (na_Read_array : PySem.W.findIn K (.ref C_Read) "array" = some none)
    (na_Read_indexes : PySem.W.findIn K (.ref C_Read) "indexes" = some none)
    (me_Read_words : PySem.W.findIn K (.ref C_Read) "words" = some (some (.ref f8)))
    (t1_Read : PySem.W.findIn K (.ref C_Read) "__class__" = some (some (.builtin "object.__class__")))
    (t4_Read : PySem.W.mroIn K C_Read (.type "object") = some true)
    (pg_Sum : PySem.W.plainGet K C_Sum Str.empty = true)
    (hd_Sum : PySem.W.hasDictIn K C_Sum = true)
    (po_Sum : PySem.W.plainOver K C_Sum = true)
    (sa_Sum : PySem.W.findIn K (.ref C_Sum) "__setattr__" = some (some (.builtin "object.__setattr__")))
    (mk_Sum : PySem.W.makesIn K C_Sum = true)
    (kc_Sum : PySem.W.keepIn K (.ref C_Sum) = true)
    (in_Sum : PySem.W.findIn K (.ref C_Sum) "__init__" = some (some (.ref f15)))
    (na_Sum_axis : PySem.W.findIn K (.ref C_Sum) "axis" = some none)
    (na_Sum_body : PySem.W.findIn K (.ref C_Sum) "body" = some none)
    (me_Sum_words : PySem.W.findIn K (.ref C_Sum) "words" = some (some (.ref f16)))
    (t1_Sum : PySem.W.findIn K (.ref C_Sum) "__class__" = some (some (.builtin "object.__class__")))
    (t4_Sum : PySem.W.mroIn K C_Sum (.type "object") = some true)
    (pg_Times : PySem.W.plainGet K C_Times Str.empty = true)
    (hd_Times : PySem.W.hasDictIn K C_Times = true)
    (po_Times : PySem.W.plainOver K C_Times = true)
    (sa_Times : PySem.W.findIn K (.ref C_Times) "__setattr__" = some (some (.builtin "object.__setattr__")))
    (mk_Times : PySem.W.makesIn K C_Times = true)
    (kc_Times : PySem.W.keepIn K (.ref C_Times) = true)
    (in_Times : PySem.W.findIn K (.ref C_Times) "__init__" = some (some (.ref f10)))
    (na_Times_left : PySem.W.findIn K (.ref C_Times) "left" = some none)
    (na_Times_right : PySem.W.findIn K (.ref C_Times) "right" = some none)
    (me_Times_sign : PySem.W.findIn K (.ref C_Times) "sign" = some (some (.ref f14)))
    (me_Times_words : PySem.W.findIn K (.ref C_Times) "words" = some (some (.ref f11)))
    (t1_Times : PySem.W.findIn K (.ref C_Times) "__class__" = some (some (.builtin "object.__class__")))
    (t4_Times : PySem.W.mroIn K C_Times (.type "object") = some true)
    (pg_WordRow : PySem.W.plainGet K C_WordRow Str.empty = true)
    (hd_WordRow : PySem.W.hasDictIn K C_WordRow = true)
    (po_WordRow : PySem.W.plainOver K C_WordRow = true)
    (sa_WordRow : PySem.W.findIn K (.ref C_WordRow) "__setattr__" = some (some (.builtin "object.__setattr__")))
    (mk_WordRow : PySem.W.makesIn K C_WordRow = true)
    (kc_WordRow : PySem.W.keepIn K (.ref C_WordRow) = true)
    (in_WordRow : PySem.W.findIn K (.ref C_WordRow) "__init__" = some (some (.ref f34)))
    (na_WordRow_row : PySem.W.findIn K (.ref C_WordRow) "row" = some none)
    (na_WordRow_gone : PySem.W.findIn K (.ref C_WordRow) "gone" = some none)
    (me_WordRow_next_word : PySem.W.findIn K (.ref C_WordRow) "next_word" = some (some (.ref f35)))
    (t1_WordRow : PySem.W.findIn K (.ref C_WordRow) "__class__" = some (some (.builtin "object.__class__")))
    (t4_WordRow : PySem.W.mroIn K C_WordRow (.type "object") = some true)
    (z_isinstance : PySem.W.nsIn K mainGlobals "isinstance" = some none)
    (z_list : PySem.W.nsIn K mainGlobals "list" = some none)
    (z_tuple : PySem.W.nsIn K mainGlobals "tuple" = some none)
    (z_dict : PySem.W.nsIn K mainGlobals "dict" = some none)
    (z_str : PySem.W.nsIn K mainGlobals "str" = some none)
    (z_all : PySem.W.nsIn K mainGlobals "all" = some none)
    (z_len : PySem.W.nsIn K mainGlobals "len" = some none)
    (z_int : PySem.W.nsIn K mainGlobals "int" = some none)
    (z_range : PySem.W.nsIn K mainGlobals "range" = some none)
    : ∃ fd : FuncData, (∀ (s : Shared) (v : Value), BindsTo s fd ⟨[v], []⟩ [("_law_script", v)]) ∧ ∀ base : Heap, K.In base → base.Ns mainGlobals mg → FnOk l.prog w K mg base CX0 21 fa fd ["_law_script"] (spLaw K) := by
  have e := hfa.symm.trans (PySem.W.mg_of X G a59)
  cases e
  obtain ⟨d0, F0, b0, k0⟩ := fn_mk (ps := ["value"]) l0 fun _ _ _ _ _ _ => lenS fun _ => len0 rfl
  obtain ⟨d1, F1, b1, k1⟩ := fn_mk (ps := ["self", "name", "axes", "term"]) l1 fun _ _ _ _ _ _ => lenS fun _ => lenS fun _ => lenS fun _ => lenS fun _ => len0 rfl
  obtain ⟨d2, F2, b2, k2⟩ := fn_mk (ps := ["self", "wheel", "axes", "tables", "lets", "outs"]) l2 fun _ _ _ _ _ _ => lenS fun _ => lenS fun _ => lenS fun _ => lenS fun _ => lenS fun _ => lenS fun _ => len0 rfl
  obtain ⟨d3, F3, b3, k3⟩ := fn_mk (ps := ["self", "number"]) l3 fun _ _ _ _ _ _ => lenS fun _ => lenS fun _ => len0 rfl
  obtain ⟨d4, F4, b4, k4⟩ := fn_mk (ps := ["self"]) l4 fun _ _ _ _ _ _ => lenS fun _ => len0 rfl
  obtain ⟨d5, F5, b5, k5⟩ := fn_mk (ps := ["self", "axis"]) l5 fun _ _ _ _ _ _ => lenS fun _ => lenS fun _ => len0 rfl
  obtain ⟨d6, F6, b6, k6⟩ := fn_mk (ps := ["self"]) l6 fun _ _ _ _ _ _ => lenS fun _ => len0 rfl
  obtain ⟨d7, F7, b7, k7⟩ := fn_mk (ps := ["self", "array", "indexes"]) l7 fun _ _ _ _ _ _ => lenS fun _ => lenS fun _ => lenS fun _ => len0 rfl
  obtain ⟨d8, F8, b8, k8⟩ := fn_mk (ps := ["self"]) l8 fun _ _ _ _ _ _ => lenS fun _ => len0 rfl
  obtain ⟨d9, F9, b9, k9⟩ := fn_mk (ps := ["axis", "shift"]) l9 fun _ _ _ _ _ _ => lenS fun _ => lenS fun _ => len0 rfl
  obtain ⟨d10, F10, b10, k10⟩ := fn_mk (ps := ["self", "left", "right"]) l10 fun _ _ _ _ _ _ => lenS fun _ => lenS fun _ => lenS fun _ => len0 rfl
  obtain ⟨d11, F11, b11, k11⟩ := fn_mk (ps := ["self"]) l11 fun _ _ _ _ _ _ => lenS fun _ => len0 rfl
  obtain ⟨d12, F12, b12, k12⟩ := fn_mk (ps := ["self"]) l12 fun _ _ _ _ _ _ => lenS fun _ => len0 rfl
  obtain ⟨d13, F13, b13, k13⟩ := fn_mk (ps := ["self"]) l13 fun _ _ _ _ _ _ => lenS fun _ => len0 rfl
  obtain ⟨d14, F14, b14, k14⟩ := fn_mk (ps := ["self"]) l14 fun _ _ _ _ _ _ => lenS fun _ => len0 rfl
  obtain ⟨d15, F15, b15, k15⟩ := fn_mk (ps := ["self", "axis", "body"]) l15 fun _ _ _ _ _ _ => lenS fun _ => lenS fun _ => lenS fun _ => len0 rfl
  obtain ⟨d16, F16, b16, k16⟩ := fn_mk (ps := ["self"]) l16 fun _ _ _ _ _ _ => lenS fun _ => len0 rfl
  obtain ⟨d17, F17, b17, k17⟩ := fn_mk (ps := ["self", "axis", "low", "high", "inner", "outer"]) l17 fun _ _ _ _ _ _ => lenS fun _ => lenS fun _ => lenS fun _ => lenS fun _ => lenS fun _ => lenS fun _ => len0 rfl
  obtain ⟨d18, F18, b18, k18⟩ := fn_mk (ps := ["self"]) l18 fun _ _ _ _ _ _ => lenS fun _ => len0 rfl
  obtain ⟨d19, F19, b19, k19⟩ := fn_mk (ps := ["text"]) l19 fun _ _ _ _ _ _ => lenS fun _ => len0 rfl
  obtain ⟨d20, F20, b20, k20⟩ := fn_mk (ps := ["text"]) l20 fun _ _ _ _ _ _ => lenS fun _ => len0 rfl
  obtain ⟨d21, F21, b21, k21⟩ := fn_mk (ps := ["rows"]) l21 fun _ _ _ _ _ _ => lenS fun _ => len0 rfl
  obtain ⟨d22, F22, b22, k22⟩ := fn_mk (ps := ["words"]) l22 fun _ _ _ _ _ _ => lenS fun _ => len0 rfl
  obtain ⟨d23, F23, b23, k23⟩ := fn_mk (ps := ["words"]) l23 fun _ _ _ _ _ _ => lenS fun _ => len0 rfl
  obtain ⟨d24, F24, b24, k24⟩ := fn_mk (ps := ["words"]) l24 fun _ _ _ _ _ _ => lenS fun _ => len0 rfl
  obtain ⟨d25, F25, b25, k25⟩ := fn_mk (ps := ["words"]) l25 fun _ _ _ _ _ _ => lenS fun _ => len0 rfl
  obtain ⟨d26, F26, b26, k26⟩ := fn_mk (ps := ["words"]) l26 fun _ _ _ _ _ _ => lenS fun _ => len0 rfl
  obtain ⟨d27, F27, b27, k27⟩ := fn_mk (ps := ["words", "number"]) l27 fun _ _ _ _ _ _ => lenS fun _ => lenS fun _ => len0 rfl
  obtain ⟨d28, F28, b28, k28⟩ := fn_mk (ps := ["words"]) l28 fun _ _ _ _ _ _ => lenS fun _ => len0 rfl
  obtain ⟨d29, F29, b29, k29⟩ := fn_mk (ps := ["word"]) l29 fun _ _ _ _ _ _ => lenS fun _ => len0 rfl
  obtain ⟨d30, F30, b30, k30⟩ := fn_mk (ps := ["word"]) l30 fun _ _ _ _ _ _ => lenS fun _ => len0 rfl
  obtain ⟨d31, F31, b31, k31⟩ := fn_mk (ps := ["figures"]) l31 fun _ _ _ _ _ _ => lenS fun _ => len0 rfl
  obtain ⟨d32, F32, b32, k32⟩ := fn_mk (ps := ["figures"]) l32 fun _ _ _ _ _ _ => lenS fun _ => len0 rfl
  obtain ⟨d33, F33, b33, k33⟩ := fn_mk (ps := ["sign"]) l33 fun _ _ _ _ _ _ => lenS fun _ => len0 rfl
  obtain ⟨d34, F34, b34, k34⟩ := fn_mk (ps := ["self", "row"]) l34 fun _ _ _ _ _ _ => lenS fun _ => lenS fun _ => len0 rfl
  obtain ⟨d35, F35, b35, k35⟩ := fn_mk (ps := ["self"]) l35 fun _ _ _ _ _ _ => lenS fun _ => len0 rfl
  obtain ⟨d36, F36, b36, k36⟩ := fn_mk (ps := ["words"]) l36 fun _ _ _ _ _ _ => lenS fun _ => len0 rfl
  obtain ⟨d37, F37, b37, k37⟩ := fn_mk (ps := ["row"]) l37 fun _ _ _ _ _ _ => lenS fun _ => len0 rfl
  obtain ⟨d38, F38, b38, k38⟩ := fn_mk (ps := ["sign", "row"]) l38 fun _ _ _ _ _ _ => lenS fun _ => lenS fun _ => len0 rfl
  obtain ⟨d39, F39, b39, k39⟩ := fn_mk (ps := ["row"]) l39 fun _ _ _ _ _ _ => lenS fun _ => len0 rfl
  obtain ⟨d40, F40, b40, k40⟩ := fn_mk (ps := ["word"]) l40 fun _ _ _ _ _ _ => lenS fun _ => len0 rfl
  obtain ⟨d41, F41, b41, k41⟩ := fn_mk (ps := ["text"]) l41 fun _ _ _ _ _ _ => lenS fun _ => len0 rfl
  obtain ⟨d42, F42, b42, k42⟩ := fn_mk (ps := ["word"]) l42 fun _ _ _ _ _ _ => lenS fun _ => len0 rfl
  obtain ⟨d43, F43, b43, k43⟩ := fn_mk (ps := ["index"]) l43 fun _ _ _ _ _ _ => lenS fun _ => len0 rfl
  obtain ⟨d44, F44, b44, k44⟩ := fn_mk (ps := ["program"]) l44 fun _ _ _ _ _ _ => lenS fun _ => len0 rfl
  obtain ⟨d45, F45, b45, k45⟩ := fn_mk (ps := ["_law_script", "_law_k"]) l45 fun _ _ _ _ _ _ => lenS fun _ => lenS fun _ => len0 rfl
  obtain ⟨d46, F46, b46, k46⟩ := fn_mk (ps := ["_law_cell", "_law_k"]) l46 fun _ _ _ _ _ _ => lenS fun _ => lenS fun _ => len0 rfl
  obtain ⟨d47, F47, b47, k47⟩ := fn_mk (ps := ["_law_rest"]) l47 fun _ _ _ _ _ _ => lenS fun _ => len0 rfl
  obtain ⟨d48, F48, b48, k48⟩ := fn_mk (ps := ["_law_rest"]) l48 fun _ _ _ _ _ _ => lenS fun _ => len0 rfl
  obtain ⟨d49, F49, b49, k49⟩ := fn_mk (ps := ["_law_rest"]) l49 fun _ _ _ _ _ _ => lenS fun _ => len0 rfl
  obtain ⟨d50, F50, b50, k50⟩ := fn_mk (ps := ["_law_rest"]) l50 fun _ _ _ _ _ _ => lenS fun _ => len0 rfl
  obtain ⟨d51, F51, b51, k51⟩ := fn_mk (ps := ["_law_rest"]) l51 fun _ _ _ _ _ _ => lenS fun _ => len0 rfl
  obtain ⟨d52, F52, b52, k52⟩ := fn_mk (ps := ["_law_cells", "_law_at", "_law_room"]) l52 fun _ _ _ _ _ _ => lenS fun _ => lenS fun _ => lenS fun _ => len0 rfl
  obtain ⟨d53, F53, b53, k53⟩ := fn_mk (ps := ["_law_rest", "_law_many"]) l53 fun _ _ _ _ _ _ => lenS fun _ => lenS fun _ => len0 rfl
  obtain ⟨d54, F54, b54, k54⟩ := fn_mk (ps := ["_law_script"]) l54 fun _ _ _ _ _ _ => lenS fun _ => len0 rfl
  obtain ⟨d55, F55, b55, k55⟩ := fn_mk (ps := ["_law_program"]) l55 fun _ _ _ _ _ _ => lenS fun _ => len0 rfl
  obtain ⟨d56, F56, b56, k56⟩ := fn_mk (ps := ["_law_word"]) l56 fun _ _ _ _ _ _ => lenS fun _ => len0 rfl
  obtain ⟨d57, F57, b57, k57⟩ := fn_mk (ps := ["_law_word"]) l57 fun _ _ _ _ _ _ => lenS fun _ => len0 rfl
  obtain ⟨d58, F58, b58, k58⟩ := fn_mk (ps := ["_law_words", "_law_at"]) l58 fun _ _ _ _ _ _ => lenS fun _ => lenS fun _ => len0 rfl
  obtain ⟨_, _, _, _, _, _, _, _, _, l59, c, k59⟩ := l59
  have F59 := fun_mk (st := s_law) l59 c k59
  have b59 := F59.binds (ps := ["_law_script"]) fun _ _ _ _ _ _ => lenS fun _ => len0 rfl
  exact ⟨_, fun s v => .of_eq rfl, fun base _ _ => ok_law (t := ⟨C_LoomError, C_NoText, C_Let, C_Program, C_Term, C_Number, C_Place, C_Read, C_Pair, C_Plus, C_Minus, C_Times, C_Sum, C_Guard, C_WordRow, p_SORTS, f0, _, f1, _, f2, _, f3, _, f4, _, f5, _, f6, _, f7, _, f8, _, f9, _, f10, _, f11, _, f12, _, f13, _, f14, _, f15, _, f16, _, f17, _, f18, _, f19, _, f20, _, f21, _, f22, _, f23, _, f24, _, f25, _, f26, _, f27, _, f28, _, f29, _, f30, _, f31, _, f32, _, f33, _, f34, _, f35, _, f36, _, f37, _, f38, _, f39, _, f40, _, f41, _, f42, _, f43, _, f44, _, f45, _, f46, _, f47, _, f48, _, f49, _, f50, _, f51, _, f52, _, f53, _, f54, _, f55, _, f56, _, f57, _, f58, _, fa, _⟩) ⟨F0, PySem.W.mg_of X G a0, b0, F1, b1, F2, b2, F3, b3, F4, b4, F5, b5, F6, b6, F7, b7, F8, b8, F9, PySem.W.mg_of X G a9, b9, F10, b10, F11, b11, F12, b12, F13, b13, F14, b14, F15, b15, F16, b16, F17, b17, F18, b18, F19, PySem.W.mg_of X G a19, b19, F20, PySem.W.mg_of X G a20, b20, F21, PySem.W.mg_of X G a21, b21, F22, PySem.W.mg_of X G a22, b22, F23, PySem.W.mg_of X G a23, b23, F24, PySem.W.mg_of X G a24, b24, F25, PySem.W.mg_of X G a25, b25, F26, PySem.W.mg_of X G a26, b26, F27, PySem.W.mg_of X G a27, b27, F28, PySem.W.mg_of X G a28, b28, F29, PySem.W.mg_of X G a29, b29, F30, PySem.W.mg_of X G a30, b30, F31, PySem.W.mg_of X G a31, b31, F32, PySem.W.mg_of X G a32, b32, F33, PySem.W.mg_of X G a33, b33, F34, b34, F35, b35, F36, PySem.W.mg_of X G a36, b36, F37, PySem.W.mg_of X G a37, b37, F38, PySem.W.mg_of X G a38, b38, F39, PySem.W.mg_of X G a39, b39, F40, PySem.W.mg_of X G a40, b40, F41, PySem.W.mg_of X G a41, b41, F42, PySem.W.mg_of X G a42, b42, F43, PySem.W.mg_of X G a43, b43, F44, PySem.W.mg_of X G a44, b44, F45, PySem.W.mg_of X G a45, b45, F46, PySem.W.mg_of X G a46, b46, F47, PySem.W.mg_of X G a47, b47, F48, PySem.W.mg_of X G a48, b48, F49, PySem.W.mg_of X G a49, b49, F50, PySem.W.mg_of X G a50, b50, F51, PySem.W.mg_of X G a51, b51, F52, PySem.W.mg_of X G a52, b52, F53, PySem.W.mg_of X G a53, b53, F54, PySem.W.mg_of X G a54, b54, F55, PySem.W.mg_of X G a55, b55, F56, PySem.W.mg_of X G a56, b56, F57, PySem.W.mg_of X G a57, b57, F58, PySem.W.mg_of X G a58, b58, F59, PySem.W.mg_of X G a59, b59, ⟨_, PySem.W.mg_of X G aP_MOST_FIGURES, ⟨_, rfl⟩⟩, ⟨_, PySem.W.mg_of X G aP_LEAST_WHEEL, ⟨_, rfl⟩⟩, ⟨_, PySem.W.mg_of X G aP_LEAST_LENGTH, ⟨_, rfl⟩⟩, ⟨_, PySem.W.mg_of X G aP_MOST_LENGTH, ⟨_, rfl⟩⟩, ⟨_, PySem.W.mg_of X G aP_SORTS, rfl⟩, ⟨_, _, _, lP_SORTS, rfl, rfl, (by show 4 ≤ sizeLine; decide), .cons ⟨_, rfl⟩ (.cons ⟨_, rfl⟩ (.cons ⟨_, rfl⟩ (.cons ⟨_, rfl⟩ (.nil))))⟩, ⟨_, lP_SORTS, rfl, rfl⟩, PySem.W.mg_of X G aC_Let, PySem.W.mg_of X G aC_Program, PySem.W.mg_of X G aC_Number, PySem.W.mg_of X G aC_Place, PySem.W.mg_of X G aC_Read, PySem.W.mg_of X G aC_Plus, PySem.W.mg_of X G aC_Minus, PySem.W.mg_of X G aC_Times, PySem.W.mg_of X G aC_Sum, PySem.W.mg_of X G aC_Guard, PySem.W.mg_of X G aC_WordRow, ⟨pg_Guard, hd_Guard, po_Guard, sa_Guard⟩, ⟨mk_Guard, in_Guard, i17, kc_Guard⟩, na_Guard_axis, na_Guard_low, na_Guard_high, na_Guard_inner, na_Guard_outer, ⟨me_Guard_words, i18, k18⟩, ⟨t1_Guard, t2_0, t3_0, t4_Guard⟩, ⟨pg_Let, hd_Let, po_Let, sa_Let⟩, ⟨mk_Let, in_Let, i1, kc_Let⟩, na_Let_name, na_Let_axes, na_Let_term, ⟨t1_Let, t2_0, t3_0, t4_Let⟩, mb_Let_list, mb_Let_tuple, mb_Let_dict, ⟨pg_Minus, hd_Minus, po_Minus, sa_Minus⟩, ⟨mk_Minus, in_Minus, i10, kc_Minus⟩, na_Minus_left, na_Minus_right, ⟨me_Minus_sign, i13, k13⟩, ⟨me_Minus_words, i11, k11⟩, ⟨t1_Minus, t2_0, t3_0, t4_Minus⟩, ⟨pg_Number, hd_Number, po_Number, sa_Number⟩, ⟨mk_Number, in_Number, i3, kc_Number⟩, na_Number_number, ⟨me_Number_words, i4, k4⟩, ⟨t1_Number, t2_0, t3_0, t4_Number⟩, ⟨pg_Place, hd_Place, po_Place, sa_Place⟩, ⟨mk_Place, in_Place, i5, kc_Place⟩, na_Place_axis, ⟨me_Place_words, i6, k6⟩, ⟨t1_Place, t2_0, t3_0, t4_Place⟩, ⟨pg_Plus, hd_Plus, po_Plus, sa_Plus⟩, ⟨mk_Plus, in_Plus, i10, kc_Plus⟩, na_Plus_left, na_Plus_right, ⟨me_Plus_sign, i12, k12⟩, ⟨me_Plus_words, i11, k11⟩, ⟨t1_Plus, t2_0, t3_0, t4_Plus⟩, ⟨pg_Program, hd_Program, po_Program, sa_Program⟩, ⟨mk_Program, in_Program, i2, kc_Program⟩, na_Program_wheel, na_Program_axes, na_Program_tables, na_Program_lets, na_Program_outs, ⟨t1_Program, t2_0, t3_0, t4_Program⟩, ⟨pg_Read, hd_Read, po_Read, sa_Read⟩, ⟨mk_Read, in_Read, i7, kc_Read⟩, na_Read_array, na_Read_indexes, ⟨me_Read_words, i8, k8⟩, ⟨t1_Read, t2_0, t3_0, t4_Read⟩, ⟨pg_Sum, hd_Sum, po_Sum, sa_Sum⟩, ⟨mk_Sum, in_Sum, i15, kc_Sum⟩, na_Sum_axis, na_Sum_body, ⟨me_Sum_words, i16, k16⟩, ⟨t1_Sum, t2_0, t3_0, t4_Sum⟩, ⟨pg_Times, hd_Times, po_Times, sa_Times⟩, ⟨mk_Times, in_Times, i10, kc_Times⟩, na_Times_left, na_Times_right, ⟨me_Times_sign, i14, k14⟩, ⟨me_Times_words, i11, k11⟩, ⟨t1_Times, t2_0, t3_0, t4_Times⟩, ⟨pg_WordRow, hd_WordRow, po_WordRow, sa_WordRow⟩, ⟨mk_WordRow, in_WordRow, i34, kc_WordRow⟩, na_WordRow_row, na_WordRow_gone, ⟨me_WordRow_next_word, i35, k35⟩, ⟨t1_WordRow, t2_0, t3_0, t4_WordRow⟩, PySem.W.mg_none_of X G z_isinstance, PySem.W.mg_none_of X G z_list, PySem.W.mg_none_of X G z_tuple, PySem.W.mg_none_of X G z_dict, PySem.W.mg_none_of X G z_str, PySem.W.mg_none_of X G z_all, PySem.W.mg_none_of X G z_len, PySem.W.mg_none_of X G z_int, PySem.W.mg_none_of X G z_range⟩⟩
theorem walk {l : PySem.W.OpenLaw} {q : Program} {loose : List Str} {XP : (Str → Option Value) → Heap → Prop} {YP : World → Heap → Prop} {d : DefRec} {K : Params → PySem.W.Frag} (hn : l.most = some 63) (hdf : d.params.defaults = [])
    (hY : ∀ (w : World) (h : Heap), YP w h → (K w.params).In h)
    (F : ∀ (w : World) (mg : Str → Option Value) (fa : Addr) (h : Heap), (K w.params).In h → h.Ns mainGlobals mg → mg d.name = some (.ref fa) →
      ∃ fd : FuncData, (∀ (s : Shared) (u : Value), BindsTo s fd ⟨[u], []⟩ [("_law_script", u)]) ∧ ∀ base : Heap, (K w.params).In base → base.Ns mainGlobals mg → FnOk l.prog w (K w.params) mg base CX0 21 fa fd ["_law_script"] (spLaw (K w.params))) :
    PySem.W.WalkO q loose XP YP l.row.toRowW d [] (fun f vs => PySem.call f vs) :=
  L2.walk_of (n := 63) (k := 21) (x := "_law_script") (CX := fun _ => CX0) (sp := fun w => spLaw (K w.params)) hn (by decide) hdf ⟨rfl, by decide, by decide, rfl⟩ hY F (fun _ _ a ns hl _ hS => ⟨a, ns, rfl, hS, hl, fun _ => rfl⟩) fun _ _ _ _ _ z => z
end My
local macro_rules | `(tactic| walk_at "kf") => `(tactic| (refine' My.lkF_mk ?l ?c ?k; (case l => k_is); (case c => k_is); (case k => k_is)))
open PySem PySem.W PyProof.Rows
set_option maxRecDepth 100000 in
set_option maxHeartbeats 0 in
theorem PySem.Challenge.cw_arrayloom_k83_programs_shown_holds : PySem.Challenge.rw_arrayloom_k83_programs_shown.Holds := by
  w_on; o_law; k_head; (case hw => w_witness2)
  k_fill
  refine My.walk (l := PySem.Challenge.rw_arrayloom_k83_programs_shown) rfl rfl (fun w h Y => PySem.W.kIn_of Y) ?F
  case F =>
    intro w mg fa h KX G hmg
    refine' My.all_mk KX G hmg ?aC_LoomError ?aC_NoText ?aC_Let ?aC_Program ?aC_Term ?aC_Number ?aC_Place ?aC_Read ?aC_Pair ?aC_Plus ?aC_Minus ?aC_Times ?aC_Sum ?aC_Guard ?aC_WordRow ?a0 ?l0 ?a1 ?l1 ?i1 ?a2 ?l2 ?i2 ?a3 ?l3 ?i3 ?a4 ?l4 ?i4 ?a5 ?l5 ?i5 ?a6 ?l6 ?i6 ?a7 ?l7 ?i7 ?a8 ?l8 ?i8 ?a9 ?l9 ?a10 ?l10 ?i10 ?a11 ?l11 ?i11 ?a12 ?l12 ?i12 ?a13 ?l13 ?i13 ?a14 ?l14 ?i14 ?a15 ?l15 ?i15 ?a16 ?l16 ?i16 ?a17 ?l17 ?i17 ?a18 ?l18 ?i18 ?a19 ?l19 ?a20 ?l20 ?a21 ?l21 ?a22 ?l22 ?a23 ?l23 ?a24 ?l24 ?a25 ?l25 ?a26 ?l26 ?a27 ?l27 ?a28 ?l28 ?a29 ?l29 ?a30 ?l30 ?a31 ?l31 ?a32 ?l32 ?a33 ?l33 ?a34 ?l34 ?i34 ?a35 ?l35 ?i35 ?a36 ?l36 ?a37 ?l37 ?a38 ?l38 ?a39 ?l39 ?a40 ?l40 ?a41 ?l41 ?a42 ?l42 ?a43 ?l43 ?a44 ?l44 ?a45 ?l45 ?a46 ?l46 ?a47 ?l47 ?a48 ?l48 ?a49 ?l49 ?a50 ?l50 ?a51 ?l51 ?a52 ?l52 ?a53 ?l53 ?a54 ?l54 ?a55 ?l55 ?a56 ?l56 ?a57 ?l57 ?a58 ?l58 ?a59 ?l59 ?aP_MOST_FIGURES ?aP_LEAST_WHEEL ?aP_LEAST_LENGTH ?aP_MOST_LENGTH ?aP_SORTS ?lP_SORTS ?pg_Guard ?hd_Guard ?po_Guard ?sa_Guard ?mk_Guard ?kc_Guard ?in_Guard ?na_Guard_axis ?na_Guard_low ?na_Guard_high ?na_Guard_inner ?na_Guard_outer ?me_Guard_words ?t1_Guard ?t2_0 ?t3_0 ?t4_Guard ?pg_Let ?hd_Let ?po_Let ?sa_Let ?mk_Let ?kc_Let ?in_Let ?na_Let_name ?na_Let_axes ?na_Let_term ?t1_Let ?t4_Let ?mb_Let_list ?mb_Let_tuple ?mb_Let_dict ?pg_Minus ?hd_Minus ?po_Minus ?sa_Minus ?mk_Minus ?kc_Minus ?in_Minus ?na_Minus_left ?na_Minus_right ?me_Minus_sign ?me_Minus_words ?t1_Minus ?t4_Minus ?pg_Number ?hd_Number ?po_Number ?sa_Number ?mk_Number ?kc_Number ?in_Number ?na_Number_number ?me_Number_words ?t1_Number ?t4_Number ?pg_Place ?hd_Place ?po_Place ?sa_Place ?mk_Place ?kc_Place ?in_Place ?na_Place_axis ?me_Place_words ?t1_Place ?t4_Place ?pg_Plus ?hd_Plus ?po_Plus ?sa_Plus ?mk_Plus ?kc_Plus ?in_Plus ?na_Plus_left ?na_Plus_right ?me_Plus_sign ?me_Plus_words ?t1_Plus ?t4_Plus ?pg_Program ?hd_Program ?po_Program ?sa_Program ?mk_Program ?kc_Program ?in_Program ?na_Program_wheel ?na_Program_axes ?na_Program_tables ?na_Program_lets ?na_Program_outs ?t1_Program ?t4_Program ?pg_Read ?hd_Read ?po_Read ?sa_Read ?mk_Read ?kc_Read ?in_Read ?na_Read_array ?na_Read_indexes ?me_Read_words ?t1_Read ?t4_Read ?pg_Sum ?hd_Sum ?po_Sum ?sa_Sum ?mk_Sum ?kc_Sum ?in_Sum ?na_Sum_axis ?na_Sum_body ?me_Sum_words ?t1_Sum ?t4_Sum ?pg_Times ?hd_Times ?po_Times ?sa_Times ?mk_Times ?kc_Times ?in_Times ?na_Times_left ?na_Times_right ?me_Times_sign ?me_Times_words ?t1_Times ?t4_Times ?pg_WordRow ?hd_WordRow ?po_WordRow ?sa_WordRow ?mk_WordRow ?kc_WordRow ?in_WordRow ?na_WordRow_row ?na_WordRow_gone ?me_WordRow_next_word ?t1_WordRow ?t4_WordRow ?z_isinstance ?z_list ?z_tuple ?z_dict ?z_str ?z_all ?z_len ?z_int ?z_range
    (case aC_LoomError | aC_NoText | aC_Let | aC_Program | aC_Term | aC_Number | aC_Place | aC_Read | aC_Pair | aC_Plus | aC_Minus => k_is)
    (case aC_Times | aC_Sum | aC_Guard | aC_WordRow => k_is)
    (case a0 => k_is); (case l0 => walk_at "kf")
    (case a1 => k_is); (case l1 => walk_at "kf")
    (case i1 => k_is)
    (case a2 => k_is); (case l2 => walk_at "kf")
    (case i2 => k_is)
    (case a3 => k_is); (case l3 => walk_at "kf")
    (case i3 => k_is)
    (case a4 => k_is); (case l4 => walk_at "kf")
    (case i4 => k_is)
    (case a5 => k_is); (case l5 => walk_at "kf")
    (case i5 => k_is)
    (case a6 => k_is); (case l6 => walk_at "kf")
    (case i6 => k_is)
    (case a7 => k_is); (case l7 => walk_at "kf")
    (case i7 => k_is)
    (case a8 => k_is); (case l8 => walk_at "kf")
    (case i8 => k_is)
    (case a9 => k_is); (case l9 => walk_at "kf")
    (case a10 => k_is); (case l10 => walk_at "kf")
    (case i10 => k_is)
    (case a11 => k_is); (case l11 => walk_at "kf")
    (case i11 => k_is)
    (case a12 => k_is); (case l12 => walk_at "kf")
    (case i12 => k_is)
    (case a13 => k_is); (case l13 => walk_at "kf")
    (case i13 => k_is)
    (case a14 => k_is); (case l14 => walk_at "kf")
    (case i14 => k_is)
    (case a15 => k_is); (case l15 => walk_at "kf")
    (case i15 => k_is)
    (case a16 => k_is); (case l16 => walk_at "kf")
    (case i16 => k_is)
    (case a17 => k_is); (case l17 => walk_at "kf")
    (case i17 => k_is)
    (case a18 => k_is); (case l18 => walk_at "kf")
    (case i18 => k_is)
    (case a19 => k_is); (case l19 => walk_at "kf")
    (case a20 => k_is); (case l20 => walk_at "kf")
    (case a21 => k_is); (case l21 => walk_at "kf")
    (case a22 => k_is); (case l22 => walk_at "kf")
    (case a23 => k_is); (case l23 => walk_at "kf")
    (case a24 => k_is); (case l24 => walk_at "kf")
    (case a25 => k_is); (case l25 => walk_at "kf")
    (case a26 => k_is); (case l26 => walk_at "kf")
    (case a27 => k_is); (case l27 => walk_at "kf")
    (case a28 => k_is); (case l28 => walk_at "kf")
    (case a29 => k_is); (case l29 => walk_at "kf")
    (case a30 => k_is); (case l30 => walk_at "kf")
    (case a31 => k_is); (case l31 => walk_at "kf")
    (case a32 => k_is); (case l32 => walk_at "kf")
    (case a33 => k_is); (case l33 => walk_at "kf")
    (case a34 => k_is); (case l34 => walk_at "kf")
    (case i34 => k_is)
    (case a35 => k_is); (case l35 => walk_at "kf")
    (case i35 => k_is)
    (case a36 => k_is); (case l36 => walk_at "kf")
    (case a37 => k_is); (case l37 => walk_at "kf")
    (case a38 => k_is); (case l38 => walk_at "kf")
    (case a39 => k_is); (case l39 => walk_at "kf")
    (case a40 => k_is); (case l40 => walk_at "kf")
    (case a41 => k_is); (case l41 => walk_at "kf")
    (case a42 => k_is); (case l42 => walk_at "kf")
    (case a43 => k_is); (case l43 => walk_at "kf")
    (case a44 => k_is); (case l44 => walk_at "kf")
    (case a45 => k_is); (case l45 => walk_at "kf")
    (case a46 => k_is); (case l46 => walk_at "kf")
    (case a47 => k_is); (case l47 => walk_at "kf")
    (case a48 => k_is); (case l48 => walk_at "kf")
    (case a49 => k_is); (case l49 => walk_at "kf")
    (case a50 => k_is); (case l50 => walk_at "kf")
    (case a51 => k_is); (case l51 => walk_at "kf")
    (case a52 => k_is); (case l52 => walk_at "kf")
    (case a53 => k_is); (case l53 => walk_at "kf")
    (case a54 => k_is); (case l54 => walk_at "kf")
    (case a55 => k_is); (case l55 => walk_at "kf")
    (case a56 => k_is); (case l56 => walk_at "kf")
    (case a57 => k_is); (case l57 => walk_at "kf")
    (case a58 => k_is); (case l58 => walk_at "kf")
    (case a59 => k_is); (case l59 => walk_at "kf")
    (case aP_MOST_FIGURES | aP_LEAST_WHEEL | aP_LEAST_LENGTH | aP_MOST_LENGTH | aP_SORTS | lP_SORTS | pg_Guard | hd_Guard | po_Guard | sa_Guard | mk_Guard => k_is)
    (case kc_Guard | in_Guard | na_Guard_axis | na_Guard_low | na_Guard_high | na_Guard_inner | na_Guard_outer | me_Guard_words | t1_Guard | t2_0 | t3_0 => k_is)
    (case t4_Guard | pg_Let | hd_Let | po_Let | sa_Let | mk_Let | kc_Let | in_Let | na_Let_name | na_Let_axes | na_Let_term => k_is)
    (case t1_Let | t4_Let | mb_Let_list | mb_Let_tuple | mb_Let_dict | pg_Minus | hd_Minus | po_Minus | sa_Minus | mk_Minus | kc_Minus => k_is)
    (case in_Minus | na_Minus_left | na_Minus_right | me_Minus_sign | me_Minus_words | t1_Minus | t4_Minus | pg_Number | hd_Number | po_Number | sa_Number => k_is)
    (case mk_Number | kc_Number | in_Number | na_Number_number | me_Number_words | t1_Number | t4_Number | pg_Place | hd_Place | po_Place | sa_Place => k_is)
    (case mk_Place | kc_Place | in_Place | na_Place_axis | me_Place_words | t1_Place | t4_Place | pg_Plus | hd_Plus | po_Plus | sa_Plus => k_is)
    (case mk_Plus | kc_Plus | in_Plus | na_Plus_left | na_Plus_right | me_Plus_sign | me_Plus_words | t1_Plus | t4_Plus | pg_Program | hd_Program => k_is)
    (case po_Program | sa_Program | mk_Program | kc_Program | in_Program | na_Program_wheel | na_Program_axes | na_Program_tables | na_Program_lets | na_Program_outs | t1_Program => k_is)
    (case t4_Program | pg_Read | hd_Read | po_Read | sa_Read | mk_Read | kc_Read | in_Read | na_Read_array | na_Read_indexes | me_Read_words => k_is)
    (case t1_Read | t4_Read | pg_Sum | hd_Sum | po_Sum | sa_Sum | mk_Sum | kc_Sum | in_Sum | na_Sum_axis | na_Sum_body => k_is)
    (case me_Sum_words | t1_Sum | t4_Sum | pg_Times | hd_Times | po_Times | sa_Times | mk_Times | kc_Times | in_Times | na_Times_left => k_is)
    (case na_Times_right | me_Times_sign | me_Times_words | t1_Times | t4_Times | pg_WordRow | hd_WordRow | po_WordRow | sa_WordRow | mk_WordRow | kc_WordRow => k_is)
    (case in_WordRow | na_WordRow_row | na_WordRow_gone | me_WordRow_next_word | t1_WordRow | t4_WordRow | z_isinstance | z_list | z_tuple | z_dict | z_str => k_is)
    (case z_all | z_len | z_int | z_range => k_is)
