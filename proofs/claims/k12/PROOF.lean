import PyProof.Rows.All
import Wide.All
import OpenK.AllK
import Wide.FinOn
import Lean
import PyProof.EqAt
import PyProof.EqKinds
import PyProof.TupleCall
import KE.KDictLaws
import KE.KDictList
import KE.KDictOf
import KE.KEqDict
import KE.KIntText
import KE.KTabLook
import KE.KTryMore
import KE.KUnpack
import PyProof.AttrMissHeap
import PyProof.AutoListH
import PyProof.CompUse
import PyProof.ConsumeWalk
import PyProof.Conv_int_bool
import PyProof.DictItems
import PyProof.DictValues
import PyProof.DictWalks
import PyProof.Draws
import PyProof.EnumFor
import PyProof.EnumMake
import PyProof.EnumStmt
import PyProof.ExcClass3
import PyProof.ExcInit
import PyProof.FString4
import PyProof.FString5
import PyProof.FactsAll.list_3
import PyProof.FactsAll.set
import PyProof.FactsAll.subtypes_5
import PyProof.FactsAll.zip
import PyProof.NeKinds
import PyProof.P3Eq
import PyProof.RangeIter
import PyProof.ReprHeads
import PyProof.ReprLen
import PyProof.Rows.SetFrom
import PyProof.Rows.StrNews
import PyProof.SetRoads
import PyProof.StrLawsRepr
import PyProof.StrWalks
import PyProof.SumAny
import PyProof.TupleKey
import PyProof.Walks
import PyProof.StrLawsIn
import PySem.Challenge.RW_arrayloom_k12_names_looked
-- CHANGE: your row's module here, as the last of these rows
set_option Elab.async false
set_option linter.all false
set_option maxRecDepth 100000
/-! THE HAND LAYER, for ints, bools, texts, own classes, LISTS and tuples (index, slices, in, append, pop ..), calls, loops. Paste it whole ahead of your own text; what your proof does not reach may be deleted. -/
namespace L2
open PySem PySem.Spec PyProof.Rows

/-- a key: an int or a str -/
abbrev Key := Sum Int Str
def keyIs : Key → Value → Bool
  | .inl k, v => Value.isInt k v
  | .inr x, v => Value.isStrOf x v
def keyH (w : World) : Key → Int
  | .inl k => hashInt k
  | .inr x => hashStr w x
theorem keyIs_shape : ∀ {k : Key} {v : Value}, keyIs k v = true → (∃ i t, k = Sum.inl i ∧ v = Value.int i t) ∨ (∃ x t, k = Sum.inr x ∧ v = Value.str x t)
  | .inl i, v, h => by
    obtain ⟨t, e⟩ := Value.isInt_shape (k := i) (v := v) h
    exact .inl ⟨i, t, rfl, e⟩
  | .inr x, v, h => by
    obtain ⟨t, e⟩ := Value.isStrOf_shape (x := x) (v := v) h
    exact .inr ⟨x, t, rfl, e⟩
theorem keyIs_int (i : Int) (t : Tok) : keyIs (.inl i) (.int i t) = true := by simp [keyIs, Value.isInt]
theorem keyIs_str (x : Str) (t : Tok) : keyIs (.inr x) (.str x t) = true := by simp [keyIs, Value.isStrOf]
theorem key_ll (a b : Int) : decide ((Sum.inl a : Key) = Sum.inl b) = (a == b) := by
  by_cases e : a = b
  · subst e; simp
  · have h : ¬ (Sum.inl a : Key) = Sum.inl b := fun q => e (Sum.inl.inj q)
    rw [decide_eq_false h]
    exact (beq_eq_false_iff_ne.mpr e).symm
theorem key_rr (a b : Str) : decide ((Sum.inr a : Key) = Sum.inr b) = decide (a = b) := by
  by_cases e : a = b
  · subst e; simp
  · have h : ¬ (Sum.inr a : Key) = Sum.inr b := fun q => e (Sum.inr.inj q)
    rw [decide_eq_false h, decide_eq_false e]
theorem key_lr (a : Int) (b : Str) : decide ((Sum.inl a : Key) = Sum.inr b) = false := decide_eq_false (fun q => nomatch q)
theorem key_rl (a : Str) (b : Int) : decide ((Sum.inr a : Key) = Sum.inl b) = false := decide_eq_false (fun q => nomatch q)

def mixKind (prog : Program) (w : World) : PySem.KeyKind prog w Key where
  is := keyIs
  hash := keyH w
  inj := fun v a b ha hb => by
    rcases keyIs_shape ha with ⟨i, t, rfl, rfl⟩ | ⟨x, t, rfl, rfl⟩
    · rcases keyIs_shape hb with ⟨j, u, rfl, e⟩ | ⟨y, u, rfl, e⟩
      · injection e with e1 _; rw [e1]
      · exact nomatch e
    · rcases keyIs_shape hb with ⟨j, u, rfl, e⟩ | ⟨y, u, rfl, e⟩
      · exact nomatch e
      · injection e with e1 _; rw [e1]
  byValue := fun k v h => by
    rcases keyIs_shape h with ⟨i, t, rfl, rfl⟩ | ⟨x, t, rfl, rfl⟩ <;> rfl
  pyHash := fun hv h => by
    rcases keyIs_shape hv with ⟨i, t, rfl, rfl⟩ | ⟨x, t, rfl, rfl⟩
    · exact wpAny_pyHash_int h
    · exact wpAny_pyHash_str h
  eqBool := fun hu hv h => by
    rcases keyIs_shape hu with ⟨i, t, rfl, rfl⟩ | ⟨x, t, rfl, rfl⟩
    · rcases keyIs_shape hv with ⟨j, u, rfl, rfl⟩ | ⟨y, u, rfl, rfl⟩
      · rw [key_ll] at h; exact wpAny_eqBool_int h
      · rw [key_lr] at h; exact SeqAt.EqAt.int_str i t y u _ _ _ _ h
    · rcases keyIs_shape hv with ⟨j, u, rfl, rfl⟩ | ⟨y, u, rfl, rfl⟩
      · rw [key_rl] at h; exact SeqAt.EqAt.str_int x t j u _ _ _ _ h
      · rw [key_rr] at h; exact wpAny_eqBool_str h
  «strs» := fun k x t v h => by
    rcases keyIs_shape h with ⟨i, u, rfl, e⟩ | ⟨y, u, rfl, e⟩
    · exact nomatch e
    · injection e with e1 _
      subst e1
      cases v <;> rfl

theorem mixKind_int (prog : Program) (w : World) (i : Int) (t : Tok) : (mixKind prog w).is (.inl i) (.int i t) = true := keyIs_int i t
theorem mixKind_str (prog : Program) (w : World) (x : Str) (t : Tok) : (mixKind prog w).is (.inr x) (.str x t) = true := keyIs_str x t
end L2

namespace L2
open PySem PySem.Spec PyProof.Rows

/-- a value, without the heap -/
inductive V where
  | non | bl (b : Bool) | int (i : Int) | str (x : Str) | byt (b : Array UInt8) | flt (b : UInt64) | ref (a : Addr) | ty (n : String)
  deriving DecidableEq

def RelV : V → Value → Prop
  | .non, u => u = Value.none
  | .bl b, u => u = Value.bool b
  | .int i, u => ∃ t, u = Value.int i t
  | .str x, u => ∃ t, u = Value.str x t
  | .byt b, u => ∃ t, u = Value.bytes b t
  | .flt b, u => ∃ t, u = Value.float b t
  | .ref a, u => u = Value.ref a
  | .ty n, u => u = Value.type n

abbrev Vals : List V → List Value → Prop := Paired RelV
theorem Vals.length {xs : List V} {us : List Value} (r : Vals xs us) : xs.length = us.length := Paired.length r
theorem Vals.get : ∀ {xs : List V} {us : List Value} {i : Nat} {x : V}, Vals xs us → xs[i]? = some x → ∃ u, us[i]? = some u ∧ RelV x u
  | _, _, _, _, .nil, e => by simp at e
  | _, _, 0, _, .cons r _, e => by simp at e; subst e; exact ⟨_, rfl, r⟩
  | _, _, i + 1, x, .cons _ t, e => by
    obtain ⟨u, h1, h2⟩ := Vals.get (i := i) (x := x) t (by simpa using e)
    exact ⟨u, by simpa using h1, h2⟩
theorem Vals.set {x : V} {u : Value} (r : RelV x u) : ∀ {xs : List V} {us : List Value} (i : Nat), Vals xs us → Vals (xs.set i x) (us.set i u)
  | _, _, _, .nil => .nil
  | _, _, 0, .cons _ t => .cons r t
  | _, _, i + 1, .cons q t => .cons q (Vals.set r i t)
theorem Vals.append : ∀ {xs ys : List V} {us ws : List Value}, Vals xs us → Vals ys ws → Vals (xs ++ ys) (us ++ ws)
  | _, _, _, _, .nil, s => s
  | _, _, _, _, .cons r t, s => .cons r (Vals.append t s)
theorem Vals.take : ∀ {xs : List V} {us : List Value} (n : Nat), Vals xs us → Vals (xs.take n) (us.take n)
  | _, _, 0, _ => .nil
  | _, _, _ + 1, .nil => .nil
  | _, _, n + 1, .cons r t => .cons r (Vals.take n t)
theorem Vals.drop : ∀ {xs : List V} {us : List Value} (n : Nat), Vals xs us → Vals (xs.drop n) (us.drop n)
  | _, _, 0, r => r
  | _, _, _ + 1, .nil => .nil
  | _, _, n + 1, .cons _ t => Vals.drop n t
def RelO : Option V → Option Value → Prop
  | some v, some u => RelV v u
  | none, none => True
  | _, _ => False
def KV {κ : Type} : List (κ × V) → List (κ × Value) → Prop := Paired fun (p : κ × V) (q : κ × Value) => p.1 = q.1 ∧ RelV p.2 q.2

/-- a key of a dict (00_mix): an int or a text -/
def kV : Key → V
  | .inl i => .int i
  | .inr x => .str x

/-- what stands at a tracked address -/
inductive HO where
  /-- a list -/
  | lst (xs : List V)
  /-- a tuple (never changes) -/
  | tup (xs : List V)
  /-- a dict whose keys are ints and texts; one whose keys are tuples of ints and texts (the empty one is both) -/
  | dK (kvs : List (Key × V)) | dT (kvs : List (List Key × V))
  /-- a set of ints: its members, its size -/
  | set (S : Int → Bool) (n : Nat)
  /-- an instance of the class at C, its dict at dx, its attributes -/
  | ins (C dx : Addr) (fs : List (Str × V))
  /-- the dict of the instance at x -/
  | own (x : Addr)
  /-- the dict of an exception -/
  | xd (fs : List (Str × V))
  /-- a bound method, f of x -/
  | met (f x : Addr)
  /-- a range object lo, lo + 1, .. below hi -/
  | rng (lo hi : Int)
  /-- a thing that is known to the object (the script; a dict while a loop walks it): read, never written while it is so -/
  | frz (o : Obj) (u : HO)
  /-- a code object's table -/
  | tbl (ps : Array Value)
  /-- any other thing, by what is true of its one object (a def of one's own: SetO a S n := HO.ext fun h => ..) -/
  | ext (φ : Heap → Prop)

abbrev Hp := Addr → Option HO
def upd (H : Hp) (a : Addr) (o : HO) : Hp := fun b => if b = a then some o else H b
theorem upd_same {H : Hp} {a : Addr} {o : HO} : upd H a o a = some o := by unfold upd; rw [if_pos rfl]
theorem upd_ne {H : Hp} {a b : Addr} {o : HO} (h : b ≠ a) : upd H a o b = H b := by unfold upd; rw [if_neg h]
theorem upd_upd {H : Hp} {a : Addr} {o u : HO} : upd (upd H a o) a u = upd H a u := by
  funext b; unfold upd; split <;> rfl
/-- two objects of different content stand apart -/
theorem ne_of {H : Hp} {a b : Addr} {o u : HO} (h : H a = some o) (h' : H b = some u) (d : o ≠ u) : a ≠ b := by
  intro e; subst e; rw [h] at h'; exact d (Option.some.inj h')
theorem ne_of_none {H : Hp} {a b : Addr} {o : HO} (h : H a = some o) (h' : H b = none) : a ≠ b := by
  intro e; subst e; rw [h] at h'; cases h'

section
variable (P : Program) (w : World)
def ObjOk (H : Hp) (h : Heap) (a : Addr) : HO → Prop
  | .lst xs => xs.length ≤ sizeLine ∧ ∃ (its : List Value) (n : Nat), Vals xs its ∧ h.get? a = some { cls := .type "list", data := .seq its.toArray n }
  | .tup xs => xs.length ≤ sizeLine ∧ ∃ its : List Value, Vals xs its ∧ IsTup h a its.toArray
  | .dK kvs => kvs.length ≤ sizeLine ∧ (a == sysModules) = false ∧ ∃ vs, KV kvs vs ∧ h.DictOf (mixKind P w) a vs
  | .dT kvs => kvs.length ≤ sizeLine ∧ (a == sysModules) = false ∧ ∃ xs : List (List Key × Addr × Value),
      Paired (fun (p : List Key × V) (q : List Key × Addr × Value) => p.1 = q.1 ∧ H q.2.1 = some (.tup (p.1.map kV)) ∧ RelV p.2 q.2.2) kvs xs ∧
      ∃ o es ep, h.get? a = some o ∧ o.ExactDict ∧ o.data = .dict es ep ∧ es.toList = xs.map (entryOfKey (tupleKind (mixKind P w))) ∧ (xs.map (·.1)).Nodup
  | .set S n => h.SetOf (intKind P w) a S n
  | .ins C dx fs => H dx = some (.own a) ∧ fs.length ≤ 1000 ∧ dx ≠ a ∧ h.get? a = some (PySem.W.instObj C dx) ∧
      ∃ mA, h.Ns1 dx mA ∧ (∀ f, RelO (fs.lookup f) (mA f)) ∧ PySem.Within mA (fs.map (·.1))
  | .own _ => ∃ o, h.get? a = some o
  | .xd fs => ∃ mA, h.Ns1 a mA ∧ ∀ f, RelO (fs.lookup f) (mA f)
  | .rng lo hi => ∃ t u v, h.get? a = some { cls := .type "range", data := .fields #[.int lo t, .int hi u, .int 1 v] }
  | .frz o u => h.get? a = some o ∧ ObjOk H h a u
  | .tbl ps => h.get? a = some { cls := .none, data := .fields ps }
  | .met f x => h.get? a = some (PySem.W.methodObj (.ref f) (.ref x))
  | .ext φ => φ h ∧ (∃ o, h.get? a = some o) ∧ ∀ h1 h2 : Heap, φ h1 → (∀ o, h1.get? a = some o → h2.get? a = some o) → φ h2
/-- the abstract heap is held -/
def HOk (H : Hp) (h : Heap) : Prop := ∀ a o, H a = some o → ObjOk P w H h a o
end

section
variable {P : Program} {w : World} {H H' : Hp} {h h' : Heap} {a : Addr} {o : HO}
theorem ObjOk.lt (x : ObjOk P w H h a o) : a < h.objs.size := by
  cases o with
  | lst xs => obtain ⟨_, _, _, _, e⟩ := x; exact Heap.lt_size e
  | tup xs => obtain ⟨_, _, _, p⟩ := x; exact p.lt
  | dK kvs => obtain ⟨_, _, _, _, o, _, _, e, _⟩ := x; exact Heap.lt_size e
  | dT kvs => obtain ⟨_, _, _, _, o, _, _, e, _⟩ := x; exact Heap.lt_size e
  | set S n => obtain ⟨o, _, _, _, e, _⟩ := x; exact Heap.lt_size e
  | ins C dx fs => obtain ⟨_, _, _, e, _⟩ := x; exact Heap.lt_size e
  | own y => obtain ⟨_, e⟩ := x; exact Heap.lt_size e
  | xd fs => obtain ⟨_, ⟨_, _, _, e, _⟩, _⟩ := x; exact Heap.lt_size e
  | rng lo hi => obtain ⟨_, _, _, e⟩ := x; exact Heap.lt_size e
  | frz ob u => obtain ⟨e, _⟩ := x; exact Heap.lt_size e
  | tbl ps => exact Heap.lt_size (show h.get? a = some _ from x)
  | met f y => exact Heap.lt_size (show h.get? a = some _ from x)
  | ext φ => obtain ⟨_, ⟨_, e⟩, _⟩ := x; exact Heap.lt_size e
theorem Paired.mapP {α β : Type} {F G : α → β → Prop} : ∀ {l₁ : List α} {l₂ : List β}, Paired F l₁ l₂ → (∀ a b, F a b → G a b) → Paired G l₁ l₂
  | _, _, .nil, _ => .nil
  | _, _, .cons r t, f => .cons (f _ _ r) (Paired.mapP t f)
/-- what an object's description leans on: its own object, its own dict, the tuples -/
theorem ObjOk.stay (x : ObjOk P w H h a o) (k : ∀ b u, (b = a ∨ H b = some (.own a)) → h.get? b = some u → h'.get? b = some u)
    (ho : ∀ b, H b = some (.own a) → H' b = some (.own a)) (ht : ∀ b xs, H b = some (.tup xs) → H' b = some (.tup xs)) : ObjOk P w H' h' a o := by
  induction o with
  | lst xs => obtain ⟨z, its, n, r, e⟩ := x; exact ⟨z, its, n, r, k _ _ (.inl rfl) e⟩
  | tup xs => obtain ⟨z, its, r, ob, e, c⟩ := x; exact ⟨z, its, r, ob, k _ _ (.inl rfl) e, c⟩
  | dK kvs => obtain ⟨z, y, vs, r, ob, es, ep, e, c⟩ := x; exact ⟨z, y, vs, r, ob, es, ep, k _ _ (.inl rfl) e, c⟩
  | dT kvs =>
    obtain ⟨z, y, xs, r, ob, es, ep, e, c⟩ := x
    exact ⟨z, y, xs, Paired.mapP r fun p q z => ⟨z.1, ht _ _ z.2.1, z.2.2⟩, ob, es, ep, k _ _ (.inl rfl) e, c⟩
  | set S n => obtain ⟨ob, es, ep, t, e, c⟩ := x; exact ⟨ob, es, ep, t, k _ _ (.inl rfl) e, c⟩
  | ins C dx fs =>
    obtain ⟨d, z, ne, e, mA, ⟨od, es, ep, e2, c⟩, r⟩ := x
    exact ⟨ho _ d, z, ne, k _ _ (.inl rfl) e, mA, ⟨od, es, ep, k _ _ (.inr d) e2, c⟩, r⟩
  | own y => obtain ⟨ob, e⟩ := x; exact ⟨ob, k _ _ (.inl rfl) e⟩
  | xd fs => obtain ⟨mA, ⟨od, es, ep, e, c⟩, r⟩ := x; exact ⟨mA, ⟨od, es, ep, k _ _ (.inl rfl) e, c⟩, r⟩
  | rng lo hi => obtain ⟨t, u, v, e⟩ := x; exact ⟨t, u, v, k _ _ (.inl rfl) e⟩
  | frz ob u ih => obtain ⟨e, q⟩ := x; exact ⟨k _ _ (.inl rfl) e, ih q⟩
  | tbl ps =>
    have e : h.get? a = some { cls := .none, data := .fields ps } := x
    show h'.get? a = some { cls := .none, data := .fields ps }
    exact k a _ (.inl rfl) e
  | met f y =>
    have e : h.get? a = some (PySem.W.methodObj (.ref f) (.ref y)) := x
    show h'.get? a = some (PySem.W.methodObj (.ref f) (.ref y))
    exact k a _ (.inl rfl) e
  | ext φ => obtain ⟨p, ⟨o, e⟩, st⟩ := x; exact ⟨st _ _ p fun o q => k _ _ (.inl rfl) q, ⟨o, k _ _ (.inl rfl) e⟩, st⟩
theorem HOk.lt (x : HOk P w H h) (e : H a = some o) : a < h.objs.size := (x a o e).lt
theorem HOk.fresh (x : HOk P w H h) (e : h.objs.size ≤ a) : H a = none := by
  cases q : H a with
  | none => rfl
  | some u => exact absurd (Nat.lt_of_lt_of_le (x.lt q) e) (Nat.lt_irrefl _)
/-- every object of the heap is kept -/
theorem HOk.kept (x : HOk P w H h) (k : ∀ b u, h.get? b = some u → h'.get? b = some u) : HOk P w H h' := fun a o e =>
  (x a o e).stay (fun b u _ q => k b u q) (fun _ q => q) fun _ _ q => q
/-- a new object is laid and tracked -/
theorem HOk.laid (x : HOk P w H h) (k : ∀ b u, h.get? b = some u → h'.get? b = some u) (hp : h.objs.size ≤ a) (new : ObjOk P w (upd H a o) h' a o) : HOk P w (upd H a o) h' := fun b u e => by
  have hn := x.fresh hp
  by_cases hb : b = a
  · subst hb; rw [upd_same] at e; cases e; exact new
  · rw [upd_ne hb] at e
    exact (x b u e).stay (fun c v _ q => k c v q) (fun c q => by rw [upd_ne (ne_of_none q hn)]; exact q) fun c xs q => by rw [upd_ne (ne_of_none q hn)]; exact q
end

/-- what may be read as u: it is u, or a known u -/
def Rd (H : Hp) (a : Addr) (u : HO) : Prop := H a = some u ∨ ∃ o, H a = some (.frz o u)
theorem Rd.ok {P : Program} {w : World} {H : Hp} {h : Heap} {a : Addr} {u : HO} (r : Rd H a u) (x : HOk P w H h) : ObjOk P w H h a u := by
  rcases r with r | ⟨o, r⟩
  · exact x a u r
  · obtain ⟨_, q⟩ := x a _ r
    exact q
/-- what may be written -/
def Mut : Option HO → Prop
  | some (.lst _) => True
  | some (.dK _) => True
  | some (.dT _) => True
  | some (.set _ _) => True
  | some (.ins _ _ _) => True
  | some (.ext _) => True
  | _ => False
section
variable {P : Program} {w : World} {H : Hp} {h h' : Heap} {x e : Addr} {o' : HO}
/-- the object at e is changed: x itself, or the dict of the instance x -/
theorem HOk.write (ok : HOk P w H h) (mu : Mut (H x)) (he : e = x ∨ H e = some (.own x)) (k : ∀ b u, b ≠ e → h.get? b = some u → h'.get? b = some u) (heo : ∃ u, h'.get? e = some u)
    (new : ObjOk P w (upd H x o') h' x o') : HOk P w (upd H x o') h' := fun b u q => by
  have nown : ∀ c y, H c = some (.own y) → c ≠ x := fun c y r z => by subst z; rw [r] at mu; exact mu
  have ntup : ∀ c xs, H c = some (.tup xs) → c ≠ x := fun c xs r z => by subst z; rw [r] at mu; exact mu
  by_cases hb : b = x
  · subst hb; rw [upd_same] at q; cases q; exact new
  · rw [upd_ne hb] at q
    by_cases hbe : b = e
    · have q' : H b = some (.own x) := by
        rcases he with z | z
        · exact absurd (hbe.trans z) hb
        · rw [hbe]; exact z
      rw [q] at q'; cases q'
      obtain ⟨v, hv⟩ := heo
      exact ⟨v, by rw [hbe]; exact hv⟩
    · refine (ok b u q).stay (fun c v hc r => k c v ?_ r) (fun c r => by rw [upd_ne (nown c b r)]; exact r) fun c xs r => by rw [upd_ne (ntup c xs r)]; exact r
      rcases hc with rfl | hc
      · exact hbe
      · rintro rfl
        rcases he with z | z
        · exact nown c b hc z
        · rw [hc] at z; cases z; exact hb rfl
end

/-! ### kept unless tracked; of the frames at fs (the callers') the slots may change (an exception that passes writes there); of the records at ex (iterators) nothing is said -/
structure Un (fs ex : List Addr) (H H' : Hp) (h h' : Heap) : Prop where
  keep : ∀ b o, h.get? b = some o → H b = none → b ∉ fs → b ∉ ex → h'.get? b = some o
  slot : ∀ b o, h.get? b = some o → H b = none → b ∈ fs → b ∉ ex → ∃ sl, h'.get? b = some { o with slots := sl }
  free : ∀ b o, h.get? b = some o → H b = none → b ∉ ex → H' b = none
  there : ∀ b o, h.get? b = some o → b ∉ ex → ∃ o', h'.get? b = some o'
  tups : ∀ b xs, H b = some (.tup xs) → H' b = some (.tup xs)
  frzs : ∀ b o u, H b = some (.frz o u) → H' b = some (.frz o u)
  tbls : ∀ b ps, H b = some (.tbl ps) → ∃ more, H' b = some (.tbl (ps ++ more))
section
variable {fs fs' ex ex' : List Addr} {H H1 H2 : Hp} {h h1 h2 h' : Heap} {a x e : Addr} {o : HO}
theorem Un.any (u : Un fs ex H H1 h h1) {b : Addr} {ob : Obj} (q : h.get? b = some ob) (n : H b = none) (hx : b ∉ ex) : ∃ sl, h1.get? b = some { ob with slots := sl } := by
  by_cases hb : b ∈ fs
  · exact u.slot b ob q n hb hx
  · exact ⟨ob.slots, u.keep b ob q n hb hx⟩
theorem Un.kept (k : ∀ b u, h.get? b = some u → h'.get? b = some u) : Un fs ex H H h h' :=
  ⟨fun b ob q _ _ _ => k b ob q, fun b ob q _ _ _ => ⟨ob.slots, k b ob q⟩, fun _ _ _ n _ => n, fun b ob q _ => ⟨ob, k b ob q⟩, fun _ _ q => q, fun _ _ _ q => q, fun _ ps q => ⟨#[], by rw [q]; simp⟩⟩
theorem Un.refl : Un fs ex H H h h := Un.kept fun _ _ q => q
theorem Un.laid (k : ∀ b u, h.get? b = some u → h'.get? b = some u) (hp : h.objs.size ≤ a) (hn : H a = none) : Un fs ex H (upd H a o) h h' where
  keep := fun b u q _ _ _ => k b u q
  slot := fun b u q _ _ _ => ⟨u.slots, k b u q⟩
  free := fun b u q n _ => by rw [upd_ne (Nat.ne_of_lt (Nat.lt_of_lt_of_le (Heap.lt_size q) hp))]; exact n
  there := fun b u q _ => ⟨u, k b u q⟩
  tups := fun b xs q => by rw [upd_ne (ne_of_none q hn)]; exact q
  frzs := fun b u xs q => by rw [upd_ne (ne_of_none q hn)]; exact q
  tbls := fun b ps q => ⟨#[], by rw [upd_ne (ne_of_none q hn), q]; simp⟩
theorem Un.write (mu : Mut (H x)) (he : e = x ∨ H e = some (.own x)) (k : ∀ b u, b ≠ e → h.get? b = some u → h'.get? b = some u) (heo : ∃ u, h'.get? e = some u) : Un fs ex H (upd H x o) h h' := by
  have hx : ∀ b, H b = none → b ≠ x := fun b n z => by subst z; rw [n] at mu; exact mu
  have hb : ∀ b, H b = none → b ≠ e := fun b n z => by
    subst z
    rcases he with r | r
    · exact hx b n r
    · rw [n] at r; cases r
  have hm : ∀ b u, H b = some u → ¬ Mut (some u) → b ≠ x := fun b u q nm z => by subst z; rw [q] at mu; exact nm mu
  refine ⟨fun b u q n _ _ => k b u (hb b n) q, fun b u q n _ _ => ⟨u.slots, k b u (hb b n) q⟩, fun b u q n _ => by rw [upd_ne (hx b n)]; exact n, fun b u q _ => ?_,
    fun b xs q => by rw [upd_ne (hm b _ q fun z => z)]; exact q, fun b u xs q => by rw [upd_ne (hm b _ q fun z => z)]; exact q, fun b ps q => ⟨#[], by rw [upd_ne (hm b _ q fun z => z), q]; simp⟩⟩
  by_cases hbe : b = e
  · subst hbe; exact heo
  · exact ⟨u, k b u hbe q⟩
end

/-! ### the heap without what is tracked -/
def trk (h : Heap) (H : Hp) : List Addr := (List.range h.objs.size).filter fun a => (H a).isSome
def hidT (h : Heap) (H : Hp) : Heap := PySem.W.hideAll h (trk h H)
theorem hidT_size (h : Heap) (H : Hp) : (hidT h H).objs.size = h.objs.size := PySem.W.hideAll_size _ _
theorem hidT_get {h : Heap} {H : Hp} {b : Addr} {o : Obj} (e : h.get? b = some o) (n : H b = none) : (hidT h H).get? b = some o :=
  PySem.W.hideAll_get _ e fun hm => by
    have q : (H b).isSome = true := (List.mem_filter.mp hm).2
    rw [n] at q; simp at q
theorem of_hidT {h : Heap} {H : Hp} {b : Addr} {o : Obj} (e : (hidT h H).get? b = some o) : h.get? b = some o ∧ H b = none := by
  have e' : h.get? b = some o := PySem.W.of_hideAll (trk h H) e
  refine ⟨e', ?_⟩
  cases q : H b with
  | none => rfl
  | some x =>
    have hm : b ∈ trk h H := List.mem_filter.mpr ⟨List.mem_range.mpr (Heap.lt_size e'), by simp [q]⟩
    have z : (hidT h H).get? b = none := PySem.W.hideAll_none (trk h H) hm
    rw [z] at e; cases e

/-! ### OpenK's ledger, filled with every new object but one -/
end L2

namespace L2
open PySem PySem.Spec PyProof.Rows

/-- the module's facts, over the base: the heap at the law's entry without what is tracked there -/
structure Mod (K : PySem.W.Frag) (mg : Str → Option Value) (base : Heap) : Prop where
  kin : K.In base
  glob : base.Ns mainGlobals mg
  blt : ∃ mb, base.Ns builtinsNs mb ∧ ∀ x : Str, x ≠ "__name__" → mb x = bootBuiltins x
  nolimit : base.NoLimit

/-- the context: a def's body (or a comprehension's block) running. base: fixed through the whole law; s₀, H₀: the entry; outer: the frames whose slots others may change (a def's callers); stack: all frames that run;
   ex: iterators that were made ahead of the entry and are walked here (a comprehension's); fn: the names whose cells were made at the entry (a def: all; a comprehension's block: its own); calm: not within an except suite; pn: pins that every state bears; xe: what is wanted of an exception that leaves the code -/
structure Cx where
  prog : Program
  w : World
  K : PySem.W.Frag
  mg : Str → Option Value
  base : Heap
  A : Around
  N : List Str
  s₀ : Shared
  H₀ : Hp
  env : Env
  outer : List Env
  stack : List Env
  ex : List Addr
  fn : Str → Bool
  calm : Bool
  pn : List (Addr × Obj)
  xe : Value → Shared → Prop
/-- the callers' frames -/
def frs (l : List Env) : List Addr := l.filterMap (·.frame)
abbrev Cx.fs (X : Cx) : List Addr := frs X.outer

def Vis (sc : Scope) (x : Str) : Prop := sc.names.lookup x = some .local ∨ sc.names.lookup x = some .cell ∨ sc.names.lookup x = some .free
def Loc (sc : Scope) (x : Str) : Prop := sc.names.lookup x = some .local ∨ sc.names.lookup x = some .cell
def Look (env : Env) (h : Heap) (m : Str → Option Value) (x : Str) (u : Value) : Prop :=
  (env.kindOf x = some .local ∧ m x = some u) ∨ ((env.kindOf x = some .cell ∨ env.kindOf x = some .free) ∧ ∃ c, env.cells.lookup x = some c ∧ h.IsCell c (some u))

structure Cx.Ok (X : Cx) : Prop where
  mod : Mod X.K X.mg X.base
  kind : X.env.scope.kind = .function
  glob : X.env.globals = mainGlobals
  blt : X.env.builtins = builtinsNs
  above : X.s₀.heap.objs.size ≤ X.env.locals
  inj : ∀ x y c, X.env.cells.lookup x = some c → X.env.cells.lookup y = some c → x = y
  has : ∀ x, (X.env.kindOf x = some .cell ∨ X.env.kindOf x = some .free) → ∃ c, X.env.cells.lookup x = some c
  cab : ∀ x c, X.fn x = true → X.env.cells.lookup x = some c → X.s₀.heap.objs.size ≤ c
  hd : X.calm = true → X.A.handled = none
  frames : X.A.frames = some X.stack
  stk : X.stack = X.outer ∨ (X.stack = X.env :: X.outer ∧ X.env.frame = some X.env.locals)
  exf : ∀ b ∈ X.ex, b ≠ X.env.locals ∧ ∀ x c, X.env.cells.lookup x = some c → c ≠ b
  bs : ∀ b o, X.base.get? b = some o → X.s₀.heap.get? b = some o ∧ X.H₀ b = none
  bsz : X.base.objs.size ≤ X.s₀.heap.objs.size
  noex : ∀ b o, X.base.get? b = some o → b ∉ X.ex
  exfs : ∀ b ∈ X.ex, b ∉ X.fs
  funs : X.s₀.heap.FunFrames X.base X.outer
  frf : ∀ b ∈ X.fs, X.H₀ b = none

structure Inv (X : Cx) (pins : List (Addr × Obj)) (σ : List (Option V)) (H : Hp) (s : Shared) : Prop where
  ok : X.Ok
  os : s.os = X.s₀.os
  bare : AllBare s.gens
  base : Un X.fs X.ex X.H₀ H X.s₀.heap s.heap
  loc : ∃ m, s.heap.Ns X.env.locals m ∧ ∀ (i : Nat) (x : Str) (v : V), X.N[i]? = some x → σ[i]? = some (some v) → Vis X.env.scope x → ∃ u, RelV v u ∧ Look X.env s.heap m x u
  cell : ∀ x c, X.env.cells.lookup x = some c → ∃ v, s.heap.IsCell c v
  free : H X.env.locals = none
  freeC : ∀ x c, X.env.cells.lookup x = some c → H c = none
  pin : ∀ p ∈ X.pn ++ pins, s.heap.get? p.1 = some p.2 ∧ H p.1 = none ∧ p.1 ≠ X.env.locals ∧ p.1 ∉ X.fs ∧ ∀ v, p.2.data ≠ .cell v
  hok : HOk X.prog X.w H s.heap
  len : σ.length = X.N.length

section
variable {X : Cx} {pins : List (Addr × Obj)} {σ : List (Option V)} {H H' : Hp} {s : Shared} {h' : Heap}

theorem Cx.Ok.nofr (ok : X.Ok) {b : Addr} {o : Obj} (e : X.base.get? b = some o) : b ∉ X.fs := fun hb => by
  have := (ok.funs.mem hb).1
  rw [e] at this; cases this
theorem Inv.bs (I : Inv X pins σ H s) : ∀ b o, X.base.get? b = some o → s.heap.get? b = some o ∧ H b = none := fun b o e =>
  ⟨I.base.keep b o (I.ok.bs b o e).1 (I.ok.bs b o e).2 (I.ok.nofr e) (I.ok.noex b o e), I.base.free b o (I.ok.bs b o e).1 (I.ok.bs b o e).2 (I.ok.noex b o e)⟩
theorem Inv.bk (I : Inv X pins σ H s) : ∀ b o, X.base.get? b = some o → s.heap.get? b = some o := fun b o e => (I.bs b o e).1
theorem Inv.mod (I : Inv X pins σ H s) : Mod X.K X.mg X.base := I.ok.mod
theorem Inv.kIn (I : Inv X pins σ H s) : X.K.In s.heap := I.ok.mod.kin.keeps I.bk
theorem Inv.lt (I : Inv X pins σ H s) : X.env.locals < s.heap.objs.size := let ⟨_, hn, _⟩ := I.loc; hn.lt
theorem Inv.sz (I : Inv X pins σ H s) : X.s₀.heap.objs.size ≤ s.heap.objs.size := Nat.le_trans I.ok.above (Nat.le_of_lt I.lt)
theorem Inv.nofs (I : Inv X pins σ H s) {a : Addr} (h : s.heap.objs.size ≤ a) : a ∉ X.fs := fun hb => by
  obtain ⟨_, o, ho, _⟩ := I.ok.funs.mem hb
  exact absurd (Nat.lt_of_lt_of_le (Heap.lt_size ho) (Nat.le_trans I.sz h)) (Nat.lt_irrefl _)
theorem Inv.cne (I : Inv X pins σ H s) : ∀ x c, X.env.cells.lookup x = some c → c ≠ X.env.locals := fun x c e z => by
  obtain ⟨v, o, ho, hd⟩ := I.cell x c e
  obtain ⟨m, ⟨o', es, ep, ho', hd', _⟩, _⟩ := I.loc
  rw [z, ho'] at ho; cases ho; rw [hd'] at hd; cases hd
theorem Inv.funs (I : Inv X pins σ H s) : s.heap.FunFrames X.base X.outer := by
  have all : ∀ (l : List Env), (∀ b ∈ frs l, b ∈ X.fs) → X.s₀.heap.FunFrames X.base l → s.heap.FunFrames X.base l := by
    intro l
    induction l with
    | nil => intro _ _; trivial
    | cons env r ih =>
      intro hs hl
      obtain ⟨hk, ⟨L, o, hf, hn, ho, hd⟩, hr⟩ := hl
      have hL : L ∈ X.fs := hs L (by unfold frs; rw [List.filterMap_cons, hf]; exact List.mem_cons_self)
      obtain ⟨sl, e⟩ := I.base.slot L o ho (I.ok.frf L hL) hL fun z => I.ok.exfs L z hL
      exact ⟨hk, ⟨L, _, hf, hn, e, hd⟩, ih (fun b hb => hs b (by unfold frs; rw [List.filterMap_cons, hf]; exact List.mem_cons_of_mem _ hb)) hr⟩
  exact all X.outer (fun _ hb => hb) I.ok.funs

/-- the frames that run, for a call -/
theorem Inv.stack (I : Inv X pins σ H s) : s.heap.FunFrames X.base X.stack := by
  rcases I.ok.stk with e | ⟨e, hf⟩
  · rw [e]; exact I.funs
  · rw [e]
    obtain ⟨m, hn, _⟩ := I.loc
    refine .cons (by rw [I.ok.kind]; decide) hf hn ?_ I.funs
    exact Heap.get?_none_of_le (Nat.le_trans I.ok.bsz I.ok.above)
theorem Inv.stkSub (I : Inv X pins σ H s) : ∀ b ∈ frs X.stack, b ∈ X.env.locals :: X.fs := fun b hb => by
  rcases I.ok.stk with e | ⟨e, hf⟩
  · rw [e] at hb; exact List.mem_cons_of_mem _ hb
  · rw [e] at hb
    unfold frs at hb
    rw [List.filterMap_cons, hf] at hb
    exact hb
theorem Inv.stkFree (I : Inv X pins σ H s) : ∀ b ∈ frs X.stack, H b = none := fun b hb => by
  rcases List.mem_cons.mp (I.stkSub b hb) with e | hb
  · rw [e]; exact I.free
  · obtain ⟨_, o, ho, _⟩ := I.ok.funs.mem hb
    exact I.base.free b o ho (I.ok.frf b hb) fun z => I.ok.exfs b z hb

/-- THE STEP: the untracked objects but the frame and the records at ch are kept (the callers' frames up to slots), the frame's map is kept, the new abstract heap is held -/
theorem Inv.step {g' : Array GenState} {t' : Nat} {d' : Drawn} {ch : List Addr} (I : Inv X pins σ H s)
    (hch : ∀ b ∈ ch, (b ∈ X.ex ∨ X.s₀.heap.objs.size ≤ b) ∧ b ≠ X.env.locals ∧ (∀ x c, X.env.cells.lookup x = some c → c ≠ b) ∧ ∀ p ∈ X.pn ++ pins, p.1 ≠ b)
    (keep : ∀ b o, b ≠ X.env.locals → b ∉ X.fs → b ∉ ch → s.heap.get? b = some o → H b = none → h'.get? b = some o)
    (slot : ∀ b o, b ≠ X.env.locals → b ∈ X.fs → b ∉ ch → s.heap.get? b = some o → H b = none → ∃ sl, h'.get? b = some { o with slots := sl }) (free : ∀ b o, b ∉ ch → s.heap.get? b = some o → H b = none → H' b = none)
    (there : ∀ b o, b ∉ ch → s.heap.get? b = some o → ∃ o', h'.get? b = some o')
    (tups : ∀ b xs, H b = some (.tup xs) → H' b = some (.tup xs)) (frzs : ∀ b o u, H b = some (.frz o u) → H' b = some (.frz o u)) (tbls : ∀ b ps, H b = some (.tbl ps) → ∃ more, H' b = some (.tbl (ps ++ more)))
    (ns : ∀ m, s.heap.Ns X.env.locals m → h'.Ns X.env.locals m) (hok : HOk X.prog X.w H' h') (hg : AllBare g') :
    Inv X pins σ H' { s with heap := h', gens := g', drawn := d', toks := t' } := by
  have neL : ∀ b o, X.s₀.heap.get? b = some o → b ≠ X.env.locals := fun b o e => Nat.ne_of_lt (Nat.lt_of_lt_of_le (Heap.lt_size e) I.ok.above)
  have neC : ∀ b o, X.s₀.heap.get? b = some o → b ∉ X.ex → b ∉ ch := fun b o e hx hb => by
    rcases (hch b hb).1 with z | z
    · exact hx z
    · exact absurd (Nat.lt_of_lt_of_le (Heap.lt_size e) z) (Nat.lt_irrefl _)
  have cellK : ∀ x c, X.env.cells.lookup x = some c → ∀ v, s.heap.IsCell c v → h'.IsCell c v := fun x c e v ⟨o, ho, hd⟩ => by
    have nch : c ∉ ch := fun z => (hch c z).2.2.1 x c e rfl
    by_cases hc : c ∈ X.fs
    · obtain ⟨sl, q⟩ := slot c o (I.cne x c e) hc nch ho (I.freeC x c e)
      exact ⟨_, q, hd⟩
    · exact ⟨o, keep c o (I.cne x c e) hc nch ho (I.freeC x c e), hd⟩
  refine ⟨I.ok, I.os, hg, ⟨fun b o e n hb hx => ?_, fun b o e n hb hx => ?_, fun b o e n hx => ?_, fun b o e hx => ?_, fun b xs e => tups b xs (I.base.tups b xs e), fun b o xs e => frzs b o xs (I.base.frzs b o xs e), fun b ps e => ?_⟩, ?_, fun x c e => ?_, ?_, fun x c e => ?_, fun p hp => ?_, hok, I.len⟩
  · exact keep b o (neL b o e) hb (neC b o e hx) (I.base.keep b o e n hb hx) (I.base.free b o e n hx)
  · obtain ⟨sl, e1⟩ := I.base.slot b o e n hb hx
    obtain ⟨sl', e2⟩ := slot b _ (neL b o e) hb (neC b o e hx) e1 (I.base.free b o e n hx)
    exact ⟨sl', e2⟩
  · obtain ⟨o', e1⟩ := I.base.there b o e hx
    exact free b o' (neC b o e hx) e1 (I.base.free b o e n hx)
  · obtain ⟨o', e1⟩ := I.base.there b o e hx
    exact there b o' (neC b o e hx) e1
  · obtain ⟨m1, e1⟩ := I.base.tbls b ps e
    obtain ⟨m2, e2⟩ := tbls b _ e1
    exact ⟨m1 ++ m2, by rw [e2, Array.append_assoc]⟩
  · obtain ⟨m, hn, hl⟩ := I.loc
    refine ⟨m, ns m hn, fun i x v e1 e2 e3 => ?_⟩
    obtain ⟨u, r, l⟩ := hl i x v e1 e2 e3
    refine ⟨u, r, ?_⟩
    rcases l with l | ⟨k, c, e, z⟩
    · exact .inl l
    · exact .inr ⟨k, c, e, cellK x c e _ z⟩
  · obtain ⟨v, z⟩ := I.cell x c e
    exact ⟨v, cellK x c e v z⟩
  · obtain ⟨m, ⟨o, _, _, ho, _⟩, _⟩ := I.loc
    exact free _ o (fun z => (hch _ z).2.1 rfl) ho I.free
  · obtain ⟨v, o, ho, hd⟩ := I.cell x c e
    exact free c o (fun z => (hch c z).2.2.1 x c e rfl) ho (I.freeC x c e)
  · obtain ⟨e, n, ne, nf, d⟩ := I.pin p hp
    have nch : p.1 ∉ ch := fun z => (hch p.1 z).2.2.2 p hp rfl
    exact ⟨keep p.1 p.2 ne nf nch e n, free p.1 p.2 nch e n, ne, nf, d⟩
/-- .. where the frame's own object is kept too -/
theorem Inv.un {t' : Nat} (I : Inv X pins σ H s) (u : Un X.fs [] H H' s.heap h') (hok : HOk X.prog X.w H' h') : Inv X pins σ H' { s with heap := h', toks := t' } := by
  obtain ⟨m, ⟨o, es, ep, ho, r⟩, _⟩ := id I.loc
  obtain ⟨sl, hL⟩ := u.any ho I.free (by simp)
  exact I.step (g' := s.gens) (d' := s.drawn) (ch := []) (fun _ z => nomatch z) (fun b o _ hb _ e n => u.keep b o e n hb (by simp)) (fun b o _ hb _ e n => u.slot b o e n hb (by simp)) (fun b o _ e n => u.free b o e n (by simp)) (fun b o _ e => u.there b o e (by simp)) u.tups u.frzs u.tbls (fun m' hm => by
    obtain ⟨o', es', ep', ho', r'⟩ := hm
    rw [ho] at ho'; cases ho'
    exact ⟨_, es', ep', hL, r'⟩) hok I.bare
/-- behind a call (or a comprehension's block): the slots of this frame may have changed too, the records at ch may have turned -/
theorem Inv.call {g' : Array GenState} {t' : Nat} {d' : Drawn} {ch : List Addr} (I : Inv X pins σ H s) (u : Un (frs X.stack) ch H H' s.heap h') (hok : HOk X.prog X.w H' h') (hg : AllBare g')
    (hch : ∀ b ∈ ch, (b ∈ X.ex ∨ X.s₀.heap.objs.size ≤ b) ∧ b ≠ X.env.locals ∧ (∀ x c, X.env.cells.lookup x = some c → c ≠ b) ∧ ∀ p ∈ X.pn ++ pins, p.1 ≠ b) :
    Inv X pins σ H' { s with heap := h', gens := g', drawn := d', toks := t' } := by
  obtain ⟨m, ⟨o, es, ep, ho, r⟩, _⟩ := id I.loc
  obtain ⟨sl, hL⟩ := u.any ho I.free fun z => (hch _ z).2.1 rfl
  exact I.step (ch := ch) hch (fun b o hL hb hc e n => u.keep b o e n (fun z => (List.mem_cons.mp (I.stkSub b z)).elim hL hb) hc) (fun b o _ _ hc e n => u.any e n hc) (fun b o hc e n => u.free b o e n hc) (fun b o hc e => u.there b o e hc) u.tups u.frzs u.tbls (fun m' hm => by
    obtain ⟨o', es', ep', ho', r'⟩ := hm
    rw [ho] at ho'; cases ho'
    exact ⟨_, es', ep', hL, r'⟩) hok hg
/-- an untracked record of ours (an iterator) has turned -/
theorem Inv.turned {t' : Nat} {it : Addr} (I : Inv X pins σ H s) (k : ∀ b o, b ≠ it → s.heap.get? b = some o → h'.get? b = some o) (hn : H it = none) (hL : it ≠ X.env.locals)
    (h1 : it ∈ X.ex ∨ X.s₀.heap.objs.size ≤ it) (h2 : ∀ x c, X.env.cells.lookup x = some c → c ≠ it) (h3 : ∀ p ∈ X.pn ++ pins, p.1 ≠ it) : Inv X pins σ H { s with heap := h', toks := t' } := by
  have nit : ∀ b u, H b = some u → b ≠ it := fun b u e z => by rw [z, hn] at e; cases e
  refine I.step (g' := s.gens) (d' := s.drawn) (ch := [it]) (fun b hb => ?_) (fun b o _ _ hc e _ => k b o (fun z => hc (by simp [z])) e) (fun b o _ _ hc e _ => ⟨o.slots, k b o (fun z => hc (by simp [z])) e⟩) (fun _ _ _ _ n => n)
    (fun b o hc e => ⟨o, k b o (fun z => hc (by simp [z])) e⟩) (fun _ _ e => e) (fun _ _ _ e => e) (fun b ps e => ⟨#[], by rw [e]; simp⟩) (fun m hm => ?_) (fun b u e => ?_) I.bare
  · have e : b = it := by simpa using hb
    subst e
    exact ⟨h1, hL, h2, h3⟩
  · obtain ⟨o, es, ep, ho, r⟩ := hm
    exact ⟨o, es, ep, k _ o (Ne.symm hL) ho, r⟩
  · refine (I.hok b u e).stay (fun c v hc q => k c v ?_ q) (fun _ q => q) fun _ _ q => q
    rcases hc with z | z
    · rw [z]; exact nit b u e
    · exact nit c _ z
theorem Inv.tok (I : Inv X pins σ H s) (t : Nat) : Inv X pins σ H { s with toks := t } := I.un (h' := s.heap) (t' := t) Un.refl I.hok
/-- all objects kept -/
theorem Inv.kept {t' : Nat} (I : Inv X pins σ H s) (k : ∀ b u, s.heap.get? b = some u → h'.get? b = some u) : Inv X pins σ H { s with heap := h', toks := t' } := I.un (Un.kept k) (I.hok.kept k)
/-- a new object laid and tracked -/
theorem Inv.laid {a : Addr} {o : HO} {t' : Nat} (I : Inv X pins σ H s) (k : ∀ b u, s.heap.get? b = some u → h'.get? b = some u) (hp : s.heap.objs.size ≤ a) (new : ObjOk X.prog X.w (upd H a o) h' a o) :
    Inv X pins σ (upd H a o) { s with heap := h', toks := t' } := I.un (Un.laid k hp (I.hok.fresh hp)) (I.hok.laid k hp new)
/-- an object written -/
theorem Inv.write {x e : Addr} {o : HO} {t' : Nat} (I : Inv X pins σ H s) (mu : Mut (H x)) (he : e = x ∨ H e = some (.own x)) (k : ∀ b u, b ≠ e → s.heap.get? b = some u → h'.get? b = some u) (heo : ∃ u, h'.get? e = some u)
    (new : ObjOk X.prog X.w (upd H x o) h' x o) : Inv X pins σ (upd H x o) { s with heap := h', toks := t' } := I.un (Un.write mu he k heo) (I.hok.write mu he k heo new)
/-- forgetting slots, pins -/
theorem Inv.weak {σ' : List (Option V)} (I : Inv X pins σ H s) (hl : σ'.length = σ.length) (w : ∀ (i : Nat) v, σ'[i]? = some (some v) → σ[i]? = some (some v)) : Inv X pins σ' H s :=
  ⟨I.ok, I.os, I.bare, I.base, let ⟨m, hn, hl'⟩ := I.loc; ⟨m, hn, fun i x v e1 e2 e3 => hl' i x v e1 (w i v e2) e3⟩, I.cell, I.free, I.freeC, I.pin, I.hok, hl.trans I.len⟩
theorem Inv.pins_of {pins' : List (Addr × Obj)} (I : Inv X pins σ H s) (h : ∀ p ∈ pins', s.heap.get? p.1 = some p.2 ∧ H p.1 = none ∧ p.1 ≠ X.env.locals ∧ p.1 ∉ X.fs ∧ ∀ v, p.2.data ≠ .cell v) : Inv X pins' σ H s :=
  ⟨I.ok, I.os, I.bare, I.base, I.loc, I.cell, I.free, I.freeC, fun p hp => (List.mem_append.mp hp).elim (fun z => I.pin p (List.mem_append_left _ z)) (h p), I.hok, I.len⟩

theorem nodup_ix {N : List Str} (hN : N.Nodup) {i j : Nat} {x : Str} (a : N[i]? = some x) (b : N[j]? = some x) : i = j := by
  obtain ⟨h1, e1⟩ := List.getElem?_eq_some_iff.mp a
  obtain ⟨h2, e2⟩ := List.getElem?_eq_some_iff.mp b
  exact (List.getElem_inj hN).mp (e1.trans e2.symm)

/-- a name is stored; what changed -/
theorem store_ok2 {M : Model} {A : Around} {E : Value → Shared → Prop} {i : Nat} {x : Str} {v : V} {u : Value} {Q : Unit → Shared → Prop} (I : Inv X pins σ H s) (hN : X.N.Nodup) (hi : X.N[i]? = some x) (hx : Loc X.env.scope x) (r : RelV v u)
    (h : ∀ s', Inv X pins (σ.set i (some v)) H s' → (∃ a, Heap.SameBut a s.heap s'.heap ∧ (a = X.env.locals ∨ X.env.cells.lookup x = some a)) → Q () s') (hf : X.fn x = true ∨ X.env.scope.names.lookup x = some .local := by first | exact .inl rfl | exact .inr rfl | assumption) : wpAny M A (storeName X.env x u) Q E s := by
  obtain ⟨m, hn, hl⟩ := id I.loc
  have hcls : (X.env.scope.kind == .class || (X.env.scope.kind == .module && X.env.locals != X.env.globals)) = false := by rw [I.ok.kind]; rfl
  have hiσ : i < σ.length := by rw [I.len]; exact (List.getElem?_eq_some_iff.mp hi).1
  have cne := I.cne
  have tracked : ∀ {a : Addr} {h' : Heap}, (∃ o, s.heap.get? a = some o ∧ H a = none) → Heap.SameBut a s.heap h' → HOk X.prog X.w H h' := fun {a h'} ha hs b ob e => by
    obtain ⟨_, _, hfree⟩ := ha
    refine (I.hok b ob e).stay (fun c w' hc q => (hs.2 c ?_).trans q) (fun _ q => q) fun _ _ q => q
    rintro rfl
    rcases hc with rfl | hc
    · rw [hfree] at e; cases e
    · rw [hfree] at hc; cases hc
  rcases hx with hk | hk
  · refine wpAny_storeName_local hk hn (fun h' hn' hs => ?_) hcls
    obtain ⟨oL, _, _, hoL, _⟩ := id hn
    refine h _ ⟨I.ok, I.os, I.bare, ⟨fun b o e n hb hx => ?_, fun b o e n hb hx => ?_, I.base.free, fun b o e hx => ?_, I.base.tups, I.base.frzs, I.base.tbls⟩, ⟨_, hn', fun j y v' e1 e2 e3 => ?_⟩, fun y c e => ?_, I.free, I.freeC, fun p hp => ?_, tracked ⟨oL, hoL, I.free⟩ hs, by simpa using I.len⟩ ⟨_, hs, .inl rfl⟩
    · exact (hs.2 b (Nat.ne_of_lt (Nat.lt_of_lt_of_le (Heap.lt_size e) I.ok.above))).trans (I.base.keep b o e n hb hx)
    · obtain ⟨sl, e1⟩ := I.base.slot b o e n hb hx
      exact ⟨sl, (hs.2 b (Nat.ne_of_lt (Nat.lt_of_lt_of_le (Heap.lt_size e) I.ok.above))).trans e1⟩
    · obtain ⟨o', e1⟩ := I.base.there b o e hx
      exact ⟨o', (hs.2 b (Nat.ne_of_lt (Nat.lt_of_lt_of_le (Heap.lt_size e) I.ok.above))).trans e1⟩
    · by_cases hj : j = i
      · subst hj
        rw [hi] at e1; cases e1
        rw [List.getElem?_set_self hiσ] at e2
        cases e2
        exact ⟨u, r, .inl ⟨hk, by simp⟩⟩
      · rw [List.getElem?_set_ne (Ne.symm hj)] at e2
        obtain ⟨u', r', q⟩ := hl j y v' e1 e2 e3
        refine ⟨u', r', ?_⟩
        rcases q with ⟨k, e⟩ | ⟨k, c, e, z⟩
        · refine .inl ⟨k, ?_⟩
          have : y ≠ x := fun e => hj (nodup_ix hN e1 (e ▸ hi))
          simp [this, e]
        · exact .inr ⟨k, c, e, z.sameBut hs (cne y c e)⟩
    · obtain ⟨w', z⟩ := I.cell y c e
      exact ⟨w', z.sameBut hs (cne y c e)⟩
    · obtain ⟨e, n, ne, nf, d⟩ := I.pin p hp
      exact ⟨(hs.2 p.1 ne).trans e, n, ne, nf, d⟩
  · have hfn : X.fn x = true := by
      rcases hf with z | z
      · exact z
      · rw [z] at hk; cases hk
    obtain ⟨c, hc⟩ := I.ok.has x (.inl hk)
    obtain ⟨w', z⟩ := I.cell x c hc
    refine wpAny_storeName_cell I.ok.kind hk hc z (fun h' hc' hs => ?_)
    obtain ⟨oc, hoc, hocd⟩ := id z
    refine h { s with heap := h' } ⟨I.ok, I.os, I.bare, ⟨fun b o e n hb hx => ?_, fun b o e n hb hx => ?_, I.base.free, fun b o e hx => ?_, I.base.tups, I.base.frzs, I.base.tbls⟩, ⟨m, hn.sameBut hs (Ne.symm (cne x c hc)), fun j y v' e1 e2 e3 => ?_⟩, fun y c' e => ?_, I.free, I.freeC, fun p hp => ?_, tracked ⟨oc, hoc, I.freeC x c hc⟩ hs, by simpa using I.len⟩ ⟨c, hs, .inr hc⟩
    · exact (hs.2 b (Nat.ne_of_lt (Nat.lt_of_lt_of_le (Heap.lt_size e) (I.ok.cab x c hfn hc)))).trans (I.base.keep b o e n hb hx)
    · obtain ⟨sl, e1⟩ := I.base.slot b o e n hb hx
      exact ⟨sl, (hs.2 b (Nat.ne_of_lt (Nat.lt_of_lt_of_le (Heap.lt_size e) (I.ok.cab x c hfn hc)))).trans e1⟩
    · obtain ⟨o', e1⟩ := I.base.there b o e hx
      exact ⟨o', (hs.2 b (Nat.ne_of_lt (Nat.lt_of_lt_of_le (Heap.lt_size e) (I.ok.cab x c hfn hc)))).trans e1⟩
    · by_cases hj : j = i
      · subst hj
        rw [hi] at e1; cases e1
        rw [List.getElem?_set_self hiσ] at e2
        cases e2
        exact ⟨u, r, .inr ⟨.inl hk, c, hc, hc'⟩⟩
      · rw [List.getElem?_set_ne (Ne.symm hj)] at e2
        obtain ⟨u', r', q⟩ := hl j y v' e1 e2 e3
        refine ⟨u', r', ?_⟩
        rcases q with q | ⟨k, c', e, z'⟩
        · exact .inl q
        · refine .inr ⟨k, c', e, z'.sameBut hs ?_⟩
          rintro rfl
          exact hj (nodup_ix hN e1 (I.ok.inj _ _ _ e hc ▸ hi))
    · by_cases hcc : c' = c
      · subst hcc; exact ⟨_, hc'⟩
      · obtain ⟨w2, z2⟩ := I.cell y c' e
        exact ⟨w2, z2.sameBut hs hcc⟩
    · obtain ⟨e, n, ne, nf, d⟩ := I.pin p hp
      refine ⟨(hs.2 p.1 ?_).trans e, n, ne, nf, d⟩
      intro q
      rw [q, hoc] at e
      have q' : oc = p.2 := Option.some.inj e
      exact d w' (by rw [← q']; exact hocd)
theorem store_ok {M : Model} {A : Around} {E : Value → Shared → Prop} {i : Nat} {x : Str} {v : V} {u : Value} {Q : Unit → Shared → Prop} (I : Inv X pins σ H s) (hN : X.N.Nodup) (hi : X.N[i]? = some x) (hx : Loc X.env.scope x) (r : RelV v u)
    (h : ∀ s', Inv X pins (σ.set i (some v)) H s' → Q () s') (hf : X.fn x = true ∨ X.env.scope.names.lookup x = some .local := by first | exact .inl rfl | exact .inr rfl | assumption) : wpAny M A (storeName X.env x u) Q E s :=
  store_ok2 I hN hi hx r (fun s' I' _ => h s' I') hf
/-- behind a call or a block, the state as it is -/
theorem Inv.call' {s' : Shared} {ch : List Addr} (I : Inv X pins σ H s) (ho : s'.os = s.os) (u : Un (frs X.stack) ch H H' s.heap s'.heap) (hok : HOk X.prog X.w H' s'.heap) (hg : AllBare s'.gens)
    (hch : ∀ b ∈ ch, (b ∈ X.ex ∨ X.s₀.heap.objs.size ≤ b) ∧ b ≠ X.env.locals ∧ (∀ x c, X.env.cells.lookup x = some c → c ≠ b) ∧ ∀ p ∈ X.pn ++ pins, p.1 ≠ b) : Inv X pins σ H' s' := by
  obtain ⟨h', g', d', t', o'⟩ := s'
  have e : o' = s.os := ho
  subst e
  exact I.call (g' := g') (t' := t') (d' := d') u hok hg hch
end

/-! ### the judgements -/
/-- an exception: its class, its own dict's address (where it has one), the abstract heap behind it -/
abbrev XK := Value → Option Addr → Hp → Prop
abbrev St := List (Option V)
abbrev VK := V → Hp → Prop
/-- an expression's reading; a test's; an argument list's -/
abbrev TE := St → Hp → VK → Prop
abbrev TT := St → Hp → (Bool → Hp → Prop) → Prop
abbrev TA := St → Hp → (List V → Hp → Prop) → Prop
/-- what is wanted behind a statement -/
structure Ends where
  nx : St → Hp → Prop
  rt : VK
  bk : St → Hp → Prop := fun _ _ => False
  ct : St → Hp → Prop := fun _ _ => False
abbrev TS := Ends → St → Hp → Prop

def EP (X : Cx) (pins : List (Addr × Obj)) (σ : St) (Q : VK) (u : Value) (s' : Shared) : Prop := ∃ v H', Inv X pins σ H' s' ∧ RelV v u ∧ Q v H'
def TP (X : Cx) (pins : List (Addr × Obj)) (σ : St) (Q : Bool → Hp → Prop) (b : Bool) (s' : Shared) : Prop := ∃ H', Inv X pins σ H' s' ∧ Q b H'
def AP (X : Cx) (pins : List (Addr × Obj)) (σ : St) (Q : List V → Hp → Prop) (us : List Value) (s' : Shared) : Prop := ∃ vs H', Inv X pins σ H' s' ∧ Vals vs us ∧ Q vs H'
def SP (X : Cx) (pins : List (Addr × Obj)) (D : Ends) (f : Flow) (s' : Shared) : Prop :=
  match f with
  | .next => ∃ σ' H', Inv X pins σ' H' s' ∧ D.nx σ' H'
  | .brk => ∃ σ' H', Inv X pins σ' H' s' ∧ D.bk σ' H'
  | .cont => ∃ σ' H', Inv X pins σ' H' s' ∧ D.ct σ' H'
  | .ret u => ∃ v σ' H', Inv X pins σ' H' s' ∧ RelV v u ∧ D.rt v H'

def PE (X : Cx) (e : Expr) (t : TE) : Prop :=
  ∀ (pins : List (Addr × Obj)) (s : Shared) (σ : St) (H : Hp) (Q : VK), Inv X pins σ H s → t σ H Q → wpAny (model X.prog X.w) X.A (eval e X.env) (EP X pins σ Q) X.xe s
def PT (X : Cx) (e : Expr) (t : TT) : Prop :=
  ∀ (pins : List (Addr × Obj)) (s : Shared) (σ : St) (H : Hp) (Q : Bool → Hp → Prop), Inv X pins σ H s → t σ H Q → wpAny (model X.prog X.w) X.A (isTrue e X.env (eval e X.env)) (TP X pins σ Q) X.xe s
/-- a test whatever its 'whole' is (and, or) -/
def PW (X : Cx) (e : Expr) (t : TT) : Prop :=
  ∀ (whole : Sem Value) (pins : List (Addr × Obj)) (s : Shared) (σ : St) (H : Hp) (Q : Bool → Hp → Prop), Inv X pins σ H s → t σ H Q → wpAny (model X.prog X.w) X.A (isTrue e X.env whole) (TP X pins σ Q) X.xe s
theorem PW.pt {X : Cx} {e : Expr} {t : TT} (h : PW X e t) : PT X e t := h _
/-- an argument list (no star), from the left -/
def PA (X : Cx) (es : List Expr) (t : TA) : Prop :=
  ∀ (pos : Pos) (pins : List (Addr × Obj)) (s : Shared) (σ : St) (H : Hp) (Q : List V → Hp → Prop), Inv X pins σ H s → t σ H Q → wpAny (model X.prog X.w) X.A (spliced (backTo pos (starEach es X.env))) (AP X pins σ Q) X.xe s
def PS (X : Cx) (st : Stmt) (t : TS) : Prop :=
  ∀ (pins : List (Addr × Obj)) (s : Shared) (σ : St) (H : Hp) (D : Ends), Inv X pins σ H s → t D σ H → wpAny (model X.prog X.w) X.A (exec st X.env) (SP X pins D) X.xe s
def PSs (X : Cx) (st : List Stmt) (t : TS) : Prop :=
  ∀ (pins : List (Addr × Obj)) (s : Shared) (σ : St) (H : Hp) (D : Ends), Inv X pins σ H s → t D σ H → wpAny (model X.prog X.w) X.A (execs st X.env) (SP X pins D) X.xe s
/-- weaken the end -/
theorem thn {α : Type} {t : Sem α} {Q Q' : α → Shared → Prop} {M : Model} {A : Around} {E : Value → Shared → Prop} {s : Shared} (h : wpAny M A t Q E s) (hQ : ∀ a s, Q a s → Q' a s) : wpAny M A t Q' E s := wpAny_mono h hQ fun _ _ x => x
end L2

namespace L2
open PySem PySem.Spec PyProof.Rows
section
variable {X : Cx}

/-! ### names and constants -/
def tVar (i : Nat) : TE := fun σ H Q => ∃ v, σ[i]? = some (some v) ∧ Q v H
def tC (v : V) : TE := fun _ H Q => Q v H
theorem pe_var {i : Nat} {x : Str} {pos : Pos} (hN : X.N[i]? = some x) (hv : Vis X.env.scope x) (hd : (x == ("__debug__" : Str)) = false := by decide) (hcd : (x == ("__classdict__" : Str)) = false := by decide) : PE X (.Name x pos) (tVar i) := by
  intro pins s σ H Q I h
  obtain ⟨v, e, h⟩ := h
  obtain ⟨m, hn, hl⟩ := I.loc
  obtain ⟨u, r, l⟩ := hl i x v hN e hv
  have fin : EP X pins σ Q u s := ⟨v, H, I, r, h⟩
  rcases l with ⟨hk, hm⟩ | ⟨hk, c, hc, hcell⟩
  · exact wpAny_Name (wpAny_loadName_local I.ok.kind hk hn hm fin) hd
  · rcases hk with hk | hk
    · exact wpAny_Name (wpAny_loadName_cell I.ok.kind hk hc hcell fin) hd
    · exact wpAny_Name (wpAny_loadName_free I.ok.kind hk hc hcell fin hcd) hd
theorem pe_int {i j pos} : PE X (.Constant (.int i) j pos) (tC (.int i)) := fun _ _ _ H _ I h => wpAny_Constant_int ⟨.int i, H, I.tok _, ⟨_, rfl⟩, h⟩
theorem pe_bl {b j pos} : PE X (.Constant (.bool b) j pos) (tC (.bl b)) := fun _ _ _ H _ I h => Constant_bool ⟨.bl b, H, I, rfl, h⟩
theorem pe_non {j pos} : PE X (.Constant .none j pos) (tC .non) := fun _ _ _ H _ I h => Constant_none ⟨.non, H, I, rfl, h⟩
theorem pe_str {x j pos} : PE X (.Constant (.str x) j pos) (tC (.str x)) := fun _ _ _ H _ I h => Calls.Constant_str ⟨.str x, H, I.tok _, ⟨_, rfl⟩, h⟩

/-- a global name of the def -/
def Gl (X : Cx) (x : Str) : Prop := X.env.kindOf x = some .globalImplicit
theorem ld_glob {E : Value → Shared → Prop} {pins : List (Addr × Obj)} {s : Shared} {σ : St} {H : Hp} {x : Str} {u : Value} {pos : Pos} {Q : Value → Shared → Prop} (I : Inv X pins σ H s) (hg : Gl X x) (hm : X.mg x = some u) (h : Q u s)
    (hd : (x == ("__debug__" : Str)) = false := by decide) : wpAny (model X.prog X.w) X.A (eval (.Name x pos) X.env) Q E s :=
  Calls.Name_function_global I.ok.kind hg (Calls.loadGlobal_global (by rw [I.ok.glob]; exact I.mod.glob.keeps I.bk) hm h) hd
theorem ld_blt {E : Value → Shared → Prop} {pins : List (Addr × Obj)} {s : Shared} {σ : St} {H : Hp} {x : Str} {u : Value} {pos : Pos} {Q : Value → Shared → Prop} (I : Inv X pins σ H s) (hg : Gl X x) (hm : X.mg x = none) (hv : bootBuiltins x = some u) (h : Q u s)
    (hn : x ≠ "__name__" := by decide) (hd : (x == ("__debug__" : Str)) = false := by decide) : wpAny (model X.prog X.w) X.A (eval (.Name x pos) X.env) Q E s := by
  obtain ⟨mb, h1, h2⟩ := I.mod.blt
  exact Calls.Name_function_global I.ok.kind hg (Calls.loadGlobal_builtin (by rw [I.ok.glob]; exact I.mod.glob.keeps I.bk) hm (by rw [I.ok.blt]; exact h1.keeps I.bk) ((h2 x hn).trans hv) h) hd
/-- a module's constant, a class, a function, as a value -/
theorem pe_glob {x : Str} {v : V} {u : Value} {pos : Pos} (hg : Gl X x) (hm : X.mg x = some u) (r : RelV v u) (hd : (x == ("__debug__" : Str)) = false := by decide) : PE X (.Name x pos) (tC v) :=
  fun _ _ _ H _ I h => ld_glob I hg hm ⟨v, H, I, r, h⟩ hd
theorem pe_bltn {x : Str} {v : V} {u : Value} {pos : Pos} (hg : Gl X x) (hm : X.mg x = none) (hv : bootBuiltins x = some u) (r : RelV v u) (hn : x ≠ "__name__" := by decide) (hd : (x == ("__debug__" : Str)) = false := by decide) : PE X (.Name x pos) (tC v) :=
  fun _ _ _ H _ I h => ld_blt I hg hm hv ⟨v, H, I, r, h⟩ hn hd

/-! ### arithmetic -/
variable {a b : Expr} {ta tb : TE} {pos : Pos}
/-! ### comparisons -/
/-- a comparison as a value, as a test -/
def tB (t : TE) : TT := fun σ H Q => t σ H fun x H1 => ∃ c, x = .bl c ∧ Q c H1
/-- an expression whose value is a bool, as a test -/
theorem pt_val {e : Expr} {t : TE} (h : PE X e t) (he : ∀ whole, isTrue e X.env whole = (do let v ← whole; standAt e.pos; holding [v] (truthy v)) := by intro _; rfl) : PT X e (tB t) := by
  intro pins s σ H Q I hw
  refine isTrue_plain (thn (h pins s σ H _ I hw) fun v s1 ⟨x, H1, I1, r1, q1⟩ => ?_) (he _)
  obtain ⟨d, rfl, q⟩ := q1
  cases r1
  exact wpAny_truthy_bool ⟨H1, I1, q⟩

/-! ### and, or, not -/
variable {tA tB' : TT} {rest : List Expr}
def tAnd (t u : TT) : TT := fun σ H Q => t σ H fun c H1 => if c = true then u σ H1 Q else Q false H1
def tOr (t u : TT) : TT := fun σ H Q => t σ H fun c H1 => if c = true then Q true H1 else u σ H1 Q
def tNot (t : TT) : TT := fun σ H Q => t σ H fun c H1 => Q (!c) H1
theorem pw_and1 (ha : PT X a tA) : PW X (.BoolOp .And [a] pos) tA := by
  intro wh pins s σ H Q I h
  refine isTrue_and (thn (ha pins s σ H Q I h) fun c s1 e => ?_)
  cases c with
  | true => exact isTrue_and_nil e
  | false => exact e
theorem pw_or1 (ha : PT X a tA) : PW X (.BoolOp .Or [a] pos) tA := by
  intro wh pins s σ H Q I h
  refine isTrue_or (thn (ha pins s σ H Q I h) fun c s1 e => ?_)
  cases c with
  | false => exact isTrue_or_nil e
  | true => exact e
theorem pw_and (ha : PT X a tA) (hb : PW X (.BoolOp .And (b :: rest) pos) tB') : PW X (.BoolOp .And (a :: b :: rest) pos) (tAnd tA tB') := by
  intro wh pins s σ H Q I h
  refine isTrue_and (thn (ha pins s σ H _ I h) fun c s1 ⟨H1, I1, q1⟩ => ?_)
  cases c with
  | true => exact hb wh pins s1 σ H1 Q I1 q1
  | false => exact ⟨H1, I1, q1⟩
theorem pw_or (ha : PT X a tA) (hb : PW X (.BoolOp .Or (b :: rest) pos) tB') : PW X (.BoolOp .Or (a :: b :: rest) pos) (tOr tA tB') := by
  intro wh pins s σ H Q I h
  refine isTrue_or (thn (ha pins s σ H _ I h) fun c s1 ⟨H1, I1, q1⟩ => ?_)
  cases c with
  | true => exact ⟨H1, I1, q1⟩
  | false => exact hb wh pins s1 σ H1 Q I1 q1
theorem pt_not (ha : PT X a tA) : PT X (.UnaryOp .Not a pos) (tNot tA) := by
  intro pins s σ H Q I h
  exact isTrue_not (ha pins s σ H (fun c H1 => Q (!c) H1) I h)
/-- .. as values (bools) -/
def tAndV (ta tb : TE) : TE := fun σ H Q => ta σ H fun x H1 => ∃ c, x = .bl c ∧ if c = true then tb σ H1 Q else Q (.bl false) H1
def tOrV (ta tb : TE) : TE := fun σ H Q => ta σ H fun x H1 => ∃ c, x = .bl c ∧ if c = true then Q (.bl true) H1 else tb σ H1 Q
theorem pe_one {op} {t : TE} (h : PE X a t) : PE X (.BoolOp op [a] pos) t := fun pins s σ H Q I hw => BoolOp_one (h pins s σ H Q I hw)
theorem pe_and (ha : PE X a ta) (hb : PE X (.BoolOp .And (b :: rest) pos) tb) : PE X (.BoolOp .And (a :: b :: rest) pos) (tAndV ta tb) := by
  intro pins s σ H Q I h
  refine BoolOp_and (thn (ha pins s σ H _ I h) fun v s1 ⟨x, H1, I1, r1, q1⟩ => ?_)
  obtain ⟨c, rfl, q1⟩ := q1
  cases r1
  refine wpAny_truthy_bool ?_
  cases c with
  | true => exact hb pins s1 σ H1 Q I1 q1
  | false => exact ⟨.bl false, H1, I1, rfl, q1⟩
theorem pe_or (ha : PE X a ta) (hb : PE X (.BoolOp .Or (b :: rest) pos) tb) : PE X (.BoolOp .Or (a :: b :: rest) pos) (tOrV ta tb) := by
  intro pins s σ H Q I h
  refine BoolOp_or (thn (ha pins s σ H _ I h) fun v s1 ⟨x, H1, I1, r1, q1⟩ => ?_)
  obtain ⟨c, rfl, q1⟩ := q1
  cases r1
  refine wpAny_truthy_bool ?_
  cases c with
  | false => exact hb pins s1 σ H1 Q I1 q1
  | true => exact ⟨.bl true, H1, I1, rfl, q1⟩
end
end L2

namespace L2
open PySem PySem.Spec PyProof.Rows

/-! ### a list, a tuple that is read: tracked, frozen, or an object of the module -/
def SqL (K : PySem.W.Frag) (H : Hp) (a : Addr) (xs : List V) : Prop :=
  Rd H a (.lst xs) ∨
    ∃ (o : Obj) (its : Array Value) (n : Nat), K.lookup a = some o ∧ o.cls = .type "list" ∧ o.dict = none ∧ o.data = .seq its n ∧ its.size ≤ sizeLine ∧ Vals xs its.toList
def SqT (K : PySem.W.Frag) (H : Hp) (a : Addr) (xs : List V) : Prop :=
  Rd H a (.tup xs) ∨
    ∃ (o : Obj) (its : Array Value) (n : Nat), K.lookup a = some o ∧ o.cls = .type "tuple" ∧ o.data = .seq its n ∧ its.size ≤ sizeLine ∧ Vals xs its.toList
def absV : Value → Option V
  | .none => some .non
  | .bool b => some (.bl b)
  | .int i _ => some (.int i)
  | .str x _ => some (.str x)
  | .bytes b _ => some (.byt b)
  | .float b _ => some (.flt b)
  | .ref a => some (.ref a)
  | .type n => some (.ty n)
  | _ => none
theorem RelV.abs {x : V} {u : Value} (r : RelV x u) : absV u = some x := by
  cases x with
  | non => cases r; rfl
  | bl _ => cases r; rfl
  | int _ => obtain ⟨t, rfl⟩ := r; rfl
  | str _ => obtain ⟨t, rfl⟩ := r; rfl
  | byt _ => obtain ⟨t, rfl⟩ := r; rfl
  | flt _ => obtain ⟨t, rfl⟩ := r; rfl
  | ref _ => cases r; rfl
  | ty _ => cases r; rfl
theorem RelV.inj {x y : V} {u : Value} (r : RelV x u) (q : RelV y u) : x = y := Option.some.inj (r.abs.symm.trans q.abs)
theorem Vals.inj : ∀ {xs ys : List V} {us : List Value}, Vals xs us → Vals ys us → xs = ys
  | _, _, _, .nil, .nil => rfl
  | _, _, _, .cons r t, .cons r' t' => by rw [r.inj r', Vals.inj t t']
section
variable {X : Cx} {pins : List (Addr × Obj)} {σ : St} {H : Hp} {s : Shared} {a : Addr} {xs ys : List V}
theorem SqL.of {K : PySem.W.Frag} (h : H a = some (.lst xs)) : SqL K H a xs := .inl (.inl h)
theorem SqT.of {K : PySem.W.Frag} (h : H a = some (.tup xs)) : SqT K H a xs := .inl (.inl h)
theorem Inv.list (I : Inv X pins σ H s) (h : SqL X.K H a xs) : ∃ its : List Value, Vals xs its ∧ PlainL s.heap a its.toArray ∧ xs.length ≤ sizeLine := by
  rcases h with h | ⟨o, its, n, hk, hc, hd, hs, hz, r⟩
  · obtain ⟨z, its, n, r, e⟩ := h.ok I.hok
    exact ⟨its, r, ⟨_, n, e, rfl, rfl, rfl⟩, z⟩
  · refine ⟨its.toList, r, ⟨o, n, I.kIn a o hk, hc, hd, by simpa using hs⟩, ?_⟩
    have e := r.length
    simp only [Array.length_toList] at e
    omega
theorem Inv.tuple (I : Inv X pins σ H s) (h : SqT X.K H a xs) : ∃ its : List Value, Vals xs its ∧ IsTup s.heap a its.toArray ∧ xs.length ≤ sizeLine := by
  rcases h with h | ⟨o, its, n, hk, hc, hs, hz, r⟩
  · obtain ⟨z, its, r, p⟩ := h.ok I.hok
    exact ⟨its, r, p, z⟩
  · refine ⟨its.toList, r, ⟨o, I.kIn a o hk, hc, n, by simpa using hs⟩, ?_⟩
    have e := r.length
    simp only [Array.length_toList] at e
    omega
theorem Inv.list_inj (I : Inv X pins σ H s) (h : SqL X.K H a xs) (h' : SqL X.K H a ys) : xs = ys := by
  obtain ⟨its, r, ⟨o, n, e, _, _, d⟩, _⟩ := I.list h
  obtain ⟨its', r', ⟨o', n', e', _, _, d'⟩, _⟩ := I.list h'
  rw [e] at e'; cases e'
  rw [d] at d'
  injection d' with d1 _
  have : its = its' := by simpa using congrArg Array.toList d1
  subst this
  exact r.inj r'
theorem Inv.tuple_inj (I : Inv X pins σ H s) (h : SqT X.K H a xs) (h' : SqT X.K H a ys) : xs = ys := by
  obtain ⟨its, r, ⟨o, e, _, n, d⟩, _⟩ := I.tuple h
  obtain ⟨its', r', ⟨o', e', _, n', d'⟩, _⟩ := I.tuple h'
  rw [e] at e'; cases e'
  rw [d] at d'
  injection d' with d1 _
  have : its = its' := by simpa using congrArg Array.toList d1
  subst this
  exact r.inj r'
end

/-! ### another wish about exceptions -/
abbrev Cx.wish (X : Cx) (E : Value → Shared → Prop) : Cx := { X with xe := E }
/-- no exception leaves -/
abbrev Cx.nox (X : Cx) : Cx := X.wish fun _ _ => False
theorem Cx.Ok.wish {X : Cx} (ok : X.Ok) (E : Value → Shared → Prop) : (X.wish E).Ok :=
  ⟨ok.mod, ok.kind, ok.glob, ok.blt, ok.above, ok.inj, ok.has, ok.cab, ok.hd, ok.frames, ok.stk, ok.exf, ok.bs, ok.bsz, ok.noex, ok.exfs, ok.funs, ok.frf⟩
theorem Cx.Ok.unwish {X : Cx} {E : Value → Shared → Prop} (ok : (X.wish E).Ok) : X.Ok :=
  ⟨ok.mod, ok.kind, ok.glob, ok.blt, ok.above, ok.inj, ok.has, ok.cab, ok.hd, ok.frames, ok.stk, ok.exf, ok.bs, ok.bsz, ok.noex, ok.exfs, ok.funs, ok.frf⟩
section
variable {X : Cx} {pins : List (Addr × Obj)} {σ : St} {H : Hp} {s : Shared} {E : Value → Shared → Prop}
theorem Inv.wish (I : Inv X pins σ H s) (E : Value → Shared → Prop) : Inv (X.wish E) pins σ H s := ⟨I.ok.wish E, I.os, I.bare, I.base, I.loc, I.cell, I.free, I.freeC, I.pin, I.hok, I.len⟩
theorem Inv.unwish (I : Inv (X.wish E) pins σ H s) : Inv X pins σ H s := ⟨I.ok.unwish, I.os, I.bare, I.base, I.loc, I.cell, I.free, I.freeC, I.pin, I.hok, I.len⟩
theorem SP.unwish {D : Ends} {f : Flow} {s' : Shared} (h : SP (X.wish E) pins D f s') : SP X pins D f s' := by
  cases f with
  | next => obtain ⟨σ', H', I, q⟩ := h; exact ⟨σ', H', I.unwish, q⟩
  | brk => obtain ⟨σ', H', I, q⟩ := h; exact ⟨σ', H', I.unwish, q⟩
  | cont => obtain ⟨σ', H', I, q⟩ := h; exact ⟨σ', H', I.unwish, q⟩
  | ret u => obtain ⟨v, σ', H', I, r, q⟩ := h; exact ⟨v, σ', H', I.unwish, r, q⟩
theorem PSs.nox {st : List Stmt} {t : TS} (h : PSs X.nox st t) : PSs X st t := fun pins s σ H D I hw =>
  wpAny_mono (h pins s σ H D (I.wish _) hw) (fun _ _ q => q.unwish) fun _ _ z => False.elim z
end

/-! ### blocks and small statements -/
section
variable {X : Cx} {st : Stmt} {rest : List Stmt} {t u : TS} {e : Expr} {te : TE} {pos : Pos}
def tNext : TS := fun D σ H => D.nx σ H
def tSeq (t u : TS) : TS := fun D σ H => t { D with nx := u D } σ H
theorem pss_nil : PSs X [] tNext := fun _ _ σ H _ I h => wpAny_execs_nil ⟨σ, H, I, h⟩
theorem pss_cons (h1 : PS X st t) (h2 : PSs X rest u) : PSs X (st :: rest) (tSeq t u) := by
  intro pins s σ H D I h
  refine wpAny_execs_cons (thn (h1 pins s σ H { D with nx := u D } I h) fun f s1 q => ?_)
  cases f with
  | next =>
    obtain ⟨σ', H', I', q⟩ := q
    exact h2 pins s1 σ' H' D I' q
  | ret v => exact q
  | brk => exact q
  | cont => exact q
theorem pss_one (h1 : PS X st t) : PSs X [st] t := by
  intro pins s σ H D I h
  refine wpAny_execs_cons (thn (h1 pins s σ H D I h) fun f s1 q => ?_)
  cases f with
  | next => exact wpAny_execs_nil q
  | ret v => exact q
  | brk => exact q
  | cont => exact q
/-- in a def's body nothing is shown -/
theorem Inv.quiet {pins : List (Addr × Obj)} {σ : St} {H : Hp} {s : Shared} (I : Inv X pins σ H s) : interactive X.env = false := by simp [interactive, I.ok.kind]
/-- an expression whose value is dropped -/
def tDrop (te : TE) : TS := fun D σ H => te σ H fun _ H1 => D.nx σ H1
theorem ps_expr (he : PE X e te) (hs : swapsWith e none pos.line X.env = pure false := by rfl) : PS X (.Expr e pos) (tDrop te) := by
  intro pins s σ H D I h
  exact wpAny_Expr_any (thn (he pins s σ H _ I h) fun v s1 ⟨x, H1, I1, r1, q1⟩ => ⟨σ, H1, I1, q1⟩) I.quiet hs
def tRet (te : TE) : TS := fun D σ H => te σ H D.rt
theorem ps_ret (he : PE X e te) : PS X (.Return (some e) pos) (tRet te) := by
  intro pins s σ H D I h
  exact wpAny_Return_some (thn (he pins s σ H _ I h) fun v s1 ⟨x, H1, I1, r1, q1⟩ => ⟨x, σ, H1, I1, r1, q1⟩)
def tRetN : TS := fun D _ H => D.rt .non H
theorem ps_retN : PS X (.Return none pos) tRetN := fun _ _ σ H _ I h => wpAny_Return_none ⟨.non, σ, H, I, rfl, h⟩
def tIfS (c : TT) (t u : TS) : TS := fun D σ H => c σ H fun b H1 => if b = true then t D σ H1 else u D σ H1
theorem ps_if {c : Expr} {a b : List Stmt} {tc : TT} (hc : PT X c tc) (ha : PSs X a t) (hb : PSs X b u) : PS X (.If c a b pos) (tIfS tc t u) := by
  intro pins s σ H D I h
  refine wpAny_If (thn (hc pins s σ H _ I h) fun d s1 ⟨H1, I1, q1⟩ => ?_)
  cases d with
  | true => exact ha pins s1 σ H1 D I1 q1
  | false => exact hb pins s1 σ H1 D I1 q1
/-- code that the proof never comes to -/
def tNever : TS := fun _ _ _ => False
theorem ps_never : PS X st tNever := fun _ _ _ _ _ _ h => h.elim
end

/-! ### targets -/
abbrev TG := V → St → Hp → (St → Hp → Prop) → Prop
abbrev TGs := List V → St → Hp → (St → Hp → Prop) → Prop
def PG (X : Cx) (target : Expr) (t : TG) : Prop :=
  ∀ (pins : List (Addr × Obj)) (s : Shared) (σ : St) (H : Hp) (v : V) (u : Value) (Q : St → Hp → Prop), Inv X pins σ H s → RelV v u → t v σ H Q →
    wpAny (model X.prog X.w) X.A (assign target X.env u) (fun _ s' => ∃ σ' H', Inv X pins σ' H' s' ∧ Q σ' H') X.xe s
/-- several targets, one after another -/
def PGs (X : Cx) (ts : List Expr) (t : TGs) : Prop :=
  ∀ (pins : List (Addr × Obj)) (s : Shared) (σ : St) (H : Hp) (vs : List V) (us : List Value) (Q : St → Hp → Prop), Inv X pins σ H s → Vals vs us → t vs σ H Q →
    wpAny (model X.prog X.w) X.A (assignInOrder ((assignEach ts X.env).map (·.2)) us) (fun _ s' => ∃ σ' H', Inv X pins σ' H' s' ∧ Q σ' H') X.xe s
/-- o[i] = v, by values -/
abbrev TSet := V → V → V → Hp → (Hp → Prop) → Prop
def PSet (X : Cx) (t : TSet) : Prop :=
  ∀ (pins : List (Addr × Obj)) (s : Shared) (σ : St) (H : Hp) (o i v : V) (ov iv u : Value) (Q : Hp → Prop), Inv X pins σ H s → RelV o ov → RelV i iv → RelV v u → t o i v H Q →
    wpAny (model X.prog X.w) X.A (setItem ov iv u) (fun _ s' => ∃ H', Inv X pins σ H' s' ∧ Q H') X.xe s
section
variable {X : Cx} {pos : Pos}
def gName (i : Nat) : TG := fun v σ H Q => Q (σ.set i (some v)) H
theorem pg_name {i : Nat} {x : Str} (hN : X.N.Nodup) (hi : X.N[i]? = some x) (hx : Loc X.env.scope x) (hf : X.fn x = true ∨ X.env.scope.names.lookup x = some .local := by first | exact .inl rfl | exact .inr rfl | assumption) : PG X (.Name x pos) (gName i) := by
  intro pins s σ H v u Q I r h
  exact wpAny_assign_Name (store_ok I hN hi hx r (fun s' I' => ⟨_, H, I', h⟩) hf)
def gNil : TGs := fun vs σ H Q => vs = [] ∧ Q σ H
def gCons (t : TG) (u : TGs) : TGs := fun vs σ H Q => ∃ v r, vs = v :: r ∧ t v σ H fun σ' H' => u r σ' H' Q
theorem pgs_nil : PGs X [] gNil := by
  intro pins s σ H vs us Q I r h
  obtain ⟨e, h⟩ := h
  subst e
  cases r
  exact assignInOrder_nil ⟨σ, H, I, h⟩
theorem pgs_cons {e : Expr} {es : List Expr} {t : TG} {u : TGs} (h1 : PG X e t) (h2 : PGs X es u)
    (hs : (assignEach (e :: es) X.env).map (·.2) = assign e X.env :: (assignEach es X.env).map (·.2) := by rfl) : PGs X (e :: es) (gCons t u) := by
  intro pins s σ H vs us Q I r h
  obtain ⟨v, vr, e1, h⟩ := h
  subst e1
  cases r with
  | cons r rr =>
    rw [hs]
    refine assignInOrder_cons (thn (h1 pins s σ H _ _ _ I r h) fun _ s1 ⟨σ1, H1, I1, q1⟩ => ?_)
    exact h2 pins s1 σ1 H1 _ _ Q I1 rr q1
/-- (a, b, ..) = a tuple of that length -/
def gTup (K : PySem.W.Frag) (n : Nat) (t : TGs) : TG := fun v σ H Q => ∃ a xs, v = .ref a ∧ SqT K H a xs ∧ xs.length = n ∧ t xs σ H Q
theorem pg_tup {es : List Expr} {k : Nat} {t : TGs} {n : Nat} (hc : X.calm = true) (h : PGs X es t)
    (hn : (assignEach es X.env).length = n := by rfl) (hst : (assignEach es X.env).findIdx? (·.1) = none := by rfl) : PG X (.Tuple es k pos) (gTup X.K n t) := by
  intro pins s σ H v u Q I r hw
  obtain ⟨a, xs, e1, hq, hl, hw⟩ := hw
  subst e1
  cases r
  obtain ⟨its, rv, ht, hz⟩ := I.tuple hq
  refine assign_Tuple_tuple (I.ok.hd hc) ht (by simp [hn, ← hl, rv.length]) hst fun h' hx => ?_
  have I1 : Inv X pins σ H { s with heap := h' } := I.kept (t' := s.toks) fun b o e => hx b o (Nat.ne_of_lt (Heap.lt_size e)) e
  exact h pins _ σ H xs _ Q I1 (by simpa using rv) hw
/-- o[i] = .. -/
def gSub (to ti : TE) (t : TSet) : TG := fun v σ H Q => to σ H fun o H1 => ti σ H1 fun i H2 => t o i v H2 fun H3 => Q σ H3
theorem pg_sub {o i : Expr} {to ti : TE} {t : TSet} (ho : PE X o to) (hi : PE X i ti) (hs : PSet X t)
    (ha : ∀ v, assign (.Subscript o i pos) X.env v = (do
      let ov ← holding [v] (eval o X.env)
      let iv ← holding [v, ov] (eval i X.env)
      standAt pos
      holding [v, ov, iv] (setItem ov iv v)
      release [v, ov, iv] []) := by intro _; rfl) : PG X (.Subscript o i pos) (gSub to ti t) := by
  intro pins s σ H v u Q I r h
  rw [ha]
  refine wpAny_bind (wpAny_holding (thn (ho pins s σ H _ I h) fun ov s1 ⟨x, H1, I1, r1, q1⟩ => ?_))
  refine wpAny_bind (wpAny_holding (thn (hi pins s1 σ H1 _ I1 q1) fun iv s2 ⟨y, H2, I2, r2, q2⟩ => ?_))
  refine wpAny_bind (wpAny_standAt (wpAny_bind (wpAny_holding (thn (hs pins s2 σ H2 x y v ov iv u _ I2 r1 r2 r q2) fun _ s3 ⟨H3, I3, q3⟩ => ?_))))
  exact wpAny_release ⟨σ, H3, I3, q3⟩
/-- target = value -/
def tAsg (te : TE) (g : TG) : TS := fun D σ H => te σ H fun x H1 => g x σ H1 D.nx
theorem ps_asg {tg e : Expr} {te : TE} {g : TG} (he : PE X e te) (hg : PG X tg g) (hs : swapsWithSole [tg] e pos.line X.env = pure false := by rfl) (hw : swappedStores [tg] e X.env = pure none := by rfl)
    (h1 : (assignEach [tg] X.env).map (·.2) = [assign tg X.env] := by rfl) : PS X (.Assign [tg] e pos) (tAsg te g) := by
  intro pins s σ H D I h
  refine wpAny_Assign_stores (thn (he pins s σ H _ I h) fun v s1 ⟨x, H1, I1, r1, q1⟩ => ?_) hs hw
  rw [h1]
  exact thn (hg pins s1 σ H1 x v _ I1 r1 q1) fun _ s2 q => q
/-- name = value -/
theorem ps_set {i : Nat} {x : Str} {e : Expr} {te : TE} {pos' : Pos} (hN : X.N.Nodup) (hi : X.N[i]? = some x) (hx : Loc X.env.scope x) (he : PE X e te) (hs : swapsWith e (some (.Name x pos')) pos.line X.env = pure false := by rfl) (hf : X.fn x = true ∨ X.env.scope.names.lookup x = some .local := by first | exact .inl rfl | exact .inr rfl | assumption) :
    PS X (.Assign [.Name x pos'] e pos) (tAsg te (gName i)) := by
  intro pins s σ H D I h
  refine wpAny_Assign_Name (thn (he pins s σ H _ I h) fun v s1 ⟨y, H1, I1, r1, q1⟩ => ?_) hs
  exact store_ok I1 hN hi hx r1 (fun s2 I2 => ⟨_, H1, I2, q1⟩) hf
end

/-! ### while -/
section
variable {X : Cx} {pos : Pos}
end

/-! ### what a loop or a comprehension walks -/
/-- at turn i: it yields x (the heap may grow), or it stops -/
structure It where
  go : Nat → Hp → Prop
  yld : Nat → Hp → V → Hp → Prop
  stop : Nat → Hp → Prop
/-- the iterator's own objects may turn: they are not the frame's, not pinned, younger than the entry (or a comprehension's own) -/
def FpOk (X : Cx) (pins : List (Addr × Obj)) (H : Hp) (b : Addr) : Prop :=
  H b = none ∧ b ≠ X.env.locals ∧ b ∉ X.fs ∧ (b ∈ X.ex ∨ X.s₀.heap.objs.size ≤ b) ∧ (∀ x c, X.env.cells.lookup x = some c → c ≠ b) ∧ ∀ p ∈ X.pn ++ pins, p.1 ≠ b
theorem Inv.fpOk {X : Cx} {pins : List (Addr × Obj)} {σ : St} {H H' : Hp} {s : Shared} {b : Addr} (I : Inv X pins σ H s) (hb : s.heap.objs.size ≤ b) (hn : H' b = none) : FpOk X pins H' b := by
  refine ⟨hn, Nat.ne_of_gt (Nat.lt_of_lt_of_le I.lt hb), I.nofs hb, .inr (Nat.le_trans I.sz hb), fun x c e z => ?_, fun p hp z => ?_⟩
  · obtain ⟨v, q⟩ := I.cell x c e
    exact absurd (Nat.lt_of_lt_of_le q.lt (by rw [z]; exact hb)) (Nat.lt_irrefl _)
  · exact absurd (Nat.lt_of_lt_of_le (Heap.lt_size (I.pin p hp).1) (by rw [z]; exact hb)) (Nat.lt_irrefl _)
structure Turn (P : Program) (w : World) (K : PySem.W.Frag) (tg : Expr) (J : It) (fp : List Addr) (it : Addr) (tn : Nat → Heap → Prop) : Prop where
  mem : it ∈ fp
  obj : ∀ i h, tn i h → ∀ b ∈ fp, ∃ o, h.get? b = some o ∧ ∀ v, o.data ≠ .cell v
  keep : ∀ i h h', tn i h → (∀ b ∈ fp, ∀ o, h.get? b = some o → h'.get? b = some o) → tn i h'
  item : ∀ (X : Cx), X.prog = P → X.w = w → X.K = K → X.calm = true → ∀ (i : Nat) (pins : List (Addr × Obj)) (s : Shared) (σ : St) (H : Hp) (E : Value → Shared → Prop), Inv X pins σ H s → (∀ b ∈ fp, FpOk X pins H b) → tn i s.heap → J.go i H →
    wpAny (model P w) X.A (pyNext (.ref it)) (fun r s1 => ∃ u, r = some u ∧
      wpAny (model P w) X.A (letOwnedTupleGo tg (.ref it) u) (fun _ s2 => ∃ x H', Inv X pins σ H' s2 ∧ RelV x u ∧ J.yld i H x H' ∧ tn (i + 1) s2.heap ∧ ∀ b ∈ fp, H' b = none) E s1) E s
  done : ∀ (X : Cx), X.prog = P → X.w = w → X.K = K → X.calm = true → ∀ (i : Nat) (pins : List (Addr × Obj)) (s : Shared) (σ : St) (H : Hp) (E : Value → Shared → Prop), Inv X pins σ H s → (∀ b ∈ fp, FpOk X pins H b) → tn i s.heap → J.stop i H →
    wpAny (model P w) X.A (pyNext (.ref it)) (fun r s1 => r = none ∧ Inv X pins σ H s1) E s
  self : ∀ (A : Around) (i : Nat) (s : Shared) (Q : Value → Shared → Prop) (E : Value → Shared → Prop), tn i s.heap → Q (.ref it) s → wpAny (model P w) A (pyIter (.ref it)) Q E s
abbrev TI := St → Hp → (It → Hp → Prop) → Prop
/-- an iterator has come -/
def PIE (X : Cx) (pins : List (Addr × Obj)) (σ : St) (tg : Expr) (R : It → Hp → Prop) (itv : Value) (s2 : Shared) : Prop :=
  ∃ (it : Addr) (fp : List Addr) (tn : Nat → Heap → Prop) (J : It) (H' : Hp), itv = .ref it ∧ Inv X pins σ H' s2 ∧ Turn X.prog X.w X.K tg J fp it tn ∧ tn 0 s2.heap ∧ (∀ b ∈ fp, FpOk X pins H' b) ∧ R J H'
def PI (X : Cx) (tg iter : Expr) (wi : TI) : Prop :=
  ∀ (pins : List (Addr × Obj)) (s : Shared) (σ : St) (H : Hp) (R : It → Hp → Prop), Inv X pins σ H s → wi σ H R →
    wpAny (model X.prog X.w) X.A (eval iter X.env) (fun v s1 => wpAny (model X.prog X.w) X.A (pyIter v) (PIE X pins σ tg R) X.xe s1) X.xe s

/-- the step ahead of the store is nothing for an iterator that keeps no tuple -/
theorem go_of {M : Model} {A : Around} {E : Value → Shared → Prop} {s : Shared} {tg : Expr} {it : Addr} {u : Value} {o : Obj} {n : String} {vs : Array Value} {Q : Unit → Shared → Prop} (ho : s.heap.get? it = some o) (hc : o.cls = .type n) (hd : o.data = .fields vs)
    (hn : ["enumerate", "zip", "dict_itemiterator", "dict_reverseitemiterator", "odict_iterator", "itertools.zip_longest", "itertools.pairwise"].contains n = false) (hQ : Q () s) : wpAny M A (letOwnedTupleGo tg (.ref it) u) Q E s := by
  unfold letOwnedTupleGo
  cases tg <;> first
    | exact wpAny_pure hQ
    | (cases u <;> first
        | exact wpAny_pure hQ
        | (refine wpAny_bind (wpAny_load ho ?_)
           rw [hc, hd]
           show wpAny M A (if (["enumerate", "zip", "dict_itemiterator", "dict_reverseitemiterator", "odict_iterator", "itertools.zip_longest", "itertools.pairwise"].contains n && vs[0]? == some (rawInt _)) = true then _ else _) Q E s
           rw [if_neg (by intro h; rw [hn, Bool.false_and] at h; cases h)]
           exact wpAny_pure hQ))

/-- the list at a, as it stands at each turn (a loop may append to it) -/
def Itl (K : PySem.W.Frag) (a : Addr) : It :=
  ⟨fun i H => ∃ xs x, SqL K H a xs ∧ xs[i]? = some x, fun i H x H' => H' = H ∧ ∀ xs, SqL K H a xs → xs[i]? = some x, fun i H => ∃ xs, SqL K H a xs ∧ xs.length ≤ i⟩
def Itt (K : PySem.W.Frag) (a : Addr) : It :=
  ⟨fun i H => ∃ xs x, SqT K H a xs ∧ xs[i]? = some x, fun i H x H' => H' = H ∧ ∀ xs, SqT K H a xs → xs[i]? = some x, fun i H => ∃ xs, SqT K H a xs ∧ xs.length ≤ i⟩
/-- lo, lo + 1, .. (n of them) -/
def Itr (lo : Int) (n : Nat) : It := ⟨fun i _ => i < n, fun i H x H' => H' = H ∧ x = .int (lo + i), fun i _ => n ≤ i⟩
theorem turn_list {P : Program} {w : World} {K : PySem.W.Frag} {tg : Expr} (a it : Addr) : Turn P w K tg (Itl K a) [it] it (fun i h => h.IsListIter it a i) where
  mem := by simp
  obj := fun i h st b hb => by
    have e : b = it := by simpa using hb
    subst e
    obtain ⟨o, e, c, d⟩ := st
    exact ⟨o, e, fun v z => by rw [d] at z; cases z⟩
  keep := fun i h h' st k => st.at fun o e => k it (by simp) o e
  item := by
    intro X hP hw hK hc i pins s σ H E I hf st hg
    subst hP hw hK
    obtain ⟨xs, x, hq, hx⟩ := hg
    obtain ⟨its, rv, p, hz⟩ := I.list hq
    obtain ⟨u, hu, ru⟩ := rv.get hx
    obtain ⟨f0, f1, f2, f3, f4, f5⟩ := hf it (by simp)
    refine wpAny_pyNext_list_item st p.isList (x := u) (by simpa using hu) fun h' st' sb => ?_
    have I1 : Inv X pins σ H { s with heap := h' } := I.turned (t' := s.toks) (fun b o hb e => (sb.2 b hb).trans e) f0 f1 f3 f4 f5
    obtain ⟨o, e, c, d⟩ := id st'
    exact ⟨u, rfl, go_of (s := { s with heap := h' }) e c d (by decide) ⟨x, H, I1, ru, ⟨rfl, fun ys hy => by rw [I.list_inj hy hq]; exact hx⟩, st', fun b hb => (hf b hb).1⟩⟩
  done := by
    intro X hP hw hK hc i pins s σ H E I hf st hg
    subst hP hw hK
    obtain ⟨xs, hq, hx⟩ := hg
    obtain ⟨its, rv, p, hz⟩ := I.list hq
    obtain ⟨f0, f1, f2, f3, f4, f5⟩ := hf it (by simp)
    have hl := rv.length
    exact wpAny_pyNext_list_end (I.ok.hd hc) st p.isList (by simp; omega) fun h' eb => ⟨rfl, I.turned (t' := s.toks) (fun b o hb e => eb b o hb e) f0 f1 f3 f4 f5⟩
  self := fun _ _ _ _ _ st h => wpAny_pyIter_listiter st h
theorem turn_tuple {P : Program} {w : World} {K : PySem.W.Frag} {tg : Expr} (a it : Addr) : Turn P w K tg (Itt K a) [it] it (fun i h => h.IsTupleIter it a i) where
  mem := by simp
  obj := fun i h st b hb => by
    have e : b = it := by simpa using hb
    subst e
    obtain ⟨o, e, c, d⟩ := st
    exact ⟨o, e, fun v z => by rw [d] at z; cases z⟩
  keep := fun i h h' st k => st.at fun o e => k it (by simp) o e
  item := by
    intro X hP hw hK hc i pins s σ H E I hf st hg
    subst hP hw hK
    obtain ⟨xs, x, hq, hx⟩ := hg
    obtain ⟨its, rv, p, hz⟩ := I.tuple hq
    obtain ⟨u, hu, ru⟩ := rv.get hx
    obtain ⟨f0, f1, f2, f3, f4, f5⟩ := hf it (by simp)
    refine wpAny_pyNext_tuple_item st (show s.heap.IsTuple a its.toArray from p) (x := u) (by simpa using hu) fun h' st' sb => ?_
    have I1 : Inv X pins σ H { s with heap := h' } := I.turned (t' := s.toks) (fun b o hb e => (sb.2 b hb).trans e) f0 f1 f3 f4 f5
    obtain ⟨o, e, c, d⟩ := id st'
    exact ⟨u, rfl, go_of (s := { s with heap := h' }) e c d (by decide) ⟨x, H, I1, ru, ⟨rfl, fun ys hy => by rw [I.tuple_inj hy hq]; exact hx⟩, st', fun b hb => (hf b hb).1⟩⟩
  done := by
    intro X hP hw hK hc i pins s σ H E I hf st hg
    subst hP hw hK
    obtain ⟨xs, hq, hx⟩ := hg
    obtain ⟨its, rv, p, hz⟩ := I.tuple hq
    obtain ⟨f0, f1, f2, f3, f4, f5⟩ := hf it (by simp)
    have hl := rv.length
    exact wpAny_pyNext_tuple_end (I.ok.hd hc) st (show s.heap.IsTuple a its.toArray from p) (by simp; omega) fun h' eb => ⟨rfl, I.turned (t' := s.toks) (fun b o hb e => eb b o hb e) f0 f1 f3 f4 f5⟩
  self := fun _ _ _ _ _ st h => wpAny_pyIter_tupleiter st h
theorem turn_range {P : Program} {w : World} {K : PySem.W.Frag} {tg : Expr} (it : Addr) (lo : Int) (n : Nat) : Turn P w K tg (Itr lo n) [it] it (fun i h => IsRangeIter h it (lo + (i : Nat) * 1) ((n : Int) - (i : Nat)) 1) where
  mem := by simp
  obj := fun i h st b hb => by
    have e : b = it := by simpa using hb
    subst e
    exact ⟨_, st, fun v z => by
      have z' : Data.fields _ = Data.cell v := z
      cases z'⟩
  keep := fun i h h' st k => k it (by simp) _ st
  item := by
    intro X hP hw hK hc i pins s σ H E I hf st hg
    subst hP hw hK
    obtain ⟨f0, f1, f2, f3, f4, f5⟩ := hf it (by simp)
    have W := Walks.range (prog := X.prog) (w := X.w) (I.ok.hd hc) it lo 1 n
    refine W.item i s _ _ hg st fun v h' tk hv st' kk => ?_
    obtain ⟨t, rfl⟩ := hv
    have I1 : Inv X pins σ H { s with heap := h', toks := tk } := I.turned (fun b o hb e => kk b o (by simpa using hb) e) f0 f1 f3 f4 f5
    refine ⟨_, rfl, go_of (s := { s with heap := h', toks := tk }) (n := "range_iterator") st' rfl rfl (by decide) ⟨.int (lo + i), H, I1, ⟨t, ?_⟩, ⟨rfl, rfl⟩, st', fun b hb => (hf b hb).1⟩⟩
    rw [Int.mul_one]
  done := by
    intro X hP hw hK hc i pins s σ H E I hf st hg
    subst hP hw hK
    obtain ⟨f0, f1, f2, f3, f4, f5⟩ := hf it (by simp)
    exact wpAny_pyNext_range_end (I.ok.hd hc) st (by have : n ≤ i := hg; omega) fun h' eb => ⟨rfl, I.turned (t' := s.toks) (fun b o hb e => eb b o hb e) f0 f1 f3 f4 f5⟩
  self := fun _ _ _ _ _ st h => wpAny_pyIter_rangeiter st h
end L2

namespace L2
open PySem PySem.Spec PyProof.Rows
section
variable {X : Cx} {tg : Expr}
def iList (K : PySem.W.Frag) (tl : TE) : TI := fun σ H R => tl σ H fun x H1 => ∃ a, x = .ref a ∧ (∃ xs, SqL K H1 a xs) ∧ R (Itl K a) H1
def iTup (K : PySem.W.Frag) (tl : TE) : TI := fun σ H R => tl σ H fun x H1 => ∃ a, x = .ref a ∧ (∃ xs, SqT K H1 a xs) ∧ R (Itt K a) H1
theorem pi_list {l : Expr} {tl : TE} (hl : PE X l tl) : PI X tg l (iList X.K tl) := by
  intro pins s σ H R I h
  refine thn (hl pins s σ H _ I h) fun v s1 ⟨x, H1, I1, r1, q1⟩ => ?_
  obtain ⟨a, e, ⟨xs, hq⟩, q⟩ := q1
  subst e
  cases r1
  obtain ⟨its, rv, p, hz⟩ := I1.list hq
  refine wpAny_pyIter_list p.isList ?_
  refine ⟨s1.heap.objs.size, [s1.heap.objs.size], _, _, H1, rfl, I1.kept (t' := s1.toks) fun b o e => Heap.get?_push_of_some _ e, turn_list a _, ⟨_, Heap.get?_push_size _ rfl, rfl, rfl⟩, fun b hb => ?_, q⟩
  have e : b = s1.heap.objs.size := by simpa using hb
  subst e
  exact I1.fpOk (Nat.le_refl _) (I1.hok.fresh (Nat.le_refl _))
theorem pi_tup {l : Expr} {tl : TE} (hl : PE X l tl) : PI X tg l (iTup X.K tl) := by
  intro pins s σ H R I h
  refine thn (hl pins s σ H _ I h) fun v s1 ⟨x, H1, I1, r1, q1⟩ => ?_
  obtain ⟨a, e, ⟨xs, hq⟩, q⟩ := q1
  subst e
  cases r1
  obtain ⟨its, rv, p, hz⟩ := I1.tuple hq
  refine wpAny_pyIter_tuple (show s1.heap.IsTuple a its.toArray from p) ?_
  refine ⟨s1.heap.objs.size, [s1.heap.objs.size], _, _, H1, rfl, I1.kept (t' := s1.toks) fun b o e => Heap.get?_push_of_some _ e, turn_tuple a _, ⟨_, Heap.get?_push_size _ rfl, rfl, rfl⟩, fun b hb => ?_, q⟩
  have e : b = s1.heap.objs.size := by simpa using hb
  subst e
  exact I1.fpOk (Nat.le_refl _) (I1.hok.fresh (Nat.le_refl _))
/-- a range object just made, walked -/
theorem range_it {pins : List (Addr × Obj)} {σ : St} {H : Hp} {s : Shared} {R : It → Hp → Prop} {E : Value → Shared → Prop} {lo hi : Int} {t u v : Tok} {tk : Nat} (I : Inv X pins σ H s) (h1 : -(2 ^ 62) ≤ lo) (h2 : lo < 2 ^ 62) (h3 : -(2 ^ 62) ≤ hi) (h4 : hi < 2 ^ 62)
    (q : R (Itr lo (hi - lo).toNat) H) : wpAny (model X.prog X.w) X.A (pyIter (.ref s.heap.objs.size)) (PIE X pins σ tg R) E { s with heap := s.heap.push { cls := .type "range", data := .fields #[.int lo t, .int hi u, .int 1 v] }, toks := tk } := by
  refine wpAny_pyIter_range (IsRange.new ..) (small_one h1 h2 h3 h4) ?_
  have I1 : Inv X pins σ H { s with heap := s.heap.push { cls := .type "range", data := .fields #[.int lo t, .int hi u, .int 1 v] }, toks := tk } := I.kept fun b o e => Heap.get?_push_of_some _ e
  refine ⟨(s.heap.push { cls := .type "range", data := .fields #[.int lo t, .int hi u, .int 1 v] }).objs.size, [(s.heap.push { cls := .type "range", data := .fields #[.int lo t, .int hi u, .int 1 v] }).objs.size], _, _, H, rfl,
    I1.kept (t' := tk) fun b o e => Heap.get?_push_of_some _ e, turn_range _ lo (hi - lo).toNat, ?_, fun b hb => ?_, q⟩
  · have e1 : lo + ((0 : Nat) : Int) * 1 = lo := by simp
    have e2 : (((hi - lo).toNat : Nat) : Int) - ((0 : Nat) : Int) = Builtin.Range.rangeSize lo hi 1 := by rw [rangeSize_one]; split <;> omega
    show IsRangeIter _ _ (lo + ((0 : Nat) : Int) * 1) ((((hi - lo).toNat : Nat) : Int) - ((0 : Nat) : Int)) 1
    rw [e1, e2]
    exact Heap.get?_push_size _ rfl
  · have e : b = (s.heap.push { cls := .type "range", data := .fields #[.int lo t, .int hi u, .int 1 v] }).objs.size := by simpa using hb
    subst e
    exact I1.fpOk (Nat.le_refl _) (I1.hok.fresh (Nat.le_refl _))
def iRng1 (ta : TA) : TI := fun σ H R => ta σ H fun vs H1 => ∃ j : Int, vs = [.int j] ∧ -(2 ^ 62) ≤ j ∧ j < 2 ^ 62 ∧ R (Itr 0 j.toNat) H1
def iRng2 (ta : TA) : TI := fun σ H R => ta σ H fun vs H1 => ∃ i j : Int, vs = [.int i, .int j] ∧ (-(2 ^ 62) ≤ i ∧ i < 2 ^ 62 ∧ -(2 ^ 62) ≤ j ∧ j < 2 ^ 62) ∧ R (Itr i (j - i).toNat) H1
theorem pi_range1 {a : Expr} {ta : TA} {p pos : Pos} (hg : Gl X "range") (hm : X.mg "range" = none) (ha : PA X [a] ta) (hs : starEach [a] X.env = [(false, eval a X.env)] := by rfl) : PI X tg (.Call (.Name "range" p) [a] [] pos) (iRng1 ta) := by
  intro pins s σ H R I h
  refine Call_ (ld_blt I hg hm boot_range (PyProof.Rows.callWith_type1 (thn (ha pos pins s σ H _ I h) fun us s1 ⟨vs, H1, I1, r1, q1⟩ => ?_) hs rfl))
  obtain ⟨j, e, q1, q2, q⟩ := q1
  subst e
  cases r1 with
  | cons r rr =>
    cases rr
    obtain ⟨t, rfl⟩ := r
    exact call_range_1 (range_it I1 (by omega) (by omega) q1 q2 (by simpa using q))
theorem pi_range2 {a b : Expr} {ta : TA} {p pos : Pos} (hg : Gl X "range") (hm : X.mg "range" = none) (ha : PA X [a, b] ta) (hs : starEach [a, b] X.env = [(false, eval a X.env), (false, eval b X.env)] := by rfl) (hs2 : starEach [b] X.env = [(false, eval b X.env)] := by rfl) :
    PI X tg (.Call (.Name "range" p) [a, b] [] pos) (iRng2 ta) := by
  intro pins s σ H R I h
  refine Call_ (ld_blt I hg hm boot_range (PyProof.Rows.callWith_type1 (thn (ha pos pins s σ H _ I h) fun us s1 ⟨vs, H1, I1, r1, q1⟩ => ?_) (by rw [hs, hs2]) (by rw [hs2]; rfl)))
  obtain ⟨i, j, e, ⟨q1, q2, q3, q4⟩, q⟩ := q1
  subst e
  cases r1 with
  | cons r rr =>
    cases rr with
    | cons r' rr =>
      cases rr
      obtain ⟨t, rfl⟩ := r
      obtain ⟨t', rfl⟩ := r'
      exact call_range_2 (range_it I1 q1 q2 q3 q4 q)

/-! ### for -/
/-- W: the invariant by the turn and a measure; N: what the body is to reach -/
def tFor (wi : TI) (g : TG) (tb : TS) : TS := fun D σ H => wi σ H fun J H1 => ∃ W : Nat → Nat → St → Hp → Prop, (∃ m, W 0 m σ H1) ∧ ∀ i m σ H, W i m σ H →
  (J.stop i H ∧ D.nx σ H) ∨ (J.go i H ∧ ∃ N : St → Hp → Prop, (∀ σ' H', N σ' H' → ∃ m', m' < m ∧ W (i + 1) m' σ' H') ∧ ∀ x H', J.yld i H x H' → g x σ H' fun σ2 H2 => tb { D with nx := N, ct := N, bk := D.nx } σ2 H2)
/-- the records at fp as they stand -/
def pinsAt (fp : List Addr) (h : Heap) : List (Addr × Obj) := fp.filterMap fun b => (h.get? b).map fun o => (b, o)
theorem mem_pinsAt {fp : List Addr} {h : Heap} {b : Addr} {o : Obj} (hb : b ∈ fp) (e : h.get? b = some o) : (b, o) ∈ pinsAt fp h := List.mem_filterMap.mpr ⟨b, hb, by rw [e]; rfl⟩
theorem of_pinsAt {fp : List Addr} {h : Heap} {p : Addr × Obj} (hp : p ∈ pinsAt fp h) : p.1 ∈ fp ∧ h.get? p.1 = some p.2 := by
  obtain ⟨b, hb, e⟩ := List.mem_filterMap.mp hp
  cases q : h.get? b with
  | none => rw [q] at e; cases e
  | some o =>
    rw [q] at e
    have e' : (b, o) = p := Option.some.inj e
    subst e'
    exact ⟨hb, q⟩
theorem Inv.pinned {pins : List (Addr × Obj)} {σ : St} {H : Hp} {s : Shared} {fp : List Addr} (I : Inv X pins σ H s) (hf : ∀ b ∈ fp, FpOk X pins H b) (ho : ∀ b ∈ fp, ∃ o, s.heap.get? b = some o ∧ ∀ v, o.data ≠ .cell v) : Inv X (pins ++ pinsAt fp s.heap) σ H s :=
  I.pins_of fun p hp => (List.mem_append.mp hp).elim (fun z => I.pin p (List.mem_append_right _ z)) fun z => by
    obtain ⟨hb, e⟩ := of_pinsAt z
    obtain ⟨f0, f1, f2, _⟩ := hf p.1 hb
    obtain ⟨o, e', d⟩ := ho p.1 hb
    rw [e] at e'; cases e'
    exact ⟨e, f0, f1, f2, d⟩
theorem Inv.unpinned {pins pl : List (Addr × Obj)} {σ : St} {H : Hp} {s : Shared} (I : Inv X (pins ++ pl) σ H s) : Inv X pins σ H s := I.pins_of fun p hp => I.pin p (List.mem_append_right _ (List.mem_append_left _ hp))
theorem ps_for {iter : Expr} {body : List Stmt} {wi : TI} {g : TG} {tb : TS} {pos : Pos} (hp : PassesOwn (model X.prog X.w) X.A X.env X.xe) (hc : X.calm = true) (hi : PI X tg iter wi) (hg : PG X tg g) (hb : PSs X body tb)
    (hs : ∀ x, foldedSetIterable iter X.env x = pure x := by intro _; rfl) : PS X (.For tg iter body [] pos) (tFor wi g tb) := by
  intro pins s σ H D I h
  refine wpAny_For (thn (hi pins s σ H _ I h) fun v s1 h1 => thn h1 fun itv s2 h2 => ?_) hs
  obtain ⟨it, fp, tn, J, H2, e, I2, T, st2, f2, W, ⟨m0, w0⟩, turn⟩ := h2
  subst e
  -- what stays true of the iterator's objects through the loop
  have stat : ∀ {H' : Hp}, (∀ b ∈ fp, H' b = none) → ∀ b ∈ fp, FpOk X pins H' b := fun hn b hb => ⟨hn b hb, (f2 b hb).2⟩
  refine codeAny_forLoop_any (fun n s' => ∃ i σ' H', Inv X pins σ' H' s' ∧ tn i s'.heap ∧ (∀ b ∈ fp, H' b = none) ∧ W i n σ' H') ?_ m0 ⟨0, σ, H2, I2, st2, fun b hb => (f2 b hb).1, w0⟩
  rintro n s3 ⟨i, σ3, H3, I3, st3, fr3, w3⟩
  rcases turn i n σ3 H3 w3 with ⟨stop, qn⟩ | ⟨go, N, hN, step⟩
  · refine wpAny_passesOwn hp (thn (T.done X rfl rfl rfl hc i pins s3 σ3 H3 X.xe I3 (stat fr3) st3 stop) fun r s4 ⟨hr, I4⟩ => ?_)
    subst hr
    exact wpAny_execs_nil ⟨σ3, H3, I4, qn⟩
  · refine wpAny_passesOwn hp (thn (T.item X rfl rfl rfl hc i pins s3 σ3 H3 X.xe I3 (stat fr3) st3 go) fun r s4 ⟨u, hr, h4⟩ => ?_)
    subst hr
    refine wpAny_passesOwn hp (thn h4 fun _ s5 ⟨x, H5, I5, r5, y5, st5, fr5⟩ => ?_)
    have I5' := I5.pinned (stat fr5) (T.obj _ _ st5)
    refine wpAny_passesOwn hp (thn (hg _ s5 σ3 H5 x u _ I5' r5 (step x H5 y5)) fun _ s6 ⟨σ6, H6, I6, q6⟩ => ?_)
    refine wpAny_passesOwn hp (thn (hb _ s6 σ6 H6 _ I6 q6) fun f s7 q7 => ?_)
    have again : ∀ {σ7 : St} {H7 : Hp}, Inv X (pins ++ pinsAt fp s5.heap) σ7 H7 s7 → N σ7 H7 → ∃ m, m < n ∧ ∃ i σ' H', Inv X pins σ' H' s7 ∧ tn i s7.heap ∧ (∀ b ∈ fp, H' b = none) ∧ W i m σ' H' := fun {σ7 H7} I7 n7 => by
      obtain ⟨m', hm, w7⟩ := hN σ7 H7 n7
      refine ⟨m', hm, i + 1, σ7, H7, I7.unpinned, T.keep _ _ _ st5 fun b hb o e => (I7.pin (b, o) (List.mem_append_right _ (List.mem_append_right _ (mem_pinsAt hb e)))).1, fun b hb => ?_, w7⟩
      obtain ⟨o, e, d⟩ := T.obj _ _ st5 b hb
      exact (I7.pin (b, o) (List.mem_append_right _ (List.mem_append_right _ (mem_pinsAt hb e)))).2.1
    cases f with
    | next => obtain ⟨σ7, H7, I7, n7⟩ := q7; exact again I7 n7
    | cont => obtain ⟨σ7, H7, I7, n7⟩ := q7; exact again I7 n7
    | brk => obtain ⟨σ7, H7, I7, q7⟩ := q7; exact ⟨σ7, H7, I7.unpinned, q7⟩
    | ret v => obtain ⟨x7, σ7, H7, I7, r7, q7⟩ := q7; exact ⟨x7, σ7, H7, I7.unpinned, r7, q7⟩
end

/-! ### the forms one uses -/
/-- over a list that the body leaves as it is -/
theorem for_list {K : PySem.W.Frag} {a : Addr} {xs : List V} {g : TG} {tb : TS} {D : Ends} {σ : St} {H : Hp} (Pv : Nat → St → Hp → Prop) (h0 : Pv 0 σ H) (hl : ∀ i σ H, i ≤ xs.length → Pv i σ H → SqL K H a xs)
    (hs : ∀ i x σ H, xs[i]? = some x → Pv i σ H → g x σ H fun σ2 H2 => tb { D with nx := Pv (i + 1), ct := Pv (i + 1), bk := D.nx } σ2 H2) (hd : ∀ σ H, Pv xs.length σ H → D.nx σ H) :
    ∃ W : Nat → Nat → St → Hp → Prop, (∃ m, W 0 m σ H) ∧ ∀ i m σ H, W i m σ H →
      ((Itl K a).stop i H ∧ D.nx σ H) ∨ ((Itl K a).go i H ∧ ∃ N : St → Hp → Prop, (∀ σ' H', N σ' H' → ∃ m', m' < m ∧ W (i + 1) m' σ' H') ∧ ∀ x H', (Itl K a).yld i H x H' → g x σ H' fun σ2 H2 => tb { D with nx := N, ct := N, bk := D.nx } σ2 H2) := by
  refine ⟨fun i m σ H => m = xs.length - i ∧ i ≤ xs.length ∧ Pv i σ H, ⟨xs.length, by simp, Nat.zero_le _, h0⟩, ?_⟩
  rintro i m σ H ⟨rfl, hi, p⟩
  have q := hl i σ H hi p
  by_cases hlt : i < xs.length
  · refine .inr ⟨⟨xs, xs[i], q, by simp [hlt]⟩, Pv (i + 1), fun σ' H' p' => ⟨xs.length - (i + 1), by omega, rfl, hlt, p'⟩, fun x H' y => ?_⟩
    obtain ⟨e, y⟩ := y
    subst e
    exact hs i x σ _ (y xs q) p
  · have e : i = xs.length := by omega
    subst e
    exact .inl ⟨⟨xs, q, Nat.le_refl _⟩, hd σ H p⟩
theorem for_range {lo : Int} {n : Nat} {g : TG} {tb : TS} {D : Ends} {σ : St} {H : Hp} (Pv : Nat → St → Hp → Prop) (h0 : Pv 0 σ H)
    (hs : ∀ i σ H, i < n → Pv i σ H → g (.int (lo + i)) σ H fun σ2 H2 => tb { D with nx := Pv (i + 1), ct := Pv (i + 1), bk := D.nx } σ2 H2) (hd : ∀ σ H, Pv n σ H → D.nx σ H) :
    ∃ W : Nat → Nat → St → Hp → Prop, (∃ m, W 0 m σ H) ∧ ∀ i m σ H, W i m σ H →
      ((Itr lo n).stop i H ∧ D.nx σ H) ∨ ((Itr lo n).go i H ∧ ∃ N : St → Hp → Prop, (∀ σ' H', N σ' H' → ∃ m', m' < m ∧ W (i + 1) m' σ' H') ∧ ∀ x H', (Itr lo n).yld i H x H' → g x σ H' fun σ2 H2 => tb { D with nx := N, ct := N, bk := D.nx } σ2 H2) := by
  refine ⟨fun i m σ H => m = n - i ∧ i ≤ n ∧ Pv i σ H, ⟨n, by simp, Nat.zero_le _, h0⟩, ?_⟩
  rintro i m σ H ⟨rfl, hi, p⟩
  by_cases hlt : i < n
  · refine .inr ⟨hlt, Pv (i + 1), fun σ' H' p' => ⟨n - (i + 1), by omega, rfl, hlt, p'⟩, fun x H' y => ?_⟩
    obtain ⟨e, y⟩ := y
    subst e y
    exact hs i σ _ hlt p
  · have e : i = n := by omega
    subst e
    exact .inl ⟨Nat.le_refl _, hd σ H p⟩
end L2

namespace L2
open PySem PySem.Spec PyProof.Rows

abbrev R2 := V → V → Hp → VK → Prop
/-- a two-place operation on values: f is binaryOp op, inplaceOp op or compareOp op -/
def OpR (X : Cx) (f : Value → Value → Sem Value) (r : R2) : Prop :=
  ∀ (pins : List (Addr × Obj)) (s : Shared) (σ : St) (H : Hp) (x y : V) (v u : Value) (Q : VK), Inv X pins σ H s → RelV x v → RelV y u → r x y H Q →
    wpAny (model X.prog X.w) X.A (f v u) (EP X pins σ Q) X.xe s
/-- a call of a value that is known (a builtin, a type) with values -/
def CallR (X : Cx) (f : Value) (r : List V → Hp → VK → Prop) : Prop :=
  ∀ (pins : List (Addr × Obj)) (s : Shared) (σ : St) (H : Hp) (xs : List V) (us : List Value) (Q : VK), Inv X pins σ H s → Vals xs us → r xs H Q →
    wpAny (model X.prog X.w) X.A (call f us) (EP X pins σ Q) X.xe s
def tOp (r : R2) (ta tb : TE) : TE := fun σ H Q => ta σ H fun x H1 => tb σ H1 fun y H2 => r x y H2 Q
/-- ints in, under C, and a value out -/
def rI (C : Int → Int → Prop) (g : Int → Int → V) : R2 := fun x y H Q => ∃ i j, x = .int i ∧ y = .int j ∧ C i j ∧ Q (g i j) H
def rI0 (g : Int → Int → V) : R2 := fun x y H Q => ∃ i j, x = .int i ∧ y = .int j ∧ Q (g i j) H
section
variable {X : Cx} {a b c : Expr} {ta tb tc : TE} {pos : Pos}

theorem binT (ha : PE X a ta) (hb : PE X b tb) {pins : List (Addr × Obj)} {s : Shared} {σ : St} {H : Hp} {R : V → V → Hp → Prop} (I : Inv X pins σ H s)
    (h : ta σ H fun x H1 => tb σ H1 fun y H2 => R x y H2) {Q : Value → Shared → Prop} {f : Value → Value → Sem Value}
    (hf : ∀ v u s2 x y H2, Inv X pins σ H2 s2 → RelV x v → RelV y u → R x y H2 → wpAny (model X.prog X.w) X.A (f v u) Q X.xe s2) :
    wpAny (model X.prog X.w) X.A (eval a X.env) (fun v s₁ => wpAny (model X.prog X.w) X.A (eval b X.env) (fun u s₂ => wpAny (model X.prog X.w) X.A (f v u) Q X.xe s₂) X.xe s₁) X.xe s := by
  refine thn (ha pins s σ H _ I h) fun v s1 ⟨x, H1, I1, r1, q1⟩ => ?_
  refine thn (hb pins s1 σ H1 _ I1 q1) fun u s2 ⟨y, H2, I2, r2, q2⟩ => ?_
  exact hf v u s2 x y H2 I2 r1 r2 q2

theorem pe_op {op : Operator} {r : R2} (ho : OpR X (binaryOp op) r) (ha : PE X a ta) (hb : PE X b tb) : PE X (.BinOp a op b pos) (tOp r ta tb) := by
  intro pins s σ H Q I h
  exact wpAny_BinOp (binT ha hb I h fun v u s2 x y H2 I2 rx ry q => ho pins s2 σ H2 x y v u Q I2 rx ry q)
/-! ### ints -/
theorem opI {f : Value → Value → Sem Value} {C : Int → Int → Prop} {g : Int → Int → Int}
    (rule : ∀ (i j : Int) (t u : Tok) (s : Shared) (Q : Value → Shared → Prop) (E : Value → Shared → Prop), C i j → Q (.int (g i j) s.toks) { s with toks := s.toks + 1 } → wpAny (model X.prog X.w) X.A (f (.int i t) (.int j u)) Q E s) :
    OpR X f (rI C fun i j => .int (g i j)) := by
  intro pins s σ H x y v u Q I rx ry h
  obtain ⟨i, j, rfl, rfl, hc, q⟩ := h
  obtain ⟨t, rfl⟩ := rx
  obtain ⟨t', rfl⟩ := ry
  exact rule i j t t' s _ _ hc ⟨.int (g i j), H, I.tok _, ⟨_, rfl⟩, q⟩
theorem opI0 {f : Value → Value → Sem Value} {g : Int → Int → Int}
    (rule : ∀ (i j : Int) (t u : Tok) (s : Shared) (Q : Value → Shared → Prop) (E : Value → Shared → Prop), Q (.int (g i j) s.toks) { s with toks := s.toks + 1 } → wpAny (model X.prog X.w) X.A (f (.int i t) (.int j u)) Q E s) :
    OpR X f (rI0 fun i j => .int (g i j)) := by
  intro pins s σ H x y v u Q I rx ry h
  obtain ⟨i, j, rfl, rfl, q⟩ := h
  obtain ⟨t, rfl⟩ := rx
  obtain ⟨t', rfl⟩ := ry
  exact rule i j t t' s _ _ ⟨.int (g i j), H, I.tok _, ⟨_, rfl⟩, q⟩
theorem opB0 {f : Value → Value → Sem Value} {g : Int → Int → Bool}
    (rule : ∀ (i j : Int) (t u : Tok) (s : Shared) (Q : Value → Shared → Prop) (E : Value → Shared → Prop), Q (.bool (g i j)) s → wpAny (model X.prog X.w) X.A (f (.int i t) (.int j u)) Q E s) :
    OpR X f (rI0 fun i j => .bl (g i j)) := by
  intro pins s σ H x y v u Q I rx ry h
  obtain ⟨i, j, rfl, rfl, q⟩ := h
  obtain ⟨t, rfl⟩ := rx
  obtain ⟨t', rfl⟩ := ry
  exact rule i j t t' s _ _ ⟨.bl (g i j), H, I, rfl, q⟩

def CDiv (i j : Int) : Prop := 0 < j ∧ j < 1073741824
def CPow (i j : Int) : Prop := 0 ≤ j ∧ j ≤ 1000000 ∧ i.natAbs < 2 ^ 64
def CMul (i j : Int) : Prop := (-(2 ^ 64) < i ∧ i < 2 ^ 64) ∨ (-(2 ^ 64) < j ∧ j < 2 ^ 64)
theorem CMul.ok {i j : Int} (h : CMul i j) : IntMulOk i j := by
  rcases h with ⟨h1, h2⟩ | ⟨h1, h2⟩
  · exact .of_left (intBits_le_64 h1 h2)
  · exact .of_right (intBits_le_64 h1 h2)
theorem op_add : OpR X (binaryOp .Add) (rI0 fun i j => .int (i + j)) := opI0 fun _ _ _ _ _ _ _ q => add_int q
theorem op_sub : OpR X (binaryOp .Sub) (rI0 fun i j => .int (i - j)) := opI0 fun _ _ _ _ _ _ _ q => sub_int q
theorem op_mul : OpR X (binaryOp .Mult) (rI CMul fun i j => .int (i * j)) := opI fun _ _ _ _ _ _ _ hc q => mul_int q hc.ok
/-- // by a positive divisor -/
theorem op_fdiv : OpR X (binaryOp .FloorDiv) (rI CDiv fun i j => .int (i / j)) := opI fun i j _ _ _ _ _ hc q => by
  have h1 : (0 : Int) < j := hc.1
  have h2 : j < 1073741824 := hc.2
  exact floordiv_int (by omega) (by rw [Int.fdiv_eq_ediv_of_nonneg i (by omega)]; exact q) (.inl (PyProof.noPylong_small (by omega)))
/-- % by a positive divisor of any size -/
theorem op_mod : OpR X (binaryOp .Mod) (rI (fun _ j => 0 < j) fun i j => .int (i % j)) := opI fun i j _ _ _ _ _ hc q => by
  have h1 : (0 : Int) < j := hc
  exact mod_int' (by omega) (by rw [Int.fmod_eq_emod_of_nonneg i (by omega)]; exact q)
theorem op_pow : OpR X (binaryOp .Pow) (rI CPow fun i j => .int (i ^ j.toNat)) := opI fun _ _ _ _ _ _ _ hc q => pow_int_small hc.1 hc.2.1 hc.2.2 q
/-! ### bools among ints: n += (a < b) -/
end

/-! ### comparisons -/
/-- the scalars that == tells apart as data does -/
def scal : V → V → Bool
  | .non, .non => true | .non, .int _ => true | .int _, .non => true | .non, .bl _ => true | .bl _, .non => true | .non, .str _ => true | .str _, .non => true
  | .int _, .int _ => true | .bl _, .bl _ => true | .str _, .str _ => true | .byt _, .byt _ => true
  | .int _, .str _ => true | .str _, .int _ => true | .bl _, .str _ => true | .str _, .bl _ => true
  | _, _ => false
def rEq : R2 := fun x y H Q => scal x y = true ∧ Q (.bl (decide (x = y))) H
def rNe : R2 := fun x y H Q => scal x y = true ∧ Q (.bl (!decide (x = y))) H

theorem dec_int {i j : Int} : decide (V.int i = V.int j) = (i == j) := by
  rw [Bool.eq_iff_iff]
  simp
theorem dec_bl {i j : Bool} : decide (V.bl i = V.bl j) = (i == j) := by
  rw [Bool.eq_iff_iff]
  simp
theorem dec_str {i j : Str} : decide (V.str i = V.str j) = (i == j) := by
  rw [Bool.eq_iff_iff]
  simp
theorem dec_byt {i j : Array UInt8} : decide (V.byt i = V.byt j) = (i.toList == j.toList) := by
  rw [Bool.eq_iff_iff]
  cases i
  cases j
  simp

section
variable {X : Cx} {a b c : Expr} {ta tb tc : TE} {pos : Pos}
theorem fin_bl {pins : List (Addr × Obj)} {σ : St} {H : Hp} {s : Shared} {Q : VK} {k k' : Bool} (I : Inv X pins σ H s) (q : Q (.bl k) H) (e : k = k') : EP X pins σ Q (.bool k') s := by
  subst e
  exact ⟨.bl k, H, I, rfl, q⟩
theorem op_eq : OpR X (compareOp .Eq) rEq := by
  intro pins s σ H x y v u Q I rx ry h
  obtain ⟨hs, q⟩ := h
  cases x with
  | non =>
    cases rx
    cases y with
    | non => cases ry; exact PySem.EqNone.eq_none_none (fin_bl I q (by simp))
    | bl j => cases ry; exact PySem.EqNone.eq_none_bool (fin_bl I q (by simp))
    | int j => obtain ⟨t', rfl⟩ := ry; exact PySem.EqNone.eq_none_int (fin_bl I q (by simp))
    | str j => obtain ⟨t', rfl⟩ := ry; exact PySem.EqNone.eq_none_str (fin_bl I q (by simp))
    | _ => exact absurd (show false = true from hs) Bool.false_ne_true
  | bl i =>
    cases rx
    cases y with
    | non => cases ry; exact PySem.EqNone.eq_bool_none (fin_bl I q (by simp))
    | bl j => cases ry; exact eq_bool (fin_bl I q dec_bl)
    | str j => obtain ⟨t', rfl⟩ := ry; exact PySem.EqMixed.eq_bool_str (fin_bl I q (by simp))
    | _ => exact absurd (show false = true from hs) Bool.false_ne_true
  | int i =>
    obtain ⟨t, rfl⟩ := rx
    cases y with
    | non => cases ry; exact PySem.EqNone.eq_int_none (fin_bl I q (by simp))
    | int j => obtain ⟨t', rfl⟩ := ry; exact eq_int (fin_bl I q dec_int)
    | str j => obtain ⟨t', rfl⟩ := ry; exact PySem.EqMixed.eq_int_str (fin_bl I q (by simp))
    | _ => exact absurd (show false = true from hs) Bool.false_ne_true
  | str i =>
    obtain ⟨t, rfl⟩ := rx
    cases y with
    | non => cases ry; exact PySem.EqNone.eq_str_none (fin_bl I q (by simp))
    | bl j => cases ry; exact PySem.EqMixed.eq_str_bool (fin_bl I q (by simp))
    | int j => obtain ⟨t', rfl⟩ := ry; exact PySem.EqMixed.eq_str_int (fin_bl I q (by simp))
    | str j => obtain ⟨t', rfl⟩ := ry; exact eq_str (fin_bl I q dec_str)
    | _ => exact absurd (show false = true from hs) Bool.false_ne_true
  | byt i =>
    obtain ⟨t, rfl⟩ := rx
    cases y with
    | byt j => obtain ⟨t', rfl⟩ := ry; exact PySem.W.eq_bytes (fin_bl I q dec_byt)
    | _ => exact absurd (show false = true from hs) Bool.false_ne_true
  | _ => cases y <;> exact absurd (show false = true from hs) Bool.false_ne_true
theorem op_ne : OpR X (compareOp .NotEq) rNe := by
  intro pins s σ H x y v u Q I rx ry h
  obtain ⟨hs, q⟩ := h
  cases x with
  | non =>
    cases rx
    cases y with
    | non => cases ry; exact PySem.EqNone.ne_none_none (fin_bl I q (by simp))
    | bl j => cases ry; exact PySem.EqNone.ne_none_bool (fin_bl I q (by simp))
    | int j => obtain ⟨t', rfl⟩ := ry; exact PySem.EqNone.ne_none_int (fin_bl I q (by simp))
    | str j => obtain ⟨t', rfl⟩ := ry; exact PySem.EqNone.ne_none_str (fin_bl I q (by simp))
    | _ => exact absurd (show false = true from hs) Bool.false_ne_true
  | bl i =>
    cases rx
    cases y with
    | non => cases ry; exact PySem.EqNone.ne_bool_none (fin_bl I q (by simp))
    | bl j => cases ry; exact ne_bool (fin_bl I q (congrArg not dec_bl))
    | str j => obtain ⟨t', rfl⟩ := ry; exact PySem.EqMixed.ne_bool_str (fin_bl I q (by simp))
    | _ => exact absurd (show false = true from hs) Bool.false_ne_true
  | int i =>
    obtain ⟨t, rfl⟩ := rx
    cases y with
    | non => cases ry; exact PySem.EqNone.ne_int_none (fin_bl I q (by simp))
    | int j => obtain ⟨t', rfl⟩ := ry; exact ne_int (fin_bl I q (congrArg not dec_int))
    | str j => obtain ⟨t', rfl⟩ := ry; exact PySem.EqMixed.ne_int_str (fin_bl I q (by simp))
    | _ => exact absurd (show false = true from hs) Bool.false_ne_true
  | str i =>
    obtain ⟨t, rfl⟩ := rx
    cases y with
    | non => cases ry; exact PySem.EqNone.ne_str_none (fin_bl I q (by simp))
    | bl j => cases ry; exact PySem.EqMixed.ne_str_bool (fin_bl I q (by simp))
    | int j => obtain ⟨t', rfl⟩ := ry; exact PySem.EqMixed.ne_str_int (fin_bl I q (by simp))
    | str j => obtain ⟨t', rfl⟩ := ry; exact ne_str (fin_bl I q (congrArg not dec_str))
    | _ => exact absurd (show false = true from hs) Bool.false_ne_true
  | byt i =>
    obtain ⟨t, rfl⟩ := rx
    cases y with
    | byt j => obtain ⟨t', rfl⟩ := ry; exact PySem.W.ne_bytes (fin_bl I q (congrArg not dec_byt))
    | _ => exact absurd (show false = true from hs) Bool.false_ne_true
  | _ => cases y <;> exact absurd (show false = true from hs) Bool.false_ne_true

theorem op_lt : OpR X (compareOp .Lt) (rI0 fun i j => .bl (decide (i < j))) := opB0 fun _ _ _ _ _ _ _ q => lt_int q
theorem op_le : OpR X (compareOp .LtE) (rI0 fun i j => .bl (decide (i ≤ j))) := opB0 fun _ _ _ _ _ _ _ q => le_int q
theorem op_gt : OpR X (compareOp .Gt) (rI0 fun i j => .bl (decide (j < i))) := opB0 fun _ _ _ _ _ _ _ q => gt_int q
/-- is None, is not None: the right side a value none -/
theorem op_isN : OpR X (compareOp .Is) (fun x y H Q => y = .non ∧ Q (.bl (decide (x = .non))) H) := by
  intro pins s σ H x y v u Q I rx ry h
  obtain ⟨rfl, q⟩ := h
  cases ry
  refine is_none_gen (fin_bl I q ?_)
  cases x <;> first
    | (cases rx; rfl)
    | (obtain ⟨t, rfl⟩ := rx; rfl)
theorem nomark (b : Expr) {op : CmpOp} (h : op ≠ .In := by decide) (h2 : op ≠ .NotIn := by decide) : behindInMarks op b = false := by
  have e1 : (op == CmpOp.In) = false := by cases op <;> first | rfl | exact absurd rfl h
  have e2 : (op == CmpOp.NotIn) = false := by cases op <;> first | rfl | exact absurd rfl h2
  cases b <;> simp [behindInMarks, e1, e2]
/-- a comparison as a value; hm: nomark b, or (for in, not in) by with_unfolding_all rfl -/
theorem pe_cmpR {op : CmpOp} {r : R2} (ho : OpR X (compareOp op) r) (ha : PE X a ta) (hb : PE X b tb) (hm : behindInMarks op b = false) : PE X (.Compare a [op] [b] pos) (tOp r ta tb) := by
  intro pins s σ H Q I h
  exact wpAny_Compare1 (binT ha hb I h fun v u s2 x y H2 I2 rx ry q => ho pins s2 σ H2 x y v u Q I2 rx ry q) hm
/-- a reading of a value as a test -/
def tTest (t : TE) : TT := fun σ H Q => t σ H fun x H' => ∃ k, x = .bl k ∧ Q k H'
theorem pt_cmpR {op : CmpOp} {r : R2} (ho : OpR X (compareOp op) r) (ha : PE X a ta) (hb : PE X b tb) (hm : behindInMarks op b = false) : PT X (.Compare a [op] [b] pos) (tTest (tOp r ta tb)) := by
  intro pins s σ H Q I h
  refine wpAny_isTrue_Compare1 (thn (ha pins s σ H _ I h) fun v s1 ⟨x, H1, I1, r1, q1⟩ => thn (hb pins s1 σ H1 _ I1 q1) fun u s2 ⟨y, H2, I2, r2, q2⟩ =>
    thn (ho pins s2 σ H2 x y v u _ I2 r1 r2 q2) fun c s3 ⟨z, H3, I3, r3, k, e, q3⟩ => ?_) hm
  subst e
  cases r3
  exact wpAny_truthy_bool ⟨H3, I3, q3⟩
/-- a op1 b op2 c -/
def tChain (r r' : R2) (ta tb tc : TE) : TE := fun σ H Q => ta σ H fun x H1 => tb σ H1 fun y H2 => r x y H2 fun z H3 => ∃ k, z = .bl k ∧
  (if k = true then tc σ H3 fun w' H4 => r' y w' H4 Q else Q (.bl false) H3)
theorem pe_chain {op op' : CmpOp} {r r' : R2} (ho : OpR X (compareOp op) r) (ho' : OpR X (compareOp op') r') (ha : PE X a ta) (hb : PE X b tb) (hc : PE X c tc)
    (hm : lastMarks [op, op'] [b, c] = false := by with_unfolding_all rfl) : PE X (.Compare a [op, op'] [b, c] pos) (tChain r r' ta tb tc) := by
  intro pins s σ H Q I h
  refine Compare_chain (thn (ha pins s σ H _ I h) fun v s1 ⟨x, H1, I1, r1, q1⟩ => chain_link (thn (hb pins s1 σ H1 _ I1 q1) fun u s2 ⟨y, H2, I2, r2, q2⟩ =>
    thn (ho pins s2 σ H2 x y v u _ I2 r1 r2 q2) fun d s3 ⟨z, H3, I3, r3, k, e, q3⟩ => ?_)) hm
  subst e
  cases r3
  refine wpAny_truthy_bool ?_
  cases k with
  | false => exact ite_ff ⟨.bl false, H3, I3, rfl, q3⟩
  | true => exact ite_tt (chain_last (thn (hc pins s3 σ H3 _ I3 q3) fun w' s4 ⟨z', H4, I4, r4, q4⟩ => ho' pins s4 σ H4 y z' u w' Q I4 r2 r4 q4))
/-! ### truth -/
theorem line63 : (sizeLine : Nat) < 2 ^ 63 := by rw [sizeLine_eq]; decide
/-! ### strs and bytes -/
theorem op_add_str : OpR X (binaryOp .Add) (fun x y H Q => ∃ i j, x = .str i ∧ y = .str j ∧ i.length + j.length ≤ sizeLine ∧ Q (.str (i ++ j)) H) := by
  intro pins s σ H x y v u Q I rx ry h
  obtain ⟨i, j, rfl, rfl, hz, q⟩ := h
  obtain ⟨t, rfl⟩ := rx
  obtain ⟨t', rfl⟩ := ry
  exact add_str (fun t' tk => ⟨.str (i ++ j), H, I.tok _, ⟨_, rfl⟩, q⟩) hz
/-! ### scalar builtins, by CallR -/
theorem vals1 {x : V} {us : List Value} (r : Vals [x] us) : ∃ u, us = [u] ∧ RelV x u := by
  cases r with
  | cons r1 r2 => cases r2; exact ⟨_, rfl, r1⟩
theorem vals2 {x y : V} {us : List Value} (r : Vals [x, y] us) : ∃ u w', us = [u, w'] ∧ RelV x u ∧ RelV y w' := by
  cases r with
  | cons r1 r2 =>
    cases r2 with
    | cons r3 r4 => cases r4; exact ⟨_, _, rfl, r1, r3⟩
theorem call_min2 (hc : X.calm = true) : CallR X (.builtin "min") (fun xs H Q => ∃ i j, xs = [.int i, .int j] ∧ Q (.int (if j < i then j else i)) H) := by
  intro pins s σ H xs us Q I r h
  obtain ⟨i, j, rfl, q⟩ := h
  obtain ⟨u, w', rfl, ⟨t, rfl⟩, ⟨t', rfl⟩⟩ := vals2 r
  refine min_two_ints (I.ok.hd hc) fun h' tk k => ⟨_, H, I.kept k, ?_, q⟩
  by_cases hj : j < i
  · rw [if_pos hj, if_pos hj]; exact ⟨_, rfl⟩
  · rw [if_neg hj, if_neg hj]; exact ⟨_, rfl⟩
end
end L2

namespace L2
open PySem PySem.Spec PyProof.Rows

/-! ### an instance, its attributes a map -/
structure ObjM (h : Heap) (x dx C : Addr) (mA : Str → Option Value) : Prop where
  obj : h.get? x = some (PySem.W.instObj C dx)
  ns : h.Ns1 dx mA
  ne : dx ≠ x

theorem lookIn_ns {h : Heap} {dx : Addr} {mA : Str → Option Value} (n : h.Ns1 dx mA) : ∃ od, h.get? dx = some od ∧ ∀ name, PySem.W.lookIn name od = some (mA name) := by
  obtain ⟨o, es, ep, ho, hd, hk, _, hm⟩ := n
  refine ⟨o, ho, fun name => ?_⟩
  have e := hm name
  unfold nsFind findBy at e
  rw [← Array.find?_toList] at e
  unfold PySem.W.lookIn
  rw [hd]
  dsimp only
  split
  · rename_i y q
    rw [q] at e
    exact congrArg some e
  · rename_i q
    rw [q] at e
    have a : es.toList.any (·.refKey) = false := by
      rw [List.any_eq_false]
      intro y hy
      obtain ⟨z, t, hkey⟩ := hk y (Array.mem_toList_iff.mp hy)
      simp [DictEntry.refKey, hkey]
    have a' : ¬ es.toList.any (·.refKey) = true := by rw [a]; exact Bool.false_ne_true
    rw [if_neg a']
    exact congrArg some e

theorem ObjM.look {h : Heap} {x dx C : Addr} {mA : Str → Option Value} (I : ObjM h x dx C mA) : ∃ od, PySem.W.InstAt h x (PySem.W.instObj C dx) C (some od) ∧ ∀ name, PySem.W.lookIn name od = some (mA name) :=
  let ⟨od, ho, hl⟩ := lookIn_ns I.ns
  ⟨od, ⟨I.obj, rfl, rfl, ho⟩, hl⟩

section
variable {prog : Program} {w : World} {A : Around} {E : Value → Shared → Prop} {s : Shared} {K : PySem.W.Frag} {x dx C f : Addr} {mA : Str → Option Value} {name : Str} {v : Value}

theorem get_map {expr : Bool} {Q : Value → Shared → Prop} (X : K.In s.heap) (I : ObjM s.heap x dx C mA) (hg : PySem.W.plainGet K C name = true) (hh : PySem.W.hasDictIn K C = true)
    (ha : PySem.W.findIn K (.ref C) name = some none) (hv : mA name = some v) (hv' : PySem.W.handedIn v = true) (h : Q v { s with toks := s.toks + 1 }) :
    wpAny (model prog w) A (getAttr (.ref x) name expr) Q E s := by
  obtain ⟨od, J, hl⟩ := I.look
  exact PySem.W.get_value X J (PySem.W.plainGet_of hg).1 (PySem.W.findObj_own hh ha rfl (by rw [hl, hv])) hv' h

theorem set_map {ns : List Str} {Q : Unit → Shared → Prop} (X : K.In s.heap) (I : ObjM s.heap x dx C mA)
    (hs : PySem.W.findIn K (.ref C) "__setattr__" = some (some (.builtin "object.__setattr__"))) (hp : PySem.W.plainOver K C = true) (ht : PySem.W.takerIn K C name = some none) (hh : PySem.W.hasDictIn K C = true)
    (hw : PySem.Within mA ns) (hsz : ns.length ≤ sizeLine)
    (h : ∀ h', ObjM h' x dx C (fun y => if y = name then some v else mA y) → Heap.SameBut dx s.heap h' → Q () { s with heap := h', toks := s.toks + 2 }) :
    wpAny (model prog w) A (setAttr (.ref x) name v) Q E s := by
  obtain ⟨od, J, hl⟩ := I.look
  refine PySem.W.set_plain X J hs (PySem.W.osa_open (s := { s with toks := s.toks + 1 }) (r := none) X J hp ht fun b => ?_)
  obtain ⟨cd, hc, hd'⟩ := PySem.W.any_some hh
  have hx : s.heap.get? x = some ⟨.ref C, some dx, .plain, #[]⟩ := I.obj
  refine wpAny_bind (wpAny_pure (wpAny_bind (wpAny_bind (wpAny_loadPart hx (wpAny_bind (PySem.W.Looks.here (s := { s with toks := s.toks + 1 }) (PySem.W.looks_clsIn X hc) ?_))))))
  rw [hd']
  refine wpAny_pure (a := some dx) (wpAny_bind (wpAny_pure (wpAny_bind ?_)))
  refine wpAny_nsSet1 (s := { s with toks := s.toks + 1 }) I.ns fun h' hn2 hs2 => ?_
  obtain ⟨oD, esD, epD, hoD, hdD, hcD⟩ := hn2.count (PySem.Within.cons name v hw)
  refine wpAny_bind (wpAny_lookBehind hoD (by rw [hdD]; exact pastItsLine_dict (Nat.le_trans hcD (by rw [List.length_cons]; omega))) ?_)
  exact wpAny_pure (h _ ⟨(hs2.2 _ (Ne.symm I.ne)).trans I.obj, hn2, I.ne⟩ hs2)

/-- C(..): the dict at the heap's end, the instance behind it; then its __init__ -/
theorem make_map {R : Result → Shared → Prop} {vs : List Value} {kw : List (Str × Value)} (X : K.In s.heap) (hm : PySem.W.makesIn K C = true)
    (hi : PySem.W.findIn K (.ref C) "__init__" = some (some (.ref f))) (hf : PySem.W.typeIn K (.ref f) = some (.type "function"))
    (h : codeAny (model prog w) (A.under (.builtin "type.__call__" ⟨.ref C :: vs, kw⟩)) (.call (.ref f) ⟨.ref (s.heap.objs.size + 1) :: vs, kw⟩) (PySem.W.InitBack (s.heap.objs.size + 1) R)
      { s with heap := (s.heap.push PySem.W.emptyDict).push (PySem.W.instObj C s.heap.objs.size) }) :
    codeAny (model prog w) A (.call (.ref C) ⟨vs, kw⟩) R s := by
  obtain ⟨hh, g, d, t, os⟩ := s
  exact PySem.W.make_core (PySem.W.makes_of X hm) (PySem.W.looks_findIn X hi) (fun self => PySem.W.bind_fn X self hf) (.inl rfl) h
end

/-! ### the attributes as a list of pairs -/
def putF (f : Str) (v : V) : List (Str × V) → List (Str × V)
  | [] => [(f, v)]
  | (g, x) :: r => if g = f then (g, v) :: r else (g, x) :: putF f v r
theorem lookup_putF (f g : Str) (v : V) : ∀ fs : List (Str × V), (putF f v fs).lookup g = if g = f then some v else fs.lookup g
  | [] => by
    show List.lookup g [(f, v)] = _
    by_cases h : g = f
    · have hb : (g == f) = true := beq_iff_eq.mpr h
      simp only [List.lookup, hb, if_pos h]
    · have hb : (g == f) = false := beq_eq_false_iff_ne.mpr h
      simp only [List.lookup, hb, if_neg h]
  | (k, x) :: r => by
    have ih := lookup_putF f g v r
    rw [show putF f v ((k, x) :: r) = (if k = f then (k, v) :: r else (k, x) :: putF f v r) from rfl]
    by_cases hk : k = f
    · rw [if_pos hk]
      by_cases h : g = k
      · have hb : (g == k) = true := beq_iff_eq.mpr h
        simp only [List.lookup, hb, if_pos (h.trans hk)]
      · have hb : (g == k) = false := beq_eq_false_iff_ne.mpr h
        simp only [List.lookup, hb, if_neg (fun e : g = f => h (e.trans hk.symm))]
    · rw [if_neg hk]
      by_cases h : g = k
      · have hb : (g == k) = true := beq_iff_eq.mpr h
        simp only [List.lookup, hb, if_neg (fun e : g = f => hk (h.symm.trans e))]
      · have hb : (g == k) = false := beq_eq_false_iff_ne.mpr h
        simp only [List.lookup, hb]
        exact ih
theorem keys_putF (f : Str) (v : V) : ∀ fs : List (Str × V), f ∈ (putF f v fs).map (·.1) ∧ ∀ g, g ∈ fs.map (·.1) → g ∈ (putF f v fs).map (·.1)
  | [] => ⟨by simp [putF], fun g h => by simp at h⟩
  | (k, x) :: r => by
    obtain ⟨i1, i2⟩ := keys_putF f v r
    rw [show putF f v ((k, x) :: r) = (if k = f then (k, v) :: r else (k, x) :: putF f v r) from rfl]
    by_cases hk : k = f
    · rw [if_pos hk]
      subst hk
      exact ⟨by simp, fun g h => by simpa using h⟩
    · rw [if_neg hk]
      refine ⟨?_, fun g h => ?_⟩
      · rw [List.map_cons]
        exact List.mem_cons_of_mem _ i1
      · rw [List.map_cons] at h ⊢
        rcases List.mem_cons.mp h with e | e
        · exact List.mem_cons.mpr (.inl e)
        · exact List.mem_cons_of_mem _ (i2 g e)
theorem length_putF (f : Str) (v : V) : ∀ fs : List (Str × V), (putF f v fs).length ≤ fs.length + 1
  | [] => by simp [putF]
  | (k, x) :: r => by
    have ih := length_putF f v r
    rw [show putF f v ((k, x) :: r) = (if k = f then (k, v) :: r else (k, x) :: putF f v r) from rfl]
    by_cases hk : k = f
    · rw [if_pos hk, List.length_cons, List.length_cons]; omega
    · rw [if_neg hk, List.length_cons, List.length_cons]; omega

theorem RelO.some_of {v : V} {o : Option Value} (r : RelO (some v) o) : ∃ u, o = some u ∧ RelV v u := by
  cases o with
  | none => exact (show False from r).elim
  | some u => exact ⟨u, rfl, r⟩
theorem handed_of {v : V} {u : Value} (r : RelV v u) : PySem.W.handedIn u = true := by
  cases v with
  | non => cases (show u = Value.none from r); rfl
  | bl b => cases (show u = Value.bool b from r); rfl
  | int i => obtain ⟨t, e⟩ := (show ∃ t, u = Value.int i t from r); cases e; rfl
  | str x => obtain ⟨t, e⟩ := (show ∃ t, u = Value.str x t from r); cases e; rfl
  | byt b => obtain ⟨t, e⟩ := (show ∃ t, u = Value.bytes b t from r); cases e; rfl
  | flt b => obtain ⟨t, e⟩ := (show ∃ t, u = Value.float b t from r); cases e; rfl
  | ref a => cases (show u = Value.ref a from r); rfl
  | ty n => cases (show u = Value.type n from r); rfl

section
variable {P : Program} {w : World} {H H' : Hp} {h h' : Heap} {a C dx : Addr} {fs fs' : List (Str × V)}
theorem ins_get (hok : HOk P w H h) (e : H a = some (.ins C dx fs)) : ∃ mA, ObjM h a dx C mA ∧ (∀ f, RelO (fs.lookup f) (mA f)) ∧ PySem.Within mA (fs.map (·.1)) ∧ fs.length ≤ 1000 ∧ H dx = some (.own a) := by
  obtain ⟨d, z, ne, ob, mA, n, r, q⟩ := (show ObjOk P w H h a (.ins C dx fs) from hok a _ e)
  exact ⟨mA, ⟨ob, n, ne⟩, r, q, z, d⟩
end

/-! ### what of the text a class must have -/
structure Cls (K : PySem.W.Frag) (C : Addr) : Prop where
  pg : PySem.W.plainGet K C Str.empty = true
  hd : PySem.W.hasDictIn K C = true
  po : PySem.W.plainOver K C = true
  sa : PySem.W.findIn K (.ref C) "__setattr__" = some (some (.builtin "object.__setattr__"))
theorem Cls.get {K : PySem.W.Frag} {C : Addr} (c : Cls K C) (f : Str) : PySem.W.plainGet K C f = true := c.pg
/-- no class of it has the name -/
def NoAttr (K : PySem.W.Frag) (C : Addr) (f : Str) : Prop := PySem.W.findIn K (.ref C) f = some none
theorem NoAttr.taker {K : PySem.W.Frag} {C : Addr} {f : Str} (n : NoAttr K C f) : PySem.W.takerIn K C f = some none := by
  unfold PySem.W.takerIn
  rw [show PySem.W.findIn K (.ref C) f = some none from n]
  rfl
section
variable {X : Cx} {pins : List (Addr × Obj)} {σ : St} {H : Hp} {s : Shared} {a C dx : Addr} {fs : List (Str × V)} {f : Str} {v : V} {A : Around} {E : Value → Shared → Prop}

theorem getattr_ok {b : Bool} {Q : Value → Shared → Prop} (I : Inv X pins σ H s) (e : H a = some (.ins C dx fs)) (c : Cls X.K C) (n : NoAttr X.K C f) (l : fs.lookup f = some v)
    (h : ∀ u s', Inv X pins σ H s' → RelV v u → Q u s') : wpAny (model X.prog X.w) A (getAttr (.ref a) f b) Q E s := by
  obtain ⟨mA, O, r, _, _, _⟩ := ins_get I.hok e
  obtain ⟨u, hu, ru⟩ := RelO.some_of (v := v) (o := mA f) (by rw [← l]; exact r f)
  exact get_map I.kIn O (c.get f) c.hd n hu (handed_of ru) (h u _ (I.tok _) ru)

theorem setattr_ok {y : V} {u : Value} {Q : Unit → Shared → Prop} (I : Inv X pins σ H s) (e : H a = some (.ins C dx fs)) (c : Cls X.K C) (n : NoAttr X.K C f) (hl : fs.length < 1000) (ry : RelV y u)
    (h : ∀ s', Inv X pins σ (upd H a (.ins C dx (putF f y fs))) s' → Q () s') : wpAny (model X.prog X.w) A (setAttr (.ref a) f u) Q E s := by
  obtain ⟨mA, O, r, wi, _, ho⟩ := ins_get I.hok e
  have hz : (fs.map (·.1)).length ≤ sizeLine := by rw [List.length_map, sizeLine_eq]; omega
  refine set_map I.kIn O c.sa c.po n.taker c.hd wi hz fun h' O' sb => h _ ?_
  have hd : ∃ o, h'.get? dx = some o := let ⟨o, _, _, e', _⟩ := O'.ns; ⟨o, e'⟩
  refine I.write (x := a) (e := dx) (by rw [e]; exact True.intro) (.inr ho) (fun b q hb z => (sb.2 b hb).trans z) hd ?_
  refine ⟨by rw [upd_ne O.ne]; exact ho, ?_, O.ne, O'.obj, _, O'.ns, fun g => ?_, fun g hg => ?_⟩
  · have := length_putF f y fs; omega
  · show RelO ((putF f y fs).lookup g) (if g = f then some u else mA g)
    rw [lookup_putF]
    by_cases q : g = f
    · rw [if_pos q, if_pos q]; exact ry
    · rw [if_neg q, if_neg q]; exact r g
  · by_cases q : g = f
    · rw [q]; exact (keys_putF f y fs).1
    · refine (keys_putF f y fs).2 g (wi g fun z => hg ?_)
      show (if g = f then some u else mA g) = none
      rw [if_neg q]; exact z

/-- a new instance, tracked, without attributes -/
theorem Inv.made (I : Inv X pins σ H s) : Inv X pins σ (upd (upd H s.heap.objs.size (.own (s.heap.objs.size + 1))) (s.heap.objs.size + 1) (.ins C s.heap.objs.size []))
    { s with heap := (s.heap.push PySem.W.emptyDict).push (PySem.W.instObj C s.heap.objs.size) } := by
  have e1 : (s.heap.push PySem.W.emptyDict).get? s.heap.objs.size = some PySem.W.emptyDict := Heap.get?_push_size s.heap rfl
  have e2 : ((s.heap.push PySem.W.emptyDict).push (PySem.W.instObj C s.heap.objs.size)).get? (s.heap.objs.size + 1) = some (PySem.W.instObj C s.heap.objs.size) := by
    have := Heap.get?_push_size (s.heap.push PySem.W.emptyDict) (o := PySem.W.instObj C s.heap.objs.size) rfl
    rwa [Heap.size_push] at this
  have e3 : (s.heap.push PySem.W.emptyDict).Ns s.heap.objs.size (fun _ => none) := ⟨PySem.W.emptyDict, #[], _, e1, rfl, (fun e he => absurd he (by simp)), fun _ => rfl⟩
  have I1 := I.laid (a := s.heap.objs.size) (o := .own (s.heap.objs.size + 1)) (h' := s.heap.push PySem.W.emptyDict) (t' := s.toks) (fun b u q => Heap.get?_push_of_some _ q) (Nat.le_refl _) ⟨_, e1⟩
  refine I1.laid (a := s.heap.objs.size + 1) (o := .ins C s.heap.objs.size []) (t' := s.toks) (fun b u q => Heap.get?_push_of_some _ q) (Nat.le_of_eq (Heap.size_push _ _)) ?_
  have ne : s.heap.objs.size ≠ s.heap.objs.size + 1 := Nat.ne_of_lt (Nat.lt_succ_self _)
  refine ⟨by rw [upd_ne ne, upd_same], Nat.zero_le _, ne, e2, fun _ => none, (Heap.Ns1.of_empty e3).at fun o q => Heap.get?_push_of_some _ q, fun _ => True.intro, fun y hy => absurd rfl hy⟩

/-- e.f where nothing but the object is asked: through attributeBase (super) and the last hold -/
theorem attr_of {prog : Program} {w : World} {env : Env} {e : Expr} {f : Str} {pos : Pos} {s : Shared} {Q : Value → Shared → Prop} (hb : attributeBase e f env (eval e env) = eval e env)
    (h : wpAny (model prog w) A (eval e env) (fun o s₁ => wpAny (model prog w) A (getAttr o f true) Q E s₁) E s) : wpAny (model prog w) A (eval (.Attribute e f pos) env) Q E s :=
  Attribute_any_ h (by rw [arm_eval_Attribute, hb])
end

/-! ### readings and rules -/
/-- e.f, an attribute of the instance -/
def tFld (K : PySem.W.Frag) (ta : TE) (f : Str) : TE := fun σ H Q => ta σ H fun x H1 => ∃ a C dx fs v, x = .ref a ∧ H1 a = some (.ins C dx fs) ∧ Cls K C ∧ NoAttr K C f ∧ fs.lookup f = some v ∧ Q v H1
/-- e.f = value -/
def sFld (K : PySem.W.Frag) (ta tv : TE) (f : Str) : TS := fun D σ H => tv σ H fun y H1 => ta σ H1 fun x H2 => ∃ a C dx fs, x = .ref a ∧ H2 a = some (.ins C dx fs) ∧ Cls K C ∧ NoAttr K C f ∧ fs.length < 1000 ∧
  D.nx σ (upd H2 a (.ins C dx (putF f y fs)))
section
variable {X : Cx} {o e value : Expr} {f : Str} {pos pos' tpos : Pos} {ta tv : TE}
theorem pe_fld (he : PE X e ta) (hb : attributeBase e f X.env (eval e X.env) = eval e X.env) : PE X (.Attribute e f pos) (tFld X.K ta f) := by
  intro pins s σ H Q I h
  refine attr_of hb (thn (he pins s σ H _ I h) fun u s1 ⟨x, H1, I1, rx, a, C, dx, fs, v, ex, ea, c, n, l, q⟩ => ?_)
  subst ex
  obtain rfl : u = Value.ref a := rx
  exact getattr_ok I1 ea c n l fun u' s2 I2 ru => ⟨v, H1, I2, ru, q⟩
theorem ps_fld (ha : PE X o ta) (hv : PE X value tv) (hs : swapsWith value (some (.Attribute o f pos')) pos.line X.env = pure false) : PS X (.Assign [.Attribute o f pos'] value pos) (sFld X.K ta tv f) := by
  intro pins s σ H D I h
  refine plainObj_wpAny_Assign_Attribute (thn (hv pins s σ H _ I h) fun u s1 ⟨y, H1, I1, ry, q⟩ => thn (ha pins s1 σ H1 _ I1 q) fun ov s2 ⟨x, H2, I2, rx, a, C, dx, fs, ex, ea, c, n, l, q2⟩ => ?_) hs
  subst ex
  obtain rfl : ov = Value.ref a := rx
  exact setattr_ok I2 ea c n l ry fun s3 I3 => ⟨σ, _, I3, q2⟩
end

/-! ### isinstance -/
section
variable {X : Cx} {pins : List (Addr × Obj)} {σ : St} {H : Hp} {s : Shared} {A : Around} {E : Value → Shared → Prop} {Q : Value → Shared → Prop} {c : Value} {b : Bool}
/-- the type of a value, as the fragment's deciders take it; for an instance its class -/
inductive TyOf (K : PySem.W.Frag) (H : Hp) : V → Value → Prop where
  | non : TyOf K H .non (.type "NoneType")
  | bl (x : Bool) : TyOf K H (.bl x) (.type "bool")
  | int (i : Int) : TyOf K H (.int i) (.type "int")
  | str (x : Str) : TyOf K H (.str x) (.type "str")
  | flt (x : UInt64) : TyOf K H (.flt x) (.type "float")
  | lst {a : Addr} {xs : List V} (e : H a = some (.lst xs)) : TyOf K H (.ref a) (.type "list")
  | frz {a : Addr} {o : Obj} {xs : List V} (e : H a = some (.frz o (.lst xs))) : TyOf K H (.ref a) (.type "list")
  | tup {a : Addr} {xs : List V} (e : H a = some (.tup xs)) : TyOf K H (.ref a) (.type "tuple")
  | dK {a : Addr} {kvs : List (Key × V)} (e : H a = some (.dK kvs)) : TyOf K H (.ref a) (.type "dict")
  | dT {a : Addr} {kvs : List (List Key × V)} (e : H a = some (.dT kvs)) : TyOf K H (.ref a) (.type "dict")
  | ins {a C dx : Addr} {fs : List (Str × V)} (e : H a = some (.ins C dx fs)) (cl : Cls K C) (ha : PySem.W.findIn K (.ref C) "__class__" = some (some (.builtin "object.__class__")))
      (hn : PySem.W.specialIn K (.builtin "object.__class__") "__get__" = some (some (.builtin "getset_descriptor.__get__"))) (htk : PySem.W.takesIn K (.builtin "object.__class__") = some true)
      (hm : PySem.W.mroIn K C (.type "object") = some true) : TyOf K H (.ref a) (.ref C)
/-- isinstance(x, c) for one class c, a built-in or an own one: kitOne's answer -/
theorem isinst_ok {x : V} {u t : Value} (I : Inv X pins σ H s) (rx : RelV x u) (ty : TyOf X.K H x t) (e : PySem.W.kitOne X.K t c = some b) (h : ∀ tk, Q (.bool b) { s with toks := tk }) :
    wpAny (model X.prog X.w) A (call (.builtin "isinstance") [u, c]) Q E s := by
  cases ty with
  | non => cases (show u = Value.none from rx); exact PySem.W.kia_one PySem.W.kitx_none I.kIn True.intro e (fun z => nomatch z) h
  | bl y => cases (show u = Value.bool y from rx); exact PySem.W.kia_one PySem.W.kitx_bool I.kIn True.intro e (fun z => nomatch z) h
  | int i => obtain ⟨t, q⟩ := (show ∃ t, u = Value.int i t from rx); cases q; exact PySem.W.kia_one PySem.W.kitx_int I.kIn True.intro e (fun z => nomatch z) h
  | str y => obtain ⟨t, q⟩ := (show ∃ t, u = Value.str y t from rx); cases q; exact PySem.W.kia_one PySem.W.kitx_str I.kIn True.intro e (fun z => nomatch z) h
  | flt y => obtain ⟨t, q⟩ := (show ∃ t, u = Value.float y t from rx); cases q; exact PySem.W.kia_one PySem.W.kitx_float I.kIn True.intro e (fun z => nomatch z) h
  | @lst a xs ea =>
    cases (show u = Value.ref a from rx)
    obtain ⟨_, _, n, _, h1⟩ := (show ObjOk X.prog X.w H s.heap a (.lst xs) from I.hok a _ ea)
    exact PySem.W.kia_one PySem.W.kitx_list I.kIn ⟨_, h1, rfl⟩ e (fun z => nomatch z) h
  | @frz a ob xs ea =>
    cases (show u = Value.ref a from rx)
    obtain ⟨_, _, _, n, _, h1⟩ := (show ObjOk X.prog X.w H s.heap a (.frz ob (.lst xs)) from I.hok a _ ea)
    exact PySem.W.kia_one PySem.W.kitx_list I.kIn ⟨_, h1, rfl⟩ e (fun z => nomatch z) h
  | @tup a xs ea =>
    cases (show u = Value.ref a from rx)
    obtain ⟨_, _, _, p⟩ := (show ObjOk X.prog X.w H s.heap a (.tup xs) from I.hok a _ ea)
    obtain ⟨o, h1, h2, _⟩ := p
    exact PySem.W.kia_one PySem.W.kitx_tuple I.kIn ⟨o, h1, h2⟩ e (fun z => nomatch z) h
  | @dK a kvs ea =>
    cases (show u = Value.ref a from rx)
    obtain ⟨_, _, vs, _, p⟩ := (show ObjOk X.prog X.w H s.heap a (.dK kvs) from I.hok a _ ea)
    obtain ⟨o, es, ep, h1, h2, _⟩ := p
    exact PySem.W.kia_one PySem.W.kitx_dict I.kIn ⟨o, h1, h2.1⟩ e (fun z => nomatch z) h
  | @dT a kvs ea =>
    cases (show u = Value.ref a from rx)
    obtain ⟨_, _, xs, _, o, es, ep, h1, h2, _⟩ := (show ObjOk X.prog X.w H s.heap a (.dT kvs) from I.hok a _ ea)
    exact PySem.W.kia_one PySem.W.kitx_dict I.kIn ⟨o, h1, h2.1⟩ e (fun z => nomatch z) h
  | @ins a C dx fs ea cl ha hn htk hm =>
    cases (show u = Value.ref a from rx)
    obtain ⟨mA, O, _⟩ := ins_get I.hok ea
    obtain ⟨od, J, _⟩ := O.look
    exact PySem.W.kia_one (PySem.W.kitx_own (cl.get _) cl.hd ha hn htk hm) I.kIn J e (fun z => nomatch z) h
end
end L2

namespace L2
open PySem PySem.Spec PyProof.Rows

/-! ### room -/
structure Room (k : Nat) (A : Around) : Prop where
  hd : A.handled = none
  dp : A.depth + 3 * k + 5 < recursionLimit
  un : A.units + 16 * k + 200 < cLine
  gd : A.guards = some []
theorem Room.mono {j k : Nat} {A : Around} (r : Room k A) (h : j ≤ k) : Room j A := ⟨r.hd, by have := r.dp; omega, by have := r.un; omega, r.gd⟩
theorem Room.deeper {k : Nat} {A : Around} (r : Room (k + 1) A) (env : Env) : Room k (A.deeper env) :=
  ⟨r.hd, by have := r.dp; show A.depth + 1 + 3 * k + 5 < _; omega, by have := r.un; show A.units + 3 + 16 * k + 200 < _; omega, r.gd⟩
theorem make_depth {A : Around} {C : Addr} {us : List Value} {kw : List (Str × Value)} : (A.under (.builtin "type.__call__" ⟨.ref C :: us, kw⟩)).depth = A.depth + 1 := by
  first | rfl | simp [Around.under, Code.weight, Code.isCreation, Code.isGuard, Code.isCaller, Code.frames, Code.isFrame, guardIds]
theorem make_units {A : Around} {C : Addr} {us : List Value} {kw : List (Str × Value)} : (A.under (.builtin "type.__call__" ⟨.ref C :: us, kw⟩)).units = A.units + 1 := by
  first | rfl | simp [Around.under, Code.cUnits, Code.frames, Code.isFrame]
theorem make_guards {A : Around} {C : Addr} {us : List Value} {kw : List (Str × Value)} : (A.under (.builtin "type.__call__" ⟨.ref C :: us, kw⟩)).guards = A.guards := by
  show pushGuards (Code.guards (.builtin "type.__call__" ⟨.ref C :: us, kw⟩)) A.guards = A.guards
  have h : Code.isGuard (.builtin "type.__call__" ⟨.ref C :: us, kw⟩) = false := by first | rfl | (simp [Code.isGuard, guardIds]) | decide
  unfold Code.guards
  rw [h]
  cases A.guards <;> rfl
theorem Room.make {k : Nat} {A : Around} (r : Room (k + 1) A) (C : Addr) (us : List Value) (kw : List (Str × Value)) : Room k (A.under (.builtin "type.__call__" ⟨.ref C :: us, kw⟩)) :=
  ⟨r.hd, by have := r.dp; rw [make_depth]; omega, by have := r.un; rw [make_units]; omega, by rw [make_guards]; exact r.gd⟩
theorem Room.depth {k : Nat} {A : Around} (r : Room k A) : A.depth < recursionLimit := by have := r.dp; omega
theorem Room.units {k : Nat} {A : Around} (r : Room k A) : A.units + 64 < cLine := by have := r.un; omega
theorem Room.units0 {k : Nat} {A : Around} (r : Room k A) : A.units < cLine := by have := r.un; omega

/-! ### argument lists and displays -/
def tNil : TA := fun _ H Q => Q [] H
def tCons (ta : TE) (tr : TA) : TA := fun σ H Q => ta σ H fun x H1 => tr σ H1 fun xs H2 => Q (x :: xs) H2
section
variable {X : Cx} {e : Expr} {es : List Expr} {te : TE} {t : TA} {pos : Pos}
theorem pa_nil : PA X [] tNil := fun _ _ _ _ H Q I h => Calls.spliced_nil ⟨[], H, I, .nil, h⟩
theorem pa_cons (ha : PE X e te) (hr : PA X es t) (hs : starEach (e :: es) X.env = (false, eval e X.env) :: starEach es X.env := by rfl) : PA X (e :: es) (tCons te t) := by
  intro pos pins s σ H Q I h
  rw [hs]
  show wpAny _ _ (spliced ((false, eval e X.env) :: backTo pos (starEach es X.env))) _ _ s
  refine Calls.spliced_cons (thn (ha pins s σ H _ I h) fun u s1 ⟨x, H1, I1, r1, q1⟩ => ?_)
  exact thn (hr pos pins s1 σ H1 _ I1 q1) fun us s2 ⟨xs, H2, I2, r2, q2⟩ => ⟨x :: xs, H2, I2, .cons r1 r2, q2⟩

/-- a tuple, a list of written items -/
def tTup (t : TA) : TE := fun σ H Q => t σ H fun xs H1 => xs.length ≤ sizeLine ∧ ∀ p, H1 p = none → Q (.ref p) (upd H1 p (.tup xs))
def tLst (t : TA) : TE := fun σ H Q => t σ H fun xs H1 => xs.length ≤ sizeLine ∧ ∀ p, H1 p = none → Q (.ref p) (upd H1 p (.lst xs))
theorem pe_tup {x1} (h : PA X es t) : PE X (.Tuple es x1 pos) (tTup t) := by
  intro pins s σ H Q I hq
  refine wpAny_Tuple_spliced (thn (h pos pins s σ H _ I hq) fun us s1 ⟨xs, H1, I1, r, z, q⟩ => ⟨by rw [← r.length]; exact z, ?_⟩)
  have hf : H1 s1.heap.objs.size = none := I1.hok.fresh (Nat.le_refl _)
  refine ⟨.ref s1.heap.objs.size, upd H1 s1.heap.objs.size (.tup xs), I1.laid (t' := s1.toks) (fun b u e => Heap.get?_push_of_some _ e) (Nat.le_refl _) ?_, rfl, q _ hf⟩
  exact ⟨z, us, r, ⟨_, Heap.get?_push_size _ rfl, rfl, _, rfl⟩⟩
theorem pe_lst (h : PA X es t) : PE X (.List es pos) (tLst t) := by
  intro pins s σ H Q I hq
  refine wpAny_List_spliced (thn (h pos pins s σ H _ I hq) fun us s1 ⟨xs, H1, I1, r, z, q⟩ => ⟨by rw [← r.length]; exact z, ?_⟩)
  have hf : H1 s1.heap.objs.size = none := I1.hok.fresh (Nat.le_refl _)
  refine ⟨.ref s1.heap.objs.size, upd H1 s1.heap.objs.size (.lst xs), I1.laid (t' := s1.toks) (fun b u e => Heap.get?_push_of_some _ e) (Nat.le_refl _) ?_, rfl, q _ hf⟩
  exact ⟨z, us, 0, r, Heap.get?_push_size _ rfl⟩
end

/-! ### what a def promises -/
/-- a def's promise: the bound arguments in the parameters' order, the heap, the wanted end, the wanted exception -/
abbrev Sp := List V → Hp → VK → XK → Prop
/-- how an exception lies behind a call (file 08 gives it): the callers' frames, abstract heap and state ahead of the call, the wish, the exception, the state -/
abbrev CXT := List Env → Hp → Shared → XK → Value → Shared → Prop

/-- the state at a call -/
structure Env0 (P : Program) (w : World) (K : PySem.W.Frag) (mg : Str → Option Value) (base : Heap) (A : Around) (outer : List Env) (s : Shared) (H : Hp) : Prop where
  frames : A.frames = some outer
  mod : Mod K mg base
  bs : ∀ b o, base.get? b = some o → s.heap.get? b = some o ∧ H b = none
  bsz : base.objs.size ≤ s.heap.objs.size
  funs : s.heap.FunFrames base outer
  frf : ∀ b ∈ frs outer, H b = none
  hok : HOk P w H s.heap
  bare : AllBare s.gens
/-- a call's end -/
def CE (outer : List Env) (P : Program) (w : World) (H : Hp) (s : Shared) (Q : VK) (u : Value) (s' : Shared) : Prop :=
  ∃ v H', s'.os = s.os ∧ AllBare s'.gens ∧ Un (frs outer) [] H H' s.heap s'.heap ∧ HOk P w H' s'.heap ∧ RelV v u ∧ Q v H'
def CR (CX : CXT) (outer : List Env) (P : Program) (w : World) (H : Hp) (s : Shared) (Q : VK) (E : XK) (r : Result) (s' : Shared) : Prop :=
  match r with
  | .ok (.ret u) => CE outer P w H s Q u s'
  | .ok _ => False
  | .error e => CX outer H s E e s'
structure FnOk (P : Program) (w : World) (K : PySem.W.Frag) (mg : Str → Option Value) (base : Heap) (CX : CXT) (k : Nat) (f : Addr) (fd : FuncData) (ps : List Str) (sp : Sp) : Prop where
  len : ∀ vs H Q E, sp vs H Q E → vs.length = ps.length
  run : ∀ (A : Around) (outer : List Env) (s : Shared) (H : Hp) (args : Args) (us : List Value) (vs : List V) (Q : VK) (E : XK), Room k A → Env0 P w K mg base A outer s H → BindsTo s fd args (ps.zip us) → Vals vs us → sp vs H Q E →
    codeAny (model P w) A (.call (.ref f) args) (CR CX outer P w H s Q E) s
theorem FnOk.mono {P : Program} {w : World} {K : PySem.W.Frag} {mg : Str → Option Value} {base : Heap} {CX : CXT} {j k : Nat} {f : Addr} {fd : FuncData} {ps : List Str} {sp : Sp} (F : FnOk P w K mg base CX j f fd ps sp) (h : j ≤ k) :
    FnOk P w K mg base CX k f fd ps sp := ⟨F.len, fun A outer s H args us vs Q E hr => F.run A outer s H args us vs Q E (hr.mono h)⟩
theorem Env0.make {P : Program} {w : World} {K : PySem.W.Frag} {mg : Str → Option Value} {base : Heap} {A : Around} {outer : List Env} {s : Shared} {H : Hp} (e : Env0 P w K mg base A outer s H) (C : Addr) (us : List Value) (kw : List (Str × Value)) :
    Env0 P w K mg base (A.under (.builtin "type.__call__" ⟨.ref C :: us, kw⟩)) outer s H := ⟨by first | exact e.frames | (simpa [Around.under, Code.envs, Code.isFrame, pushEnvs] using e.frames), e.mod, e.bs, e.bsz, e.funs, e.frf, e.hok, e.bare⟩
section
variable {X : Cx} {pins : List (Addr × Obj)} {σ : St} {H : Hp} {s s' : Shared}
/-- from a body: what a callee wants -/
theorem Inv.env0 (I : Inv X pins σ H s) : Env0 X.prog X.w X.K X.mg X.base X.A X.stack s H :=
  ⟨I.ok.frames, I.ok.mod, I.bs, Nat.le_trans I.ok.bsz I.sz, I.stack, I.stkFree, I.hok, I.bare⟩
/-- behind a call -/
theorem Inv.after {Q : VK} {u : Value} (I : Inv X pins σ H s) (h : CE X.stack X.prog X.w H s Q u s') : EP X pins σ Q u s' := by
  obtain ⟨v, H', os, bare, un, hok, r, q⟩ := h
  obtain ⟨hh, g, d, t, os'⟩ := s'
  obtain rfl : os' = s.os := os
  exact ⟨v, H', I.call (h' := hh) (g' := g) (d' := d) (t' := t) (ch := []) un hok bare (fun b z => absurd z (by simp)), r, q⟩
end

/-! ### calls -/
/-- f(..): the written arguments, then the defaults dvs; E: what is wanted of an exception -/
def tCall (sp : Sp) (dvs : List V) (E : XK) (t : TA) : TE := fun σ H Q => t σ H fun vs H1 => sp (vs ++ dvs) H1 Q E
/-- C(..): a new instance and its dict, then __init__ -/
def tMake (C : Addr) (sp : Sp) (dvs : List V) (E : XK) (t : TA) : TE := fun σ H Q => t σ H fun vs H1 => ∀ x dx, H1 x = none → H1 dx = none → dx ≠ x →
  sp (.ref x :: (vs ++ dvs)) (upd (upd H1 dx (.own x)) x (.ins C dx [])) (fun v H2 => v = .non ∧ Q (.ref x) H2) E

/-- how the parameters are bound: us the positional arguments, kw the keywords' values by name, ds the defaults that fill up -/
def Binds (K : PySem.W.Frag) (fd : FuncData) (ps : List Str) (ds : List Value) : Prop :=
  ∀ (s : Shared) (us : List Value), K.In s.heap → (us ++ ds).length = ps.length → BindsTo s fd ⟨us, []⟩ (ps.zip (us ++ ds))
/-- every parameter is given -/
theorem Binds.all {K : PySem.W.Frag} {fd : FuncData} {ps : List Str} (h : ∀ us : List Value, us.length = ps.length → bindArgs fd ⟨us, []⟩ = pure (ps.zip us)) : Binds K fd ps [] := fun s us _ hl => by
  rw [List.append_nil] at hl ⊢
  exact .of_eq (h us hl)

/-- an exception of a callee reaches what this body wants of exceptions -/
def Passes (CX : CXT) (X : Cx) (E : XK) : Prop := ∀ (pins : List (Addr × Obj)) (σ : St) (H : Hp) (s : Shared) (e : Value) (s' : Shared), Inv X pins σ H s → CX X.stack H s E e s' → X.xe e s'

section
variable {X : Cx} {CX : CXT} {k : Nat} {f C : Addr} {fd : FuncData} {ps : List Str} {sp : Sp} {dvs : List V} {ds : List Value} {E : XK} {x m : Str} {p pos apos : Pos} {e o : Expr} {es : List Expr} {ta : TE} {t : TA}

/-- the callee runs -/
theorem run_fn {pins : List (Addr × Obj)} {σ : St} {H : Hp} {s : Shared} {Q : VK} {us : List Value} {vs : List V} (F : FnOk X.prog X.w X.K X.mg X.base CX k f fd ps sp) (hr : Room k X.A) (hb : Binds X.K fd ps ds) (hd : Vals dvs ds) (hx : Passes CX X E)
    (I : Inv X pins σ H s) (r : Vals vs us) (h : sp (vs ++ dvs) H Q E) : wpAny (model X.prog X.w) X.A (call (.ref f) us) (EP X pins σ Q) X.xe s := by
  have r2 : Vals (vs ++ dvs) (us ++ ds) := r.append hd
  have hl : (us ++ ds).length = ps.length := by rw [← r2.length]; exact F.len _ _ _ _ h
  refine wpAny_call (codeAny_mono (F.run X.A X.stack s H ⟨us, []⟩ (us ++ ds) (vs ++ dvs) Q E hr I.env0 (hb s us I.kIn hl) r2 h) fun r s' hq => ?_)
  cases r with
  | error e => exact hx pins σ H s e s' I hq
  | ok fl =>
    cases fl with
    | ret u => exact I.after hq
    | next => exact False.elim hq
    | brk => exact False.elim hq
    | cont => exact False.elim hq

theorem pe_call (F : FnOk X.prog X.w X.K X.mg X.base CX k f fd ps sp) (hr : Room k X.A) (hg : Gl X x) (hm : X.mg x = some (.ref f)) (hk : PySem.W.keepIn X.K (.ref f) = true) (hb : Binds X.K fd ps ds) (hd : Vals dvs ds) (hx : Passes CX X E)
    (ha : PA X (e :: es) t) (hdb : (x == ("__debug__" : Str)) = false := by decide) (he : starEach (e :: es) X.env = (false, eval e X.env) :: starEach es X.env := by rfl) (hpl : (backTo pos (starEach es X.env)).any (·.1) = false := by rfl) :
    PE X (.Call (.Name x p) (e :: es) [] pos) (tCall sp dvs E t) := by
  intro pins s σ H Q I h
  refine wpAny_Call_Name_kw (ld_glob I hg hm ?_ hdb)
  refine PySem.W.callWith_K (h₀ := X.base) I.ok.mod.kin hk (thn (ha pos pins s σ H _ I h) fun us s1 ⟨vs, H1, I1, r, q⟩ => ⟨I1.kIn, ?_⟩) he hpl
  exact run_fn F hr hb hd hx I1 r q
/-- what a class must have to be made -/
structure Mk (K : PySem.W.Frag) (C f : Addr) : Prop where
  makes : PySem.W.makesIn K C = true
  init : PySem.W.findIn K (.ref C) "__init__" = some (some (.ref f))
  fn : PySem.W.isFn K (.ref f) = true
  kp : PySem.W.keepIn K (.ref C) = true

theorem run_make {pins : List (Addr × Obj)} {σ : St} {H : Hp} {s : Shared} {Q : VK} {us : List Value} {vs : List V} (M : Mk X.K C f) (F : FnOk X.prog X.w X.K X.mg X.base CX k f fd ps sp) (hr : Room (k + 1) X.A) (hb : Binds X.K fd ps ds) (hd : Vals dvs ds)
    (hx : Passes CX X E) (I : Inv X pins σ H s) (r : Vals vs us)
    (h : ∀ x dx, H x = none → H dx = none → dx ≠ x → sp (.ref x :: (vs ++ dvs)) (upd (upd H dx (.own x)) x (.ins C dx [])) (fun v H2 => v = .non ∧ Q (.ref x) H2) E) :
    wpAny (model X.prog X.w) X.A (call (.ref C) us) (EP X pins σ Q) X.xe s := by
  have hq := h (s.heap.objs.size + 1) s.heap.objs.size (I.hok.fresh (Nat.le_succ _)) (I.hok.fresh (Nat.le_refl _)) (Nat.ne_of_lt (Nat.lt_succ_self _))
  have I2 := Inv.made (C := C) I
  have r2 : Vals (V.ref (s.heap.objs.size + 1) :: (vs ++ dvs)) (Value.ref (s.heap.objs.size + 1) :: (us ++ ds)) := .cons rfl (r.append hd)
  have hl : (Value.ref (s.heap.objs.size + 1) :: us ++ ds).length = ps.length := by
    have e := r2.length
    rw [F.len _ _ _ _ hq] at e
    exact e.symm
  refine wpAny_call (make_map (f := f) I.kIn M.makes M.init (beq_iff_eq.mp M.fn) (codeAny_mono (F.run _ X.stack _ _ ⟨Value.ref (s.heap.objs.size + 1) :: us, []⟩ (Value.ref (s.heap.objs.size + 1) :: (us ++ ds)) _ _ E (hr.make C us [])
    (I2.env0.make C us []) (hb _ (Value.ref (s.heap.objs.size + 1) :: us) I2.kIn hl) r2 hq) fun r s' hq' => ?_))
  cases r with
  | error e => exact hx pins σ _ _ e s' I2 hq'
  | ok fl =>
    cases fl with
    | ret u =>
      obtain ⟨v, H', I3, rv, ev, q3⟩ := I2.after hq'
      subst ev
      exact ⟨rv, ⟨V.ref (s.heap.objs.size + 1), H', I3, rfl, q3⟩⟩
    | next => exact False.elim hq'
    | brk => exact False.elim hq'
    | cont => exact False.elim hq'
theorem pe_make (M : Mk X.K C f) (F : FnOk X.prog X.w X.K X.mg X.base CX k f fd ps sp) (hr : Room (k + 1) X.A) (hg : Gl X x) (hm : X.mg x = some (.ref C)) (hb : Binds X.K fd ps ds) (hd : Vals dvs ds) (hx : Passes CX X E)
    (ha : PA X (e :: es) t) (hdb : (x == ("__debug__" : Str)) = false := by decide) (he : starEach (e :: es) X.env = (false, eval e X.env) :: starEach es X.env := by rfl) (hpl : (backTo pos (starEach es X.env)).any (·.1) = false := by rfl) :
    PE X (.Call (.Name x p) (e :: es) [] pos) (tMake C sp dvs E t) := by
  intro pins s σ H Q I h
  refine wpAny_Call_Name_kw (ld_glob I hg hm ?_ hdb)
  refine PySem.W.callWith_K (h₀ := X.base) I.ok.mod.kin M.kp (thn (ha pos pins s σ H _ I h) fun us s1 ⟨vs, H1, I1, r, q⟩ => ⟨I1.kIn, ?_⟩) he hpl
  exact run_make M F hr hb hd hx I1 r q
end

/-! ### keywords -/
section
variable {X : Cx} {CX : CXT} {k : Nat} {f C : Addr} {fd : FuncData} {ps ks : List Str} {sp : Sp} {E : XK} {x m : Str} {p pos apos kpos : Pos} {e o : Expr} {es : List Expr} {kws : List Keyword} {te ta : TE} {t tk : TA} {nm : Option Str}
variable {g : List Value → List Value → List Value} {gV : List V → List V → List V}
end

/-! ### a def's body keeps its promise -/
/-- names: the parameters first -/
structure FnScope (N P : List Str) (sc : Scope) : Prop where
  kind : sc.kind = .function
  co : sc.isCoroutine = false
  gen : sc.isGenerator = false
  nd : N.Nodup
  pre : N.take P.length = P
  par : ∀ x ∈ P, sc.names.lookup x = some .local ∨ sc.names.lookup x = some .cell
  nofree : ∀ y ∈ sc.names, y.2 ≠ .free

theorem bindL_out {kindOf : Str → Option NameKind} {x : Str} : ∀ {binds : List (Str × Value)} {m : Str → Option Value}, (∀ v, (x, v) ∉ binds) → bindL kindOf binds m x = m x
  | [], _, _ => rfl
  | (n, v) :: r, m, h => by
    unfold bindL
    rw [bindL_out fun w hw => h w (List.mem_cons_of_mem _ hw)]
    split
    · have : x ≠ n := by rintro rfl; exact h v List.mem_cons_self
      simp [this]
    · rfl
theorem bindC_out {kindOf : Str → Option NameKind} {x : Str} : ∀ {binds : List (Str × Value)} {m : Str → Option Value}, (∀ v, (x, v) ∉ binds) → bindC kindOf binds m x = m x
  | [], _, _ => rfl
  | (n, v) :: r, m, h => by
    unfold bindC
    rw [bindC_out fun w hw => h w (List.mem_cons_of_mem _ hw)]
    split
    · rfl
    · have : x ≠ n := by rintro rfl; exact h v List.mem_cons_self
      simp [this]
theorem bindL_get {kindOf : Str → Option NameKind} {x : Str} {v : Value} : ∀ {P : List Str} {vs : List Value} {i : Nat} {m : Str → Option Value}, P.Nodup → P[i]? = some x → vs[i]? = some v → kindOf x = some .local →
    bindL kindOf (P.zip vs) m x = some v
  | [], _, _, _, _, h, _, _ => by simp at h
  | _ :: _, [], _, _, _, _, h, _ => by simp at h
  | p :: P, w :: vs, 0, m, nd, h1, h2, hk => by
    simp at h1 h2; subst h1; subst h2
    show bindL kindOf ((p, w) :: P.zip vs) m p = _
    unfold bindL
    rw [bindL_out fun v hv => (List.nodup_cons.mp nd).1 (List.of_mem_zip hv).1, if_pos hk]
    simp
  | p :: P, w :: vs, i + 1, m, nd, h1, h2, hk => by
    show bindL kindOf ((p, w) :: P.zip vs) m x = _
    unfold bindL
    exact bindL_get (i := i) (List.nodup_cons.mp nd).2 (by simpa using h1) (by simpa using h2) hk
theorem bindC_get {kindOf : Str → Option NameKind} {x : Str} {v : Value} : ∀ {P : List Str} {vs : List Value} {i : Nat} {m : Str → Option Value}, P.Nodup → P[i]? = some x → vs[i]? = some v → kindOf x ≠ some .local →
    bindC kindOf (P.zip vs) m x = some v
  | [], _, _, _, _, h, _, _ => by simp at h
  | _ :: _, [], _, _, _, _, h, _ => by simp at h
  | p :: P, w :: vs, 0, m, nd, h1, h2, hk => by
    simp at h1 h2; subst h1; subst h2
    show bindC kindOf ((p, w) :: P.zip vs) m p = _
    unfold bindC
    rw [bindC_out fun v hv => (List.nodup_cons.mp nd).1 (List.of_mem_zip hv).1, if_neg hk]
    simp
  | p :: P, w :: vs, i + 1, m, nd, h1, h2, hk => by
    show bindC kindOf ((p, w) :: P.zip vs) m x = _
    unfold bindC
    exact bindC_get (i := i) (List.nodup_cons.mp nd).2 (by simpa using h1) (by simpa using h2) hk

/-- the names' values at the entry -/
def start (N : List Str) (vs : List V) : St := vs.map some ++ List.replicate (N.length - vs.length) none

/-- the context of a def's body, at its entry; an exception leaves the frame, then lies as CX says -/
def cxOf (CX : CXT) (P : Program) (w : World) (K : PySem.W.Frag) (mg : Str → Option Value) (base : Heap) (N : List Str) (qual : Str) (scope : Scope) (f : Addr) (cd : Value) (A : Around) (outer : List Env) (s : Shared) (H : Hp) (E : XK) : Cx where
  prog := P
  w := w
  K := K
  mg := mg
  base := base
  A := A.deeper (envOfC qual scope s.heap.objs.size f cd)
  N := N
  s₀ := s
  H₀ := H
  env := envOfC qual scope s.heap.objs.size f cd
  outer := outer
  stack := envOfC qual scope s.heap.objs.size f cd :: outer
  ex := []
  calm := true
  fn := fun _ => true
  pn := []
  xe := fun e s' => wpAny (model P w) (A.deeper (envOfC qual scope s.heap.objs.size f cd)) (leaving (envOfC qual scope s.heap.objs.size f cd) e) (fun _ s'' => CX outer H s E e s'') (fun e' s'' => CX outer H s E e' s'') s'

theorem cell_has {sc : Scope} {n : Nat} {x : Str} (h : sc.names.lookup x = some .cell) : ∃ c, (cellsFrom n sc.names []).lookup x = some c := by
  have q := PySem.W.cellsFrom_some sc.names n [] (.inl h)
  exact Option.isSome_iff_exists.mp q

theorem inv_start {CX : CXT} {P : Program} {w : World} {K : PySem.W.Frag} {mg : Str → Option Value} {base : Heap} {N ps : List Str} {qual : Str} {scope : Scope} {f : Addr} {cd : Value} {A : Around} {outer : List Env} {s s1 : Shared} {H : Hp} {E : XK} {us : List Value} {vs : List V}
    (S : FnScope N ps scope) (hd : A.handled = none) (e0 : Env0 P w K mg base A outer s H) (hl : vs.length = ps.length) (r : Vals vs us)
    (x : InCallC s s.heap.objs.size (bindL (envOfC qual scope s.heap.objs.size f cd).kindOf (ps.zip us) fun _ => none) (cellsFrom (s.heap.objs.size + 1) scope.names []) (bindC (envOfC qual scope s.heap.objs.size f cd).kindOf (ps.zip us) fun _ => none) s1) :
    Inv (cxOf CX P w K mg base N qual scope f cd A outer s H E) [] (start N vs) H s1 := by
  have hpl : ps.length ≤ N.length := by have := congrArg List.length S.pre; rw [List.length_take] at this; omega
  obtain ⟨h1, tk, rfl, hk⟩ := x.done
  have noA : ∀ b : Addr, b ∉ (cxOf CX P w K mg base N qual scope f cd A outer s H E).ex := fun b z => absurd (show b ∈ ([] : List Addr) from z) (by simp)
  refine ⟨⟨e0.mod, S.kind, rfl, rfl, Nat.le_refl _, fun y z c h1 h2 => ?_, fun y hy => ?_, fun y c _ h => ?_, fun _ => hd, Around.frames_deeper e0.frames, .inr ⟨rfl, rfl⟩, fun b z => absurd z (noA b), e0.bs, e0.bsz, fun b _ _ => noA b, fun b z => absurd z (noA b), e0.funs, e0.frf⟩,
    rfl, e0.bare, Un.kept hk, ⟨_, x.toInCall.ns, fun i y v h1 h2 h3 => ?_⟩, fun y c h => ⟨_, x.cell y c h⟩, e0.hok.fresh (Nat.le_refl _), fun y c h => ?_, fun p hp => absurd (show p ∈ ([] : List (Addr × Obj)) from hp) (by simp), e0.hok.kept hk, ?_⟩
  · exact name_of_addr x.apart (PySem.mem_of_lookup h1) (PySem.mem_of_lookup h2)
  · have hy : scope.names.lookup y = some .cell ∨ scope.names.lookup y = some .free := hy
    rcases hy with hy | hy
    · exact cell_has hy
    · exact absurd rfl (S.nofree _ (PySem.mem_of_lookup hy))
  · exact Nat.le_of_lt (x.above y c (PySem.mem_of_lookup h))
  · have hi : i < vs.length := by
      unfold start at h2
      by_cases hi : i < vs.length
      · exact hi
      · rw [List.getElem?_append_right (by simpa using hi)] at h2
        rw [List.getElem?_replicate] at h2
        split at h2 <;> cases h2
    have ha : vs[i]? = some v := by
      unfold start at h2
      rw [List.getElem?_append_left (by simpa using hi), List.getElem?_map] at h2
      cases e : vs[i]? with
      | none => rw [e] at h2; cases h2
      | some a => rw [e] at h2; cases h2; rfl
    obtain ⟨u, hu, rv⟩ := r.get ha
    have hp : ps[i]? = some y := by
      rw [← S.pre, List.getElem?_take_of_lt (by omega)]; exact h1
    have ndP : ps.Nodup := by rw [← S.pre]; exact S.nd.sublist (List.take_sublist _ _)
    refine ⟨u, rv, ?_⟩
    rcases S.par y (List.mem_of_getElem? hp) with k | k
    · exact .inl ⟨k, bindL_get ndP hp hu k⟩
    · obtain ⟨c, e⟩ := cell_has (n := s.heap.objs.size + 1) k
      refine .inr ⟨.inl k, c, e, ?_⟩
      have q := x.cell y c e
      rw [bindC_get ndP hp hu (by show scope.names.lookup y ≠ _; rw [k]; decide)] at q
      exact q
  · exact e0.hok.fresh (Nat.le_of_lt (x.above y c (PySem.mem_of_lookup h)))
  · unfold start
    show _ = N.length
    rw [List.length_append, List.length_map, List.length_replicate]
    omega

/-- THE RULE: a def (or a method) of the text, by its body. The body's reading t is chosen for each entry; it is run at the parameters' values -/
theorem fn_of {CX : CXT} {P : Program} {w : World} {K : PySem.W.Frag} {mg : Str → Option Value} {base : Heap} {k : Nat} {f : Addr} {name qual : Str} {params : Arguments} {body : List Stmt} {scope : Scope} {dV kV doc pm cdv ct oc : Value} {an od : Option Addr}
    {osl : Array (Option Value)} {N ps : List Str} {sp : Sp} (lk : K.lookup f = some ⟨oc, od, .func (PySem.W.fnOf name qual params body scope dV kV doc pm an cdv ct), osl⟩) (hcd : PySem.W.codeIn K cdv qual = true) (S : FnScope N ps scope)
    (len : ∀ vs H Q E, sp vs H Q E → vs.length = ps.length)
    (hbody : ∀ (A : Around) (outer : List Env) (s : Shared) (H : Hp) (vs : List V) (Q : VK) (E : XK), Room k (A.deeper (envOfC qual scope s.heap.objs.size f cdv)) → sp vs H Q E →
      ∃ t, PSs (cxOf CX P w K mg base N qual scope f cdv A outer s H E) body t ∧ t { nx := fun _ H' => Q .non H', rt := Q } (start N vs) H) :
    FnOk P w K mg base CX (k + 1) f (PySem.W.fnOf name qual params body scope dV kV doc pm an cdv ct) ps sp := by
  refine ⟨len, fun A outer s H args us vs Q E hr e0 hb r hsp => ?_⟩
  have hl := len _ _ _ _ hsp
  have KX : K.In s.heap := e0.mod.kin.keeps fun b o e => (e0.bs b o e).1
  have lim : s.heap.NoLimit := e0.mod.nolimit.keeps fun b o e => (e0.bs b o e).1
  have hkind : ∀ y ∈ ps.zip us, scope.names.lookup y.1 = some .local ∨ (scope.names.lookup y.1 = some .cell ∧ ((cellsFrom (s.heap.objs.size + 1) scope.names []).lookup y.1).isSome = true) := fun ⟨n, v⟩ hy => by
    rcases S.par n (List.of_mem_zip hy).1 with q | q
    · exact .inl q
    · exact .inr ⟨q, PySem.W.cellsFrom_some _ _ _ (.inl q)⟩
  refine codeAny_call_function hr.depth (KX _ _ lk) rfl S.co S.gen rfl (PySem.W.codeRec_of KX hcd) (hb _ _ _ _ ?_)
  refine wpAny_newFunctionEnv_cells S.kind hkind fun env he s1 x => ?_
  subst he
  refine ⟨lim.keeps x.toInCall.keep, codeAny_func ?_⟩
  obtain ⟨t, ht, hq⟩ := hbody A outer s H vs Q E (hr.deeper _) hsp
  have I : Inv (cxOf CX P w K mg base N qual scope f cdv A outer s H E) [] (start N vs) H s1 := inv_start S hr.hd e0 hl r x
  refine wpAny_mono (ht [] s1 (start N vs) H _ I hq) (fun fl s' hs => ?_) fun e s' hs => hs
  have fin : ∀ {σ' : St} {H' : Hp} {v : V} {u : Value}, Inv (cxOf CX P w K mg base N qual scope f cdv A outer s H E) [] σ' H' s' → RelV v u → Q v H' → CE outer P w H s Q u s' :=
    fun {σ' H' v u} J rv q => ⟨v, H', J.os, J.bare, J.base, J.hok, rv, q⟩
  cases fl with
  | ret u =>
    obtain ⟨v, σ', H', J, rv, q⟩ := hs
    exact fin J rv q
  | next =>
    obtain ⟨σ', H', J, q⟩ := hs
    exact fin (v := V.non) (u := Value.none) J rfl q
  | brk =>
    obtain ⟨_, _, _, q⟩ := hs
    exact False.elim q
  | cont =>
    obtain ⟨_, _, _, q⟩ := hs
    exact False.elim q
end L2

namespace L2
open PySem PySem.Spec PyProof.Rows
section
variable {X : Cx} {x : Str} {p pos : Pos} {e : Expr} {es : List Expr} {t : TA} {id T : String} {r : List V → Hp → VK → Prop}

def tCB (r : List V → Hp → VK → Prop) (t : TA) : TE := fun σ H Q => t σ H fun vs H1 => r vs H1 Q
/-- f(e, ..), f a built-in function -/
theorem pe_callB (hc : CallR X (.builtin id) r) (hg : Gl X x) (hm : X.mg x = none) (hv : bootBuiltins x = some (.builtin id)) (ha : PA X (e :: es) t) (hn : x ≠ "__name__" := by decide) (hdb : (x == ("__debug__" : Str)) = false := by decide)
    (he : starEach (e :: es) X.env = (false, eval e X.env) :: starEach es X.env := by rfl) (hpl : (backTo pos (starEach es X.env)).any (·.1) = false := by rfl) : PE X (.Call (.Name x p) (e :: es) [] pos) (tCB r t) := by
  intro pins s σ H Q I h
  refine wpAny_Call_Name_kw (ld_blt I hg hm hv ?_ hn hdb)
  exact PyProof.Rows.callWith_builtin1 (thn (ha pos pins s σ H _ I h) fun us s1 ⟨vs, H1, I1, r1, q1⟩ => hc pins s1 σ H1 vs us Q I1 r1 q1) he hpl
/-- T(e, ..), T a built-in type -/
theorem pe_callTy (hc : CallR X (.type T) r) (hg : Gl X x) (hm : X.mg x = none) (hv : bootBuiltins x = some (.type T)) (ha : PA X (e :: es) t) (hn : x ≠ "__name__" := by decide) (hdb : (x == ("__debug__" : Str)) = false := by decide)
    (he : starEach (e :: es) X.env = (false, eval e X.env) :: starEach es X.env := by rfl) (hpl : (backTo pos (starEach es X.env)).any (·.1) = false := by rfl) : PE X (.Call (.Name x p) (e :: es) [] pos) (tCB r t) := by
  intro pins s σ H Q I h
  refine wpAny_Call_Name_kw (ld_blt I hg hm hv ?_ hn hdb)
  exact PyProof.Rows.callWith_type1 (thn (ha pos pins s σ H _ I h) fun us s1 ⟨vs, H1, I1, r1, q1⟩ => hc pins s1 σ H1 vs us Q I1 r1 q1) he hpl
end
end L2

namespace HT
open PySem PyProof.Rows

section
open PySem.SeqAt
open PySem.AutoSeq1 (wpAny_loadPart')
open PySem.MeetsSeq PySem.MeetsSeq2 PySem.MeetsSeq3

end

section
variable {prog : Program} {w : World} {A : Around} {E : Value → Shared → Prop} {s : Shared}

/-! ### t[a:b], not the whole -/
/-- a slice's bound as a place among n (d where it is left out) -/
def sIx (n d : Nat) : Option Int → Nat
  | none => d
  | some v => if v < 0 then (v + (n : Int)).toNat else min v.toNat n
end
end HT

namespace L2
open PySem PySem.Spec PyProof.Rows

/-! ### the parts of a slice -/
abbrev TO := St → Hp → (Option Int → Hp → Prop) → Prop
/-- a slice's part (left out, or an int) -/
def PO (X : Cx) (e : Option Expr) (t : TO) : Prop :=
  ∀ (pins : List (Addr × Obj)) (s : Shared) (σ : St) (H : Hp) (Q : Option Int → Hp → Prop), Inv X pins σ H s → t σ H Q →
    wpAny (model X.prog X.w) X.A (evalPart e X.env) (fun u s' => ∃ o H', Inv X pins σ H' s' ∧ IsPart u o ∧ Q o H') X.xe s
def tNoPart : TO := fun _ H Q => Q none H
def tPart (t : TE) : TO := fun σ H Q => t σ H fun x H1 => ∃ i, x = .int i ∧ Q (some i) H1

section
variable {X : Cx} {e : Expr} {te : TE} {lo hi : Option Expr} {tl th : TO} {pos p2 : Pos}

theorem po_none : PO X none tNoPart := by
  intro pins s σ H Q I h
  rw [evalPart_none]
  exact wpAny_pure ⟨none, H, I, .none, h⟩
theorem po_some (h : PE X e te) : PO X (some e) (tPart te) := by
  intro pins s σ H Q I hw
  rw [evalPart_some]
  refine thn (h pins s σ H _ I hw) fun u s1 ⟨x, H1, I1, r1, q1⟩ => ?_
  obtain ⟨i, rfl, q⟩ := q1
  obtain ⟨t, rfl⟩ := r1
  exact ⟨some i, H1, I1, .int i t, q⟩

/-- what a slice of a value is, by values: the slice object stands at sl -/
def SlR (X : Cx) (r : V → Option Int → Option Int → Hp → VK → Prop) : Prop :=
  ∀ (pins : List (Addr × Obj)) (s : Shared) (σ : St) (H : Hp) (x : V) (v vl vu : Value) (lo hi : Option Int) (sl : Addr) (Q : VK), Inv X pins σ H s → RelV x v → s.heap.IsSliceOf sl vl vu .none → IsPart vl lo → IsPart vu hi → r x lo hi H Q →
    ∃ T id, typeLookup (.type T) "__getitem__" = pure (some (.builtin id)) ∧ s.TypeIs v T ∧ wpAny (model X.prog X.w) X.A (getItem v (.ref sl)) (EP X pins σ Q) X.xe s
def tSl (r : V → Option Int → Option Int → Hp → VK → Prop) (te : TE) (tl th : TO) : TE := fun σ H Q => te σ H fun x H1 => tl σ H1 fun l H2 => th σ H2 fun u H3 => r x l u H3 Q
/-- a[lo:hi], any a -/
theorem pe_slice {r : V → Option Int → Option Int → Hp → VK → Prop} (hr : SlR X r) (he : PE X e te) (hl : PO X lo tl) (hu : PO X hi th) : PE X (.Subscript e (.Slice lo hi none p2) pos) (tSl r te tl th) := by
  intro pins s σ H Q I h
  refine Subscript_ (thn (he pins s σ H _ I h) fun v s1 ⟨x, H1, I1, r1, q1⟩ => ?_)
  refine wpAny_Slice (thn (hl pins s1 σ H1 _ I1 q1) fun vl s2 ⟨l, H2, I2, pl, q2⟩ => thn (hu pins s2 σ H2 _ I2 q2) fun vu s3 ⟨u, H3, I3, pu, q3⟩ => ?_)
  rw [evalPart_none]
  refine wpAny_pure ?_
  have I4 : Inv X pins σ H3 { s3 with heap := s3.heap.push { cls := .type "slice", data := .fields #[vl, vu, .none] } } := I3.kept (t' := s3.toks) fun b ob q => Heap.get?_push_of_some _ q
  obtain ⟨T, id, hT, ht, hg⟩ := hr pins { s3 with heap := s3.heap.push { cls := .type "slice", data := .fields #[vl, vu, .none] } } σ H3 x v vl vu l u s3.heap.objs.size Q I4 r1 (Heap.IsSliceOf.new ..) pl pu q3
  show wpAny (model X.prog X.w) X.A (subscriptTail e (.Slice lo hi none p2) v (.ref s3.heap.objs.size)) (EP X pins σ Q) X.xe { s3 with heap := s3.heap.push { cls := .type "slice", data := .fields #[vl, vu, .none] } }
  exact tail_any (ops := [.ref s3.heap.objs.size, v]) ht hT hg (by with_unfolding_all rfl)

/-- the items of xs[lo:hi] -/
def cutV (xs : List V) (lo hi : Option Int) : List V := (xs.drop (HT.sIx xs.length 0 lo)).take (HT.sIx xs.length xs.length hi - HT.sIx xs.length 0 lo)
theorem cutV_length (xs : List V) (lo hi : Option Int) : (cutV xs lo hi).length ≤ xs.length := by
  unfold cutV
  rw [List.length_take, List.length_drop]
  omega
/-! ### t < u, t + u -/
end
end L2

namespace L2
open PySem PySem.Spec PyProof.Rows

/-! ### places -/
/-- the place that an index of any sign means -/
def ixN (n : Nat) (i : Int) : Option Nat := if 0 ≤ i then (if i < n then some i.toNat else none) else if -(n : Int) ≤ i then some (i + n).toNat else none
def atI {α : Type} (xs : List α) (i : Int) : Option α := (ixN xs.length i).bind fun j => xs[j]?
theorem ixN_seq {n : Nat} {i : Int} {j : Nat} (h : ixN n i = some j) : seqIndex? i n = some j ∧ j < n ∧ -(n : Int) ≤ i ∧ i < n := by
  unfold ixN at h
  by_cases h0 : 0 ≤ i
  · rw [if_pos h0] at h
    by_cases h1 : i < n
    · rw [if_pos h1] at h
      have e : i.toNat = j := Option.some.inj h
      exact ⟨by rw [seqIndex_of h0 h1, e], by omega, by omega, h1⟩
    · rw [if_neg h1] at h; cases h
  · rw [if_neg h0] at h
    by_cases h1 : -(n : Int) ≤ i
    · rw [if_pos h1] at h
      have e : (i + n).toNat = j := Option.some.inj h
      exact ⟨by rw [seqIndex_neg (by omega) h1, e], by omega, h1, by omega⟩
    · rw [if_neg h1] at h; cases h
theorem atI_get {α : Type} {xs : List α} {i : Int} {v : α} (h : atI xs i = some v) : ∃ j, seqIndex? i xs.length = some j ∧ xs[j]? = some v ∧ j < xs.length ∧ -(xs.length : Int) ≤ i ∧ i < xs.length := by
  unfold atI at h
  cases e : ixN xs.length i with
  | none => rw [e] at h; cases h
  | some j =>
    rw [e] at h
    obtain ⟨h1, h2, h3, h4⟩ := ixN_seq e
    exact ⟨j, h1, h, h2, h3, h4⟩
theorem atI_nat {α : Type} {xs : List α} {j : Nat} {v : α} (h : xs[j]? = some v) : atI xs (j : Int) = some v := by
  have hj : j < xs.length := (List.getElem?_eq_some_iff.mp h).1
  have e : ixN xs.length (j : Int) = some j := by
    unfold ixN
    rw [if_pos (by omega), if_pos (by omega)]; simp
  unfold atI; rw [e]; exact h
/-! ### what may be subscripted -/
/-- what stands as an index of a plain subscript -/
def PlainIx (b : Expr) : Prop := ∀ o i, subscripted b false o i = operate [o, i] (getItem o i)
/-- a subscript by values -/
def IxR (X : Cx) (r : R2) : Prop :=
  ∀ (value slice : Expr) (pins : List (Addr × Obj)) (s : Shared) (σ : St) (H : Hp) (x y : V) (v u : Value) (Q : VK), Inv X pins σ H s → RelV x v → RelV y u → r x y H Q →
    subscripted slice false v u = operate [v, u] (getItem v u) → wpAny (model X.prog X.w) X.A (subscriptTail value slice v u) (EP X pins σ Q) X.xe s
/-- a call of a builtin's method by values: the receiver, the arguments -/
def MtR (X : Cx) (id : String) (r : V → List V → Hp → VK → Prop) : Prop :=
  ∀ (pins : List (Addr × Obj)) (s : Shared) (σ : St) (H : Hp) (x : V) (xs : List V) (v : Value) (us : List Value) (Q : VK), Inv X pins σ H s → RelV x v → Vals xs us → r x xs H Q →
    wpAny (model X.prog X.w) X.A (call (.builtin id) (v :: us)) (EP X pins σ Q) X.xe s
section
variable {X : Cx} {a b : Expr} {ta tb : TE} {pos : Pos}
/-- a[b] -/
theorem pe_ix {r : R2} (hr : IxR X r) (ha : PE X a ta) (hb : PE X b tb) (hs : PlainIx b) : PE X (.Subscript a b pos) (tOp r ta tb) := by
  intro pins s σ H Q I h
  exact Subscript_ (binT ha hb I h fun v u s2 x y H2 I2 rx ry q => hr a b pins s2 σ H2 x y v u Q I2 rx ry q (hs _ _))

def rIxL (K : PySem.W.Frag) : R2 := fun x y H Q => ∃ p xs i v, x = .ref p ∧ y = .int i ∧ SqL K H p xs ∧ atI xs i = some v ∧ Q v H
def rIxS : R2 := fun x y H Q => ∃ z i c, x = .str z ∧ y = .int i ∧ z.length ≤ sizeLine ∧ atI z.cps.toList i = some c ∧ Q (.str ⟨#[c]⟩) H
theorem ix_list : IxR X (rIxL X.K) := by
  intro value slice pins s σ H x y v u Q I rx ry h hs
  obtain ⟨p, xs, i, z, rfl, rfl, hq, he, q⟩ := h
  cases rx
  obtain ⟨t, rfl⟩ := ry
  obtain ⟨its, r, pl, hz⟩ := I.list hq
  obtain ⟨j, h1, h2, h3, h4, h5⟩ := atI_get he
  obtain ⟨w, ew, rw'⟩ := r.get h2
  have hl := r.length
  have hn := line63
  have fin : EP X pins σ Q w s := ⟨z, H, I, rw', q⟩
  by_cases h0 : 0 ≤ i
  · have hj : i.toNat = j := by
      rw [seqIndex_of h0 h5] at h1
      exact Option.some.inj h1
    exact item_listR pl.isList h0 (by omega) (by rw [hj]; simpa using ew) fin hs
  · have hj : (i + (its.toArray.size : Int)).toNat = j := by
      rw [seqIndex_neg (by omega) h4] at h1
      rw [List.size_toArray, ← hl]
      exact Option.some.inj h1
    exact subscriptTail_builtinR (x := w) pl.isList.typeIs slot_list_getitem.lookup
      (wpAny_getItem_list_neg (Q := fun r s' => r = w ∧ EP X pins σ Q r s') pl.isList (by omega) (by rw [List.size_toArray] <;> omega) (by omega) (by rw [hj]; simpa using ew) ⟨rfl, fin⟩) hs
theorem ix_str : IxR X rIxS := by
  intro value slice pins s σ H x y v u Q I rx ry h hs
  obtain ⟨z, i, c, rfl, rfl, hz, he, q⟩ := h
  obtain ⟨t, rfl⟩ := rx
  obtain ⟨t', rfl⟩ := ry
  obtain ⟨j, h1, h2, h3, h4, h5⟩ := atI_get he
  have hl : z.cps.toList.length = z.length := by simp [Str.length]
  rw [hl] at h1 h4 h5
  have hn := line63
  exact tail_any (typeIs_str s z t) slot_str_getitem.lookup (getItem_str (c := c) (by
    have e1 : decide (i < -(2 ^ 63 : Int)) = false := decide_eq_false (by omega)
    have e2 : decide (i ≥ 2 ^ 63) = false := decide_eq_false (by omega)
    rw [e1, e2, Bool.or_false]) (by rw [h1]; simpa using h2) ⟨.str ⟨#[c]⟩, H, I.tok _, ⟨_, rfl⟩, q⟩) hs
/-! ### xs[i] = v, any sign -/
/-- the list's object behind a store -/
theorem mapSeq_set (its : List Value) (n j : Nat) (u : Value) : Obj.mapSeq (·.setIfInBounds j u) { cls := .type "list", data := .seq its.toArray n } = { cls := .type "list", data := .seq (its.set j u).toArray n } := by
  simp [Obj.mapSeq]
theorem Inv.lst {pins : List (Addr × Obj)} {σ : St} {H : Hp} {s : Shared} {p : Addr} {xs : List V} (I : Inv X pins σ H s) (h : H p = some (.lst xs)) :
    ∃ (its : List Value) (n : Nat), Vals xs its ∧ s.heap.get? p = some { cls := .type "list", data := .seq its.toArray n } ∧ xs.length ≤ sizeLine := by
  obtain ⟨z, its, n, r, e⟩ := I.hok p _ h
  exact ⟨its, n, r, e, z⟩
/-- the list at p is written by an update of its object -/
theorem Inv.lstUpd {pins : List (Addr × Obj)} {σ : St} {H : Hp} {s : Shared} {p : Addr} {xs ys : List V} {its its' : List Value} {n n' : Nat} {f : Obj → Obj} (I : Inv X pins σ H s) (h : H p = some (.lst xs))
    (ho : s.heap.get? p = some { cls := .type "list", data := .seq its.toArray n }) (hf : f { cls := .type "list", data := .seq its.toArray n } = { cls := .type "list", data := .seq its'.toArray n' }) (r : Vals ys its') (hz : ys.length ≤ sizeLine) (t : Nat) :
    Inv X pins σ (upd H p (.lst ys)) { s with heap := s.heap.update p f, toks := t } := by
  have e : (s.heap.update p f).get? p = some { cls := .type "list", data := .seq its'.toArray n' } := by
    rw [Heap.get?_update_self f ho (by rw [hf] <;> rfl), hf]
  refine I.write (x := p) (e := p) (by rw [h]; trivial) (.inl rfl) (fun b u hb q => (Heap.get?_update_other _ _ (Ne.symm hb)).trans q) ⟨_, e⟩ ?_
  exact ⟨hz, its', n', r, e⟩
def rSetL : V → V → V → Hp → (Hp → Prop) → Prop := fun o i v H Q => ∃ p xs k j, o = .ref p ∧ i = .int k ∧ H p = some (.lst xs) ∧ ixN xs.length k = some j ∧ Q (upd H p (.lst (xs.set j v)))
theorem set_list : PSet X rSetL := by
  intro pins s σ H o i v ov iv u Q I ro ri rv h
  obtain ⟨p, xs, k, j, rfl, rfl, hp, hj, q⟩ := h
  cases ro
  obtain ⟨t, rfl⟩ := ri
  obtain ⟨its, n, r, ho, hz⟩ := I.lst hp
  obtain ⟨h1, h2, h3, h4⟩ := ixN_seq hj
  have hl := r.length
  have hn := line63
  have I' : Inv X pins σ (upd H p (.lst (xs.set j v))) { s with heap := s.heap.update p (Obj.mapSeq (·.setIfInBounds j u)) } :=
    I.lstUpd hp ho (mapSeq_set its n j u) (r.set rv j) (by rw [List.length_set]; exact hz) s.toks
  by_cases h0 : 0 ≤ k
  · have hk : k.toNat = j := by
      rw [seqIndex_of h0 h4] at h1
      exact Option.some.inj h1
    exact PySem.W.ki_setAt ho h0 (by omega) (by rw [List.size_toArray, ← hl]; exact h4) (by rw [hk]; exact ⟨_, I', q⟩)
  · have hk : (k + (its.toArray.size : Int)).toNat = j := by
      rw [seqIndex_neg (by omega) h3] at h1
      rw [List.size_toArray, ← hl]
      exact Option.some.inj h1
    exact PySem.W.ki_setBack ho (by omega) (by rw [List.size_toArray, ← hl]; exact h3) (by omega) (by rw [hk]; exact ⟨_, I', q⟩)

/-! ### slices -/
theorem slice_bounds (lo hi : Option Int) (n : Nat) : (sliceBounds lo hi none n).1 = ((HT.sIx n 0 lo : Nat) : Int) ∧ (sliceBounds lo hi none n).2.1 = ((HT.sIx n n hi : Nat) : Int) ∧ (sliceBounds lo hi none n).2.2 = 1 := by
  refine ⟨?_, ?_, rfl⟩
  · cases lo with
    | none => simp [sliceBounds, HT.sIx]
    | some i =>
      simp only [sliceBounds, HT.sIx, Option.getD_none, show (1 : Int) > 0 by decide, if_true]
      by_cases h : i < 0
      · simp only [h, if_true] <;> omega
      · simp only [h, if_false] <;> omega
  · cases hi with
    | none => simp [sliceBounds, HT.sIx]
    | some i =>
      simp only [sliceBounds, HT.sIx, Option.getD_none, show (1 : Int) > 0 by decide, if_true]
      by_cases h : i < 0
      · simp only [h, if_true] <;> omega
      · simp only [h, if_false] <;> omega
theorem slicePick_cut (its : List Value) (lo hi : Option Int) : slicePick its.toArray lo hi none = ((its.drop (HT.sIx its.length 0 lo)).take (HT.sIx its.length its.length hi - HT.sIx its.length 0 lo)).toArray := by
  obtain ⟨h1, h2, h3⟩ := slice_bounds lo hi its.toArray.size
  unfold slicePick
  rw [h1, h2, h3]
  simp only [sliceRange_one, pick_run, List.size_toArray] <;> rfl
/-- xs[lo:hi] of a list: a new list -/
def rSlL (K : PySem.W.Frag) : V → Option Int → Option Int → Hp → VK → Prop := fun x lo hi H Q => ∃ a xs, x = .ref a ∧ SqL K H a xs ∧ ∀ p, H p = none → Q (.ref p) (upd H p (.lst (cutV xs lo hi)))
theorem sl_list : SlR X (rSlL X.K) := by
  intro pins s σ H x v vl vu lo hi sl Q I rx hs pl pu h
  obtain ⟨a, xs, rfl, hx, q⟩ := h
  cases rx
  obtain ⟨its, r, ht, hz⟩ := I.list hx
  have hlen := r.length
  refine ⟨"list", _, slot_list_getitem.lookup, ht.isList.typeIs, ?_⟩
  refine wpAny_getItem_list_slice ht.isList hs pl pu .none (by simp) ?_ (by rw [List.size_toArray] <;> omega)
  rw [slicePick_cut, ← hlen]
  refine ⟨.ref s.heap.objs.size, _, I.laid (t' := s.toks) (o := .lst (cutV xs lo hi)) (fun b ob q => Heap.get?_push_of_some _ q) (Nat.le_refl _) ?_, rfl, q _ (I.hok.fresh (Nat.le_refl _))⟩
  exact ⟨Nat.le_trans (cutV_length xs lo hi) hz, _, 0, (r.drop (HT.sIx xs.length 0 lo)).take (HT.sIx xs.length xs.length hi - HT.sIx xs.length 0 lo), Heap.get?_push_size _ rfl⟩

/-! ### in, not in: flat items -/
def flatV : V → Bool
  | .non => true
  | .bl _ => true
  | .int _ => true
  | .str _ => true
  | _ => false
/-- == of flat values -/
def eqV : V → V → Bool
  | .non, .non => true
  | .bl a, .bl b => a == b
  | .bl a, .int b => (if a then 1 else 0) == b
  | .int a, .bl b => a == (if b then 1 else 0)
  | .int a, .int b => a == b
  | .str a, .str b => a == b
  | _, _ => false
theorem eqAt_V {A : Around} {s : Shared} {y x : V} {u v : Value} (ry : RelV y u) (rx : RelV x v) (fy : flatV y = true) (fx : flatV x = true) : SeqAt.EqAt A s u v (eqV y x) := by
  cases y with
  | non =>
    cases ry
    cases x with
    | non => cases rx; exact SeqAt.EqAt.same _
    | bl b => cases rx; exact SeqAt.EqAt.none_bool b
    | int b => obtain ⟨t, rfl⟩ := rx; exact SeqAt.EqAt.none_int b t
    | str b => obtain ⟨t, rfl⟩ := rx; exact SeqAt.EqAt.none_str b t
    | _ => exact absurd (show false = true from fx) Bool.false_ne_true
  | bl a =>
    cases ry
    cases x with
    | non => cases rx; exact SeqAt.EqAt.bool_none a
    | bl b => cases rx; exact SeqAt.EqAt.bool_bool a b
    | int b => obtain ⟨t, rfl⟩ := rx; exact SeqAt.EqAt.bool_int a b t
    | str b => obtain ⟨t, rfl⟩ := rx; exact SeqAt.EqAt.bool_str a b t
    | _ => exact absurd (show false = true from fx) Bool.false_ne_true
  | int a =>
    obtain ⟨t', rfl⟩ := ry
    cases x with
    | non => cases rx; exact SeqAt.EqAt.int_none a t'
    | bl b => cases rx; exact SeqAt.EqAt.int_bool a t' b
    | int b => obtain ⟨t, rfl⟩ := rx; exact SeqAt.EqAt.int_int a t' b t
    | str b => obtain ⟨t, rfl⟩ := rx; exact SeqAt.EqAt.int_str a t' b t
    | _ => exact absurd (show false = true from fx) Bool.false_ne_true
  | str a =>
    obtain ⟨t', rfl⟩ := ry
    cases x with
    | non => cases rx; exact SeqAt.EqAt.str_none a t'
    | bl b => cases rx; exact SeqAt.EqAt.str_bool a t' b
    | int b => obtain ⟨t, rfl⟩ := rx; exact SeqAt.EqAt.str_int a t' b t
    | str b => obtain ⟨t, rfl⟩ := rx; exact SeqAt.EqAt.str_str a t' b t
    | _ => exact absurd (show false = true from fx) Bool.false_ne_true
  | _ => exact absurd (show false = true from fy) Bool.false_ne_true
/-- the items' answers, read off the values (a value's own answer does not lean on its token) -/
def eqU (x : V) (u : Value) : Bool := match u with
  | .none => eqV .non x
  | .bool b => eqV (.bl b) x
  | .int i _ => eqV (.int i) x
  | .str z _ => eqV (.str z) x
  | _ => false
theorem eqU_of {x y : V} {u : Value} (r : RelV y u) (f : flatV y = true) : eqU x u = eqV y x := by
  cases y with
  | non => cases r; rfl
  | bl b => cases r; rfl
  | int i => obtain ⟨t, rfl⟩ := r; rfl
  | str z => obtain ⟨t, rfl⟩ := r; rfl
  | _ => exact absurd (show false = true from f) Bool.false_ne_true
theorem any_eqU {x : V} : ∀ {xs : List V} {us : List Value}, Vals xs us → xs.all flatV = true → us.any (eqU x) = xs.any fun y => eqV y x
  | _, _, .nil, _ => rfl
  | y :: xs, u :: us, .cons r t, f => by
    rw [List.all_cons, Bool.and_eq_true] at f
    rw [List.any_cons, List.any_cons, eqU_of r f.1, any_eqU t f.2]
theorem mem_eqAt {A : Around} {s : Shared} {x : V} {v : Value} (rx : RelV x v) (fx : flatV x = true) : ∀ {xs : List V} {us : List Value}, Vals xs us → xs.all flatV = true → ∀ u ∈ us, SeqAt.EqAt A s u v (eqU x u)
  | _, _, .nil, _ => fun u hu => by cases hu
  | y :: xs, u :: us, .cons r t, f => fun u' hu => by
    rw [List.all_cons, Bool.and_eq_true] at f
    rcases List.mem_cons.mp hu with rfl | hu
    · rw [eqU_of r f.1]; exact eqAt_V r rx f.1 fx
    · exact mem_eqAt rx fx t f.2 u' hu
def inV (x : V) (xs : List V) : Bool := xs.any fun y => eqV y x
/-- x in a list or tuple of flat items -/
def rIn (K : PySem.W.Frag) (neg : Bool) : R2 := fun x y H Q => ∃ p xs, y = .ref p ∧ (SqL K H p xs ∨ SqT K H p xs) ∧ flatV x = true ∧ xs.all flatV = true ∧ Q (.bl (if neg then !inV x xs else inV x xs)) H
theorem op_in_seq : OpR X (compareOp .In) (rIn X.K false) := by
  intro pins s σ H x y v u Q I rx ry h
  obtain ⟨p, xs, rfl, hq, fx, fs, q⟩ := h
  cases ry
  rcases hq with hq | hq
  · obtain ⟨its, r, pl, hz⟩ := I.list hq
    refine SeqAt.in_listAt (eqU x) pl.isList (fun w hw => mem_eqAt rx fx r fs w (by simpa using hw)) ⟨.bl _, H, I, rfl, ?_⟩
    rw [show its.toArray.any (eqU x) = its.any (eqU x) by simp, any_eqU r fs]
    exact q
  · obtain ⟨its, r, pl, hz⟩ := I.tuple hq
    refine SeqAt.in_tupleAt (eqU x) pl (fun w hw => mem_eqAt rx fx r fs w (by simpa using hw)) ⟨.bl _, H, I, rfl, ?_⟩
    rw [show its.toArray.any (eqU x) = its.any (eqU x) by simp, any_eqU r fs]
    exact q
theorem op_notIn_seq : OpR X (compareOp .NotIn) (rIn X.K true) := by
  intro pins s σ H x y v u Q I rx ry h
  obtain ⟨p, xs, rfl, hq, fx, fs, q⟩ := h
  cases ry
  rcases hq with hq | hq
  · obtain ⟨its, r, pl, hz⟩ := I.list hq
    refine SeqAt.notIn_listAt (eqU x) pl.isList (fun w hw => mem_eqAt rx fx r fs w (by simpa using hw)) ⟨.bl _, H, I, rfl, ?_⟩
    rw [show its.toArray.any (eqU x) = its.any (eqU x) by simp, any_eqU r fs]
    exact q
  · obtain ⟨its, r, pl, hz⟩ := I.tuple hq
    refine SeqAt.notIn_tupleAt (eqU x) pl (fun w hw => mem_eqAt rx fx r fs w (by simpa using hw)) ⟨.bl _, H, I, rfl, ?_⟩
    rw [show its.toArray.any (eqU x) = its.any (eqU x) by simp, any_eqU r fs]
    exact q
theorem op_notIn_str : OpR X (compareOp .NotIn) (fun x y H Q => ∃ i j, x = .str i ∧ y = .str j ∧ Q (.bl (!(!(Builtin.Str.occurrences j i 0 j.length 1).isEmpty))) H) := by
  intro pins s σ H x y v u Q I rx ry h
  obtain ⟨i, j, rfl, rfl, q⟩ := h
  obtain ⟨t, rfl⟩ := rx
  obtain ⟨t', rfl⟩ := ry
  exact notIn_str ⟨.bl _, H, I, rfl, q⟩

/-! ### len, list(x), tuple(x) of any list or tuple that is read -/
theorem call_len_seq : CallR X (.builtin "len") (fun xs H Q => ∃ p ys, xs = [.ref p] ∧ (SqL X.K H p ys ∨ SqT X.K H p ys) ∧ Q (.int ys.length) H) := by
  intro pins s σ H xs us Q I r h
  obtain ⟨p, ys, rfl, hq, q⟩ := h
  obtain ⟨u, rfl, rx⟩ := vals1 r
  cases rx
  have hn := line63
  rcases hq with hq | hq
  · obtain ⟨its, r', pl, hz⟩ := I.list hq
    have hlen := r'.length
    exact Calls.call_len_list pl.isList (by simp only [List.size_toArray] <;> omega) ⟨.int ys.length, H, I.tok _, ⟨s.toks + 1, by rw [List.size_toArray, hlen]⟩, q⟩
  · obtain ⟨its, r', pl, hz⟩ := I.tuple hq
    have hlen := r'.length
    exact len_tuple pl (by simp only [List.size_toArray] <;> omega) ⟨.int ys.length, H, I.tok _, ⟨s.toks + 1, by rw [List.size_toArray, hlen]⟩, q⟩
theorem call_len_str : CallR X (.builtin "len") (fun xs H Q => ∃ z, xs = [.str z] ∧ z.length ≤ sizeLine ∧ Q (.int z.length) H) := by
  intro pins s σ H xs us Q I r h
  obtain ⟨z, rfl, hz, q⟩ := h
  obtain ⟨u, rfl, t, rfl⟩ := vals1 r
  have hn := line63
  exact len_str (by omega) ⟨.int z.length, H, I.tok _, ⟨_, rfl⟩, q⟩
theorem call_list_of : CallR X (.type "list") (fun xs H Q => ∃ p ys, xs = [.ref p] ∧ (SqL X.K H p ys ∨ SqT X.K H p ys) ∧ ∀ l, H l = none → Q (.ref l) (upd H l (.lst ys))) := by
  intro pins s σ H xs us Q I r h
  obtain ⟨p, ys, rfl, hq, q⟩ := h
  obtain ⟨u, rfl, rx⟩ := vals1 r
  cases rx
  have fin : ∀ (its : List Value), Vals ys its → ys.length ≤ sizeLine → ∀ (h' : Heap) (c' : Nat), (∀ b o', s.heap.get? b = some o' → h'.get? b = some o') →
      h'.get? s.heap.objs.size = some { cls := .type "list", dict := none, data := .seq its.toArray c', slots := #[] } → EP X pins σ Q (.ref s.heap.objs.size) { s with heap := h' } := fun its r' hz h' c' kp e =>
    ⟨.ref s.heap.objs.size, _, I.laid (t' := s.toks) kp (Nat.le_refl _) (show ObjOk X.prog X.w _ h' _ (.lst ys) from ⟨hz, its, c', r', e⟩), rfl, q _ (I.hok.fresh (Nat.le_refl _))⟩
  rcases hq with hq | hq
  · obtain ⟨its, r', pl, hz⟩ := I.list hq
    have hlen := r'.length
    obtain ⟨o, ho, hc, n, hd⟩ := pl.isList
    exact call_list_seq p (.inl rfl) ho hc hd (fun h' c' kp e => fin its r' hz h' c' kp e) (by simp only [List.size_toArray] <;> omega)
  · obtain ⟨its, r', pl, hz⟩ := I.tuple hq
    have hlen := r'.length
    obtain ⟨o, ho, hc, n, hd⟩ := pl
    exact call_list_seq p (.inr rfl) ho hc hd (fun h' c' kp e => fin its r' hz h' c' kp e) (by simp only [List.size_toArray] <;> omega)
theorem call_tuple_of : CallR X (.type "tuple") (fun xs H Q => ∃ p ys, xs = [.ref p] ∧ ((SqL X.K H p ys ∧ ∀ l, H l = none → Q (.ref l) (upd H l (.tup ys))) ∨ (SqT X.K H p ys ∧ Q (.ref p) H))) := by
  intro pins s σ H xs us Q I r h
  obtain ⟨p, ys, rfl, h⟩ := h
  obtain ⟨u, rfl, rx⟩ := vals1 r
  cases rx
  rcases h with ⟨hq, q⟩ | ⟨hq, q⟩
  · obtain ⟨its, r', pl, hz⟩ := I.list hq
    have hlen := r'.length
    refine call_tuple_list pl.isList (fun h' kp => ?_) (by simp only [List.size_toArray] <;> omega)
    have I1 : Inv X pins σ H { s with heap := h' } := I.kept (t' := s.toks) kp
    have I2 : Inv X pins σ (upd H h'.objs.size (.tup ys)) { s with heap := h'.push { cls := .type "tuple", data := .seq its.toArray } } :=
      I1.laid (t' := s.toks) (fun b o e => Heap.get?_push_of_some _ e) (Nat.le_refl _) (show ObjOk X.prog X.w _ _ _ (.tup ys) from ⟨hz, its, r', IsTup.new _ _⟩)
    exact ⟨.ref h'.objs.size, _, I2, rfl, q _ (I1.hok.fresh (Nat.le_refl _))⟩
  · obtain ⟨its, r', pl, hz⟩ := I.tuple hq
    exact call_tuple_same pl ⟨.ref p, H, I, rfl, q⟩

/-! ### the call of a builtin's method: o.m(..) -/
/-- the value is of that builtin type -/
def tyV (K : PySem.W.Frag) (T : String) (x : V) (H : Hp) : Prop := match x with
  | .str _ => T = "str"
  | .int _ => T = "int"
  | .ref p => (T = "list" ∧ ∃ xs, SqL K H p xs) ∨ (T = "tuple" ∧ ∃ o, K.lookup p = some o ∧ o.cls = .type "tuple" ∧ o.dict = none) ∨
      (T = "dict" ∧ ((∃ kvs, H p = some (.dK kvs)) ∨ ∃ kvs, H p = some (.dT kvs))) ∨ (T = "set" ∧ ∃ S n, H p = some (.set S n))
  | _ => False
theorem tyV_is {pins : List (Addr × Obj)} {σ : St} {H : Hp} {s : Shared} {T : String} {x : V} {v : Value} (I : Inv X pins σ H s) (r : RelV x v) (ty : tyV X.K T x H) :
    s.TypeIs v T ∧ ∀ a, v = .ref a → ∃ ob, s.heap.get? a = some ob ∧ ob.dict = none := by
  cases x with
  | str z =>
    obtain ⟨t, rfl⟩ := r
    cases (show T = "str" from ty)
    exact ⟨typeIs_str s z t, fun _ e => nomatch e⟩
  | int i =>
    obtain ⟨t, rfl⟩ := r
    cases (show T = "int" from ty)
    exact ⟨typeIs_int s i t, fun _ e => nomatch e⟩
  | ref p =>
    cases r
    rcases ty with ⟨rfl, xs, hq⟩ | ⟨rfl, o, hk, hc, hd⟩ | ⟨rfl, hk⟩ | ⟨rfl, S, n, hk⟩
    · obtain ⟨its, _, pl, _⟩ := I.list hq
      refine ⟨pl.isList.typeIs, fun a e => ?_⟩
      cases e
      obtain ⟨o, n, e, c, hd, _⟩ := pl
      exact ⟨o, e, hd⟩
    · refine ⟨⟨o, I.kIn p o hk, hc⟩, fun a e => ?_⟩
      cases e
      exact ⟨o, I.kIn _ o hk, hd⟩
    · have z : ∃ o, s.heap.get? p = some o ∧ o.ExactDict := by
        rcases hk with ⟨kvs, hk⟩ | ⟨kvs, hk⟩
        · obtain ⟨_, _, _, _, o, _, _, e, ex, _⟩ := I.hok p _ hk
          exact ⟨o, e, ex⟩
        · obtain ⟨_, _, _, _, o, _, _, e, ex, _⟩ := I.hok p _ hk
          exact ⟨o, e, ex⟩
      obtain ⟨o, e, ex⟩ := z
      refine ⟨⟨o, e, ex.1⟩, fun a e2 => ?_⟩
      cases e2
      exact ⟨o, e, ex.2.1⟩
    · obtain ⟨o, _, _, _, e, ex, _⟩ := I.hok p _ hk
      refine ⟨⟨o, e, ex.1⟩, fun a e2 => ?_⟩
      cases e2
      exact ⟨o, e, ex.2.1⟩
  | _ => exact False.elim ty
def tBM0 (K : PySem.W.Frag) (T : String) (r : V → List V → Hp → VK → Prop) (to : TE) : TE := fun σ H Q => to σ H fun x H1 => tyV K T x H1 ∧ r x [] H1 Q
def tBM (K : PySem.W.Frag) (T : String) (r : V → List V → Hp → VK → Prop) (to : TE) (t : TA) : TE := fun σ H Q => to σ H fun x H1 => tyV K T x H1 ∧ t σ H1 fun xs H2 => r x xs H2 Q
variable {o e : Expr} {es : List Expr} {to : TE} {t : TA} {name : Str} {apos cpos : Pos} {T id : String} {r : V → List V → Hp → VK → Prop}
theorem pe_bm0 (pa : PlainAttrs T) (slot : Slot T name id) (hty : typeOf (.builtin id) = pure (.type "method_descriptor")) (hm : MtR X id r) (ho : PE X o to)
    (hbase : attributeBase o name X.env (eval o X.env) = eval o X.env := by rfl) (hline : (apos.endLine == cpos.line) = true := by rfl) : PE X (.Call (.Attribute o name apos) [] [] cpos) (tBM0 X.K T r to) := by
  intro pins s σ H Q I h
  refine wpAny_Call_method0_late hbase hline (thn (ho pins s σ H _ I h) fun v s1 ⟨x, H1, I1, r1, ty, q1⟩ => ?_)
  obtain ⟨h1, h2⟩ := tyV_is I1 r1 ty
  exact ⟨T, id, pa, slot, hty, h1, h2, Calls.callWith_builtin rfl (PySem.evalArgs_none (hm pins s1 σ H1 x [] v [] Q I1 r1 .nil q1))⟩
theorem pe_bm (pa : PlainAttrs T) (slot : Slot T name id) (hty : typeOf (.builtin id) = pure (.type "method_descriptor")) (hm : MtR X id r) (ho : PE X o to) (ha : PA X (e :: es) t)
    (hbase : attributeBase o name X.env (eval o X.env) = eval o X.env := by rfl)
    (hfew : ((backTo cpos (starEach (e :: es) X.env)).all (fun x => !x.1) && (backToKw cpos (keywordEach [] X.env)).all (fun x => x.1.isSome)
      && decide ((e :: es).length + ([] : List Keyword).length + (if ([] : List Keyword).isEmpty then 0 else 1) < 30)) = true := by rfl)
    (hline : (apos.endLine == cpos.line) = true := by rfl) (hs : starEach (e :: es) X.env = (false, eval e X.env) :: starEach es X.env := by rfl) (hplain : (backTo cpos (starEach es X.env)).any (·.1) = false := by rfl) :
    PE X (.Call (.Attribute o name apos) (e :: es) [] cpos) (tBM X.K T r to t) := by
  intro pins s σ H Q I h
  refine wpAny_Call_method_late hbase hfew hline rfl (thn (ho pins s σ H _ I h) fun v s1 ⟨x, H1, I1, r1, ty, q1⟩ => ?_)
  obtain ⟨h1, h2⟩ := tyV_is I1 r1 ty
  refine ⟨T, id, pa, slot, hty, h1, h2, ?_⟩
  have hA := ha cpos pins s1 σ H1 _ I1 q1
  rw [hs] at hA ⊢
  refine Calls.callWith_builtin (by show (false || (backTo cpos (starEach es X.env)).any (·.1)) = false; rw [hplain] <;> rfl) (Calls.evalArgs_plain ?_)
  exact thn hA fun us s2 ⟨vs, H2, I2, r2, q2⟩ => hm pins s2 σ H2 x vs v us Q I2 r1 r2 q2
/- xs.append(e), list.index on a module's tuple .. are MtR facts of 06m -/
end
end L2

namespace L2
open PySem PySem.Spec PyProof.Rows

def MtM (X : Cx) (id : String) (r : V → List V → Hp → VK → Prop) : Prop :=
  ∀ (pins : List (Addr × Obj)) (s : Shared) (σ : St) (H : Hp) (x : V) (xs : List V) (v : Value) (us : List Value) (Q : VK), Inv X pins σ H s → RelV x v → Vals xs us → r x xs H Q →
    wpAny (model X.prog X.w) X.A (call (.builtin id) (v :: us)) (EP X pins σ Q) X.xe s

/-! ### lists of values -/
theorem Vals.one : ∀ {x : V} {us : List Value}, Vals [x] us → ∃ u, us = [u] ∧ RelV x u
  | _, _, .cons r .nil => ⟨_, rfl, r⟩
theorem Vals.zero : ∀ {us : List Value}, Vals [] us → us = []
  | _, .nil => rfl
theorem Vals.dropLast {xs : List V} {us : List Value} (h : Vals xs us) : Vals xs.dropLast us.dropLast := by
  induction h with
  | nil => exact .nil
  | cons r t ih =>
    cases t with
    | nil => exact .nil
    | cons q t' => exact .cons r ih
theorem erase_last {α : Type} (l : List α) : l.eraseIdx (l.length - 1) = l.dropLast := by
  induction l with
  | nil => rfl
  | cons a r ih =>
    cases r with
    | nil => rfl
    | cons b r =>
      have e : (a :: b :: r).length - 1 = ((b :: r).length - 1) + 1 := by
        have h1 : (a :: b :: r).length = r.length + 2 := rfl
        have h2 : (b :: r).length = r.length + 1 := rfl
        omega
      rw [e, List.eraseIdx_cons_succ, ih]
      all_goals rfl
section
variable {X : Cx} {pins : List (Addr × Obj)} {σ : St} {H : Hp} {s : Shared} {l b : Addr} {xs ys zs : List V}

/-! ### the two steps: a tracked list is rewritten, a new list is laid -/
theorem Inv.lset {its its' : List Value} {n : Nat} {f : Array Value → Array Value} {t' : Nat} (I : Inv X pins σ H s) (hH : H l = some (.lst xs))
    (e : s.heap.get? l = some { cls := .type "list", data := .seq its.toArray n }) (hf : f its.toArray = its'.toArray) (hv : Vals ys its') (hz : ys.length ≤ sizeLine) :
    Inv X pins σ (upd H l (.lst ys)) { s with heap := s.heap.update l (Obj.mapSeq f), toks := t' } := by
  have q := PySem.IsL.update e f
  rw [hf] at q
  refine I.write (x := l) (e := l) (by rw [hH]; exact trivial) (.inl rfl) (fun b' u hb hu => (Heap.get?_update_other s.heap (Obj.mapSeq f) (Ne.symm hb)).trans hu) ⟨_, q⟩ ?_
  exact ⟨hz, its', _, hv, q⟩
theorem Inv.lnew {its : List Value} {t' : Nat} (I : Inv X pins σ H s) (hv : Vals ys its) (hz : ys.length ≤ sizeLine) :
    Inv X pins σ (upd H s.heap.objs.size (.lst ys)) { s with heap := s.heap.push { cls := .type "list", data := .seq its.toArray }, toks := t' } :=
  I.laid (fun _ _ q => Heap.get?_push_of_some _ q) (Nat.le_refl _) ⟨hz, its, 0, hv, Heap.get?_push_size _ rfl⟩
theorem Inv.fresh (I : Inv X pins σ H s) : H s.heap.objs.size = none := I.hok.fresh (Nat.le_refl _)
theorem Inv.lstM (I : Inv X pins σ H s) (hH : H l = some (.lst xs)) : xs.length ≤ sizeLine ∧ ∃ (its : List Value) (n : Nat), Vals xs its ∧ xs.length = its.length ∧ s.heap.get? l = some { cls := .type "list", data := .seq its.toArray n } := by
  obtain ⟨z, its, n, r, e⟩ := I.hok l _ hH
  exact ⟨z, its, n, r, r.length, e⟩

end

section
variable {X : Cx}

/-! ### methods -/
def rAppend : V → List V → Hp → VK → Prop := fun x vs H Q => ∃ l xs y, x = .ref l ∧ vs = [y] ∧ H l = some (.lst xs) ∧ xs.length < sizeLine ∧ Q .non (upd H l (.lst (xs ++ [y])))
theorem mt_append : MtM X "list.append" rAppend := by
  intro pins s σ H x vs v us Q I rx rv h
  obtain ⟨l, xs, y, rfl, rfl, hH, hz, q⟩ := h
  cases rx
  obtain ⟨u, rfl, ru⟩ := rv.one
  obtain ⟨z, its, n, r, hl, e⟩ := I.lstM hH
  refine call_meets F.slot_list_append ⟨_, e, rfl⟩ F.entry_list_append (F.args_list_append_2 _ _) (PySem.list_append l its.toArray n u (by rw [List.size_toArray]; omega)) ⟨e, ?_⟩
  refine ⟨.non, _, I.lset (its' := its ++ [u]) hH e (by simp) (r.append (.cons ru .nil)) ?_, rfl, q⟩
  rw [List.length_append, List.length_singleton]
  omega

def rPop : V → List V → Hp → VK → Prop := fun x vs H Q => ∃ l xs y, x = .ref l ∧ vs = [] ∧ H l = some (.lst xs) ∧ xs[xs.length - 1]? = some y ∧ Q y (upd H l (.lst xs.dropLast))
theorem mt_pop : MtM X "list.pop" rPop := by
  intro pins s σ H x vs v us Q I rx rv h
  obtain ⟨l, xs, y, rfl, rfl, hH, hy, q⟩ := h
  cases rx
  have hus := rv.zero
  subst hus
  obtain ⟨z, its, n, r, hl, e⟩ := I.lstM hH
  obtain ⟨u, hu, ru⟩ := r.get hy
  have hy' : its.toArray[its.toArray.size - 1]? = some u := by
    show its.toArray[its.length - 1]? = some u
    rw [← Array.getElem?_toList, ← hl]
    exact hu
  refine call_meets F.slot_list_pop ⟨_, e, rfl⟩ F.entry_list_pop (F.args_list_pop_1 _) (MeetsSeq.list_pop_last l its.toArray n u hy' (by rw [List.size_toArray]; omega)) ⟨e, ?_⟩
  refine ⟨y, _, I.lset (its' := its.dropLast) hH e ?_ r.dropLast ?_, ru, q⟩
  · show its.toArray.eraseIdxIfInBounds (its.toArray.size - 1) = its.dropLast.toArray
    rw [List.size_toArray, List.eraseIdxIfInBounds_toArray, erase_last]
  · rw [List.length_dropLast]
    omega

def rClear : V → List V → Hp → VK → Prop := fun x vs H Q => ∃ l xs, x = .ref l ∧ vs = [] ∧ H l = some (.lst xs) ∧ Q .non (upd H l (.lst []))
theorem mt_clear : MtM X "list.clear" rClear := by
  intro pins s σ H x vs v us Q I rx rv h
  obtain ⟨l, xs, rfl, rfl, hH, q⟩ := h
  cases rx
  have hus := rv.zero
  subst hus
  obtain ⟨z, its, n, r, hl, e⟩ := I.lstM hH
  refine call_meets F.slot_list_clear ⟨_, e, rfl⟩ F.entry_list_clear (F.args_list_clear_1 _) (AutoSeq1.list_clear_list_0 l its.toArray n (by rw [List.size_toArray]; omega)) ⟨e, ?_⟩
  exact ⟨.non, _, I.lset (its' := []) (ys := []) hH e rfl .nil (Nat.zero_le _), rfl, q⟩

/-! ### list + list, list += list, list * int -/
def rCat : R2 := fun x y H Q => ∃ l b xs zs, x = .ref l ∧ y = .ref b ∧ H l = some (.lst xs) ∧ H b = some (.lst zs) ∧ xs.length + zs.length ≤ sizeLine ∧ ∀ p, H p = none → Q (.ref p) (upd H p (.lst (xs ++ zs)))
theorem op_cat : OpR X (binaryOp .Add) rCat := by
  intro pins s σ H x y v u Q I rx ry h
  obtain ⟨l, b, xs, zs, rfl, rfl, hH, hB, hz, q⟩ := h
  cases rx
  cases ry
  obtain ⟨z, its, n, r, hl, e⟩ := I.lstM hH
  obtain ⟨z2, its2, n2, r2, hl2, e2⟩ := I.lstM hB
  refine PySem.P.add_list e e2 ?_ (by rw [List.size_toArray, List.size_toArray]; omega)
  have ea : its.toArray ++ its2.toArray = (its ++ its2).toArray := by simp
  rw [ea]
  exact ⟨.ref _, _, I.lnew (t' := s.toks) (r.append r2) (by rw [List.length_append]; omega), rfl, q _ I.fresh⟩
/-! ### del xs[i] -/
end

/-! ### xs[a:b] = ys -/
section
variable {prog : Program} {w : World} {A : Around} {E : Value → Shared → Prop} {s : Shared}
set_option maxRecDepth 100000 in
end

section
variable {X : Cx}
end
end L2

namespace L2
open PySem PySem.Spec PyProof.Rows

/-! ### lists of pairs as tables -/
section
variable {κ : Type} [DecidableEq κ]
def valV (kvs : List (κ × V)) (k : κ) : Option V := (kvs.find? fun kv => decide (kv.1 = k)).map (·.2)
/-- in its place, or at the end -/
def putK (kvs : List (κ × V)) (k : κ) (v : V) : List (κ × V) :=
  if (kvs.any fun kv => decide (kv.1 = k)) = true then kvs.map (fun kv => if kv.1 = k then (kv.1, v) else kv) else kvs ++ [(k, v)]
theorem valV_pos {p : κ × V} {r : List (κ × V)} {k : κ} (e : p.1 = k) : valV (p :: r) k = some p.2 := by simp [valV, List.find?_cons, e]
theorem valV_neg {p : κ × V} {r : List (κ × V)} {k : κ} (e : ¬ p.1 = k) : valV (p :: r) k = valV r k := by simp [valV, List.find?_cons, e]
theorem valV_any (k : κ) : ∀ kvs : List (κ × V), (kvs.any fun kv => decide (kv.1 = k)) = (valV kvs k).isSome
  | [] => rfl
  | p :: r => by
    rw [List.any_cons]
    by_cases e : p.1 = k
    · simp only [valV_pos e, decide_eq_true e, Bool.true_or, Option.isSome_some]
    · rw [valV_neg e, decide_eq_false e, Bool.false_or]; exact valV_any k r
theorem length_putK (kvs : List (κ × V)) (k : κ) (v : V) : (putK kvs k v).length ≤ kvs.length + 1 := by
  unfold putK
  split
  · rw [List.length_map]; omega
  · rw [List.length_append, List.length_cons, List.length_nil]; omega
theorem putK_new {kvs : List (κ × V)} {k : κ} (v : V) (h : valV kvs k = none) : putK kvs k v = kvs ++ [(k, v)] := by
  unfold putK
  rw [valV_any, h]
  exact if_neg (by decide)

theorem RelO.isSome_eq {o : Option V} {u : Option Value} (r : RelO o u) : o.isSome = u.isSome := by
  cases o with
  | none => cases u with
    | none => rfl
    | some _ => exact (show False from r).elim
  | some _ => cases u with
    | none => exact (show False from r).elim
    | some _ => rfl
theorem KV.any {kvs : List (κ × V)} {vs : List (κ × Value)} (r : KV kvs vs) (k : κ) : (kvs.any fun kv => decide (kv.1 = k)) = vs.any fun kv => decide (kv.1 = k) := by
  unfold KV at r
  induction r with
  | nil => rfl
  | cons h t ih => rw [List.any_cons, List.any_cons, ih, h.1]
theorem KV.repl {kvs : List (κ × V)} {vs : List (κ × Value)} (r : KV kvs vs) (k : κ) {y : V} {u : Value} (ry : RelV y u) :
    KV (kvs.map fun kv => if kv.1 = k then (kv.1, y) else kv) (vs.map fun kv => if kv.1 = k then (kv.1, u) else kv) := by
  unfold KV at r ⊢
  induction r with
  | nil => exact .nil
  | @cons p q ps qs h t ih =>
    rw [List.map_cons, List.map_cons]
    refine .cons ?_ ih
    obtain ⟨h1, h2⟩ := h
    by_cases e : p.1 = k
    · rw [if_pos e, if_pos (h1.symm.trans e)]; exact ⟨h1, ry⟩
    · rw [if_neg e, if_neg (fun z => e (h1.trans z))]; exact ⟨h1, h2⟩
theorem KV.put {kvs : List (κ × V)} {vs : List (κ × Value)} (r : KV kvs vs) (k : κ) {y : V} {u : Value} (ry : RelV y u) : KV (putK kvs k y) (stored vs k u) := by
  unfold putK stored
  rw [r.any k]
  by_cases e : (vs.any fun kv => decide (kv.1 = k)) = true
  · rw [if_pos e, if_pos e]; exact r.repl k ry
  · rw [if_neg e, if_neg e]; exact Paired.snoc r ⟨rfl, ry⟩
theorem KV.length {kvs : List (κ × V)} {vs : List (κ × Value)} (r : KV kvs vs) : kvs.length = vs.length := Paired.length r
end


/-! ### a tracked dict, its keys ints and texts or tuples of these -/
theorem kV_is {P : Program} {w : World} {k : Key} {u : Value} (r : RelV (kV k) u) : (mixKind P w).is k u = true := by
  cases k with
  | inl i => obtain ⟨t, e⟩ := (show ∃ t, u = Value.int i t from r); subst e; exact mixKind_int P w i t
  | inr x => obtain ⟨t, e⟩ := (show ∃ t, u = Value.str x t from r); subst e; exact mixKind_str P w x t
theorem items_are {P : Program} {w : World} : ∀ {ks : List Key} {us : List Value}, Vals (ks.map kV) us → ItemsAre (mixKind P w) ks us
  | [], _, r => by rw [List.map_nil] at r; cases r; exact .nil
  | k :: ks, _, r => by
    rw [List.map_cons] at r
    cases r with
    | cons h t => exact .cons (kV_is h) (items_are t)

/-- raw entries of a dict with tuple keys -/
abbrev KT (H : Hp) : List (List Key × V) → List (List Key × Addr × Value) → Prop := Paired fun p q => p.1 = q.1 ∧ H q.2.1 = some (.tup (p.1.map kV)) ∧ RelV p.2 q.2.2
theorem KT.val {H : Hp} {kvs : List (List Key × V)} {xs : List (List Key × Addr × Value)} (r : KT H kvs xs) (k : List Key) : RelO (valV kvs k) ((atKey xs k).map (·.2)) := by
  induction r with
  | nil => exact True.intro
  | @cons p q ps qs h t ih =>
    obtain ⟨h1, _, h2⟩ := h
    by_cases e : p.1 = k
    · have e' : q.1 = k := h1.symm.trans e
      have b : atKey (q :: qs) k = some q.2 := by simp [atKey, List.find?_cons, e']
      rw [valV_pos e, b]; exact h2
    · have e' : ¬ q.1 = k := fun z => e (h1.trans z)
      have b : atKey (q :: qs) k = atKey qs k := by simp [atKey, List.find?_cons, e']
      rw [valV_neg e, b]; exact ih
theorem KT.repl {H : Hp} {kvs : List (List Key × V)} {xs : List (List Key × Addr × Value)} (r : KT H kvs xs) (k : List Key) {y : V} {u : Value} (ry : RelV y u) :
    KT H (kvs.map fun kv => if kv.1 = k then (kv.1, y) else kv) (xs.map (putAt k u)) := by
  induction r with
  | nil => exact .nil
  | @cons p q ps qs h t ih =>
    rw [List.map_cons, List.map_cons]
    refine .cons ?_ ih
    obtain ⟨h1, h2, h3⟩ := h
    unfold putAt
    by_cases e : p.1 = k
    · rw [if_pos e, if_pos (h1.symm.trans e)]; exact ⟨h1, h2, ry⟩
    · rw [if_neg e, if_neg (fun z => e (h1.trans z))]; exact ⟨h1, h2, h3⟩
theorem KT.put {H : Hp} {kvs : List (List Key × V)} {xs : List (List Key × Addr × Value)} (r : KT H kvs xs) (k : List Key) {b : Addr} {y : V} {u : Value} (hb : H b = some (.tup (k.map kV))) (ry : RelV y u) :
    KT H (putK kvs k y) (storedH xs k b u) := by
  have e : (kvs.any fun kv => decide (kv.1 = k)) = (atKey xs k).isSome := by
    rw [valV_any, (r.val k).isSome_eq, Option.isSome_map]
  unfold putK storedH
  rw [e]
  by_cases q : (atKey xs k).isSome = true
  · rw [if_pos q, if_pos q]; exact r.repl k ry
  · rw [if_neg q, if_neg q]; exact Paired.snoc r ⟨rfl, hb, ry⟩
theorem KT.keeps {H H' : Hp} {kvs : List (List Key × V)} {xs : List (List Key × Addr × Value)} (r : KT H kvs xs) (ht : ∀ b ys, H b = some (.tup ys) → H' b = some (.tup ys)) : KT H' kvs xs :=
  Paired.mapP r fun _ _ z => ⟨z.1, ht _ _ z.2.1, z.2.2⟩

section
variable {P : Program} {w : World} {H : Hp} {h : Heap} {a : Addr}
theorem rd_of {u : HO} (ok : HOk P w H h) (e : Rd H a u) : ObjOk P w H h a u := e.ok ok
theorem dk_rd {kvs : List (Key × V)} (ok : HOk P w H h) (e : Rd H a (.dK kvs)) : kvs.length ≤ sizeLine ∧ (a == sysModules) = false ∧ ∃ vs, KV kvs vs ∧ h.DictOf (mixKind P w) a vs :=
  show ObjOk P w H h a (.dK kvs) from rd_of ok e
theorem dk_of {kvs : List (Key × V)} (ok : HOk P w H h) (e : H a = some (.dK kvs)) : kvs.length ≤ sizeLine ∧ (a == sysModules) = false ∧ ∃ vs, KV kvs vs ∧ h.DictOf (mixKind P w) a vs := dk_rd ok (.inl e)
/-- a tracked tuple of ints and texts is a key -/
theorem key_of {ks : List Key} (ok : HOk P w H h) (e : H a = some (.tup (ks.map kV))) : (tupleKind (mixKind P w)).is h ks a := by
  obtain ⟨_, its, r, o, h1, h2, n, h3⟩ := (show ObjOk P w H h a (.tup (ks.map kV)) from ok a _ e)
  exact ⟨o, its.toArray, n, h1, h2, h3, by simpa using items_are r⟩
theorem dt_rd {kvs : List (List Key × V)} (ok : HOk P w H h) (e : Rd H a (.dT kvs)) : kvs.length ≤ sizeLine ∧ (a == sysModules) = false ∧
    ∃ xs, KT H kvs xs ∧ h.DictOfH (tupleKind (mixKind P w)) a xs := by
  obtain ⟨z, y, xs, r, o, es, ep, h1, h2, h3, h4, h5⟩ := (show ObjOk P w H h a (.dT kvs) from rd_of ok e)
  refine ⟨z, y, xs, r, o, es, ep, h1, h2, h3, h4, fun x hx => ?_, h5⟩
  have all : ∀ {l : List (List Key × V)} {m : List (List Key × Addr × Value)}, KT H l m → ∀ x ∈ m, (tupleKind (mixKind P w)).is h x.1 x.2.1 := by
    intro l m q
    induction q with
    | nil => intro x hx; exact nomatch hx
    | @cons p q ps qs hq t ih =>
      intro x hx
      rcases List.mem_cons.mp hx with e | hx
      · subst e
        exact key_of ok (by rw [← hq.1]; exact hq.2.1)
      · exact ih x hx
  exact all r x hx
theorem dt_of {kvs : List (List Key × V)} (ok : HOk P w H h) (e : H a = some (.dT kvs)) : kvs.length ≤ sizeLine ∧ (a == sysModules) = false ∧
    ∃ xs, KT H kvs xs ∧ h.DictOfH (tupleKind (mixKind P w)) a xs := dt_rd ok (.inl e)
end

/-- the heap behind a[y] = v -/
def DPut (H : Hp) (a : Addr) (y v : V) (H' : Hp) : Prop :=
  (∃ kvs k, H a = some (.dK kvs) ∧ y = kV k ∧ kvs.length < sizeLine ∧ H' = upd H a (.dK (putK kvs k v))) ∨
  ∃ kvs k b, H a = some (.dT kvs) ∧ y = .ref b ∧ H b = some (.tup (k.map kV)) ∧ kvs.length < sizeLine ∧ H' = upd H a (.dT (putK kvs k v))
theorem DPut.k {H : Hp} {a : Addr} {kvs : List (Key × V)} {k : Key} {v : V} (e : H a = some (.dK kvs)) (hl : kvs.length < sizeLine) : DPut H a (kV k) v (upd H a (.dK (putK kvs k v))) := .inl ⟨kvs, k, e, rfl, hl, rfl⟩
section
variable {X : Cx} {pins : List (Addr × Obj)} {σ : St} {H : Hp} {s : Shared} {a : Addr} {y v : V} {u r : Value} {o : Option V} {A : Around} {E : Value → Shared → Prop}

theorem Inv.big (I : Inv X pins σ H s) : sysModules < s.heap.objs.size := by
  have h : mainGlobals < s.heap.objs.size := (I.mod.glob.keeps I.bk).lt
  exact Nat.lt_trans (by decide) h

/-- a dict's object is replaced -/
theorem d_write {h' : Heap} {t' : Nat} {ob : HO} (I : Inv X pins σ H s) (mu : Mut (H a)) (hs : Heap.SameBut a s.heap h') (he : ∃ q, h'.get? a = some q) (new : ObjOk X.prog X.w (upd H a ob) h' a ob) :
    Inv X pins σ (upd H a ob) { s with heap := h', toks := t' } :=
  I.write (x := a) (e := a) mu (.inl rfl) (fun b q hb z => (hs.2 b hb).trans z) he new
theorem dk_new {P : Program} {w : World} {H' : Hp} {h' : Heap} {kvs : List (Key × V)} {vs : List (Key × Value)} (z : kvs.length ≤ sizeLine) (hd : (a == sysModules) = false) (rel : KV kvs vs) (dd : h'.DictOf (mixKind P w) a vs) :
    ObjOk P w H' h' a (.dK kvs) := ⟨z, hd, vs, rel, dd⟩
/-- d[y] = v -/
theorem d_setItem {H' : Hp} {Q : Unit → Shared → Prop} (hu : A.units + 1 < cLine) (I : Inv X pins σ H s) (g : DPut H a y v H') (ry : RelV y u) (rv : RelV v r) (h : ∀ s', Inv X pins σ H' s' → Q () s') :
    wpAny (model X.prog X.w) A (setItem (.ref a) u r) Q E s := by
  rcases g with ⟨kvs, k, e, ey, l, eH⟩ | ⟨kvs, k, b, e, ey, eb, l, eH⟩
  · subst ey eH
    obtain ⟨z, hd, vs, rel, dd⟩ := dk_of I.hok e
    have hz : vs.length ≤ sizeLine := by rw [← rel.length]; exact z
    have hl : (putK kvs k v).length ≤ sizeLine := by have := length_putK kvs k v; omega
    refine wpAny_setItem_pairs (hsz := hz) (kV_is ry) dd fun h' dd' hs => h _ ?_
    have he : ∃ q, h'.get? a = some q := let ⟨q, _, _, hq, _⟩ := dd'; ⟨q, hq⟩
    exact d_write I (by rw [e]; exact True.intro) hs he (dk_new hl hd (rel.put k rv) dd')
  · subst ey eH
    cases (show u = Value.ref b from ry)
    obtain ⟨z, hd, xs, rel, dd⟩ := dt_of I.hok e
    have hz : xs.length ≤ sizeLine := by rw [← Paired.length rel]; exact z
    have hl : (putK kvs k v).length ≤ sizeLine := by have := length_putK kvs k v; omega
    refine wpAny_setItem_heap (hsz := hz) (tupleKind_room_in1 hu) (key_of I.hok eb) dd fun h' dd' hs => h _ ?_
    obtain ⟨q, es, ep, hq, h2, h3, h4, _, h5⟩ := dd'
    refine d_write I (by rw [e]; exact True.intro) hs ⟨q, hq⟩ ⟨hl, hd, _, (rel.put k eb rv).keeps fun c ys ec => ?_, q, es, ep, hq, h2, h3, h4, h5⟩
    rw [upd_ne (ne_of ec e (fun z => nomatch z))]
    exact ec
end

section
variable {X : Cx} {pins : List (Addr × Obj)} {σ : St} {H : Hp} {s : Shared} {a : Addr} {kvs : List (Key × V)} {k : Key} {u : Value} {A : Around} {E : Value → Shared → Prop}
end


/-! ### readings and rules -/
/-- d[y] = v -/
def sDPut (td ty tv : TE) : TS := fun D σ H => tv σ H fun v H1 => td σ H1 fun x H2 => ty σ H2 fun y H3 => ∃ a H4, x = .ref a ∧ DPut H3 a y v H4 ∧ D.nx σ H4
section
variable {X : Cx} {o i e value : Expr} {pos pos' tpos : Pos} {td ty tv : TE}
theorem ps_dput (hu : X.A.units + 1 < cLine) (ho : PE X o td) (hi : PE X i ty) (hv : PE X value tv) (hs : swapsWith value (some (.Subscript o i pos')) pos.line X.env = pure false) :
    PS X (.Assign [.Subscript o i pos'] value pos) (sDPut td ty tv) := by
  intro pins s σ H D I h
  refine wpAny_Assign_Subscript (thn (hv pins s σ H _ I h) fun r s1 ⟨v, H1, I1, rv, q1⟩ => thn (ho pins s1 σ H1 _ I1 q1) fun u s2 ⟨x, H2, I2, rx, q2⟩ => thn (hi pins s2 σ H2 _ I2 q2) fun iv s3 ⟨y, H3, I3, ry, a, H4, ex, g, q3⟩ => ?_) hs
  subst ex
  obtain rfl : u = Value.ref a := rx
  exact d_setItem hu I3 g ry rv fun s4 I4 => ⟨σ, H4, I4, q3⟩
end


/-! ### displays -/
theorem dk_empty {P : Program} {w : World} {H : Hp} (h : Heap) (hb : sysModules < h.objs.size) : ObjOk P w H (h.push { cls := .type "dict", data := .dict #[] }) h.objs.size (.dK []) :=
  ⟨Nat.zero_le _, beq_eq_false_iff_ne.mpr (Ne.symm (Nat.ne_of_lt hb)), [], .nil, Heap.DictOf.new h⟩
/-- {}, to be a dict of the kind that is wanted -/
def tDNewK : TE := fun _ H Q => ∀ p, H p = none → Q (.ref p) (upd H p (.dK []))
section
variable {X : Cx} {pos : Pos}
theorem pe_dnewK : PE X (.Dict [] [] pos) tDNewK := fun pins s σ H Q I h =>
  wpAny_Dict_empty ⟨.ref s.heap.objs.size, _, I.laid (a := s.heap.objs.size) (o := .dK []) (t' := s.toks) (fun _ _ q => Heap.get?_push_of_some _ q) (Nat.le_refl _) (dk_empty s.heap I.big), rfl, h _ (I.hok.fresh (Nat.le_refl _))⟩
end

def mergeK (kvs more : List (Key × V)) : List (Key × V) := more.foldl (fun acc kv => putK acc kv.1 kv.2) kvs
theorem length_mergeK : ∀ (more kvs : List (Key × V)), (mergeK kvs more).length ≤ kvs.length + more.length
  | [], kvs => by show kvs.length ≤ kvs.length + 0; omega
  | p :: r, kvs => by
    have h1 := length_mergeK r (putK kvs p.1 p.2)
    have h2 := length_putK kvs p.1 p.2
    show (mergeK (putK kvs p.1 p.2) r).length ≤ _
    rw [List.length_cons]; omega
/-! ### methods -/
section
variable {X : Cx} {pins : List (Addr × Obj)} {σ : St} {H : Hp} {s : Shared} {a : Addr} {y d : V} {u r : Value} {o : Option V} {A : Around} {E : Value → Shared → Prop}
end

section
variable {X : Cx} {o e f : Expr} {apos cpos : Pos} {td ty tx : TE}
end

/-! ### dict(d): a copy -/
section
variable {X : Cx} {pins : List (Addr × Obj)} {σ : St} {H : Hp} {s : Shared} {a : Addr} {kvs : List (Key × V)} {A : Around} {E : Value → Shared → Prop}
end


section
variable {X : Cx} {pins : List (Addr × Obj)} {σ : St} {H : Hp} {s : Shared} {a : Addr} {y : V} {u : Value} {A : Around} {E : Value → Shared → Prop}
end
end L2

namespace Att
open PySem PySem.W PySem.Calls PyProof.Rows

/-! ### the script -/
theorem ints_of_wellAll {P : Params} {h : Heap} : ∀ (ns : List Int) (vs : List Value), WellAll P h vs (ns.map WData.int) → IntsAre vs ns := by
  intro ns
  induction ns with
  | nil =>
    intro vs w
    rw [List.map_nil] at w
    cases w
    exact .nil
  | cons n ns ih =>
    intro vs w
    rw [List.map_cons] at w
    cases w with
    | cons a b =>
      cases a
      exact .cons _ _ (ih _ b)

theorem script_of {l : OpenLaw} {n : Nat} (hn : l.most = some n) {P : Params} {h : Heap} {args : List WData} {vals : List Value}
    (hpre : l.row.toRowW.claim.pre args = true) (hwl : WellAll P h vals args) :
    ∃ a vs ns, vals = [Value.ref a] ∧ args = [WData.list (ns.map WData.int)] ∧ h.get? a = some { cls := .type "list", data := .seq vs.toArray } ∧ IntsAre vs ns ∧ ns.length ≤ n := by
  have hsh : WShape.hasAll [] args [.list .int] = true := (pre_splitW hpre).1
  have hc : l.pre.holds [] { args := args } = true := (pre_splitW hpre).2
  obtain ⟨d, r, rfl, h1, h2⟩ := hasAllW_cons hsh
  obtain rfl := hasAllW_nil h2
  obtain ⟨xs, rfl, h3⟩ := hasW_list h1
  obtain ⟨ns, rfl⟩ := items_int h3
  have hlen : ns.length ≤ n := by
    unfold OpenLaw.pre at hc
    have h4 : (WTm.not (.lt (.lit (.int (n : Int))) (.len (.arg 0)))).holds [] { args := [.list (ns.map .int)] } = true := by
      have h4 := (holds_andW hc).1
      rw [hn] at h4
      exact h4
    have h5 := condW_of h4 (w_not (w_lt w_lit (w_len_list (w_arg rfl))))
    rw [List.length_map] at h5
    refine Nat.le_of_not_lt fun q => ?_
    have q' : (n : Int) < ((ns.length : Nat) : Int) := by omega
    first
      | (rw [decide_eq_true q'] at h5; exact absurd h5 (by decide))
      | (simp at h5; omega)
  cases hwl with
  | cons w1 w2 =>
    cases w2
    cases w1 with
    | list ho hall => exact ⟨_, _, ns, rfl, rfl, ho, ints_of_wellAll ns _ hall, hlen⟩

theorem post_true (l : OpenLaw) (args : List WData) : l.row.toRowW.claim.post args (.bool true) args = true :=
  postW_of (r := l.row.toRowW) (X := (true == true))
    (show WShape.has [] (.bool true) .bool = true by first | rfl | decide | simp [WShape.has, WShape.arms, WShape.armsAll])
    (show (WTm.eq .res (.lit (.bool true))).value [] { args := args, res := some (.bool true), after := args } = some (.bool (true == true)) from w_eq_bool (w_res rfl) w_lit) rfl

/-! ### the attachment: holds_open's last premise (the goal 'hc' behind k_head) from a wpAny of the law's body -/
/-- the same from a codeAny of the CALL (for a layer whose function contracts speak of calls) -/
theorem attach_call {l : OpenLaw} {n : Nat} {q : Program} {loose : List Str} {XP : (Str → Option Value) → Heap → Prop} {YP : World → Heap → Prop} {d : DefRec}
    (hn : l.most = some n) (hdf : d.params.defaults = [])
    (call : ∀ (w : World) (s₀ s₁ : Shared) (mg mb : Str → Option Value) (fa : Addr) (o : Obj) (pm cd doc : Value) (a : Addr) (vs : List Value) (ns : List Int),
      Ground q loose [] XP w s₀ mg mb s₁.heap → YP w s₁.heap →
      s₁.heap.get? fa = some o → o.data = .func (docDef d.name d.params d.body d.scope pm cd doc) → s₁.heap.CodeRec cd d.name → mg d.name = some (.ref fa) →
      s₁.heap.get? a = some { cls := .type "list", data := .seq vs.toArray } → IntsAre vs ns → ns.length ≤ n → s₁.gens = #[] →
      codeAny (model l.prog w) callerA (.call (.ref fa) ⟨[.ref a], []⟩) (fun r s' => r = .ok (.ret (.bool true)) ∧ OldK s₁.heap s'.heap ∧ s'.os = s₁.os ∧ AllBare s'.gens) s₁) :
    WalkO q loose XP YP l.row.toRowW d [] (fun f vs => PySem.call f vs) := by
  intro w s₀ s₁ mg mb G Y fa o pm cd doc dV kV ho hd hcd hD hmg hg args vals as hpre hlay hrd hwl hlo
  obtain rfl : dV = .none := Dflts.none hD hdf
  obtain rfl : kV = .none := Dflts.noKw hD
  obtain ⟨a, vs, ns, rfl, rfl, hobj, hints, hlen⟩ := script_of hn hpre hwl
  refine enter_call (codeAny_mono (call w s₀ s₁ mg mb fa o pm cd doc a vs ns G Y ho (fd_plain hd) hcd hmg hobj hints hlen hg) fun r s' hq => ?_)
  obtain ⟨rfl, h2, h3, h4⟩ := hq
  exact ⟨.inl ⟨.bool true, .bool true, [], rfl, fun _ => rfl, .bool true, post_true l _, fun _ => ⟨List.Pairwise.nil, fun _ hm => (nomatch hm)⟩⟩, h2, h3, h4⟩

/-! ### rules over ANY heap (no ledger) from facts about the written part K: the library's own take a ledger (News) for what they write -/
section
variable {prog : Program} {w : World} {A : Around} {E : Value → Shared → Prop} {s : Shared} {K : Frag}

/-! the whole heap as the ledger: makes every rule that writes through a ledger a rule over any heap -/
end
end Att

namespace L2
open PySem PySem.Spec PyProof.Rows

theorem vals_ints : ∀ {vs : List Value} {ns : List Int}, IntsAre vs ns → Vals (ns.map V.int) vs
  | _, _, .nil => .nil
  | _, _, .cons n t h => .cons ⟨t, rfl⟩ (vals_ints h)

/-- nothing is tracked but the script, known to the object (or it is an object of the module) -/
def Only (H : Hp) : Prop := ∀ b, H b = none ∨ ∃ o xs, H b = some (.frz o (.lst xs))

/-- THE HEAD: the law's promise, at the heap behind the top. F, the promise of the law's def, may use that base is part of the heap (so K.In base, base.Ns mainGlobals mg stand in Mod) -/
theorem law_call {P : Program} {w : World} {K : PySem.W.Frag} {mg mb : Str → Option Value} {CX : CXT} {k : Nat} {fa a : Addr} {fd : FuncData} {x : Str} {sp : Sp} {s₁ : Shared} {vs : List Value} {ns : List Int}
    (KX : K.In s₁.heap) (hns : s₁.heap.Ns mainGlobals mg) (hb : s₁.heap.Ns builtinsNs mb) (hbb : ∀ x : Str, x ≠ "__name__" → mb x = bootBuiltins x) (hlim : s₁.heap.NoLimit) (hg : s₁.gens = #[])
    (ha : s₁.heap.get? a = some { cls := .type "list", data := .seq vs.toArray }) (hi : IntsAre vs ns) (hl : ns.length ≤ sizeLine) (hr : Room k callerA)
    (F : ∀ base : Heap, K.In base → base.Ns mainGlobals mg → FnOk P w K mg base CX k fa fd [x] sp) (hbind : ∀ (s : Shared) (u : Value), BindsTo s fd ⟨[u], []⟩ [(x, u)])
    (hsp : ∀ H : Hp, Only H → SqL K H a (ns.map V.int) → sp [.ref a] H (fun v _ => v = .bl true) fun _ _ _ => False)
    (hCX : ∀ H e s', CX [] H s₁ (fun _ _ _ => False) e s' → False) :
    codeAny (model P w) callerA (.call (.ref fa) ⟨[.ref a], []⟩) (fun r s' => r = .ok (.ret (.bool true)) ∧ OldK s₁.heap s'.heap ∧ s'.os = s₁.os ∧ AllBare s'.gens) s₁ := by
  have rv := vals_ints hi
  have lenV := hi.length
  -- from an abstract heap in which nothing but the script may be tracked
  have core : ∀ H : Hp, Only H → SqL K H a (ns.map V.int) → HOk P w H s₁.heap → (∀ b, H b ≠ none → b = a) → (H a ≠ none → K.lookup a = none) →
      codeAny (model P w) callerA (.call (.ref fa) ⟨[.ref a], []⟩) (fun r s' => r = .ok (.ret (.bool true)) ∧ OldK s₁.heap s'.heap ∧ s'.os = s₁.os ∧ AllBare s'.gens) s₁ := by
    intro H hO hS hok hA hK
    have base_of : ∀ {b : Addr} {o : Obj}, s₁.heap.get? b = some o → H b = none → (hidT s₁.heap H).get? b = some o := fun e n => hidT_get e n
    have noA : ∀ {b : Addr} {o : Obj} {es : Array DictEntry} {ep : Nat}, s₁.heap.get? b = some o → o.data = .dict es ep → H b = none := fun {b o es ep} e d => by
      cases q : H b with
      | none => rfl
      | some u =>
        have e' : b = a := hA b (by rw [q]; simp)
        subst e'
        rw [ha] at e; cases e
        have d' : Data.seq vs.toArray _ = Data.dict es ep := d
        cases d'
    have nsK : ∀ {b : Addr} {m : Str → Option Value}, s₁.heap.Ns b m → (hidT s₁.heap H).Ns b m := fun {b m} ⟨o, es, ep, e, d, r⟩ => ⟨o, es, ep, base_of e (noA e d), d, r⟩
    have hKb : K.In (hidT s₁.heap H) := fun b o e => base_of (KX b o e) (by
      cases q : H b with
      | none => rfl
      | some u =>
        have e' : b = a := hA b (by rw [q]; simp)
        subst e'
        rw [hK (by rw [q]; simp)] at e; cases e)
    have hM : Mod K mg (hidT s₁.heap H) := ⟨hKb, nsK hns, ⟨mb, nsK hb, hbb⟩, let ⟨mc, h1, h2⟩ := hlim; ⟨mc, nsK h1, h2⟩⟩
    have e0 : Env0 P w K mg (hidT s₁.heap H) callerA [] s₁ H := ⟨rfl, hM, fun b o e => of_hidT e, Nat.le_of_eq (hidT_size _ _), trivial, fun b hb => absurd (show b ∈ ([] : List Addr) from hb) (by simp), hok, .of_eq hg⟩
    refine codeAny_mono ((F _ hKb (nsK hns)).run callerA [] s₁ H ⟨[.ref a], []⟩ [.ref a] [.ref a] _ _ hr e0 (hbind s₁ (.ref a)) (.cons rfl .nil) (hsp H hO hS)) fun r s' h => ?_
    cases r with
    | error e => exact (hCX H e s' h).elim
    | ok fl =>
      cases fl with
      | next => exact False.elim h
      | brk => exact False.elim h
      | cont => exact False.elim h
      | ret u =>
        obtain ⟨v, H', os, bare, un, hok', r', q⟩ := h
        have q' : v = .bl true := q
        subst q'
        obtain rfl : u = Value.bool true := r'
        refine ⟨rfl, OldK.of_keep fun b o e => ?_, os, bare⟩
        cases q : H b with
        | none => exact un.keep b o e q (by intro z; exact absurd (show b ∈ ([] : List Addr) from z) (by simp)) (by simp)
        | some u =>
          rcases hO b with z | ⟨ob, xs, z⟩
          · rw [q] at z; cases z
          · have z2 := un.frzs b ob _ z
            obtain ⟨e1, _⟩ := hok b _ z
            obtain ⟨e2, _⟩ := hok' b _ z2
            rw [e] at e1; cases e1
            exact e2
  cases hk : K.lookup a with
  | some o =>
    -- the script is one of the module's own objects
    have e := KX a o hk
    rw [ha] at e
    cases e
    refine core (fun _ => none) (fun _ => .inl rfl) (.inr ⟨_, vs.toArray, _, hk, rfl, rfl, rfl, by rw [List.size_toArray, lenV]; exact hl, by simpa using rv⟩) (fun b u z => by have z' : (none : Option HO) = some u := z; cases z') (fun b z => absurd rfl z) fun z => absurd rfl z
  | none =>
    refine core (fun b => if b = a then some (.frz { cls := .type "list", data := .seq vs.toArray } (.lst (ns.map V.int))) else none) (fun b => ?_) (.inl (.inr ⟨{ cls := .type "list", data := .seq vs.toArray }, if_pos rfl⟩)) (fun b u z => ?_) (fun b z => ?_) fun _ => hk
    · by_cases hb : b = a
      · exact .inr ⟨_, _, if_pos hb⟩
      · exact .inl (if_neg hb)
    · by_cases hb : b = a
      · have z' := (if_pos hb).symm.trans z
        cases z'
        subst hb
        exact ⟨ha, by rw [List.length_map]; exact hl, vs, _, rv, ha⟩
      · have z' := (if_neg hb).symm.trans z
        cases z'
    · by_cases hb : b = a
      · exact hb
      · exact absurd (if_neg hb) z
end L2

namespace L2
open PySem PySem.Spec PyProof.Rows

/-- the goal that k_head leaves (case hc), from the law's promise. F gives the function object fd (K's own) once, then the promise over every base -/
theorem walk_of {l : PySem.W.OpenLaw} {n k : Nat} {q : Program} {loose : List Str} {XP : (Str → Option Value) → Heap → Prop} {YP : World → Heap → Prop} {d : DefRec} {K : Params → PySem.W.Frag} {CX : World → CXT} {sp : World → Sp} {x : Str}
    (hn : l.most = some n) (hn2 : n ≤ sizeLine) (hdf : d.params.defaults = []) (hr : Room k callerA)
    (hY : ∀ (w : World) (h : Heap), YP w h → (K w.params).In h)
    (F : ∀ (w : World) (mg : Str → Option Value) (fa : Addr) (h : Heap), (K w.params).In h → h.Ns mainGlobals mg → mg d.name = some (.ref fa) →
      ∃ fd : FuncData, (∀ (s : Shared) (u : Value), BindsTo s fd ⟨[u], []⟩ [(x, u)]) ∧
        ∀ base : Heap, (K w.params).In base → base.Ns mainGlobals mg → FnOk l.prog w (K w.params) mg base (CX w) k fa fd [x] (sp w))
    (hsp : ∀ (w : World) (H : Hp) (a : Addr) (ns : List Int), ns.length ≤ n → Only H → SqL (K w.params) H a (ns.map V.int) → sp w [.ref a] H (fun v _ => v = .bl true) fun _ _ _ => False)
    (hCX : ∀ (w : World) (H : Hp) (s : Shared) (e : Value) (s' : Shared), CX w [] H s (fun _ _ _ => False) e s' → False) :
    PySem.W.WalkO q loose XP YP l.row.toRowW d [] (fun f vs => PySem.call f vs) := by
  refine Att.attach_call hn hdf fun w s₀ s₁ mg mb fa o pm cd doc a vs ns G Y ho hd hcd hmg hobj hints hlen hg => ?_
  have KX := hY w _ Y
  obtain ⟨fd, hb, hF⟩ := F w mg fa _ KX G.T.g hmg
  exact law_call KX G.T.g G.T.b G.T.builtins G.T.nolimit hg hobj hints (Nat.le_trans hlen hn2) hr hF hb (fun H hO hS => hsp w H a ns hlen hO hS) fun H e s' => hCX w H s₁ e s'
end L2

/- THE LAST THEOREM (shape; LID, My.* are yours):
   My.Adr: a structure of the addresses that your layer names (classes, functions); My.Txt K t: a structure (Prop) of the equations over K;
   My.txt_mk : {K} {implicit addresses ..} (e1 : nsIn K mainGlobals "law" = some (some (.ref f))) (e2 : K.lookup f = some ⟨oc, od, .func (fnOf "law" "law" params body scope dV kV doc pm an cdv ct), sl⟩) (e3 : codeIn K cdv "law" = true) .. : ∃ t, My.Txt K t

set_option maxRecDepth 100000 in
set_option maxHeartbeats 0 in
theorem PySem.Challenge.cw_LID_holds : PySem.Challenge.rw_LID.Holds := by
  w_on; o_law; k_head; (case hw => w_witness2)
  k_fill
  refine L2.walk_of (l := PySem.Challenge.rw_LID) (n := 63) (k := 40) (x := "script") (CX := fun w => ..) (sp := fun _ => My.sp_law) rfl (by decide) rfl ⟨rfl, by decide, by decide⟩ (fun w h Y => PySem.W.kIn_of Y) ?F ?S ?C
  case F =>
    intro w mg fa h KX G hmg
    have T : ∃ t, My.Txt (L2.KOf KX) t := by
      dsimp only [L2.KOf]                          -- K must stand as «<heap const> w.params» for k_is
      refine' My.txt_mk ?e1 ?e2 ?e3 ..
      (case e1 => PySem.W.k_is)                    -- in the order: a name -> its address -> its object -> its parts
      (case e2 => PySem.W.k_is)
      ..
    obtain ⟨t, T⟩ := T
    have e0 := hmg.symm.trans (PySem.W.mg_of KX G T.law)
    cases e0                                       -- fa is the law's own address
    exact ⟨_, fun s u => .of_eq rfl, fun base kb nb => My.law_fn T kb nb⟩     -- if «.of_eq rfl» comes too early: refine' ⟨_, ?b, fun base kb nb => My.law_fn T kb nb⟩; exact fun s u => .of_eq rfl
  case S => exact fun w H a ns hl hO hS => ..
  case C => exact ..
(the tactic k_is has no namespace: write k_is) -/

/-! SHORT WORDS over the layer: a def of the text, its body, what a loop and a test want. -/
namespace L2
open PySem PySem.Spec PyProof.Rows

/-! ### the text by places -/
/-- the j-th statement of a class's body -/
def inClass (s : Stmt) (j : Nat) : Stmt := match s with
  | .ClassDef _ _ _ body _ _ _ _ _ _ _ => body.getD j (.Pass ⟨0, 0, 0, 0⟩)
  | _ => .Pass ⟨0, 0, 0, 0⟩
def defArgs (s : Stmt) : Arguments := match s with
  | .FunctionDef _ a _ _ _ _ _ _ _ _ => a
  | _ => { posonlyargs := [], args := [], vararg := none, kwonlyargs := [], kw_defaults := [], kwarg := none, defaults := [] }
def defBody (s : Stmt) : List Stmt := match s with
  | .FunctionDef _ _ b _ _ _ _ _ _ _ => b
  | _ => []
def defScope (s : Stmt) : Scope := match s with
  | .FunctionDef _ _ _ _ _ _ sc _ _ _ => sc
  | _ => { kind := .function, names := [], isGenerator := false, isCoroutine := false }

/-! ### no exception leaves a def -/
abbrev CX0 : CXT := fun _ _ _ _ _ _ => False
abbrev E0 : XK := fun _ _ _ => False
theorem pass0 {X : Cx} : Passes CX0 X E0 := fun _ _ _ _ _ _ _ h => h.elim

/-! ### a def (or method) of the text as it stands behind the top -/
structure Fun (K : PySem.W.Frag) (x qual : Str) (st : Stmt) (f : Addr) (fd : FuncData) : Prop where
  ex : ∃ (oc : Value) (od : Option Addr) (kV doc pm : Value) (an : Option Addr) (cdv ct : Value) (osl : Array (Option Value)),
    fd = PySem.W.fnOf x qual (defArgs st) (defBody st) (defScope st) .none kV doc pm an cdv ct ∧ K.lookup f = some ⟨oc, od, .func fd, osl⟩ ∧ PySem.W.codeIn K cdv qual = true
  kp : PySem.W.keepIn K (.ref f) = true
section
variable {P : Program} {w : World} {K : PySem.W.Frag} {mg : Str → Option Value} {base : Heap}
/-- THE RULE for a def: its body as a term of rules, and the reading of that term -/
theorem Fun.ok {x qual : Str} {st : Stmt} {f : Addr} {fd : FuncData} {N ps : List Str} {k : Nat} {sp : Sp} (F : Fun K x qual st f fd) (S : FnScope N ps (defScope st)) (len : ∀ vs H Q E, sp vs H Q E → vs.length = ps.length)
    (hbody : ∀ (cdv : Value) (A : Around) (outer : List Env) (s : Shared) (H : Hp) (vs : List V) (Q : VK) (E : XK), Room k (A.deeper (envOfC qual (defScope st) s.heap.objs.size f cdv)) → sp vs H Q E →
      ∃ t, PSs (cxOf CX0 P w K mg base N qual (defScope st) f cdv A outer s H E).nox (defBody st) t ∧ t { nx := fun _ H' => Q .non H', rt := Q } (start N vs) H) : FnOk P w K mg base CX0 (k + 1) f fd ps sp := by
  obtain ⟨oc, od, kV, doc, pm, an, cdv, ct, osl, rfl, lk, hcd⟩ := F.ex
  refine fn_of lk hcd S len fun A outer s H vs Q E hr hsp => ?_
  obtain ⟨t, h, q⟩ := hbody cdv A outer s H vs Q E hr hsp
  exact ⟨t, h.nox, q⟩
/-- how its arguments bind (no defaults): h is «fun _ _ _ _ _ _ us hl => match us, hl with | [_, _], _ => rfl», one _ a parameter -/
theorem Fun.binds {x qual : Str} {st : Stmt} {f : Addr} {fd : FuncData} {ps : List Str} (F : Fun K x qual st f fd)
    (h : ∀ (kV doc pm : Value) (an : Option Addr) (cdv ct : Value) (us : List Value), us.length = ps.length → bindArgs (PySem.W.fnOf x qual (defArgs st) (defBody st) (defScope st) .none kV doc pm an cdv ct) ⟨us, []⟩ = pure (ps.zip us)) : Binds K fd ps [] := by
  obtain ⟨oc, od, kV, doc, pm, an, cdv, ct, osl, rfl, lk, hcd⟩ := F.ex
  exact .all (h kV doc pm an cdv ct)
theorem fun_mk {x qual : Str} {st : Stmt} {f : Addr} {oc : Value} {od an : Option Addr} {osl : Array (Option Value)} {kV doc pm cdv ct : Value} (l : K.lookup f = some ⟨oc, od, .func (PySem.W.fnOf x qual (defArgs st) (defBody st) (defScope st) .none kV doc pm an cdv ct), osl⟩)
    (c : PySem.W.codeIn K cdv qual = true) (k : PySem.W.keepIn K (.ref f) = true) : Fun K x qual st f (PySem.W.fnOf x qual (defArgs st) (defBody st) (defScope st) .none kV doc pm an cdv ct) := ⟨⟨oc, od, kV, doc, pm, an, cdv, ct, osl, rfl, l, c⟩, k⟩
end
theorem hu_of {A : Around} {k : Nat} (hr : Room k A) : A.units + 1 < cLine := Nat.lt_of_le_of_lt (Nat.add_le_add_left (by decide : 1 ≤ 64) _) hr.units
/-! ### expressions in short: the name that stands in the i-th slot -/
section
variable {X : Cx}
theorem pv (i : Nat) {x : Str} {pos : Pos} (hN : X.N[i]? = some x := by rfl) (hv : Vis X.env.scope x := by first | exact Or.inl rfl | exact Or.inr (Or.inl rfl) | exact Or.inr (Or.inr rfl)) (hd : (x == ("__debug__" : Str)) = false := by decide)
    (hcd : (x == ("__classdict__" : Str)) = false := by decide) : PE X (.Name x pos) (tVar i) := pe_var hN hv hd hcd
end

/-! ### tests -/
theorem iteF {A B : Prop} (h : B) : if false = true then A else B := by
  rw [if_neg Bool.false_ne_true]
  exact h
theorem iteT {A B : Prop} (h : A) : if true = true then A else B := by
  rw [if_pos rfl]
  exact h
theorem ite2 {c A B : Prop} [Decidable c] (h1 : c → A) (h2 : ¬ c → B) : if c then A else B := by
  by_cases h : c
  · rw [if_pos h]
    exact h1 h
  · rw [if_neg h]
    exact h2 h
theorem iteNS {c A B : Prop} [Decidable c] (hc : c) (h : B) : if (!decide c) = true then A else B := by
  rw [decide_eq_true hc]
  exact iteF h

/-! ### heaps -/
/-- all that was tracked is as it was -/
def Same (H H' : Hp) : Prop := ∀ b o, H b = some o → H' b = some o
theorem Same.refl (H : Hp) : Same H H := fun _ _ h => h
theorem Same.trans {H H1 H2 : Hp} (a : Same H H1) (b : Same H1 H2) : Same H H2 := fun c o h => b c o (a c o h)
theorem Same.free {H H' : Hp} (e : Same H H') {l : Addr} (h : H' l = Option.none) : H l = Option.none := by
  cases q : H l with
  | none => rfl
  | some o =>
    rw [e l o q] at h
    cases h
/-! ### a dict's pairs: keys that differ -/
section
variable {κ : Type} [DecidableEq κ]
end
end L2


/-! MY RULES over the hand layer: isinstance, == and != of lists of ints, t + u with an empty t, products and quotients of long ints. -/
namespace L2
open PySem PySem.Spec PyProof.Rows
section
variable {X : Cx}
/-- a statement, then the rest, with a word between them -/
def tCut (t u : TS) : TS := fun D σ H => ∃ M : St → Hp → Prop, t { D with nx := M } σ H ∧ ∀ σ' H', M σ' H' → u D σ' H'
theorem pss_cut {st : Stmt} {rest : List Stmt} {t u : TS} (h1 : PS X st t) (h2 : PSs X rest u) : PSs X (st :: rest) (tCut t u) := by
  intro pins s σ H D I h
  obtain ⟨M, h, hm⟩ := h
  refine wpAny_execs_cons (thn (h1 pins s σ H { D with nx := M } I h) fun f s1 q => ?_)
  cases f with
  | next =>
    obtain ⟨σ', H', I', q⟩ := q
    exact h2 pins s1 σ' H' D I' (hm _ _ q)
  | ret v => exact q
  | brk => exact q
  | cont => exact q
/-- isinstance(x, c) -/
def rIsi (K : PySem.W.Frag) : List V → Hp → VK → Prop := fun xs H Q => ∃ x c t b, xs = [x, c] ∧ TyOf K H x t ∧ (∀ u, RelV c u → PySem.W.kitOne K t u = some b) ∧ Q (.bl b) H
theorem call_isinst : CallR X (.builtin "isinstance") (rIsi X.K) := by
  intro pins s σ H xs us Q I r h
  obtain ⟨x, c, t, b, rfl, ty, e, q⟩ := h
  obtain ⟨u, w', rfl, ru, rw'⟩ := vals2 r
  exact isinst_ok I ru ty (e w' rw') fun tk => ⟨.bl b, H, I.tok tk, rfl, q⟩
theorem isi_same {K : PySem.W.Frag} (T : String) : ∀ u, RelV (.ty T) u → PySem.W.kitOne K (.type T) u = some true := by
  intro u h
  cases (show u = Value.type T from h)
  unfold PySem.W.kitOne
  rw [if_pos (beq_self_eq_true _)]
theorem isi_by {K : PySem.W.Frag} {T U : String} {b : Bool} (h : (Value.type T == Value.type U) = false) (hm : PySem.W.kitMeta U = true) (hs : (PySem.fastBuiltinMro T).map (·.contains (Value.type U)) = some b) :
    ∀ u, RelV (.ty U) u → PySem.W.kitOne K (.type T) u = some b := by
  intro u z
  cases (show u = Value.type U from z)
  unfold PySem.W.kitOne
  rw [if_neg (by rw [h]; exact Bool.false_ne_true)]
  show (if PySem.W.kitMeta U = true then PySem.W.subIn K (.type T) (.type U) else none) = some b
  rw [if_pos hm]
  exact hs
end
end L2

/-! MY RULES: zip over two sources of any kind that is walked (list, tuple), reversed(list) walked, tuple(reversed(list)). -/
namespace L2
open PySem PySem.Spec PyProof.Rows
section
variable {prog : Program} {w : World} {A : Around} {E : Value → Shared → Prop} {s : Shared}
end
section
variable {z TI TO i1 i2 l1 l2 : Addr} {st1 st2 : Nat → Heap → Prop} {src1 src2 : Array Value → Heap → Prop} {prog : Program} {w : World} {A : Around} {E : Value → Shared → Prop} {s : Shared}
end
section
variable {X : Cx} {pins : List (Addr × Obj)} {σ : St} {H : Hp} {s : Shared} {h' : Heap}
/-- untracked records of ours (iterators) have turned, a new object is laid and tracked -/
theorem Inv.turnedNew {t' : Nat} {ts : List Addr} {a : Addr} {o : HO} (I : Inv X pins σ H s) (k : ∀ b u, b ∉ ts → s.heap.get? b = some u → h'.get? b = some u) (f : ∀ b ∈ ts, FpOk X pins H b) (hp : s.heap.objs.size ≤ a)
    (new : ObjOk X.prog X.w (upd H a o) h' a o) : Inv X pins σ (upd H a o) { s with heap := h', toks := t' } := by
  have nt : ∀ b u, H b = some u → b ∉ ts := fun b u e z => by have := (f b z).1; rw [e] at this; cases this
  have na : ∀ b u, s.heap.get? b = some u → b ≠ a := fun b u e => Nat.ne_of_lt (Nat.lt_of_lt_of_le (Heap.lt_size e) hp)
  have ha : H a = none := I.hok.fresh hp
  refine I.step (g' := s.gens) (d' := s.drawn) (ch := ts) (fun b hb => ⟨(f b hb).2.2.2.1, (f b hb).2.1, (f b hb).2.2.2.2.1, (f b hb).2.2.2.2.2⟩) (fun b u _ _ hc e _ => k b u hc e) (fun b u _ _ hc e _ => ⟨u.slots, k b u hc e⟩)
    (fun b u _ e n => by rw [upd_ne (na b u e)]; exact n) (fun b u hc e => ⟨u, k b u hc e⟩) (fun b xs e => by rw [upd_ne (ne_of_none e ha)]; exact e) (fun b u xs e => by rw [upd_ne (ne_of_none e ha)]; exact e)
    (fun b ps e => ⟨#[], by rw [upd_ne (ne_of_none e ha), e]; simp⟩) (fun m hm => ?_) (fun b u e => ?_) I.bare
  · obtain ⟨ob, es, ep, ho, r⟩ := hm
    exact ⟨ob, es, ep, k _ ob (fun z => (f _ z).2.1 rfl) ho, r⟩
  · by_cases hb : b = a
    · subst hb
      rw [upd_same] at e
      cases e
      exact new
    · rw [upd_ne hb] at e
      refine (I.hok b u e).stay (fun c v hc q => k c v ?_ q) (fun c q => by rw [upd_ne (ne_of_none q ha)]; exact q) fun c xs q => by rw [upd_ne (ne_of_none q ha)]; exact q
      rcases hc with rfl | hc
      · exact nt _ _ e
      · exact nt _ _ hc
/-- untracked records of ours have turned -/
theorem Inv.turnedL {t' : Nat} {ts : List Addr} (I : Inv X pins σ H s) (k : ∀ b u, b ∉ ts → s.heap.get? b = some u → h'.get? b = some u) (f : ∀ b ∈ ts, FpOk X pins H b) : Inv X pins σ H { s with heap := h', toks := t' } := by
  have nt : ∀ b u, H b = some u → b ∉ ts := fun b u e z => by have := (f b z).1; rw [e] at this; cases this
  refine I.step (g' := s.gens) (d' := s.drawn) (ch := ts) (fun b hb => ⟨(f b hb).2.2.2.1, (f b hb).2.1, (f b hb).2.2.2.2.1, (f b hb).2.2.2.2.2⟩) (fun b u _ _ hc e _ => k b u hc e) (fun b u _ _ hc e _ => ⟨u.slots, k b u hc e⟩)
    (fun b u _ e n => n) (fun b u hc e => ⟨u, k b u hc e⟩) (fun b xs e => e) (fun b u xs e => e) (fun b ps e => ⟨#[], by rw [e]; simp⟩) (fun m hm => ?_) (fun b u e => ?_) I.bare
  · obtain ⟨ob, es, ep, ho, r⟩ := hm
    exact ⟨ob, es, ep, k _ ob (fun z => (f _ z).2.1 rfl) ho, r⟩
  · refine (I.hok b u e).stay (fun c v hc q => k c v ?_ q) (fun c q => q) fun c xs q => q
    rcases hc with rfl | hc
    · exact nt _ _ e
    · exact nt _ _ hc
end
/-! ### zip(list, tuple) is made -/
/-! ### reversed(list) -/
def Itv (K : PySem.W.Frag) (a : Addr) (n : Nat) : It :=
  ⟨fun i H => ∃ xs x, SqL K H a xs ∧ xs.length = n ∧ i < n ∧ xs[n - 1 - i]? = some x, fun i H x H' => H' = H ∧ ∀ xs, SqL K H a xs → xs[n - 1 - i]? = some x, fun i _ => i = n⟩
theorem turn_rev {P : Program} {w : World} {K : PySem.W.Frag} {tg : Expr} (a it : Addr) (n : Nat) : Turn P w K tg (Itv K a n) [it] it (fun i h => h.IsRevIter it a ((n : Int) - 1 - (i : Int))) where
  mem := by simp
  obj := fun i h st b hb => by
    have e : b = it := by simpa using hb
    subst e
    obtain ⟨o, e, c, d⟩ := st
    exact ⟨o, e, fun v z => by rw [d] at z; cases z⟩
  keep := fun i h h' st k => st.at fun o e => k it (by simp) o e
  item := by
    intro X hP hw hK hc i pins s σ H E I hf st hg
    subst hP hw hK
    obtain ⟨xs, x, hq, hn, hi, hx⟩ := hg
    obtain ⟨its, rv, p, hz⟩ := I.list hq
    obtain ⟨u, hu, ru⟩ := rv.get hx
    obtain ⟨f0, f1, f2, f3, f4, f5⟩ := hf it (by simp)
    have e1 : (n : Int) - 1 - (i : Int) = ((n - 1 - i : Nat) : Int) := by omega
    rw [e1] at st
    refine wpAny_pyNext_rev_item st p.isList (x := u) (by simpa using hu) fun h' st' sb => ?_
    have I1 : Inv X pins σ H { s with heap := h' } := I.turned (t' := s.toks) (fun b o hb e => (sb.2 b hb).trans e) f0 f1 f3 f4 f5
    have e2 : ((n - 1 - i : Nat) : Int) - 1 = (n : Int) - 1 - ((i + 1 : Nat) : Int) := by omega
    rw [e2] at st'
    obtain ⟨o, e, c, d⟩ := id st'
    exact ⟨u, rfl, go_of (s := { s with heap := h' }) e c d (by decide) ⟨x, H, I1, ru, ⟨rfl, fun ys hy => by rw [I.list_inj hy hq]; exact hx⟩, st', fun b hb => (hf b hb).1⟩⟩
  done := by
    intro X hP hw hK hc i pins s σ H E I hf st hg
    subst hP hw hK
    have hi : i = n := hg
    subst hi
    obtain ⟨f0, f1, f2, f3, f4, f5⟩ := hf it (by simp)
    have e1 : (i : Int) - 1 - (i : Int) = -1 := by omega
    rw [e1] at st
    exact wpAny_pyNext_rev_end (I.ok.hd hc) st fun h' eb => ⟨rfl, I.turned (t' := s.toks) (fun b o hb e => eb b o hb e) f0 f1 f3 f4 f5⟩
  self := fun _ _ _ _ _ st h => wpAny_pyIter_revIter st h
def iRev (K : PySem.W.Frag) (ta : TA) : TI := fun σ H R => ta σ H fun vs H1 => ∃ a xs, vs = [.ref a] ∧ SqL K H1 a xs ∧ R (Itv K a xs.length) H1
theorem pi_rev {X : Cx} {tg : Expr} {a : Expr} {ta : TA} {p pos : Pos} (hg : Gl X "reversed") (hm : X.mg "reversed" = none) (ha : PA X [a] ta) (hs : starEach [a] X.env = [(false, eval a X.env)] := by rfl) :
    PI X tg (.Call (.Name "reversed" p) [a] [] pos) (iRev X.K ta) := by
  intro pins s σ H R I h
  refine Call_ (ld_blt I hg hm boot_reversed (PyProof.Rows.callWith_type1 (thn (ha pos pins s σ H _ I h) fun us s1 ⟨vs, H1, I1, r1, q1⟩ => ?_) hs rfl))
  obtain ⟨l, xs, e, hq, q⟩ := q1
  subst e
  obtain ⟨u, rfl, ru⟩ := vals1 r1
  cases ru
  obtain ⟨its, rv, p1, _⟩ := I1.list hq
  have en : (its.toArray.size : Int) - 1 = (xs.length : Int) - 1 - ((0 : Nat) : Int) := by rw [List.size_toArray, ← rv.length]; omega
  refine call_reversed_list p1.isList ?_
  rw [en]
  have st : (s1.heap.push (revObj l ((xs.length : Int) - 1 - ((0 : Nat) : Int)))).IsRevIter s1.heap.objs.size l ((xs.length : Int) - 1 - ((0 : Nat) : Int)) := ⟨_, Heap.get?_push_size _ rfl, rfl, rfl⟩
  refine wpAny_pyIter_revIter (s := { s1 with heap := s1.heap.push (revObj l ((xs.length : Int) - 1 - ((0 : Nat) : Int))) }) st ?_
  refine ⟨_, [s1.heap.objs.size], _, _, H1, rfl, I1.kept (t' := s1.toks) fun b o e => Heap.get?_push_of_some _ e, turn_rev l _ xs.length, st, fun b hb => ?_, q⟩
  have e : b = s1.heap.objs.size := by simpa using hb
  subst e
  exact I1.fpOk (Nat.le_refl _) (I1.hok.fresh (Nat.le_refl _))
end L2

/-! MY RULES: a list comprehension of one clause, with no test or one. -/
namespace L2
open PySem PySem.Spec PyProof.Rows
/-- what the comprehension's own scope and the cells that it takes over must be -/
structure ClOk (X : Cx) (scope : Scope) (cl : List (Str × Addr)) : Prop where
  eq : closureFor scope X.env = pure cl
  sub : ∀ x c, cl.lookup x = some c → X.env.cells.lookup x = some c
  has : ∀ x, ((relabel scope X.env).names.lookup x = some .cell ∨ (relabel scope X.env).names.lookup x = some .free) → ∃ c, cl.lookup x = some c
  kind : scope.kind = .function
  ncell : ∀ y ∈ scope.names, y.2 ≠ .cell
  names : ∀ y ∈ scope.names, y.2 = .local → scope.names.lookup y.1 = some .local
/-- the block's context: its names, its own dict at C, the state at its entry, the iterator that it walks -/
def blk (X : Cx) (N' : List Str) (scope : Scope) (cl : List (Str × Addr)) (C : Addr) (s₀ : Shared) (H₀ : Hp) (fp : List Addr) : Cx :=
  { X with N := N', s₀ := s₀, H₀ := H₀, env := compEnvC scope cl C X.env, outer := X.stack, ex := fp, fn := fun _ => false, pn := [], xe := fun _ _ => False }
/-- the names' values at the block's entry: those that are taken over -/
def blkSt (ix : List (Option Nat)) (σ : St) : St := ix.map fun o => o.bind fun j => (σ[j]?).bind id
section
variable {X : Cx} {pins : List (Addr × Obj)} {σ : St} {H : Hp} {s : Shared} {N' : List Str} {scope : Scope} {cl : List (Str × Addr)} {fp : List Addr} {ix : List (Option Nat)}
/-- which outer slots stand for the names that are taken over -/
def IxOk (X : Cx) (N' : List Str) (scope : Scope) (ix : List (Option Nat)) : Prop :=
  ix.length = N'.length ∧ ∀ i j : Nat, ix[i]? = some (some j) → ∃ x, N'[i]? = some x ∧ X.N[j]? = some x ∧ (X.env.scope.names.lookup x = some .cell ∨ X.env.scope.names.lookup x = some .free) ∧
    ((relabel scope X.env).names.lookup x = some .cell ∨ (relabel scope X.env).names.lookup x = some .free)
theorem blk_ok (I : Inv X pins σ H s) (ck : ClOk X scope cl) (f : ∀ b ∈ fp, FpOk X pins H b) (hlt : ∀ b ∈ fp, b < s.heap.objs.size) : (blk X N' scope cl s.heap.objs.size s H fp).Ok where
  mod := I.ok.mod
  kind := ck.kind
  glob := I.ok.glob
  blt := I.ok.blt
  above := Nat.le_refl _
  inj := fun x y c h1 h2 => I.ok.inj x y c (ck.sub x c h1) (ck.sub y c h2)
  has := fun x h => ck.has x h
  cab := fun x c h => by cases h
  hd := I.ok.hd
  frames := I.ok.frames
  stk := .inl rfl
  exf := fun b hb => ⟨Nat.ne_of_lt (hlt b hb), fun x c h => (f b hb).2.2.2.2.1 x c (ck.sub x c h)⟩
  bs := I.bs
  bsz := Nat.le_trans I.ok.bsz I.sz
  noex := fun b o e hb => by
    rcases (f b hb).2.2.2.1 with z | z
    · exact I.ok.noex b o e z
    · exact absurd (Nat.lt_of_lt_of_le (Heap.lt_size (I.ok.bs b o e).1) z) (Nat.lt_irrefl _)
  exfs := fun b hb hs => by
    rcases List.mem_cons.mp (I.stkSub b hs) with z | z
    · exact (f b hb).2.1 z
    · exact (f b hb).2.2.1 z
  funs := I.stack
  frf := I.stkFree
theorem blk_start (I : Inv X pins σ H s) (ck : ClOk X scope cl) (io : IxOk X N' scope ix) (f : ∀ b ∈ fp, FpOk X pins H b) (hlt : ∀ b ∈ fp, b < s.heap.objs.size) {h' : Heap} {m : Str → Option Value} {t' : Nat}
    (hn : h'.Ns s.heap.objs.size m) (k : ∀ b o, s.heap.get? b = some o → h'.get? b = some o) : Inv (blk X N' scope cl s.heap.objs.size s H fp) [] (blkSt ix σ) H { s with heap := h', toks := t' } := by
  have cl' : ∀ x c, cl.lookup x = some c → ∃ v, s.heap.IsCell c v := fun x c h => I.cell x c (ck.sub x c h)
  refine ⟨blk_ok I ck f hlt, rfl, I.bare, Un.kept k, ⟨m, hn, fun i x v e1 e2 e3 => ?_⟩, fun x c e => ?_, I.hok.fresh (Nat.le_refl _), fun x c e => I.freeC x c (ck.sub x c e), (fun p hp => by cases hp), I.hok.kept k, ?_⟩
  · unfold blkSt at e2
    rw [List.getElem?_map] at e2
    cases hi : ix[i]? with
    | none => rw [hi] at e2; cases e2
    | some o =>
      rw [hi] at e2
      cases o with
      | none => cases Option.some.inj e2
      | some j =>
        have e2' : (σ[j]?).bind id = some v := Option.some.inj e2
        obtain ⟨x', n1, n2, k1, k2⟩ := io.2 i j hi
        have ex : x' = x := Option.some.inj (n1.symm.trans e1)
        subst ex
        have es : σ[j]? = some (some v) := by
          cases q : σ[j]? with
          | none => rw [q] at e2'; cases e2'
          | some w =>
            rw [q] at e2'
            exact congrArg some e2'
        obtain ⟨m0, _, hl⟩ := I.loc
        obtain ⟨u, ru, lo⟩ := hl j x' v n2 es (k1.elim (fun z => .inr (.inl z)) fun z => .inr (.inr z))
        refine ⟨u, ru, .inr ⟨k2, ?_⟩⟩
        obtain ⟨c, hc⟩ := ck.has x' k2
        refine ⟨c, hc, ?_⟩
        rcases lo with ⟨z, _⟩ | ⟨_, c', hc', ic⟩
        · exfalso
          have z' : X.env.scope.names.lookup x' = some .local := z
          rcases k1 with k1 | k1 <;> (rw [z'] at k1; cases k1)
        · have ec : c' = c := Option.some.inj (hc'.symm.trans (ck.sub x' c hc))
          subst ec
          obtain ⟨o, ho, hd⟩ := ic
          exact ⟨o, k _ _ ho, hd⟩
  · obtain ⟨v, o, ho, hd⟩ := cl' x c e
    exact ⟨v, o, k _ _ ho, hd⟩
  · unfold blkSt
    rw [List.length_map]
    exact io.1
/-- behind the block: the frame's own words stand again -/
theorem blk_end (I : Inv X pins σ H s) (f : ∀ b ∈ fp, FpOk X pins H b) {σ' : St} {H' : Hp} {s' : Shared} {pl : List (Addr × Obj)} (J : Inv (blk X N' scope cl s.heap.objs.size s H fp) pl σ' H' s') {h' : Heap} (sb : Heap.SameBut s.heap.objs.size s'.heap h') :
    Inv X pins σ H' { s' with heap := h' } := by
  have nC : ∀ b o, s.heap.get? b = some o → b ≠ s.heap.objs.size := fun b o e => Nat.ne_of_lt (Heap.lt_size e)
  have hC : H' s.heap.objs.size = none := J.free
  have u : Un (frs X.stack) fp H H' s.heap s'.heap := J.base
  refine I.call' (ch := fp) (s' := { s' with heap := h' }) J.os ⟨fun b o e n hb hx => (sb.2 b (nC b o e)).trans (u.keep b o e n hb hx), fun b o e n hb hx => ?_, u.free, fun b o e hx => ?_, u.tups, u.frzs, u.tbls⟩ (fun b o e => ?_) J.bare
    (fun b hb => ⟨(f b hb).2.2.2.1, (f b hb).2.1, (f b hb).2.2.2.2.1, (f b hb).2.2.2.2.2⟩)
  · obtain ⟨sl, q⟩ := u.slot b o e n hb hx
    exact ⟨sl, (sb.2 b (nC b o e)).trans q⟩
  · obtain ⟨o', q⟩ := u.there b o e hx
    exact ⟨o', (sb.2 b (nC b o e)).trans q⟩
  · refine (J.hok b o e).stay (fun c v hc q => (sb.2 c ?_).trans q) (fun c q => q) fun c xs q => q
    rcases hc with rfl | hc
    · exact ne_of_none e hC
    · exact ne_of_none hc hC
end
/-- what the one knows the other one knows too -/
def StKeep : St → St → Prop
  | [], _ => True
  | none :: r, _ :: r' => StKeep r r'
  | none :: r, [] => StKeep r []
  | some v :: r, w :: r' => w = some v ∧ StKeep r r'
  | some _ :: _, [] => False
theorem StKeep.get : ∀ {a b : St}, StKeep a b → ∀ (j : Nat) v, a[j]? = some (some v) → b[j]? = some (some v)
  | [], _, _, _, _, e => by simp at e
  | none :: r, _ :: r', h, 0, v, e => by simp at e
  | none :: r, _ :: r', h, j + 1, v, e => by simpa using StKeep.get (a := r) (b := r') h j v (by simpa using e)
  | none :: r, [], h, 0, v, e => by simp at e
  | none :: r, [], h, j + 1, v, e => by have := StKeep.get (a := r) (b := []) h j v (by simpa using e); simp at this
  | some w :: r, _ :: r', h, 0, v, e => by
    have e' : w = v := by simpa using e
    subst e'
    simpa using h.1
  | some _ :: r, _ :: r', h, j + 1, v, e => by simpa using StKeep.get (a := r) (b := r') h.2 j v (by simpa using e)
section
variable {X : Cx}
/-- [elt for tg in iter]: D the list that grows -/
def tComp (ix : List (Option Nat)) (wi : TI) (g : TG) (te : TE) : TE := fun σ H Q => wi σ H fun J H1 => ∀ D, H1 D = none → ∃ W : Nat → Nat → Hp → Prop, (∃ m, W 0 m (upd H1 D (.lst []))) ∧ ∀ i m H2, W i m H2 →
  (J.stop i H2 ∧ Q (.ref D) H2) ∨ (J.go i H2 ∧ ∃ N : VK, (∀ y H5, N y H5 → ∃ xs, H5 D = some (.lst xs) ∧ xs.length < sizeLine ∧ ∃ m', m' < m ∧ W (i + 1) m' (upd H5 D (.lst (xs ++ [y])))) ∧ ∀ x H3, J.yld i H2 x H3 → g x (blkSt ix σ) H3 fun σ4 H4 => StKeep (blkSt ix σ) σ4 ∧ te σ4 H4 N)
theorem pe_comp {elt iter tg : Expr} {scope : Scope} {pos : Pos} {N' : List Str} {ix : List (Option Nat)} {cl : List (Str × Addr)} {wi : TI} {g : TG} {te : TE} (hc : X.calm = true) (ck : ClOk X scope cl) (io : IxOk X N' scope ix) (hi : PI X tg iter wi)
    (hg : ∀ C s₀ H₀ fp, PG (blk X N' scope cl C s₀ H₀ fp) tg g) (he : ∀ C s₀ H₀ fp, PE (blk X N' scope cl C s₀ H₀ fp) elt te) (hs : ∀ x, foldedSetIterable iter X.env x = pure x := by intro _; rfl) :
    PE X (.ListComp elt [⟨tg, iter, [], 0⟩] scope pos) (tComp ix wi g te) := by
  intro pins s σ H Q I h
  rw [eval_ListComp]
  refine wpAny_comprehension_free (use := none) rfl hs ck.eq ck.kind ck.names (thn (hi pins s σ H _ I h) fun xv s1 h1 => thn h1 fun itv s2 h2 => ?_)
  obtain ⟨it, fp, tn, J, H1, rfl, I1, T, st1, f1, R⟩ := h2
  -- the list
  refine wpAny_newObj_type ?_
  have hD : H1 s2.heap.objs.size = none := I1.hok.fresh (Nat.le_refl _)
  obtain ⟨W, ⟨m0, w0⟩, turn⟩ := R _ hD
  have hfD : ∀ b ∈ fp, b < s2.heap.objs.size := fun b hb => let ⟨o, e, _⟩ := T.obj _ _ st1 b hb; Heap.lt_size e
  have I2 : Inv X pins σ (upd H1 s2.heap.objs.size (.lst [])) { s2 with heap := s2.heap.push { cls := .type "list", data := .seq ([] : List Value).toArray }, toks := s2.toks } := I1.lnew (its := []) .nil (Nat.zero_le _)
  have f2 : ∀ b ∈ fp, FpOk X pins (upd H1 s2.heap.objs.size (.lst [])) b := fun b hb => ⟨by rw [upd_ne (Nat.ne_of_lt (hfD b hb))]; exact (f1 b hb).1, (f1 b hb).2⟩
  have lt2 : ∀ b ∈ fp, b < (s2.heap.push { cls := .type "list", data := .seq ([] : List Value).toArray }).objs.size := fun b hb => by rw [Heap.size_push]; exact Nat.lt_succ_of_lt (hfD b hb)
  -- the block's own dict
  refine wpAny_newFunctionEnv ck.ncell (by intro y hy; simp at hy) (fun h3 hns sb3 => ?_) ck.kind
  dsimp only at hns sb3 ⊢
  have k3 : ∀ b o, (s2.heap.push { cls := .type "list", data := .seq ([] : List Value).toArray }).get? b = some o → h3.get? b = some o := fun b o e => (sb3.2 b (Nat.ne_of_lt (Heap.lt_size e))).trans (Heap.get?_push_of_some _ e)
  generalize hs2 : ({ s2 with heap := s2.heap.push { cls := .type "list", data := .seq ([] : List Value).toArray }, toks := s2.toks } : Shared) = s3 at I2
  have e3 : s2.heap.push { cls := .type "list", data := .seq ([] : List Value).toArray } = s3.heap := by rw [← hs2]
  rw [e3] at hns k3 lt2
  have I3 := blk_start (N' := N') (ix := ix) I2 ck io f2 lt2 (h' := h3) (t' := s2.toks + ([] : List (Str × Value)).length) hns k3
  have e4 : ({ s3 with heap := h3, toks := s2.toks + ([] : List (Str × Value)).length } : Shared) = { s2 with heap := h3, toks := s2.toks + ([] : List (Str × Value)).length } := by rw [← hs2]
  rw [e4] at I3
  have st3 : tn 0 h3 := T.keep _ _ _ st1 fun b hb o e => k3 b o (by rw [← e3]; exact Heap.get?_push_of_some _ e)
  have loop : ∀ s4 : Shared, s4 = { s2 with heap := h3, toks := s2.toks + ([] : List (Str × Value)).length } →
      codeAny (model X.prog X.w) X.A (.compLoop (.ListComp elt [⟨tg, iter, [], 0⟩] scope pos) 0 (.ref it) (.ref s2.heap.objs.size) (compEnvC scope cl s3.heap.objs.size X.env))
        (compPost (model X.prog X.w) X.A X.xe none (EP X pins σ Q) (.ref s2.heap.objs.size) s3.heap.objs.size) s4 := by
    rintro s4 rfl
    have stat : ∀ {H' : Hp}, (∀ b ∈ fp, H' b = none) → ∀ b ∈ fp, FpOk (blk X N' scope cl s3.heap.objs.size s3 (upd H1 s2.heap.objs.size (.lst [])) fp) [] H' b := fun hn b hb =>
      ⟨hn b hb, Nat.ne_of_lt (lt2 b hb), fun hs => I3.ok.exfs b hb hs, .inl hb, fun x c e => (f2 b hb).2.2.2.2.1 x c (ck.sub x c e), (fun p hp => by cases hp)⟩
    refine codeAny_loop rfl (fun n s' => ∃ i σ' H', Inv (blk X N' scope cl s3.heap.objs.size s3 (upd H1 s2.heap.objs.size (.lst [])) fp) [] σ' H' s' ∧ (∀ (j : Nat) v, (blkSt ix σ)[j]? = some (some v) → σ'[j]? = some (some v)) ∧ tn i s'.heap ∧ (∀ b ∈ fp, H' b = none) ∧ W i n H')
      (fun n s' hI => ?_) m0 ⟨0, _, _, I3, fun _ _ z => z, st3, fun b hb => (f2 b hb).1, w0⟩
    obtain ⟨i, σ5, H5, I5, wk, st5, fr5, w5⟩ := hI
    show wpAny _ _ ((compTurn (.ListComp elt [⟨tg, iter, [], 0⟩] scope pos) 0 (.ref it) (.ref s2.heap.objs.size) (compEnvC scope cl s3.heap.objs.size X.env)).onRaise (fun x => do noteFrame x (compEnvC scope cl s3.heap.objs.size X.env); theTreesLotGoes x)) _ _ s'
    refine wpAny_noted ?_
    rw [compTurn_list1]
    refine wpAny_bind (wpAny_standAt ?_)
    rcases turn i n H5 w5 with ⟨stop, qn⟩ | ⟨go, NN, hNN, step⟩
    · refine wpAny_bind (wpAny_mono (T.done (blk X N' scope cl s3.heap.objs.size s3 (upd H1 s2.heap.objs.size (.lst [])) fp) rfl rfl rfl hc i [] s' σ5 H5 (fun _ _ => False) I5 (stat fr5) st5 stop) (fun r s6 h6 => ?_) fun _ _ z => z.elim)
      obtain ⟨rfl, I6⟩ := h6
      refine wpAny_pure ?_
      obtain ⟨mm, hm, _⟩ := id I6.loc
      exact ⟨mm, hm, fun h' sb => ⟨.ref s2.heap.objs.size, H5, blk_end I2 f2 I6 sb, rfl, qn⟩⟩
    · refine wpAny_bind (wpAny_mono (T.item (blk X N' scope cl s3.heap.objs.size s3 (upd H1 s2.heap.objs.size (.lst [])) fp) rfl rfl rfl hc i [] s' σ5 H5 (fun _ _ => False) I5 (stat fr5) st5 go) (fun r s6 h6 => ?_) fun _ _ z => z.elim)
      obtain ⟨u, rfl, h6⟩ := h6
      refine wpAny_bind (wpAny_mono h6 (fun _ s7 h7 => ?_) fun _ _ z => z.elim)
      obtain ⟨x, H7, I7, r7, y7, st7, fr7⟩ := h7
      have I7w : Inv (blk X N' scope cl s3.heap.objs.size s3 (upd H1 s2.heap.objs.size (.lst [])) fp) [] (blkSt ix σ) H7 s7 := I7.weak (by rw [I7.len]; unfold blkSt; rw [List.length_map]; exact io.1) wk
      have I7p := I7w.pinned (stat fr7) (T.obj _ _ st7)
      refine wpAny_bind (wpAny_mono (hg _ _ _ _ _ s7 _ H7 x u _ I7p r7 (step x H7 y7)) (fun _ s8 h8 => ?_) fun _ _ z => z.elim)
      obtain ⟨σ8, H8, I8, kp8, q8⟩ := h8
      refine wpAny_bind (wpAny_bind (wpAny_mono (he _ _ _ _ _ s8 σ8 H8 _ I8 q8) (fun yv s9 h9 => ?_) fun _ _ z => z.elim))
      obtain ⟨y, H9, I9, r9, n9⟩ := h9
      obtain ⟨xs, hx9, hz9, m', hm', w9⟩ := hNN _ _ n9
      refine wpAny_bind (wpAny_mono (mt_append (X := blk X N' scope cl s3.heap.objs.size s3 (upd H1 s2.heap.objs.size (.lst [])) fp) _ s9 σ8 H9 (.ref s2.heap.objs.size) [y] (.ref s2.heap.objs.size) [yv] (fun _ H' => W (i + 1) m' H') I9 rfl (.cons r9 .nil) ⟨_, xs, y, rfl, rfl, hx9, hz9, w9⟩) (fun _ s10 h10 => ?_) fun _ _ z => z.elim)
      obtain ⟨_, H10, I10, _, w10⟩ := h10
      refine wpAny_pure (wpAny_pure ⟨rfl, m', hm', i + 1, σ8, H10, I10.unpinned, ?_, T.keep _ _ _ st7 fun b hb o e => (I10.pin (b, o) (List.mem_append_right _ (List.mem_append_right _ (mem_pinsAt hb e)))).1, fun b hb => ?_, w10⟩)
      · exact kp8.get
      · obtain ⟨o, e, d⟩ := T.obj _ _ st7 b hb
        exact (I10.pin (b, o) (List.mem_append_right _ (List.mem_append_right _ (mem_pinsAt hb e)))).2.1
  have e5 : s3.heap.objs.size = (s2.heap.push { cls := .type "list", data := .seq ([] : List Value).toArray }).objs.size := by rw [e3]
  rw [e5] at loop
  exact codeAny_compStart_list (loop _ rfl) (T.self X.A 0 _ _ _ st3 (loop _ rfl))
end
end L2

/-! MY RULES: a method by the object's own class; data (ints, texts, tuples, lists within one another) and their ==; texts; comprehensions over lists and tuples. -/
namespace L2
open PySem PySem.Spec PyProof.Rows
/-! ### o.m(..), the class and the method found where the object stands -/
section
variable {X : Cx} {m : Str} {pos apos : Pos} {e o : Expr} {es : List Expr} {ta : TE} {t : TA}
end
/-! ### data -/
mutual
inductive Rep (H : Hp) : V → PyData → Prop
  | non : Rep H .non .none
  | bl (b : Bool) : Rep H (.bl b) (.bool b)
  | int (i : Int) : Rep H (.int i) (.int i)
  | str (x : Str) : Rep H (.str x) (.str x)
  | lst {p : Addr} {xs : List V} {ds : List PyData} : H p = some (.lst xs) → Reps H xs ds → Rep H (.ref p) (.list ds)
  | tup {p : Addr} {xs : List V} {ds : List PyData} : H p = some (.tup xs) → Reps H xs ds → Rep H (.ref p) (.tuple ds)
inductive Reps (H : Hp) : List V → List PyData → Prop
  | nil : Reps H [] []
  | cons {v : V} {vs : List V} {d : PyData} {ds : List PyData} : Rep H v d → Reps H vs ds → Reps H (v :: vs) (d :: ds)
end
mutual
theorem Rep.imp {H H' : Hp} (f : ∀ p o, H p = some o → H' p = some o) : ∀ {v : V} {d : PyData}, Rep H v d → Rep H' v d
  | _, _, .non => .non
  | _, _, .bl b => .bl b
  | _, _, .int i => .int i
  | _, _, .str x => .str x
  | _, _, .lst e r => .lst (f _ _ e) (Reps.imp f r)
  | _, _, .tup e r => .tup (f _ _ e) (Reps.imp f r)
theorem Reps.imp {H H' : Hp} (f : ∀ p o, H p = some o → H' p = some o) : ∀ {vs : List V} {ds : List PyData}, Reps H vs ds → Reps H' vs ds
  | _, _, .nil => .nil
  | _, _, .cons a r => .cons (Rep.imp f a) (Reps.imp f r)
end
theorem Rep.same {H H' : Hp} {v : V} {d : PyData} (h : Rep H v d) (s : Same H H') : Rep H' v d := h.imp s
theorem Reps.same {H H' : Hp} {v : List V} {d : List PyData} (h : Reps H v d) (s : Same H H') : Reps H' v d := h.imp s
theorem Reps.len {H : Hp} : ∀ {vs : List V} {ds : List PyData}, Reps H vs ds → vs.length = ds.length
  | _, _, .nil => rfl
  | _, _, .cons _ r => by rw [List.length_cons, List.length_cons, Reps.len r]
theorem Reps.snoc {H : Hp} {v : V} {d : PyData} (a : Rep H v d) : ∀ {vs : List V} {ds : List PyData}, Reps H vs ds → Reps H (vs ++ [v]) (ds ++ [d])
  | _, _, .nil => .cons a .nil
  | _, _, .cons b r => .cons b (Reps.snoc a r)
theorem Reps.strs {H : Hp} : ∀ xs : List Str, Reps H (xs.map V.str) (xs.map PyData.str)
  | [] => .nil
  | x :: r => .cons (.str x) (Reps.strs r)
section
variable {X : Cx} {pins : List (Addr × Obj)} {σ : St} {H : Hp} {s : Shared}
mutual
theorem rep_reads (I : Inv X pins σ H s) : ∀ {v : V} {d : PyData} {u : Value}, Rep H v d → RelV v u → ∃ as, Reads s.heap u d as
  | _, _, u, .non, r => by cases (show u = Value.none from r); exact ⟨_, .none⟩
  | _, _, u, .bl b, r => by cases (show u = Value.bool b from r); exact ⟨_, .bool b⟩
  | _, _, u, .int i, r => by obtain ⟨t, q⟩ := (show ∃ t, u = Value.int i t from r); cases q; exact ⟨_, .int i t⟩
  | _, _, u, .str x, r => by obtain ⟨t, q⟩ := (show ∃ t, u = Value.str x t from r); cases q; exact ⟨_, .str x t⟩
  | _, _, u, @Rep.lst _ p xs ds e q, r => by
    cases (show u = Value.ref p from r)
    obtain ⟨_, its, n, rv, ho⟩ := (show ObjOk X.prog X.w H s.heap p (.lst xs) from I.hok p _ e)
    obtain ⟨as, z⟩ := reps_reads I q rv
    exact ⟨_, Reads.list ho rfl rfl (by simpa using z)⟩
  | _, _, u, @Rep.tup _ p xs ds e q, r => by
    cases (show u = Value.ref p from r)
    obtain ⟨_, its, rv, o, ho, hc, n, hd⟩ := (show ObjOk X.prog X.w H s.heap p (.tup xs) from I.hok p _ e)
    obtain ⟨as, z⟩ := reps_reads I q rv
    exact ⟨_, Reads.tuple ho hc hd (by simpa using z)⟩
theorem reps_reads (I : Inv X pins σ H s) : ∀ {vs : List V} {ds : List PyData} {us : List Value}, Reps H vs ds → Vals vs us → ∃ as, ReadsAll s.heap us ds as
  | _, _, _, .nil, .nil => ⟨_, .nil⟩
  | _, _, _, .cons a r, .cons q rv => by
    obtain ⟨as, z⟩ := rep_reads I a q
    obtain ⟨bs, y⟩ := reps_reads I r rv
    exact ⟨_, .cons z y⟩
end
end
/-- == and != of data -/
def rEqD (neg : Bool) : R2 := fun x y H Q => ∃ d e, Rep H x d ∧ Rep H y e ∧ SeqAt.shaped d = true ∧ SeqAt.shaped e = true ∧ Q (.bl (if neg then !PyData.eqv d e else PyData.eqv d e)) H
section
variable {X : Cx}
theorem op_eqD (hu : X.A.units + 64 < cLine) : OpR X (compareOp .Eq) (rEqD false) := by
  intro pins s σ H x y v u Q I rx ry h
  obtain ⟨d, e, h1, h2, s1, s2, q⟩ := h
  obtain ⟨as, r1⟩ := rep_reads I h1 rx
  obtain ⟨bs, r2⟩ := rep_reads I h2 ry
  exact eq_dataH r1 r2 s1 s2 hu ⟨.bl (PyData.eqv d e), H, I, rfl, q⟩
/-! ### texts -/
/-- s.join(xs), xs a list of texts -/
def rJoin (K : PySem.W.Frag) : V → List V → Hp → VK → Prop := fun x vs H Q => ∃ (z : Str) (p : Addr) (ys : List Str), x = .str z ∧ vs = [.ref p] ∧ SqL K H p (ys.map V.str) ∧ (ys.map (·.length)).sum + ys.length * z.length ≤ 16777216 ∧ Q (.str (Txt.join z ys)) H
theorem strsAre_of {ys : List Str} : ∀ {us : List Value}, Vals (ys.map V.str) us → StrsAre us ys := by
  induction ys with
  | nil => intro us r; cases r; exact .nil
  | cons y r ih =>
    intro us q
    cases q with
    | cons q1 q2 =>
      obtain ⟨t, rfl⟩ := q1
      exact .cons _ _ (ih q2)
theorem mt_join : MtR X "str.join" (rJoin X.K) := by
  intro pins s σ H x xs v us Q I rx rv h
  obtain ⟨z, p, ys, rfl, rfl, hq, hz, q⟩ := h
  obtain ⟨t, rfl⟩ := (show ∃ t, v = Value.str z t from rx)
  obtain ⟨u, rfl, ru⟩ := vals1 rv
  cases ru
  obtain ⟨its, rv, p1, _⟩ := I.list hq
  exact join_list p1.isList (strsAre_of rv) hz fun t' k => ⟨.str (Txt.join z ys), H, I.tok k, ⟨t', rfl⟩, q⟩
end
/-! ### comprehensions -/
theorem clok_none {X : Cx} {scope : Scope} (hk : scope.kind = .function) (hn : ∀ y ∈ scope.names, y.2 ≠ .free ∧ y.2 ≠ .cell) (hl : ∀ y ∈ scope.names, y.2 = .local → scope.names.lookup y.1 = some .local) : ClOk X scope [] where
  eq := closureFor_none fun y hy => (hn y hy).1
  sub := fun x c h => by cases h
  has := fun x h => by
    exfalso
    have e : (relabel scope X.env).names = scope.names := map_eq_self fun y hy => by
      obtain ⟨n, k⟩ := y
      have z := (hn _ hy).1
      have z' : (k == NameKind.free) = false := by simpa using z
      simp [z']
    rw [e] at h
    have mem : ∀ {k : NameKind}, scope.names.lookup x = some k → (x, k) ∈ scope.names := fun {k} q => by
      generalize scope.names = l at q
      induction l with
      | nil => cases q
      | cons a r ih =>
        obtain ⟨n, k'⟩ := a
        rw [List.lookup_cons] at q
        split at q
        · rename_i hb
          have hb' : x = n := by simpa using hb
          cases q
          subst hb'
          exact .head _
        · exact .tail _ (ih q)
    rcases h with h | h
    · exact (hn _ (mem h)).2 rfl
    · exact (hn _ (mem h)).1 rfl
  kind := hk
  ncell := fun y hy => (hn y hy).2
  names := hl
theorem ixok_none {X : Cx} {N' : List Str} {scope : Scope} {n : Nat} (h : n = N'.length) : IxOk X N' scope (List.replicate n none) := ⟨by rw [List.length_replicate]; exact h, fun i j e => by
  rw [List.getElem?_replicate] at e
  split at e <;> cases e⟩
section
variable {K : PySem.W.Frag} {a D : Addr} {xs : List V} {g : TG} {te : TE} {Q : VK} {σ₀ : St} {H : Hp}
theorem comp_list (Pv : Nat → List V → Hp → Prop) (h0 : Pv 0 [] (upd H D (.lst []))) (hl : ∀ i ys H, Pv i ys H → SqL K H a xs)
    (hs : ∀ i x ys H, xs[i]? = some x → Pv i ys H → g x σ₀ H fun σ4 H4 => StKeep σ₀ σ4 ∧ te σ4 H4 fun y H5 => H5 D = some (.lst ys) ∧ ys.length < sizeLine ∧ Pv (i + 1) (ys ++ [y]) (upd H5 D (.lst (ys ++ [y])))) (hd : ∀ ys H, Pv xs.length ys H → Q (.ref D) H) :
    ∃ W : Nat → Nat → Hp → Prop, (∃ m, W 0 m (upd H D (.lst []))) ∧ ∀ i m H2, W i m H2 →
      ((Itl K a).stop i H2 ∧ Q (.ref D) H2) ∨ ((Itl K a).go i H2 ∧ ∃ N : VK, (∀ y H5, N y H5 → ∃ xs, H5 D = some (.lst xs) ∧ xs.length < sizeLine ∧ ∃ m', m' < m ∧ W (i + 1) m' (upd H5 D (.lst (xs ++ [y])))) ∧
        ∀ x H3, (Itl K a).yld i H2 x H3 → g x σ₀ H3 fun σ4 H4 => StKeep σ₀ σ4 ∧ te σ4 H4 N) := by
  refine ⟨fun i m H => m = xs.length - i ∧ i ≤ xs.length ∧ ∃ ys, Pv i ys H, ⟨xs.length, by simp, Nat.zero_le _, [], h0⟩, ?_⟩
  rintro i m H2 ⟨rfl, hi, ys, p⟩
  have q := hl i ys H2 p
  by_cases hlt : i < xs.length
  · refine .inr ⟨⟨xs, xs[i], q, by simp [hlt]⟩, fun y H5 => H5 D = some (.lst ys) ∧ ys.length < sizeLine ∧ Pv (i + 1) (ys ++ [y]) (upd H5 D (.lst (ys ++ [y]))), fun y H5 n => ⟨ys, n.1, n.2.1, xs.length - (i + 1), by omega, rfl, hlt, _, n.2.2⟩, fun x H3 z => ?_⟩
    obtain ⟨e, z⟩ := z
    subst e
    exact hs i x ys _ (z xs q) p
  · have e : i = xs.length := by omega
    subst e
    exact .inl ⟨⟨xs, q, Nat.le_refl _⟩, hd ys H2 p⟩
theorem comp_tup (Pv : Nat → List V → Hp → Prop) (h0 : Pv 0 [] (upd H D (.lst []))) (hl : ∀ i ys H, Pv i ys H → SqT K H a xs)
    (hs : ∀ i x ys H, xs[i]? = some x → Pv i ys H → g x σ₀ H fun σ4 H4 => StKeep σ₀ σ4 ∧ te σ4 H4 fun y H5 => H5 D = some (.lst ys) ∧ ys.length < sizeLine ∧ Pv (i + 1) (ys ++ [y]) (upd H5 D (.lst (ys ++ [y])))) (hd : ∀ ys H, Pv xs.length ys H → Q (.ref D) H) :
    ∃ W : Nat → Nat → Hp → Prop, (∃ m, W 0 m (upd H D (.lst []))) ∧ ∀ i m H2, W i m H2 →
      ((Itt K a).stop i H2 ∧ Q (.ref D) H2) ∨ ((Itt K a).go i H2 ∧ ∃ N : VK, (∀ y H5, N y H5 → ∃ xs, H5 D = some (.lst xs) ∧ xs.length < sizeLine ∧ ∃ m', m' < m ∧ W (i + 1) m' (upd H5 D (.lst (xs ++ [y])))) ∧
        ∀ x H3, (Itt K a).yld i H2 x H3 → g x σ₀ H3 fun σ4 H4 => StKeep σ₀ σ4 ∧ te σ4 H4 N) := by
  refine ⟨fun i m H => m = xs.length - i ∧ i ≤ xs.length ∧ ∃ ys, Pv i ys H, ⟨xs.length, by simp, Nat.zero_le _, [], h0⟩, ?_⟩
  rintro i m H2 ⟨rfl, hi, ys, p⟩
  have q := hl i ys H2 p
  by_cases hlt : i < xs.length
  · refine .inr ⟨⟨xs, xs[i], q, by simp [hlt]⟩, fun y H5 => H5 D = some (.lst ys) ∧ ys.length < sizeLine ∧ Pv (i + 1) (ys ++ [y]) (upd H5 D (.lst (ys ++ [y]))), fun y H5 n => ⟨ys, n.1, n.2.1, xs.length - (i + 1), by omega, rfl, hlt, _, n.2.2⟩, fun x H3 z => ?_⟩
    obtain ⟨e, z⟩ := z
    subst e
    exact hs i x ys _ (z xs q) p
  · have e : i = xs.length := by omega
    subst e
    exact .inl ⟨⟨xs, q, Nat.le_refl _⟩, hd ys H2 p⟩
end
end L2

/-! MY RULES: f-strings of texts and ints. -/
namespace L2
open PySem PySem.Spec PyProof.Rows
abbrev TJ := St → Hp → Str → (Str → Hp → Prop) → Prop
def PJ (X : Cx) (es : List Expr) (t : TJ) : Prop :=
  ∀ (pins : List (Addr × Obj)) (s : Shared) (σ : St) (H : Hp) (out : Str) (Q : Str → Hp → Prop), Inv X pins σ H s → t σ H out Q → wpAny (model X.prog X.w) X.A (joinParts out (evalEach es X.env)) (EP X pins σ fun v H' => ∃ z, v = .str z ∧ Q z H') X.xe s
def tJnil : TJ := fun _ H out Q => out.length ≤ sizeLine ∧ Q out H
def tJlit (x : Str) (tr : TJ) : TJ := fun σ H out Q => (out ++ x).length ≤ sizeLine ∧ tr σ H (out ++ x) Q
section
variable {X : Cx} {e : Expr} {es : List Expr} {te : TE} {tr : TJ} {pos p2 : Pos}
theorem pj_nil : PJ X [] tJnil := fun pins s σ H out Q I h => joinParts_nil ⟨.str out, H, I.tok _, ⟨_, rfl⟩, out, rfl, h.2⟩ h.1
theorem pj_lit {x : Str} {j : Nat} (hr : PJ X es tr) (hs : evalEach (.Constant (.str x) j pos :: es) X.env = eval (.Constant (.str x) j pos) X.env :: evalEach es X.env := by rfl) : PJ X (.Constant (.str x) j pos :: es) (tJlit x tr) := by
  intro pins s σ H out Q I h
  rw [hs]
  refine joinParts_cons (thn (pe_str pins s σ H (fun v H' => v = .str x ∧ H' = H) I ⟨rfl, rfl⟩) fun v s1 ⟨y, H1, I1, rx, ey, eH⟩ => ?_)
  subst ey eH
  obtain ⟨t, rfl⟩ := (show ∃ t, v = Value.str x t from rx)
  exact ⟨h.1, hr pins s1 σ H1 _ Q I1 h.2⟩
def tJoin (tj : TJ) : TE := fun σ H Q => tj σ H Str.empty fun z H' => Q (.str z) H'
theorem pe_fstr {a b : Expr} {tj : TJ} (h : PJ X (a :: b :: es) tj) (hs : evalEach (a :: b :: es) X.env = eval a X.env :: eval b X.env :: evalEach es X.env := by rfl) : PE X (.JoinedStr (a :: b :: es) pos) (tJoin tj) := by
  intro pins s σ H Q I hq
  refine JoinedStr_many ?_
  rw [← hs]
  exact thn (h pins s σ H _ _ I hq) fun u s1 ⟨v, H1, I1, rv, z, ez, q⟩ => by subst ez; exact ⟨.str z, H1, I1, rv, q⟩
end
end L2

/-! MY RULES: a comprehension that takes one name over; range(a, b, c). -/
namespace L2
open PySem PySem.Spec PyProof.Rows
theorem lookup_mem {x : Str} {k : NameKind} : ∀ {l : List (Str × NameKind)}, l.lookup x = some k → (x, k) ∈ l
  | [], q => by cases q
  | (n, k') :: r, q => by
    rw [List.lookup_cons] at q
    split at q
    · rename_i hb
      have hb' : x = n := by simpa using hb
      cases q
      subst hb'
      exact .head _
    · exact .tail _ (lookup_mem q)
theorem clok_one {X : Cx} {scope : Scope} {x : Str} {c : Addr} (he : closureFor scope X.env = pure [(x, c)]) (hc : X.env.cells.lookup x = some c) (hk : scope.kind = .function) (hn : ∀ y ∈ scope.names, y.2 ≠ .cell ∧ (y.2 = .free → y.1 = x))
    (hl : ∀ y ∈ scope.names, y.2 = .local → scope.names.lookup y.1 = some .local) : ClOk X scope [(x, c)] where
  eq := he
  sub := fun y d h => by
    rw [List.lookup_cons] at h
    split at h
    · rename_i hb
      have hb' : y = x := by simpa using hb
      cases h
      subst hb'
      exact hc
    · cases h
  has := fun y h => by
    have key : y = x := by
      have m : ∃ k, (y, k) ∈ (relabel scope X.env).names ∧ (k = .cell ∨ k = .free) := h.elim (fun z => ⟨_, lookup_mem z, .inl rfl⟩) fun z => ⟨_, lookup_mem z, .inr rfl⟩
      obtain ⟨k, hm, hk⟩ := m
      obtain ⟨⟨n, k0⟩, h0, e⟩ := List.mem_map.mp hm
      dsimp only at e
      by_cases hf : k0 = .free
      · have en : n = y := by
          split at e
          · exact congrArg Prod.fst e
          · exact congrArg Prod.fst e
        rw [← en]
        exact (hn _ h0).2 hf
      · have hb : (k0 == NameKind.free) = false := by simpa using hf
        simp only [hb, Bool.false_and, Bool.false_eq_true, if_false] at e
        have e2 : k0 = k := congrArg Prod.snd e
        subst e2
        rcases hk with hk | hk
        · exact absurd hk (hn _ h0).1
        · exact absurd hk hf
    subst key
    exact ⟨c, by simp [List.lookup_cons]⟩
  kind := hk
  ncell := fun y hy => (hn y hy).1
  names := hl
theorem ixok_last {X : Cx} {N0 : List Str} {x : Str} {scope : Scope} {j : Nat} (hN : X.N[j]? = some x) (h1 : X.env.scope.names.lookup x = some .cell ∨ X.env.scope.names.lookup x = some .free)
    (h2 : (relabel scope X.env).names.lookup x = some .cell ∨ (relabel scope X.env).names.lookup x = some .free) : IxOk X (N0 ++ [x]) scope (List.replicate N0.length none ++ [some j]) := by
  refine ⟨by simp, fun i k e => ?_⟩
  by_cases hi : i < N0.length
  · rw [List.getElem?_append_left (by simpa using hi), List.getElem?_replicate] at e
    split at e <;> cases e
  · have hi' : i = N0.length := by
      have := (List.getElem?_eq_some_iff.mp e).1
      simp at this
      omega
    subst hi'
    rw [List.getElem?_append_right (by simp)] at e
    have ek : j = k := by simpa using e
    subst ek
    exact ⟨x, by simp, hN, h1, h2⟩
/-! ### range(a, b, c) -/
end L2

/-! MY RULES: a part of the heap; data in a part; lookups of attributes; what is walked may be a list or a tuple. -/
set_option linter.all false
namespace L2
open PySem PySem.Spec PyProof.Rows
/-! ### heaps -/
theorem same_fresh {H H' : Hp} {l : Addr} {o : HO} (s : Same H H') (hl : H l = none) : Same H (upd H' l o) := fun b u e => by
  rw [upd_ne (ne_of_none e hl)]
  exact s b u e
theorem same_new {H : Hp} {l : Addr} {o : HO} (hl : H l = none) : Same H (upd H l o) := same_fresh (Same.refl H) hl
theorem same_made {H : Hp} {x dx : Addr} {o u v : HO} (hx : H x = none) (hd : H dx = none) : Same H (upd (upd (upd H dx o) x u) x v) := same_fresh (same_fresh (same_new hd) hx) hx
theorem line_le {n : Nat} (h : n ≤ 1000000) : n ≤ sizeLine := by rw [sizeLine_eq]; omega
theorem line_lt {n : Nat} (h : n ≤ 1000000) : n < sizeLine := by rw [sizeLine_eq]; omega
theorem Paired.snoc {α β : Type} {F : α → β → Prop} {a : α} {b : β} (h : F a b) : ∀ {xs : List α} {ys : List β}, Paired F xs ys → Paired F (xs ++ [a]) (ys ++ [b])
  | _, _, .nil => .cons h .nil
  | _, _, .cons r t => .cons r (Paired.snoc h t)
/-- the part of the heap that S says -/
noncomputable def restr (S : Addr → Prop) (H : Hp) : Hp := fun a => @ite _ (S a) (Classical.propDecidable _) (H a) none
theorem restr_in {S : Addr → Prop} {H : Hp} {a : Addr} (h : S a) : restr S H a = H a := by unfold restr; rw [if_pos h]
theorem restr_out {S : Addr → Prop} {H : Hp} {a : Addr} (h : ¬ S a) : restr S H a = none := by unfold restr; rw [if_neg h]
theorem restr_some {S : Addr → Prop} {H : Hp} {a : Addr} {o : HO} (h : restr S H a = some o) : S a ∧ H a = some o := by
  by_cases hs : S a
  · rw [restr_in hs] at h; exact ⟨hs, h⟩
  · rw [restr_out hs] at h; cases h
theorem restr_mk {S : Addr → Prop} {H : Hp} {a : Addr} {o : HO} (hs : S a) (h : H a = some o) : restr S H a = some o := by rw [restr_in hs]; exact h
theorem restr_sub {S : Addr → Prop} {H : Hp} : Same (restr S H) H := fun _ _ e => (restr_some e).2
theorem restr_same {S : Addr → Prop} {H H' : Hp} (s : Same H H') : Same (restr S H) (restr S H') := fun b o e => restr_mk (restr_some e).1 (s _ _ (restr_some e).2)
theorem restr_imp {S S' : Addr → Prop} {H H' : Hp} (s : Same H H') (h : ∀ a o, H a = some o → S a → S' a) : Same (restr S H) (restr S' H') := fun b o e => restr_mk (h _ _ (restr_some e).2 (restr_some e).1) (s _ _ (restr_some e).2)
theorem restr_upd {S : Addr → Prop} {H H' : Hp} {l : Addr} {o : HO} (s : Same (restr S H) (restr S H')) (h : ¬ S l) : Same (restr S H) (restr S (upd H' l o)) := fun b u e => by
  have q := restr_some (s _ _ e)
  have hne : b ≠ l := fun z => h (by rw [← z]; exact q.1)
  exact restr_mk q.1 (by rw [upd_ne hne]; exact q.2)
/-! ### data -/
mutual
theorem Rep.imp2 {H H' : Hp} (f : ∀ p xs, H p = some (.lst xs) → H' p = some (.lst xs)) (g : ∀ p xs, H p = some (.tup xs) → H' p = some (.tup xs)) : ∀ {v : V} {d : PyData}, Rep H v d → Rep H' v d
  | _, _, .non => .non
  | _, _, .bl b => .bl b
  | _, _, .int i => .int i
  | _, _, .str x => .str x
  | _, _, .lst e r => .lst (f _ _ e) (Reps.imp2 f g r)
  | _, _, .tup e r => .tup (g _ _ e) (Reps.imp2 f g r)
theorem Reps.imp2 {H H' : Hp} (f : ∀ p xs, H p = some (.lst xs) → H' p = some (.lst xs)) (g : ∀ p xs, H p = some (.tup xs) → H' p = some (.tup xs)) : ∀ {vs : List V} {ds : List PyData}, Reps H vs ds → Reps H' vs ds
  | _, _, .nil => .nil
  | _, _, .cons a r => .cons (Rep.imp2 f g a) (Reps.imp2 f g r)
end
/-- an instance is changed: no matter to data -/
theorem Rep.ins {H : Hp} {v : V} {d : PyData} {p C dx : Addr} {fs : List (Str × V)} {o : HO} (h : Rep H v d) (e : H p = some (.ins C dx fs)) : Rep (upd H p o) v d :=
  h.imp2 (fun q xs z => by rw [upd_ne (ne_of z e (by intro w; cases w))]; exact z) (fun q xs z => by rw [upd_ne (ne_of z e (by intro w; cases w))]; exact z)
section
variable {G : Hp} {v : V} {vs : List V} {d : PyData} {ds : List PyData}
theorem rep_lst (h : Rep G v (.list ds)) : ∃ p xs, v = .ref p ∧ G p = some (.lst xs) ∧ Reps G xs ds := by
  cases h with
  | lst e r => exact ⟨_, _, rfl, e, r⟩
end
mutual
def cnt : PyData → Nat
  | .none => 1
  | .bool _ => 1
  | .int _ => 1
  | .str _ => 1
  | .list xs => cntAll xs + 1
  | .tuple xs => cntAll xs + 1
  | .dict _ => 1
def cntAll : List PyData → Nat
  | [] => 0
  | x :: xs => cnt x + cntAll xs
end
theorem cnt_pos (d : PyData) : 1 ≤ cnt d := by cases d <;> simp [cnt]
theorem cnt_len : ∀ ds : List PyData, ds.length ≤ cntAll ds
  | [] => by simp [cntAll]
  | d :: r => by
    have := cnt_len r
    have := cnt_pos d
    simp only [cntAll, List.length_cons]
    omega
theorem cnt_at : ∀ {ds : List PyData} {i : Nat} {d : PyData}, ds[i]? = some d → cnt d ≤ cntAll ds ∧ PyData.depth d ≤ PyData.depthAll ds
  | [], _, _, e => by simp at e
  | d :: r, 0, _, e => by
    simp at e; subst e
    simp only [cntAll, PyData.depthAll]
    omega
  | x :: r, i + 1, d, e => by
    have := cnt_at (ds := r) (i := i) (d := d) (by simpa using e)
    simp only [cntAll, PyData.depthAll]
    omega
theorem Reps.get2 {H : Hp} : ∀ {vs : List V} {ds : List PyData} {i : Nat} {v : V}, Reps H vs ds → vs[i]? = some v → ∃ d, ds[i]? = some d ∧ Rep H v d
  | _, _, _, _, .nil, e => by simp at e
  | _, _, 0, _, .cons a _, e => by simp at e; subst e; exact ⟨_, rfl, a⟩
  | _, _, i + 1, v, .cons _ r, e => by
    obtain ⟨d, h1, h2⟩ := Reps.get2 (i := i) (v := v) r (by simpa using e)
    exact ⟨d, by simpa using h1, h2⟩
/-! ### attributes -/
theorem lk0 {k : Str} {v : V} {r : List (Str × V)} : List.lookup k ((k, v) :: r) = some v := by simp [List.lookup_cons]
theorem lk1 {k j : Str} {v : V} {r : List (Str × V)} {o : Option V} (h : (k == j) = false) (e : List.lookup k r = o) : List.lookup k ((j, v) :: r) = o := by
  rw [List.lookup_cons, h]
  exact e
theorem putF_nil {f : Str} {v : V} : putF f v [] = [(f, v)] := rfl
theorem putF_ne {f g : Str} {v x : V} {r : List (Str × V)} (h : ¬ g = f) : putF f v ((g, x) :: r) = (g, x) :: putF f v r := by rw [putF, if_neg h]
/-! ### a test that is known -/
theorem iteYes {c A B : Prop} [Decidable c] (hc : c) (h : A) : if decide c = true then A else B := by
  rw [decide_eq_true hc]
  exact iteT h
theorem iteD {c A B : Prop} [Decidable c] (h1 : c → A) (h2 : ¬ c → B) : if decide c = true then A else B :=
  ite2 (fun h => h1 (of_decide_eq_true h)) (fun h => h2 fun hc => h (decide_eq_true hc))
theorem iteND {c A B : Prop} [Decidable c] (h1 : ¬ c → A) (h2 : c → B) : if (!decide c) = true then A else B :=
  ite2 (fun h => h1 fun hc => by rw [decide_eq_true hc] at h; cases h) (fun h => h2 (by
    by_cases hc : c
    · exact hc
    · rw [decide_eq_false hc] at h; exact absurd rfl h))
/-! ### a list or a tuple is walked -/
section
variable {X : Cx}
theorem pi_seq {tg l : Expr} {tl : TE} (hl : PE X l tl) : PI X tg l (fun σ H R => iList X.K tl σ H R ∨ iTup X.K tl σ H R) := fun pins s σ H R I h => h.elim (pi_list hl pins s σ H R I) (pi_tup hl pins s σ H R I)
end
/-! ### atI -/
theorem atI_ok {α : Type} {xs : List α} {i : Int} (h0 : 0 ≤ i) (h1 : i < xs.length) : ∃ v, xs[i.toNat]? = some v ∧ atI xs i = some v := by
  obtain ⟨n, rfl⟩ := Int.eq_ofNat_of_zero_le h0
  have hn : n < xs.length := by omega
  exact ⟨xs[n], by simp [hn], atI_nat (by simp [hn])⟩
theorem at_mapV {α : Type} {f : α → V} {xs : List α} {i : Int} (h0 : 0 ≤ i) (h1 : i < xs.length) : ∃ x, xs[i.toNat]? = some x ∧ atI (xs.map f) i = some (f x) := by
  obtain ⟨n, rfl⟩ := Int.eq_ofNat_of_zero_le h0
  have hn : n < xs.length := by omega
  exact ⟨xs[n], by simp [hn], atI_nat (by simp [hn])⟩
/-! ### comprehensions: the end is said of the heap alone -/
section
variable {K : PySem.W.Frag} {a D : Addr} {xs : List V} {g : TG} {te : TE} {QD : Hp → Prop} {σ₀ : St} {H : Hp}
theorem comp_listQ (Pv : Nat → List V → Hp → Prop) (h0 : Pv 0 [] (upd H D (.lst []))) (hl : ∀ i ys H, Pv i ys H → SqL K H a xs)
    (hs : ∀ i x ys H, xs[i]? = some x → Pv i ys H → g x σ₀ H fun σ4 H4 => StKeep σ₀ σ4 ∧ te σ4 H4 fun y H5 => H5 D = some (.lst ys) ∧ ys.length < sizeLine ∧ Pv (i + 1) (ys ++ [y]) (upd H5 D (.lst (ys ++ [y])))) (hd : ∀ ys H, Pv xs.length ys H → QD H) :
    ∃ W : Nat → Nat → Hp → Prop, (∃ m, W 0 m (upd H D (.lst []))) ∧ ∀ i m H2, W i m H2 →
      ((Itl K a).stop i H2 ∧ QD H2) ∨ ((Itl K a).go i H2 ∧ ∃ N : VK, (∀ y H5, N y H5 → ∃ xs, H5 D = some (.lst xs) ∧ xs.length < sizeLine ∧ ∃ m', m' < m ∧ W (i + 1) m' (upd H5 D (.lst (xs ++ [y])))) ∧
        ∀ x H3, (Itl K a).yld i H2 x H3 → g x σ₀ H3 fun σ4 H4 => StKeep σ₀ σ4 ∧ te σ4 H4 N) := comp_list (Q := fun _ H => QD H) Pv h0 hl hs hd
theorem comp_tupQ (Pv : Nat → List V → Hp → Prop) (h0 : Pv 0 [] (upd H D (.lst []))) (hl : ∀ i ys H, Pv i ys H → SqT K H a xs)
    (hs : ∀ i x ys H, xs[i]? = some x → Pv i ys H → g x σ₀ H fun σ4 H4 => StKeep σ₀ σ4 ∧ te σ4 H4 fun y H5 => H5 D = some (.lst ys) ∧ ys.length < sizeLine ∧ Pv (i + 1) (ys ++ [y]) (upd H5 D (.lst (ys ++ [y])))) (hd : ∀ ys H, Pv xs.length ys H → QD H) :
    ∃ W : Nat → Nat → Hp → Prop, (∃ m, W 0 m (upd H D (.lst []))) ∧ ∀ i m H2, W i m H2 →
      ((Itt K a).stop i H2 ∧ QD H2) ∨ ((Itt K a).go i H2 ∧ ∃ N : VK, (∀ y H5, N y H5 → ∃ xs, H5 D = some (.lst xs) ∧ xs.length < sizeLine ∧ ∃ m', m' < m ∧ W (i + 1) m' (upd H5 D (.lst (xs ++ [y])))) ∧
        ∀ x H3, (Itt K a).yld i H2 x H3 → g x σ₀ H3 fun σ4 H4 => StKeep σ₀ σ4 ∧ te σ4 H4 N) := comp_tup (Q := fun _ H => QD H) Pv h0 hl hs hd
end
/-! ### isinstance of an own class -/
theorem kit_false {K : PySem.W.Frag} {C D : Addr} (h0 : (Value.ref C == Value.ref D) = false) (h1 : PySem.W.isClsIn K D = true) (h2 : PySem.W.typeIn K (.ref D) = some (.type "type")) (h3 : PySem.W.mroIn K C (.ref D) = some false) : PySem.W.kitOne K (.ref C) (.ref D) = some false := by
  unfold PySem.W.kitOne
  rw [if_neg (by rw [h0]; exact Bool.false_ne_true)]
  show (if ((PySem.W.clsIn K D).isSome && PySem.W.typeIn K (.ref D) == some (.type "type")) = true then PySem.W.subIn K (.ref C) (.ref D) else none) = some false
  have h1' : (PySem.W.clsIn K D).isSome = true := h1
  rw [if_pos (by rw [h1', h2]; rfl)]
  exact h3
end L2

/-! MY RULES: dict(d), for k in d, == and != of two dicts that hold the same, a comprehension with a test. -/
set_option linter.all false
namespace L2
open PySem PySem.Spec PyProof.Rows
section
variable {X : Cx}
/-! ### frozen while it is walked -/
theorem Inv.frozen {pins : List (Addr × Obj)} {σ : St} {H : Hp} {s : Shared} {a : Addr} {o : Obj} {kvs : List (Key × V)} (I : Inv X pins σ H s) (ha : H a = some (.dK kvs)) (ho : s.heap.get? a = some o) : Inv X pins σ (upd H a (.frz o (.dK kvs))) s :=
  I.write (t' := s.toks) (h' := s.heap) (e := a) (by rw [ha]; trivial) (.inl rfl) (fun _ _ _ e => e) ⟨o, ho⟩ ⟨ho, (show ObjOk X.prog X.w H s.heap a (.dK kvs) from I.hok a _ ha)⟩
theorem Inv.thaw {pins : List (Addr × Obj)} {σ : St} {H : Hp} {s : Shared} {a : Addr} {o : Obj} {u : HO} (I : Inv X pins σ H s) (ha : H a = some (.frz o u)) (hu : ∃ kvs, u = .dK kvs) (h0 : ∀ o' u', X.H₀ a ≠ some (.frz o' u')) : Inv X pins σ (upd H a u) s := by
  have nf : ∀ b, H b = none → upd H a u b = none := fun b e => by rw [upd_ne (fun z => by subst z; rw [ha] at e; cases e)]; exact e
  obtain ⟨kvs, rfl⟩ := hu
  refine ⟨I.ok, I.os, I.bare, ⟨I.base.keep, I.base.slot, fun b ob e n hx => nf b (I.base.free b ob e n hx), I.base.there, fun b xs e => ?_, fun b ob u' e => ?_, fun b ps e => ?_⟩, I.loc, I.cell, nf _ I.free, fun x c e => nf _ (I.freeC x c e),
    fun p hp => ⟨(I.pin p hp).1, nf _ (I.pin p hp).2.1, (I.pin p hp).2.2⟩, fun b v e => ?_, I.len⟩
  · have q := I.base.tups b xs e
    rw [upd_ne (ne_of q ha (by intro z; cases z))]; exact q
  · have q := I.base.frzs b ob u' e
    rw [upd_ne (fun z => by subst z; exact h0 _ _ e)]; exact q
  · obtain ⟨more, q⟩ := I.base.tbls b ps e
    exact ⟨more, by rw [upd_ne (ne_of q ha (by intro z; cases z))]; exact q⟩
  · by_cases hb : b = a
    · subst hb
      rw [upd_same] at e
      cases e
      obtain ⟨_, q⟩ := (show ObjOk X.prog X.w H s.heap b (.frz o (.dK kvs)) from I.hok b _ ha)
      exact q
    · rw [upd_ne hb] at e
      exact (I.hok b v e).stay (fun _ _ _ q => q) (fun c q => by rw [upd_ne (ne_of q ha (by intro z; cases z))]; exact q) fun c xs q => by rw [upd_ne (ne_of q ha (by intro z; cases z))]; exact q
/-- the rest, with the dict that was walked as it was -/
def tThaw (X : Cx) (t : TS) : TS := fun D σ H => ∃ a o kvs, H a = some (.frz o (.dK kvs)) ∧ (∀ o' u', X.H₀ a ≠ some (.frz o' u')) ∧ t D σ (upd H a (.dK kvs))
theorem pss_thaw {sts : List Stmt} {t : TS} (h : PSs X sts t) : PSs X sts (tThaw X t) := by
  intro pins s σ H D I hw
  obtain ⟨a, o, kvs, ha, h0, q⟩ := hw
  exact h pins s σ _ D (I.thaw ha ⟨kvs, rfl⟩ h0) q
theorem KV.at {kvs : List (Key × V)} {vs : List (Key × Value)} : KV kvs vs → ∀ {i : Nat} {k : Key} {v : V}, kvs[i]? = some (k, v) → ∃ u, vs[i]? = some (k, u) ∧ RelV v u := by
  intro r
  unfold KV at r
  induction r with
  | nil => intro i k v e; simp at e
  | @cons p q ps qs h t ih =>
    intro i k v e
    cases i with
    | zero =>
      simp at e
      subst e
      obtain ⟨h1, h2⟩ := h
      obtain ⟨q1, q2⟩ := q
      cases h1
      exact ⟨q2, rfl, h2⟩
    | succ j =>
      obtain ⟨u, e1, e2⟩ := ih (i := j) (by simpa using e)
      exact ⟨u, by simpa using e1, e2⟩
end
theorem dict_ep {P : Program} {w : World} {H : Hp} {h : Heap} {a : Addr} {o : Obj} {kvs : List (Key × V)} {es : Array DictEntry} {ep : Nat} (ok : HOk P w H h) (ha : H a = some (.frz o (.dK kvs))) (ho : o.data = .dict es ep) :
    (a == sysModules) = false ∧ ∃ vs, KV kvs vs ∧ h.DictAt (mixKind P w) a vs ep := by
  obtain ⟨e1, hz, hs, vs, rel, o', es', ep', e2, c, d, r⟩ := (show ObjOk P w H h a (.frz o (.dK kvs)) from ok a _ ha)
  rw [e1] at e2
  cases e2
  rw [ho] at d
  cases d
  exact ⟨hs, vs, rel, o, es, e1, c, ho, r⟩
/-! ### two dicts that hold the same -/
section
variable {X : Cx}
end
end L2

/-! MY RULES: for k, v in d.items() (the loop), d.setdefault(k, v), for c in text. -/
set_option linter.all false
namespace L2
open PySem PySem.Spec PyProof.Rows
section
/-! ### d.setdefault(k, v) -/
/-! ### for c in text -/
def Its (z : Str) : It := ⟨fun i _ => i < z.cps.size, fun i H x H' => H' = H ∧ ∃ c, z.cps[i]? = some c ∧ x = .str ⟨#[c]⟩, fun i _ => i = z.cps.size⟩
theorem turn_str {P : Program} {w : World} {K : PySem.W.Frag} {tg : Expr} {ty : String} (it : Addr) (z : Str) (t : Tok)
    (hty : ["enumerate", "zip", "dict_itemiterator", "dict_reverseitemiterator", "odict_iterator", "itertools.zip_longest", "itertools.pairwise"].contains ty = false)
    (W : ∀ A' : Around, A'.handled = none → Walks P w A' it [it] [it] z.cps.size (SignAt z) (fun i h => h.IsStrIter it ty z t i))
    (Wi : ∀ (A : Around) (i : Nat) (s : Shared) (Q : Value → Shared → Prop) (E : Value → Shared → Prop), s.heap.IsStrIter it ty z t i → Q (.ref it) s → wpAny (model P w) A (pyIter (.ref it)) Q E s) :
    Turn P w K tg (Its z) [it] it (fun i h => h.IsStrIter it ty z t i) where
  mem := by simp
  obj := fun i h st b hb => by
    have e : b = it := by simpa using hb
    subst e
    obtain ⟨ob, e, _, d⟩ := st
    exact ⟨ob, e, fun v z => by rw [d] at z; cases z⟩
  keep := fun i h h' st k => let ⟨o, ho, r⟩ := st; ⟨o, k it (by simp) o ho, r⟩
  item := by
    intro X hP hw hK hc i pins s σ H E I hf st hg
    subst hP hw hK
    obtain ⟨f0, f1, f2, f3, f4, f5⟩ := hf it (by simp)
    refine (W _ (I.ok.hd hc)).item i s _ E hg st fun v h' tk hv hst kp => ?_
    obtain ⟨c, u, hc1, rfl⟩ := hv
    have I1 : Inv X pins σ H { s with heap := h', toks := tk } := I.turned (t' := tk) (fun b ob hb e => kp b ob (by simpa using hb) e) f0 f1 f3 f4 f5
    obtain ⟨ob, e, c', d⟩ := id hst
    exact ⟨_, rfl, go_of (s := { s with heap := h', toks := tk }) e c' d hty ⟨.str ⟨#[c]⟩, H, I1, ⟨u, rfl⟩, ⟨rfl, c, hc1, rfl⟩, hst, fun b hb => (hf b hb).1⟩⟩
  done := by
    intro X hP hw hK hc i pins s σ H E I hf st hg
    subst hP hw hK
    obtain ⟨f0, f1, f2, f3, f4, f5⟩ := hf it (by simp)
    cases (show i = z.cps.size from hg)
    exact (W _ (I.ok.hd hc)).done s _ E st fun h' tk kp => ⟨rfl, I.turned (t' := tk) (fun b ob hb e => kp b ob (by simpa using hb) e) f0 f1 f3 f4 f5⟩
  self := fun A i s Q E st h => Wi A i s Q E st h
def iStr (tl : TE) : TI := fun σ H R => tl σ H fun x H1 => ∃ z, x = .str z ∧ R (Its z) H1
theorem pi_str {X : Cx} {tg l : Expr} {tl : TE} (hl : PE X l tl) : PI X tg l (iStr tl) := by
  intro pins s σ H R I h
  refine thn (hl pins s σ H _ I h) fun y s1 ⟨x, H1, I1, rx, z, ex, q⟩ => ?_
  subst ex
  obtain ⟨t, rfl⟩ := (show ∃ t, y = Value.str z t from rx)
  have fp : ∀ b ∈ [s1.heap.objs.size], FpOk X pins H1 b := fun b hb => by
    have e : b = s1.heap.objs.size := by simpa using hb
    subst e
    exact I1.fpOk (Nat.le_refl _) (I1.hok.fresh (Nat.le_refl _))
  cases ha : z.cps.all (· < 128)
  · refine wpAny_pyIter_wide ha ?_
    have I2 : Inv X pins σ H1 { s1 with heap := s1.heap.push { cls := .type "str_iterator", data := .fields #[.str z t, .int 0 0] }, toks := s1.toks } := I1.kept fun b ob e => Heap.get?_push_of_some _ e
    exact ⟨_, [s1.heap.objs.size], _, _, _, rfl, I2, turn_str _ z t (by decide) (fun A' hA => Walks.strWide hA _ z t) (fun _ _ _ _ _ st h => wpAny_pyIter_striter_wide st h), ⟨_, Heap.get?_push_size _ rfl, rfl, rfl⟩, fp, q⟩
  · refine wpAny_pyIter_ascii ha ?_
    have I2 : Inv X pins σ H1 { s1 with heap := s1.heap.push { cls := .type "str_ascii_iterator", data := .fields #[.str z t, .int 0 0] }, toks := s1.toks } := I1.kept fun b ob e => Heap.get?_push_of_some _ e
    exact ⟨_, [s1.heap.objs.size], _, _, _, rfl, I2, turn_str _ z t (by decide) (fun A' hA => Walks.strAscii hA _ z t) (fun _ _ _ _ _ st h => wpAny_pyIter_striter_ascii st h), ⟨_, Heap.get?_push_size _ rfl, rfl, rfl⟩, fp, q⟩
theorem for_str {z : Str} {g : TG} {tb : TS} {D : Ends} {σ : St} {H : Hp} (Pv : Nat → St → Hp → Prop) (h0 : Pv 0 σ H)
    (hs : ∀ i c σ H, z.cps[i]? = some c → Pv i σ H → g (.str ⟨#[c]⟩) σ H fun σ2 H2 => tb { D with nx := Pv (i + 1), ct := Pv (i + 1), bk := D.nx } σ2 H2) (hd : ∀ σ H, Pv z.cps.size σ H → D.nx σ H) :
    ∃ W : Nat → Nat → St → Hp → Prop, (∃ m, W 0 m σ H) ∧ ∀ i m σ H, W i m σ H →
      ((Its z).stop i H ∧ D.nx σ H) ∨ ((Its z).go i H ∧ ∃ N : St → Hp → Prop, (∀ σ' H', N σ' H' → ∃ m', m' < m ∧ W (i + 1) m' σ' H') ∧ ∀ x H', (Its z).yld i H x H' → g x σ H' fun σ2 H2 => tb { D with nx := N, ct := N, bk := D.nx } σ2 H2) := by
  refine ⟨fun i m σ H => m = z.cps.size - i ∧ i ≤ z.cps.size ∧ Pv i σ H, ⟨z.cps.size, by simp, Nat.zero_le _, h0⟩, ?_⟩
  rintro i m σ H ⟨rfl, hi, p⟩
  by_cases hlt : i < z.cps.size
  · refine .inr ⟨hlt, Pv (i + 1), fun σ' H' p' => ⟨z.cps.size - (i + 1), by omega, rfl, hlt, p'⟩, fun x H' y => ?_⟩
    obtain ⟨e, c, e1, rfl⟩ := y
    subst e
    exact hs i c σ _ e1 p
  · have e : i = z.cps.size := by omega
    subst e
    exact .inl ⟨rfl, hd σ H p⟩
/-! ### a rule that may go either way -/
end
end L2

/-! MY RULES: a comprehension that takes several names over, dict(list of pairs), == and != of dicts that hold the same data. -/
set_option linter.all false
set_option maxRecDepth 100000
namespace L2
open PySem PySem.Spec PyProof.Rows
section
variable {prog : Program} {w : World} {K : Type} [DecidableEq K] {knd : KeyKind prog w K} {A : Around} {R : Result → Shared → Prop} {I l d : Addr} {items : Array Value} {rs : List (K × Value)} {h₀ : Heap} {g : Array GenState} {dr : Drawn} {os : OsState}
end
end L2
namespace L2
open PySem PySem.Spec PyProof.Rows
/-! ### a comprehension that takes several names over -/
def CellsIn (env : Env) : List (Str × Addr) → Prop
  | [] => True
  | p :: r => env.cells.lookup p.1 = some p.2 ∧ CellsIn env r
theorem CellsIn.get {env : Env} : ∀ {cl : List (Str × Addr)}, CellsIn env cl → ∀ {x : Str} {c : Addr}, cl.lookup x = some c → env.cells.lookup x = some c
  | [], _, _, _, h => by cases h
  | (y, d) :: r, h, x, c, e => by
    rw [List.lookup_cons] at e
    split at e
    · rename_i hb
      have hb' : x = y := by simpa using hb
      cases e
      subst hb'
      exact h.1
    · exact CellsIn.get h.2 e
theorem lookup_of_mem {x : Str} : ∀ {cl : List (Str × Addr)}, x ∈ cl.map (·.1) → ∃ c, cl.lookup x = some c
  | [], h => by cases h
  | (y, d) :: r, h => by
    rw [List.lookup_cons]
    cases hb : (x == y) with
    | true => exact ⟨d, rfl⟩
    | false =>
      have hne : x ≠ y := by simpa using hb
      rcases List.mem_cons.mp h with e | e
      · exact absurd e hne
      · exact lookup_of_mem e
theorem clok_many {X : Cx} {scope : Scope} {cl : List (Str × Addr)} {xs : List Str} (he : closureFor scope X.env = pure cl) (hc : CellsIn X.env cl) (hx : cl.map (·.1) = xs) (hk : scope.kind = .function) (hn : ∀ y ∈ scope.names, y.2 ≠ .cell ∧ (y.2 = .free → y.1 ∈ xs))
    (hl : ∀ y ∈ scope.names, y.2 = .local → scope.names.lookup y.1 = some .local) : ClOk X scope cl where
  eq := he
  sub := fun y d h => hc.get h
  has := fun y h => by
    have key : y ∈ xs := by
      have m : ∃ k, (y, k) ∈ (relabel scope X.env).names ∧ (k = .cell ∨ k = .free) := h.elim (fun z => ⟨_, lookup_mem z, .inl rfl⟩) fun z => ⟨_, lookup_mem z, .inr rfl⟩
      obtain ⟨k, hm, hk⟩ := m
      obtain ⟨⟨n, k0⟩, h0, e⟩ := List.mem_map.mp hm
      dsimp only at e
      by_cases hf : k0 = .free
      · have en : n = y := by
          split at e
          · exact congrArg Prod.fst e
          · exact congrArg Prod.fst e
        rw [← en]
        exact (hn _ h0).2 hf
      · have hb : (k0 == NameKind.free) = false := by simpa using hf
        simp only [hb, Bool.false_and, Bool.false_eq_true, if_false] at e
        have e2 : k0 = k := congrArg Prod.snd e
        subst e2
        rcases hk with hk | hk
        · exact absurd hk (hn _ h0).1
        · exact absurd hk hf
    rw [← hx] at key
    exact lookup_of_mem key
  kind := hk
  ncell := fun y hy => (hn y hy).1
  names := hl
def FreeOk (X : Cx) (scope : Scope) : List Str → List Nat → Prop
  | [], [] => True
  | x :: xs, j :: js => (X.N[j]? = some x ∧ (X.env.scope.names.lookup x = some .cell ∨ X.env.scope.names.lookup x = some .free) ∧ ((relabel scope X.env).names.lookup x = some .cell ∨ (relabel scope X.env).names.lookup x = some .free)) ∧ FreeOk X scope xs js
  | _, _ => False
theorem FreeOk.get {X : Cx} {scope : Scope} : ∀ {xs : List Str} {js : List Nat}, FreeOk X scope xs js → xs.length = js.length ∧ ∀ (i j : Nat), js[i]? = some j → ∃ x, xs[i]? = some x ∧ X.N[j]? = some x ∧ (X.env.scope.names.lookup x = some .cell ∨ X.env.scope.names.lookup x = some .free) ∧ ((relabel scope X.env).names.lookup x = some .cell ∨ (relabel scope X.env).names.lookup x = some .free)
  | [], [], _ => ⟨rfl, fun i j e => by simp at e⟩
  | x :: xs, j :: js, h => by
    obtain ⟨e, f⟩ := FreeOk.get h.2
    refine ⟨by simp [e], fun i k ek => ?_⟩
    cases i with
    | zero => simp at ek; subst ek; exact ⟨x, rfl, h.1⟩
    | succ i => exact f i k (by simpa using ek)
  | [], _ :: _, h => h.elim
  | _ :: _, [], h => h.elim
theorem ixok_many {X : Cx} {N0 xs : List Str} {js : List Nat} {scope : Scope} (h : FreeOk X scope xs js) : IxOk X (N0 ++ xs) scope (List.replicate N0.length none ++ js.map some) := by
  obtain ⟨hl, hf⟩ := h.get
  refine ⟨by simp [hl], fun i k e => ?_⟩
  by_cases hi : i < N0.length
  · rw [List.getElem?_append_left (by simpa using hi), List.getElem?_replicate] at e
    split at e <;> cases e
  · rw [List.getElem?_append_right (by simpa using hi), List.length_replicate, List.getElem?_map] at e
    obtain ⟨j, ej, ek⟩ := Option.map_eq_some_iff.mp e
    cases ek
    obtain ⟨x, h1, h2, h3, h4⟩ := hf _ _ ej
    exact ⟨x, by rw [List.getElem?_append_right (by omega)]; exact h1, h2, h3, h4⟩
/-! ### dict(l), l a list of pairs -/
section
variable {X : Cx}
/-! ### two dicts that hold the same data -/
end
end L2

/-! MY RULES: zip(list, list), a comprehension over anything, promises joined, dicts laid pair by pair. -/
set_option linter.all false
set_option maxRecDepth 100000
namespace L2
open PySem PySem.Spec PyProof.Rows
/-! ### zip(list, tuple) is made -/
/-! ### a comprehension over anything -/
section
variable {D : Addr} {g : TG} {te : TE} {QD : Hp → Prop} {σ₀ : St} {H : Hp}
theorem comp_genQ {J : It} (n : Nat) (Pv : Nat → List V → Hp → Prop) (h0 : Pv 0 [] (upd H D (.lst []))) (hgo : ∀ i ys H, i < n → Pv i ys H → J.go i H) (hst : ∀ ys H, Pv n ys H → J.stop n H)
    (hs : ∀ i ys H, i < n → Pv i ys H → ∀ x H3, J.yld i H x H3 → g x σ₀ H3 fun σ4 H4 => StKeep σ₀ σ4 ∧ te σ4 H4 fun y H5 => H5 D = some (.lst ys) ∧ ys.length < sizeLine ∧ Pv (i + 1) (ys ++ [y]) (upd H5 D (.lst (ys ++ [y])))) (hd : ∀ ys H, Pv n ys H → QD H) :
    ∃ W : Nat → Nat → Hp → Prop, (∃ m, W 0 m (upd H D (.lst []))) ∧ ∀ i m H2, W i m H2 →
      (J.stop i H2 ∧ QD H2) ∨ (J.go i H2 ∧ ∃ N : VK, (∀ y H5, N y H5 → ∃ xs, H5 D = some (.lst xs) ∧ xs.length < sizeLine ∧ ∃ m', m' < m ∧ W (i + 1) m' (upd H5 D (.lst (xs ++ [y])))) ∧
        ∀ x H3, J.yld i H2 x H3 → g x σ₀ H3 fun σ4 H4 => StKeep σ₀ σ4 ∧ te σ4 H4 N) := by
  refine ⟨fun i m H => m = n - i ∧ i ≤ n ∧ ∃ ys, Pv i ys H, ⟨n, by simp, Nat.zero_le _, [], h0⟩, ?_⟩
  rintro i m H2 ⟨rfl, hi, ys, p⟩
  by_cases hlt : i < n
  · exact .inr ⟨hgo i ys H2 hlt p, fun y H5 => H5 D = some (.lst ys) ∧ ys.length < sizeLine ∧ Pv (i + 1) (ys ++ [y]) (upd H5 D (.lst (ys ++ [y]))), fun y H5 z => ⟨ys, z.1, z.2.1, n - (i + 1), by omega, rfl, hlt, _, z.2.2⟩, fun x H3 z => hs i ys H2 hlt p x H3 z⟩
  · have e : i = n := by omega
    subst e
    exact .inl ⟨hst ys H2 p, hd ys H2 p⟩
end
/-! ### within a comprehension: the rules by the text's own K -/
theorem ix_listK {X : Cx} {K : PySem.W.Frag} (h : X.K = K) : IxR X (rIxL K) := h ▸ ix_list
theorem sl_listK {X : Cx} {K : PySem.W.Frag} (h : X.K = K) : SlR X (rSlL K) := h ▸ sl_list
/-! ### own classes and built-in ones; promises joined -/
theorem isi_bt {K : PySem.W.Frag} {C : Addr} {U : String} {b : Bool} (h : PySem.W.mroIn K C (.type U) = some b) (hm : PySem.W.kitMeta U = true) : ∀ u, RelV (.ty U) u → PySem.W.kitOne K (.ref C) u = some b := by
  intro u z
  cases (show u = Value.type U from z)
  unfold PySem.W.kitOne
  rw [if_neg (show ¬ (Value.ref C == Value.type U) = true from Bool.false_ne_true)]
  show (if PySem.W.kitMeta U = true then PySem.W.subIn K (.ref C) (.type U) else none) = some b
  rw [if_pos hm]
  exact h
theorem FnOk.or {P : Program} {w : World} {K : PySem.W.Frag} {mg : Str → Option Value} {base : Heap} {CX : CXT} {k : Nat} {f : Addr} {fd : FuncData} {ps : List Str} {sp sp' : Sp} (F : FnOk P w K mg base CX k f fd ps sp) (F' : FnOk P w K mg base CX k f fd ps sp') :
    FnOk P w K mg base CX k f fd ps (fun vs H Q E => sp vs H Q E ∨ sp' vs H Q E) :=
  ⟨fun vs H Q E q => q.elim (F.len vs H Q E) (F'.len vs H Q E), fun A outer s H args us vs Q E hr he hb hv q => q.elim (F.run A outer s H args us vs Q E hr he hb hv) (F'.run A outer s H args us vs Q E hr he hb hv)⟩
/-! ### dicts laid pair by pair -/
theorem mergeK_snoc (acc ws : List (Key × V)) (w : Key × V) : mergeK acc (ws ++ [w]) = putK (mergeK acc ws) w.1 w.2 := by unfold mergeK; rw [List.foldl_append]; rfl
end L2

/-! MY RULES: name = [..], where the store is exchanged with the letting go of the comprehension's own names. -/
set_option linter.all false
set_option maxRecDepth 100000
namespace L2
open PySem PySem.Spec PyProof.Rows
section
variable {X : Cx}
theorem ps_setC {i₀ : Nat} {x₀ : Str} {pos₀ spos : Pos} {elt iter tg : Expr} {scope : Scope} {pos : Pos} {N' : List Str} {ix : List (Option Nat)} {cl : List (Str × Addr)} {wi : TI} {g : TG} {te : TE} (hN₀ : X.N.Nodup) (hi₀ : X.N[i₀]? = some x₀) (hx₀ : Loc X.env.scope x₀) (hc : X.calm = true) (ck : ClOk X scope cl) (io : IxOk X N' scope ix) (hi : PI X tg iter wi)
    (hg : ∀ C s₀ H₀ fp, PG (blk X N' scope cl C s₀ H₀ fp) tg g) (he : ∀ C s₀ H₀ fp, PE (blk X N' scope cl C s₀ H₀ fp) elt te) (hs : ∀ x, foldedSetIterable iter X.env x = pure x := by intro _; rfl)
    (hsw : swapsWith (.ListComp elt [⟨tg, iter, [], 0⟩] scope pos) (some (.Name x₀ pos₀)) spos.line X.env = pure true := by rfl) (hf₀ : X.fn x₀ = true ∨ X.env.scope.names.lookup x₀ = some .local := by first | exact .inl rfl | exact .inr rfl | assumption) :
    PS X (.Assign [.Name x₀ pos₀] (.ListComp elt [⟨tg, iter, [], 0⟩] scope pos) spos) (tAsg (tComp ix wi g te) (gName i₀)) := by
  intro pins s σ H D₀ I h
  rw [exec_Assign_Name_used _ _ _ _ hsw]
  refine wpAny_bind (wpAny_standAt (wpAny_bind ?_))
  show wpAny _ X.A (do let _ ← comprehension (.ListComp elt [⟨tg, iter, [], 0⟩] scope pos) scope X.env _ (newList []) false (eval iter X.env) (some (assign (.Name x₀ pos₀) X.env))) _ _ s
  refine wpAny_bind (wpAny_mono (wpAny_comprehension_free (use := some (assign (.Name x₀ pos₀) X.env)) (Q := fun _ s' => ∃ σ' H', Inv X pins σ' H' s' ∧ D₀.nx σ' H') rfl hs ck.eq ck.kind ck.names (thn (hi pins s σ H _ I h) fun xv s1 h1 => thn h1 fun itv s2 h2 => ?_)) (fun _ s' hq => wpAny_pure (wpAny_pure hq)) fun _ _ e => e)
  obtain ⟨it, fp, tn, J, H1, rfl, I1, T, st1, f1, R⟩ := h2
  -- the list
  refine wpAny_newObj_type ?_
  have hD : H1 s2.heap.objs.size = none := I1.hok.fresh (Nat.le_refl _)
  obtain ⟨W, ⟨m0, w0⟩, turn⟩ := R _ hD
  have hfD : ∀ b ∈ fp, b < s2.heap.objs.size := fun b hb => let ⟨o, e, _⟩ := T.obj _ _ st1 b hb; Heap.lt_size e
  have I2 : Inv X pins σ (upd H1 s2.heap.objs.size (.lst [])) { s2 with heap := s2.heap.push { cls := .type "list", data := .seq ([] : List Value).toArray }, toks := s2.toks } := I1.lnew (its := []) .nil (Nat.zero_le _)
  have f2 : ∀ b ∈ fp, FpOk X pins (upd H1 s2.heap.objs.size (.lst [])) b := fun b hb => ⟨by rw [upd_ne (Nat.ne_of_lt (hfD b hb))]; exact (f1 b hb).1, (f1 b hb).2⟩
  have lt2 : ∀ b ∈ fp, b < (s2.heap.push { cls := .type "list", data := .seq ([] : List Value).toArray }).objs.size := fun b hb => by rw [Heap.size_push]; exact Nat.lt_succ_of_lt (hfD b hb)
  -- the block's own dict
  refine wpAny_newFunctionEnv ck.ncell (by intro y hy; simp at hy) (fun h3 hns sb3 => ?_) ck.kind
  dsimp only at hns sb3 ⊢
  have k3 : ∀ b o, (s2.heap.push { cls := .type "list", data := .seq ([] : List Value).toArray }).get? b = some o → h3.get? b = some o := fun b o e => (sb3.2 b (Nat.ne_of_lt (Heap.lt_size e))).trans (Heap.get?_push_of_some _ e)
  generalize hs2 : ({ s2 with heap := s2.heap.push { cls := .type "list", data := .seq ([] : List Value).toArray }, toks := s2.toks } : Shared) = s3 at I2
  have e3 : s2.heap.push { cls := .type "list", data := .seq ([] : List Value).toArray } = s3.heap := by rw [← hs2]
  rw [e3] at hns k3 lt2
  have I3 := blk_start (N' := N') (ix := ix) I2 ck io f2 lt2 (h' := h3) (t' := s2.toks + ([] : List (Str × Value)).length) hns k3
  have e4 : ({ s3 with heap := h3, toks := s2.toks + ([] : List (Str × Value)).length } : Shared) = { s2 with heap := h3, toks := s2.toks + ([] : List (Str × Value)).length } := by rw [← hs2]
  rw [e4] at I3
  have st3 : tn 0 h3 := T.keep _ _ _ st1 fun b hb o e => k3 b o (by rw [← e3]; exact Heap.get?_push_of_some _ e)
  have loop : ∀ s4 : Shared, s4 = { s2 with heap := h3, toks := s2.toks + ([] : List (Str × Value)).length } →
      codeAny (model X.prog X.w) X.A (.compLoop (.ListComp elt [⟨tg, iter, [], 0⟩] scope pos) 0 (.ref it) (.ref s2.heap.objs.size) (compEnvC scope cl s3.heap.objs.size X.env))
        (compPost (model X.prog X.w) X.A X.xe (some (assign (.Name x₀ pos₀) X.env)) (fun _ s' => ∃ σ' H', Inv X pins σ' H' s' ∧ D₀.nx σ' H') (.ref s2.heap.objs.size) s3.heap.objs.size) s4 := by
    rintro s4 rfl
    have stat : ∀ {H' : Hp}, (∀ b ∈ fp, H' b = none) → ∀ b ∈ fp, FpOk (blk X N' scope cl s3.heap.objs.size s3 (upd H1 s2.heap.objs.size (.lst [])) fp) [] H' b := fun hn b hb =>
      ⟨hn b hb, Nat.ne_of_lt (lt2 b hb), fun hs => I3.ok.exfs b hb hs, .inl hb, fun x c e => (f2 b hb).2.2.2.2.1 x c (ck.sub x c e), (fun p hp => by cases hp)⟩
    refine codeAny_loop rfl (fun n s' => ∃ i σ' H', Inv (blk X N' scope cl s3.heap.objs.size s3 (upd H1 s2.heap.objs.size (.lst [])) fp) [] σ' H' s' ∧ (∀ (j : Nat) v, (blkSt ix σ)[j]? = some (some v) → σ'[j]? = some (some v)) ∧ tn i s'.heap ∧ (∀ b ∈ fp, H' b = none) ∧ W i n H')
      (fun n s' hI => ?_) m0 ⟨0, _, _, I3, fun _ _ z => z, st3, fun b hb => (f2 b hb).1, w0⟩
    obtain ⟨i, σ5, H5, I5, wk, st5, fr5, w5⟩ := hI
    show wpAny _ _ ((compTurn (.ListComp elt [⟨tg, iter, [], 0⟩] scope pos) 0 (.ref it) (.ref s2.heap.objs.size) (compEnvC scope cl s3.heap.objs.size X.env)).onRaise (fun x => do noteFrame x (compEnvC scope cl s3.heap.objs.size X.env); theTreesLotGoes x)) _ _ s'
    refine wpAny_noted ?_
    rw [compTurn_list1]
    refine wpAny_bind (wpAny_standAt ?_)
    rcases turn i n H5 w5 with ⟨stop, qn⟩ | ⟨go, NN, hNN, step⟩
    · refine wpAny_bind (wpAny_mono (T.done (blk X N' scope cl s3.heap.objs.size s3 (upd H1 s2.heap.objs.size (.lst [])) fp) rfl rfl rfl hc i [] s' σ5 H5 (fun _ _ => False) I5 (stat fr5) st5 stop) (fun r s6 h6 => ?_) fun _ _ z => z.elim)
      obtain ⟨rfl, I6⟩ := h6
      refine wpAny_pure ?_
      obtain ⟨mm, hm, _⟩ := id I6.loc
      have fC : FpOk X pins H5 s3.heap.objs.size := I2.fpOk (Nat.le_refl _) I6.free
      have Io : Inv X pins σ H5 s6 := blk_end I2 f2 I6 (Heap.SameBut.refl _ _)
      show wpAny _ X.A (assign (.Name x₀ pos₀) X.env (.ref s2.heap.objs.size)) _ _ s6
      refine wpAny_assign_Name (store_ok2 Io hN₀ hi₀ hx₀ (v := .ref s2.heap.objs.size) rfl (fun s7 I7 sb7 => ?_) hf₀)
      obtain ⟨a, sb, ha⟩ := sb7
      have ca : s3.heap.objs.size ≠ a := by
        rcases ha with ha | ha
        · rw [ha]; exact fC.2.1
        · exact fun z => fC.2.2.2.2.1 _ _ ha z.symm
      obtain ⟨oC, es, ep, ho, r⟩ := hm
      exact ⟨mm, ⟨oC, es, ep, (sb.2 _ ca).trans ho, r⟩, fun h' sb' => ⟨_, H5, I7.turned (t' := s7.toks) (fun b o hb e => (sb'.2 b hb).trans e) fC.1 fC.2.1 fC.2.2.2.1 fC.2.2.2.2.1 fC.2.2.2.2.2, qn⟩⟩
    · refine wpAny_bind (wpAny_mono (T.item (blk X N' scope cl s3.heap.objs.size s3 (upd H1 s2.heap.objs.size (.lst [])) fp) rfl rfl rfl hc i [] s' σ5 H5 (fun _ _ => False) I5 (stat fr5) st5 go) (fun r s6 h6 => ?_) fun _ _ z => z.elim)
      obtain ⟨u, rfl, h6⟩ := h6
      refine wpAny_bind (wpAny_mono h6 (fun _ s7 h7 => ?_) fun _ _ z => z.elim)
      obtain ⟨x, H7, I7, r7, y7, st7, fr7⟩ := h7
      have I7w : Inv (blk X N' scope cl s3.heap.objs.size s3 (upd H1 s2.heap.objs.size (.lst [])) fp) [] (blkSt ix σ) H7 s7 := I7.weak (by rw [I7.len]; unfold blkSt; rw [List.length_map]; exact io.1) wk
      have I7p := I7w.pinned (stat fr7) (T.obj _ _ st7)
      refine wpAny_bind (wpAny_mono (hg _ _ _ _ _ s7 _ H7 x u _ I7p r7 (step x H7 y7)) (fun _ s8 h8 => ?_) fun _ _ z => z.elim)
      obtain ⟨σ8, H8, I8, kp8, q8⟩ := h8
      refine wpAny_bind (wpAny_bind (wpAny_mono (he _ _ _ _ _ s8 σ8 H8 _ I8 q8) (fun yv s9 h9 => ?_) fun _ _ z => z.elim))
      obtain ⟨y, H9, I9, r9, n9⟩ := h9
      obtain ⟨xs, hx9, hz9, m', hm', w9⟩ := hNN _ _ n9
      refine wpAny_bind (wpAny_mono (mt_append (X := blk X N' scope cl s3.heap.objs.size s3 (upd H1 s2.heap.objs.size (.lst [])) fp) _ s9 σ8 H9 (.ref s2.heap.objs.size) [y] (.ref s2.heap.objs.size) [yv] (fun _ H' => W (i + 1) m' H') I9 rfl (.cons r9 .nil) ⟨_, xs, y, rfl, rfl, hx9, hz9, w9⟩) (fun _ s10 h10 => ?_) fun _ _ z => z.elim)
      obtain ⟨_, H10, I10, _, w10⟩ := h10
      refine wpAny_pure (wpAny_pure ⟨rfl, m', hm', i + 1, σ8, H10, I10.unpinned, ?_, T.keep _ _ _ st7 fun b hb o e => (I10.pin (b, o) (List.mem_append_right _ (List.mem_append_right _ (mem_pinsAt hb e)))).1, fun b hb => ?_, w10⟩)
      · exact kp8.get
      · obtain ⟨o, e, d⟩ := T.obj _ _ st7 b hb
        exact (I10.pin (b, o) (List.mem_append_right _ (List.mem_append_right _ (mem_pinsAt hb e)))).2.1
  have e5 : s3.heap.objs.size = (s2.heap.push { cls := .type "list", data := .seq ([] : List Value).toArray }).objs.size := by rw [e3]
  rw [e5] at loop
  exact codeAny_compStart_list (loop _ rfl) (T.self X.A 0 _ _ _ st3 (loop _ rfl))
end
end L2

/-! MY RULES: an exception of one's own class without fields: raised, through the defs that it leaves. -/
set_option linter.all false
set_option maxRecDepth 100000
namespace L2
open PySem PySem.Spec PyProof.Rows

/-! ### an exception behind a call: where it flies, what it leaves as it was -/
def CXF (P : Program) (w : World) : CXT := fun outer H s E e s' =>
  ∃ (ea C : Addr) (a0 : Value) (H' : Hp) (B : Heap), e = .ref ea ∧ s'.os = s.os ∧ AllBare s'.gens ∧ Un (frs outer) [] H H' s.heap s'.heap ∧ HOk P w H' s'.heap ∧
    (∀ b o, s.heap.get? b = some o → b ∉ frs outer → ∃ o', B.get? b = some o') ∧ (∀ b o, H' b = some o → ∃ o', B.get? b = some o') ∧
    Heap.FlyingW B outer ea (.ref C) a0 s'.heap ∧ E (.ref C) none H'

theorem ObjOk.at18 {P : Program} {w : World} {H : Hp} {h : Heap} {a : Addr} {o : HO} (x : ObjOk P w H h a o) : ∃ u, h.get? a = some u := by
  cases o with
  | lst xs => obtain ⟨_, _, _, _, e⟩ := x; exact ⟨_, e⟩
  | tup xs => obtain ⟨_, _, _, o, e, _⟩ := x; exact ⟨_, e⟩
  | dK kvs => obtain ⟨_, _, _, _, o, _, _, e, _⟩ := x; exact ⟨_, e⟩
  | dT kvs => obtain ⟨_, _, _, _, o, _, _, e, _⟩ := x; exact ⟨_, e⟩
  | set S n => obtain ⟨o, _, _, _, e, _⟩ := x; exact ⟨_, e⟩
  | ins C dx fs => obtain ⟨_, _, _, e, _⟩ := x; exact ⟨_, e⟩
  | own y => obtain ⟨_, e⟩ := x; exact ⟨_, e⟩
  | xd fs => obtain ⟨_, ⟨_, _, _, e, _⟩, _⟩ := x; exact ⟨_, e⟩
  | rng lo hi => obtain ⟨_, _, _, e⟩ := x; exact ⟨_, e⟩
  | frz ob u => obtain ⟨e, _⟩ := x; exact ⟨_, e⟩
  | tbl ps => exact ⟨_, (show h.get? a = some _ from x)⟩
  | met f y => exact ⟨_, (show h.get? a = some _ from x)⟩
  | ext φ => obtain ⟨_, ⟨_, e⟩, _⟩ := x; exact ⟨_, e⟩

section
variable {X : Cx} {pins : List (Addr × Obj)} {σ : St} {H1 H' : Hp} {s1 : Shared} {B h1 h' : Heap}
/-- the notes that an exception writes into the frames: nothing else is changed (seen from the entry of the def) -/
theorem fly_un (I : Inv X pins σ H1 s1) (hx : X.ex = []) (u : Un (frs X.stack) [] H1 H' s1.heap h1) (hb1 : ∀ b o, s1.heap.get? b = some o → b ∉ frs X.stack → ∃ o', B.get? b = some o') (hst : B.StaysIn h1) (hst' : B.StaysIn h') (up : h1.UpToSlots h') :
    Un X.fs [] X.H₀ H' X.s₀.heap h' ∧ ∀ b o, X.s₀.heap.get? b = some o → b ∉ X.fs → ∃ o', B.get? b = some o' := by
  have a : Un X.fs [] X.H₀ H1 X.s₀.heap s1.heap := by
    have z := I.base
    rw [hx] at z
    exact z
  have no : ∀ b : Addr, b ∉ ([] : List Addr) := fun b => by simp
  have nst : ∀ b o, X.s₀.heap.get? b = some o → b ∉ X.fs → b ∉ frs X.stack := fun b o e hb m =>
    (List.mem_cons.mp (I.stkSub b m)).elim (Nat.ne_of_lt (Nat.lt_of_lt_of_le (Heap.lt_size e) I.ok.above)) hb
  have B1 : ∀ b o, X.s₀.heap.get? b = some o → b ∉ X.fs → ∃ o', B.get? b = some o' := fun b o e hb => by
    obtain ⟨o1, e1⟩ := a.there b o e (no b)
    exact hb1 b o1 e1 (nst b o e hb)
  have slot : ∀ b o, X.s₀.heap.get? b = some o → X.H₀ b = none → b ∈ X.fs → ∃ sl, h'.get? b = some { o with slots := sl } := fun b o e n hb => by
    obtain ⟨sl, e1⟩ := a.slot b o e n hb (no b)
    obtain ⟨sl2, e2⟩ := u.any e1 (a.free b o e n (no b)) (no b)
    obtain ⟨_, of, ho, hd⟩ := I.ok.funs.mem hb
    rw [e] at ho
    cases ho
    obtain ⟨sl3, e3⟩ := up b _ e2 hd
    exact ⟨sl3, e3⟩
  refine ⟨⟨fun b o e n hb _ => ?_, fun b o e n hb _ => slot b o e n hb, fun b o e n _ => ?_, fun b o e _ => ?_, fun b xs e => u.tups b xs (a.tups b xs e), fun b o v e => u.frzs b o v (a.frzs b o v e), fun b ps e => ?_⟩, B1⟩
  · have e2 := u.keep b o (a.keep b o e n hb (no b)) (a.free b o e n (no b)) (nst b o e hb) (no b)
    obtain ⟨o', eB⟩ := B1 b o e hb
    have e3 := hst b o' eB
    rw [e2] at e3
    cases e3
    exact hst' b o eB
  · obtain ⟨o1, e1⟩ := a.there b o e (no b)
    exact u.free b o1 e1 (a.free b o e n (no b)) (no b)
  · by_cases hb : b ∈ X.fs
    · obtain ⟨sl, q⟩ := slot b o e (I.ok.frf b hb) hb
      exact ⟨_, q⟩
    · obtain ⟨o', eB⟩ := B1 b o e hb
      exact ⟨o', hst' b o' eB⟩
  · obtain ⟨m1, e1⟩ := a.tbls b ps e
    obtain ⟨m2, e2⟩ := u.tbls b _ e1
    exact ⟨m1 ++ m2, by rw [e2, Array.append_assoc]⟩
theorem fly_ok {P : Program} {w : World} (ok : HOk P w H' h1) (b2 : ∀ b o, H' b = some o → ∃ o', B.get? b = some o') (hst : B.StaysIn h1) (hst' : B.StaysIn h') : HOk P w H' h' := fun a o e =>
  (ok a o e).stay (fun b u hb q => by
    have : ∃ o', B.get? b = some o' := by
      rcases hb with rfl | hb
      · exact b2 _ _ e
      · exact b2 _ _ hb
    obtain ⟨o', eB⟩ := this
    have z := hst b o' eB
    rw [q] at z
    cases z
    exact hst' b u eB) (fun _ q => q) fun _ _ q => q
end

/-! ### out of a def -/
section
variable {P : Program} {w : World} {K : PySem.W.Frag} {mg : Str → Option Value} {base : Heap} {N : List Str} {qual : Str} {scope : Scope} {f : Addr} {cd : Value} {A : Around} {outer : List Env} {s : Shared} {H : Hp} {E : XK}
theorem passF : Passes (CXF P w) (cxOf (CXF P w) P w K mg base N qual scope f cd A outer s H E) E := by
  intro pins σ H1 s1 e s' I hcx
  obtain ⟨ea, C, a0, H', B, rfl, os, bare, un, hok, b1, b2, fl, q⟩ := hcx
  refine wpAny_leaves_onW I.ok.frames rfl fl fun h' fl' up => ?_
  obtain ⟨un', b1'⟩ := fly_un I rfl un b1 fl.1 fl'.1 up
  exact ⟨ea, C, a0, H', B, rfl, os.trans I.os, bare, un', fly_ok hok b2 fl.1 fl'.1, b1', b2, fl', q⟩

/-- a new exception of the class at C may fly from here -/
def Throws (X : Cx) (C : Addr) (E : XK) : Prop := ∀ (pins : List (Addr × Obj)) (σ : St) (H : Hp) (s : Shared) (h' : Heap) (e : Addr) (vs : List Value), Inv X pins σ H s → Heap.MadeExcOf s.heap h' e (.ref C) vs → E (.ref C) none H → X.xe (.ref e) { s with heap := h' }
theorem throwF {C : Addr} : Throws (cxOf (CXF P w) P w K mg base N qual scope f cd A outer s H E) C E := by
  intro pins σ H1 s1 h1 e vs I hx q
  have stk : (cxOf (CXF P w) P w K mg base N qual scope f cd A outer s H E).stack = envOfC qual scope s.heap.objs.size f cd :: outer := rfl
  have kB : ∀ b o, s1.heap.get? b = some o → b ∉ frs (envOfC qual scope s.heap.objs.size f cd :: outer) → (PySem.W.hideAll s1.heap (frs (envOfC qual scope s.heap.objs.size f cd :: outer))).get? b = some o := fun b o e hb => PySem.W.hideAll_get _ e hb
  refine wpAny_leaves_madeW (base := PySem.W.hideAll s1.heap (frs (envOfC qual scope s.heap.objs.size f cd :: outer))) I.ok.frames rfl (fun b o z => PySem.W.of_hideAll _ z)
    (PySem.W.funFrames_hide I.stack fun env he b hb => List.mem_filterMap.mpr ⟨env, he, hb⟩) hx fun h' t fl _ _ up => ?_
  have b2 : ∀ b o, H1 b = some o → ∃ o', (PySem.W.hideAll s1.heap (frs (envOfC qual scope s.heap.objs.size f cd :: outer))).get? b = some o' := fun b o z => by
    obtain ⟨u, hu⟩ := (I.hok b o z).at18
    refine ⟨u, kB b u hu fun m => ?_⟩
    have := I.stkFree b m
    rw [z] at this
    cases this
  obtain ⟨un', b1'⟩ := fly_un (B := PySem.W.hideAll s1.heap (frs (envOfC qual scope s.heap.objs.size f cd :: outer))) I rfl (Un.kept hx.keeps) (fun b o z hb => ⟨o, kB b o z hb⟩) (fun b o z => hx.keeps b o (PySem.W.of_hideAll _ z)) fl.1 up
  exact ⟨e, C, .ref t, H1, _, rfl, I.os, I.bare, un', fly_ok (I.hok.kept hx.keeps) b2 (fun b o z => hx.keeps b o (PySem.W.of_hideAll _ z)) fl.1, b1', b2, fl, q⟩
end

/-! ### the class -/
/-- an own class of exceptions, ValueError at the bottom, no __init__: what excIn tells, in any heap that holds K -/
theorem exc_obj {K : PySem.W.Frag} {h : Heap} {C : Addr} {bmB : List Value} {newId : String} (X : K.In h) (q : PySem.W.excIn K C bmB newId = true) :
    ∃ (nm qn : Str) (N : Addr) (bs bm : List Value) (hdct : Bool) (sn : List Str) (sub : List Value) (ab : Bool) (col : Option Bool) (dd : Option Addr) (k0 k1 k2 k3 k5 : Option Value) (mN : Str → Option Value),
      h.get? C = some (excClassObj nm qn C N bs bm hdct sn sub ab col dd k0 k1 k2 k3 k5 newId) ∧ h.Ns N mN ∧ mN "__init__" = none ∧ OwnTail h bmB bm := by
  cases lk : K.lookup C with
  | none => simp [PySem.W.excIn, lk] at q
  | some ob =>
    have there := X _ _ lk
    unfold PySem.W.excIn at q
    rw [lk] at q
    split at q
    case h_2 => cases q
    case h_1 dct cls parts same =>
      injection same with same
      subst same
      split at q
      case h_2 => cases q
      case h_1 own tl p0 p1 p2 p3 made p5 along row =>
        repeat rw [Bool.and_eq_true] at q
        have w1 : own = C := beq_iff_eq.mp q.1.1.1.1.1
        have w2 : made = newId := beq_iff_eq.mp q.1.1.1.1.2
        have w3 : cls.hasDel = false := by simpa using q.1.1.1.2
        have w4 := beq_iff_eq.mp q.2
        subst w1 w2
        have sl : parts = #[p0, p1, p2, p3, some (.builtin made), p5] := Array.toList_inj.mp row
        rw [sl] at there
        cases cls
        dsimp only at along w3 w4 q
        rw [along, w3] at there
        exact ⟨_, _, _, _, tl, _, _, _, _, _, dct, p0, p1, p2, p3, p5, _, there, Heap.Ns.of_isNs (PySem.W.isNs_of_in X q.1.2), PySem.W.nsMap_none_of_in X q.1.2 w4, PySem.W.tail_of_in X q.1.1.2⟩

/-! ### raise C(..) -/
abbrev bmVE : List Value := [.type "ValueError", .type "Exception", .type "BaseException", .type "object"]
def tRaise (C : Addr) (E : XK) (t : TA) : TS := fun _ σ H => t σ H fun vs H1 => vs.length ≤ sizeLine ∧ E (.ref C) none H1
theorem ps_raise {X : Cx} {C : Addr} {E : XK} {x : Str} {np cpos pos : Pos} {e : Expr} {es : List Expr} {t : TA} (hT : Throws X C E) (q : PySem.W.excIn X.K C bmVE "ValueError.__new__" = true) (hg : Gl X x) (hm : X.mg x = some (.ref C)) (hc : X.calm = true)
    (ha : PA X (e :: es) t) (hdb : (x == ("__debug__" : Str)) = false := by decide) (he : starEach (e :: es) X.env = (false, eval e X.env) :: starEach es X.env := by rfl) (hpl : (backTo cpos (starEach es X.env)).any (·.1) = false := by rfl) :
    PS X (.Raise (some (.Call (.Name x np) (e :: es) [] cpos)) none pos) (tRaise C E t) := by
  intro pins s σ H D I h
  obtain ⟨nm, qn, N, bs, bm, hdct, sn, sub, ab, col, dd, k0, k1, k2, k3, k5, mN, hC, hN, hni, T⟩ := exc_obj I.mod.kin q
  have kb : ∀ {s2 : Shared} {σ2 : St} {H2 : Hp}, Inv X pins σ2 H2 s2 → ∀ b o, X.base.get? b = some o → s2.heap.get? b = some o := fun I2 => I2.bk
  have hpl' : (backTo cpos (starEach (e :: es) X.env)).any (·.1) = false := by
    rw [he]
    exact hpl
  refine wpAny_Raise_call_subU (C := C) (nm := nm) (q := qn) (N := N) (bs := bs) (bm := bm) (hdct := hdct) (sn := sn) (sub := sub) (ab := ab) (col := col) (dd := dd) (k0 := k0) (k1 := k1) (k2 := k2) (k3 := k3) (k5 := k5) (mN := mN) (bmB := bmVE)
    PySem.F.excBase_ValueError (by decide +kernel) PySem.F.excBase_ValueError (T.hasType (by decide +kernel)) (I.ok.hd hc) hpl' hni ?_
  refine ld_glob I hg hm ⟨rfl, ?_⟩ hdb
  have hA := thn (ha cpos pins s σ H _ I h) (Q' := fun us s2 => us.length ≤ sizeLine ∧ s2.heap.get? C = some (excClassObj nm qn C N bs bm hdct sn sub ab col dd k0 k1 k2 k3 k5 "ValueError.__new__") ∧ s2.heap.Ns N mN ∧ OwnTail s2.heap bmVE bm ∧
        ∀ h' e, Heap.MadeExcOf s2.heap h' e (.ref C) us → X.xe (.ref e) { s2 with heap := h' }) fun us s2 ⟨vs, H2, I2, r, hl, hE⟩ =>
    ⟨r.length ▸ hl, kb I2 _ _ hC, hN.keeps (kb I2), T.keeps (kb I2), fun h' e hx => hT pins σ H2 s2 h' e us I2 hx hE⟩
  rw [he] at hA ⊢
  exact Calls.evalArgs_plain (thn hA fun us s2 ⟨a, b, c, d, k⟩ => ⟨rfl, a, b, c, d, k⟩)
end L2

/-! MY RULES: try: .. except C as e: .. around one call. -/
set_option linter.all false
set_option maxRecDepth 100000
namespace L2
open PySem PySem.Spec PyProof.Rows

/-! ### within an except suite -/
abbrev Cx.held (X : Cx) (ea : Addr) : Cx := { X with A := X.A.mark (some (.ref ea)), calm := false, xe := fun _ _ => False }
theorem Cx.Ok.held {X : Cx} (ok : X.Ok) (ea : Addr) : (X.held ea).Ok :=
  ⟨ok.mod, ok.kind, ok.glob, ok.blt, ok.above, ok.inj, ok.has, ok.cab, fun z => (by cases z), ok.frames, ok.stk, ok.exf, ok.bs, ok.bsz, ok.noex, ok.exfs, ok.funs, ok.frf⟩
section
variable {X : Cx} {pins : List (Addr × Obj)} {σ : St} {H H1 : Hp} {s s1 : Shared} {ea C : Addr} {a0 : Value} {B : Heap}
theorem Inv.held (I : Inv X pins σ H s) (ea : Addr) : Inv (X.held ea) pins σ H s := ⟨I.ok.held ea, I.os, I.bare, I.base, I.loc, I.cell, I.free, I.freeC, I.pin, I.hok, I.len⟩
theorem Inv.unheld (I : Inv (X.held ea) pins σ H s) (ok : X.Ok) : Inv X pins σ H s := ⟨ok, I.os, I.bare, I.base, I.loc, I.cell, I.free, I.freeC, I.pin, I.hok, I.len⟩

/-! ### the name that the clause bound goes -/
theorem unbind_ok {M : Model} {A : Around} {E : Value → Shared → Prop} {i : Nat} {x : Str} {pos : Pos} {Q : Unit → Shared → Prop} (I : Inv X pins σ H s) (hN : X.N.Nodup) (hi : X.N[i]? = some x) (hx : X.env.scope.names.lookup x = some .local)
    (h : ∀ s', Inv X pins (σ.set i none) H s' → Q () s') : wpAny M A (do bindName X.env x .none; unbindBehindTheSuite X.env x pos) Q E s := by
  refine wpAny_bind (wpAny_bindName (store_ok (v := .non) (u := .none) I hN hi (.inl hx) rfl (fun s1 I1 => ?_) (.inr hx)))
  unfold unbindBehindTheSuite
  refine wpAny_onRaise ?_
  obtain ⟨m, hn, hl⟩ := id I1.loc
  have hcls : (X.env.scope.kind == .class || (X.env.scope.kind == .module && X.env.locals != X.env.globals)) = false := by rw [I1.ok.kind]; rfl
  have hiσ : i < σ.length := by rw [I.len]; exact (List.getElem?_eq_some_iff.mp hi).1
  have cne := I1.cne
  have hk : X.env.kindOf x = some .local := hx
  obtain ⟨u, ru, hu⟩ := hl i x .non hi (List.getElem?_set_self hiσ) (.inl hx)
  have hm : m x = some u := by
    rcases hu with ⟨_, e⟩ | ⟨k, _⟩
    · exact e
    · rw [hk] at k
      rcases k with k | k <;> cases k
  refine wpAny_unbindName_local hk hn hm hcls fun h' v hn' hs => ?_
  obtain ⟨oL, _, _, hoL, _⟩ := id hn
  refine h _ ⟨I1.ok, I1.os, I1.bare, ⟨fun b o e n hb hx => ?_, fun b o e n hb hx => ?_, I1.base.free, fun b o e hx => ?_, I1.base.tups, I1.base.frzs, I1.base.tbls⟩, ⟨_, hn', fun j y v' e1 e2 e3 => ?_⟩, fun y c e => ?_, I1.free, I1.freeC, fun p hp => ?_, fun b ob e => ?_, by simpa using I.len⟩
  · exact (hs.2 b (Nat.ne_of_lt (Nat.lt_of_lt_of_le (Heap.lt_size e) I1.ok.above))).trans (I1.base.keep b o e n hb hx)
  · obtain ⟨sl, e1⟩ := I1.base.slot b o e n hb hx
    exact ⟨sl, (hs.2 b (Nat.ne_of_lt (Nat.lt_of_lt_of_le (Heap.lt_size e) I1.ok.above))).trans e1⟩
  · obtain ⟨o', e1⟩ := I1.base.there b o e hx
    exact ⟨o', (hs.2 b (Nat.ne_of_lt (Nat.lt_of_lt_of_le (Heap.lt_size e) I1.ok.above))).trans e1⟩
  · by_cases hj : j = i
    · subst hj
      rw [List.getElem?_set_self hiσ] at e2
      cases e2
    · rw [List.getElem?_set_ne (Ne.symm hj)] at e2
      obtain ⟨u', r', q⟩ := hl j y v' e1 (by rw [List.getElem?_set_ne (Ne.symm hj)]; exact e2) e3
      refine ⟨u', r', ?_⟩
      rcases q with ⟨k, e⟩ | ⟨k, c, e, z⟩
      · refine .inl ⟨k, ?_⟩
        have : y ≠ x := fun e => hj (nodup_ix hN e1 (e ▸ hi))
        simp [this, e]
      · exact .inr ⟨k, c, e, z.sameBut hs (cne y c e)⟩
  · obtain ⟨w', z⟩ := I1.cell y c e
    exact ⟨w', z.sameBut hs (cne y c e)⟩
  · obtain ⟨e, n, ne, nf, d⟩ := I1.pin p hp
    exact ⟨(hs.2 p.1 ne).trans e, n, ne, nf, d⟩
  · refine (I1.hok b ob e).stay (fun c w' hc q => (hs.2 c ?_).trans q) (fun _ q => q) fun _ _ q => q
    rintro rfl
    rcases hc with rfl | hc
    · rw [I1.free] at e; cases e
    · rw [I1.free] at hc; cases hc

/-! ### the exception that was caught, tracked -/
def xcF (ea C : Addr) : Heap → Prop := fun h => ∃ o vs, h.get? ea = some o ∧ o.cls = .ref C ∧ o.data = .fields vs
theorem Inv.track (I1 : Inv X pins σ H1 s1) (I : Inv X pins σ H s) (hn : s1.heap.get? ea = none) (hH : H ea = none) (hx : xcF ea C s.heap) : Inv X pins σ (upd H ea (.ext (xcF ea C))) s := by
  have ne1 : ∀ b o, s1.heap.get? b = some o → b ≠ ea := fun b o e z => by
    rw [z, hn] at e
    cases e
  have up : ∀ b o, H b = some o → upd H ea (.ext (xcF ea C)) b = some o := fun b o e => by
    rw [upd_ne (ne_of_none e hH)]
    exact e
  refine ⟨I.ok, I.os, I.bare, ⟨I.base.keep, I.base.slot, fun b o e n hb => ?_, I.base.there, fun b xs e => up _ _ (I.base.tups b xs e), fun b o u e => up _ _ (I.base.frzs b o u e), fun b ps e => ?_⟩, I.loc, I.cell, ?_, fun x c e => ?_, fun p hp => ?_, fun b o e => ?_, I.len⟩
  · obtain ⟨o1, e1⟩ := I1.base.there b o e hb
    rw [upd_ne (ne1 b o1 e1)]
    exact I.base.free b o e n hb
  · obtain ⟨m, q⟩ := I.base.tbls b ps e
    exact ⟨m, up _ _ q⟩
  · obtain ⟨m, ⟨o, _, _, ho, _⟩, _⟩ := I1.loc
    rw [upd_ne (ne1 _ o ho)]
    exact I.free
  · obtain ⟨v, o, ho, _⟩ := I1.cell x c e
    rw [upd_ne (ne1 _ o ho)]
    exact I.freeC x c e
  · obtain ⟨e, n, r⟩ := I.pin p hp
    have e1 := (I1.pin p hp).1
    exact ⟨e, by rw [upd_ne (ne1 _ _ e1)]; exact n, r⟩
  · by_cases hb : b = ea
    · subst hb
      rw [upd_same] at e
      cases e
      obtain ⟨o, vs, q⟩ := id hx
      exact ⟨hx, ⟨o, q.1⟩, fun h1 h2 ⟨o, vs, q1, q2⟩ k => ⟨o, vs, k o q1, q2⟩⟩
    · rw [upd_ne hb] at e
      exact (I.hok b o e).stay (fun _ _ _ q => q) (fun c q => up _ _ q) fun c xs q => up _ _ q

/-! ### the flight, seen from the frame that catches -/
structure Flown (X : Cx) (pins : List (Addr × Obj)) (σ : St) (H1 : Hp) (s1 : Shared) (H : Hp) (B : Heap) (ea C : Addr) (a0 : Value) (s : Shared) : Prop where
  i1 : Inv X pins σ H1 s1
  os : s.os = s1.os
  bare : AllBare s.gens
  un : Un (frs X.stack) [] H1 H s1.heap s.heap
  hok : HOk X.prog X.w H s.heap
  b1 : ∀ b o, s1.heap.get? b = some o → b ∉ frs X.stack → ∃ o', B.get? b = some o'
  b2 : ∀ b o, H b = some o → ∃ o', B.get? b = some o'
  fl : Heap.FlyingW B X.stack ea (.ref C) a0 s.heap
theorem Flown.inv (F : Flown X pins σ H1 s1 H B ea C a0 s) : Inv X pins σ H s := F.i1.call' F.os F.un F.hok F.bare (ch := []) (fun b z => absurd z (by simp))
theorem Flown.step (F : Flown X pins σ H1 s1 H B ea C a0 s) {h' : Heap} (fl' : Heap.FlyingW B X.stack ea (.ref C) a0 h') (up : s.heap.UpToSlots h') : Flown X pins σ H1 s1 H B ea C a0 { s with heap := h' } := by
  have no : ∀ b : Addr, b ∉ ([] : List Addr) := fun b => by simp
  have u := F.un
  have slot : ∀ b o, s1.heap.get? b = some o → H1 b = none → b ∈ frs X.stack → ∃ sl, h'.get? b = some { o with slots := sl } := fun b o e n hb => by
    obtain ⟨sl, e1⟩ := u.slot b o e n hb (no b)
    obtain ⟨_, of, ho, hd⟩ := F.i1.stack.mem hb
    rw [e] at ho
    cases ho
    obtain ⟨sl3, e3⟩ := up b _ e1 hd
    exact ⟨sl3, e3⟩
  refine ⟨F.i1, F.os, F.bare, ⟨fun b o e n hb _ => ?_, fun b o e n hb _ => slot b o e n hb, u.free, fun b o e _ => ?_, u.tups, u.frzs, u.tbls⟩, fly_ok F.hok F.b2 F.fl.1 fl'.1, F.b1, F.b2, fl'⟩
  · have e2 := u.keep b o e n hb (no b)
    obtain ⟨o', eB⟩ := F.b1 b o e hb
    have e3 := F.fl.1 b o' eB
    rw [e2] at e3
    cases e3
    exact fl'.1 b o eB
  · by_cases hb : b ∈ frs X.stack
    · obtain ⟨sl, q⟩ := slot b o e (F.i1.stkFree b hb) hb
      exact ⟨_, q⟩
    · obtain ⟨o', eB⟩ := F.b1 b o e hb
      exact ⟨o', fl'.1 b o' eB⟩
theorem Flown.new (F : Flown X pins σ H1 s1 H B ea C a0 s) : s1.heap.get? ea = none := by
  cases q : s1.heap.get? ea with
  | none => rfl
  | some o =>
    by_cases hb : ea ∈ frs X.stack
    · obtain ⟨sl, e1⟩ := F.un.slot ea o q (F.i1.stkFree ea hb) hb (by simp)
      obtain ⟨_, of, ho, hd⟩ := F.i1.stack.mem hb
      rw [q] at ho
      cases ho
      obtain ⟨oe, vs, e2, _, e3, _⟩ := F.fl.first
      rw [e1] at e2
      cases e2
      exact absurd e3 (hd vs)
    · obtain ⟨o', eB⟩ := F.b1 ea o q hb
      rw [F.fl.2.1] at eB
      cases eB
theorem Flown.no (F : Flown X pins σ H1 s1 H B ea C a0 s) : H ea = none := by
  cases q : H ea with
  | none => rfl
  | some o =>
    obtain ⟨o', eB⟩ := F.b2 ea o q
    rw [F.fl.2.1] at eB
    cases eB
theorem Flown.cls (F : Flown X pins σ H1 s1 H B ea C a0 s) : xcF ea C s.heap := by
  obtain ⟨oe, vs, e, c, d, _⟩ := F.fl.first
  exact ⟨oe, vs, e, c, d⟩
theorem Flown.tracked (F : Flown X pins σ H1 s1 H B ea C a0 s) : Inv X pins σ (upd H ea (.ext (xcF ea C))) s := F.i1.track F.inv F.new F.no F.cls
end

/-! ### the clauses -/
/-- the clauses hs take an exception of the class at C -/
def PH (X : Cx) (hs : List ExceptHandler) (C : Addr) (th : Addr → TS) : Prop :=
  ∀ (pins : List (Addr × Obj)) (σ : St) (H1 : Hp) (s1 : Shared) (H : Hp) (B : Heap) (ea : Addr) (a0 : Value) (s : Shared) (D : Ends), Flown X pins σ H1 s1 H B ea C a0 s → th ea D σ H → wpAny (model X.prog X.w) X.A (handleBy (.ref ea) X.env hs) (SP X pins D) X.xe s
section
variable {X : Cx} {C C' : Addr} {y n : Str} {yp hpos : Pos} {b₀ : Stmt} {suite : List Stmt} {rest : List ExceptHandler} {th : Addr → TS} {i : Nat}
theorem exm_at {M : Model} {K : PySem.W.Frag} {h : Heap} {ea : Addr} {c : Value} {b : Bool} (X : K.In h) (hx : xcF ea C h) (e : PySem.W.exmOne K (.ref C) c = some b) : PySem.W.Looks M h (excMatches (.ref ea) c) b := by
  obtain ⟨o, vs, ho, hc, _⟩ := hx
  have LT : PySem.W.Looks M h (typeOf (.ref ea)) (.ref C) := by
    have z : PySem.W.Looks M h (typeOf (.ref ea)) o.cls := (PySem.W.Looks.ld ho).andThen .now
    rw [hc] at z
    exact z
  exact PySem.W.exm_one X LT e
theorem ph_miss (hg : Gl X y) (hm : X.mg y = some (.ref C')) (q : PySem.W.exmOne X.K (.ref C) (.ref C') = some false) (hr : PH X rest C th) (hd : (y == ("__debug__" : Str)) = false := by decide) :
    PH X (.ExceptHandler (some (.Name y yp)) (some n) (b₀ :: suite) hpos :: rest) C th := by
  intro pins σ H1 s1 H B ea a0 s D F h
  refine wpAny_handleBy_cons (codeAny_handlers_test ?_) (by intro q; cases q)
  refine ld_glob (X := X.held ea) (F.inv.held ea) hg hm ?_ hd
  refine (exm_at F.inv.kIn F.cls q).here ?_
  exact hr pins σ H1 s1 H B ea a0 s D F h
def tHit (i : Nat) (C : Addr) (ts : TS) : Addr → TS := fun ea D σ H => ts { nx := fun σ' H' => D.nx (σ'.set i none) H', rt := D.rt, bk := fun σ' H' => D.bk (σ'.set i none) H', ct := fun σ' H' => D.ct (σ'.set i none) H' } (σ.set i (some (.ref ea))) (upd H ea (.ext (xcF ea C)))
theorem ph_hit {ts : TS} (hg : Gl X y) (hm : X.mg y = some (.ref C')) (q : PySem.W.exmOne X.K (.ref C) (.ref C') = some true) (hN : X.N.Nodup) (hi : X.N[i]? = some n) (hx : X.env.scope.names.lookup n = some .local)
    (hs : ∀ ea, PSs (X.held ea) (b₀ :: suite) ts) (hd : (y == ("__debug__" : Str)) = false := by decide) :
    PH X (.ExceptHandler (some (.Name y yp)) (some n) (b₀ :: suite) hpos :: rest) C (tHit i C ts) := by
  intro pins σ H1 s1 H B ea a0 s D F h
  refine wpAny_handleBy_cons (codeAny_handlers_test ?_) (by intro q; cases q)
  refine ld_glob (X := X.held ea) (F.inv.held ea) hg hm ?_ hd
  refine (exm_at F.inv.kIn F.cls q).here (codeAny_handlers_suite_as ?_)
  refine lands_againW F.fl fun h' fl' up => ?_
  have F' := F.step fl' up
  refine store_ok (X := X.held ea) (v := .ref ea) (F'.tracked.held ea) hN hi (.inl hx) rfl (fun s2 I2 => ?_) (.inr hx)
  refine wpAny_mono (hs ea pins s2 _ _ _ I2 h) (fun f s3 hf => ?_) fun _ _ z => False.elim z
  dsimp only
  cases f with
  | next =>
    obtain ⟨σ', H', I', r⟩ := hf
    exact unbind_ok (I'.unheld F.i1.ok) hN hi hx fun s4 I4 => ⟨_, H', I4, r⟩
  | brk =>
    obtain ⟨σ', H', I', r⟩ := hf
    exact unbind_ok (I'.unheld F.i1.ok) hN hi hx fun s4 I4 => ⟨_, H', I4, r⟩
  | cont =>
    obtain ⟨σ', H', I', r⟩ := hf
    exact unbind_ok (I'.unheld F.i1.ok) hN hi hx fun s4 I4 => ⟨_, H', I4, r⟩
  | ret u =>
    obtain ⟨v, σ', H', I', rv, r⟩ := hf
    exact unbind_ok (I'.unheld F.i1.ok) hN hi hx fun s4 I4 => ⟨v, _, H', I4, rv, r⟩
end

/-! ### a call that may throw -/
abbrev TX := St → Hp → VK → XK → Prop
def PX (X : Cx) (e : Expr) (t : TX) : Prop :=
  ∀ (pins : List (Addr × Obj)) (s : Shared) (σ : St) (H : Hp) (Q : VK) (E : XK), Inv X pins σ H s → t σ H Q E →
    wpAny (model X.prog X.w) X.A (eval e X.env) (EP X pins σ Q) (fun e s' => ∃ H1 s1, Inv X pins σ H1 s1 ∧ CXF X.prog X.w X.stack H1 s1 E e s') s
def tCallX (sp : Sp) (t : TA) : TX := fun σ H Q E => t σ H fun vs H1 => sp vs H1 Q E
section
variable {X : Cx} {k : Nat} {f : Addr} {fd : FuncData} {ps : List Str} {sp : Sp} {x : Str} {p pos : Pos} {e : Expr} {es : List Expr} {t : TA}
theorem px_call (F : FnOk X.prog X.w X.K X.mg X.base (CXF X.prog X.w) k f fd ps sp) (hr : Room k X.A) (hg : Gl X x) (hm : X.mg x = some (.ref f)) (hk : PySem.W.keepIn X.K (.ref f) = true) (hb : Binds X.K fd ps [])
    (ha : PA X.nox (e :: es) t) (hdb : (x == ("__debug__" : Str)) = false := by decide) (he : starEach (e :: es) X.env = (false, eval e X.env) :: starEach es X.env := by rfl) (hpl : (backTo pos (starEach es X.env)).any (·.1) = false := by rfl) :
    PX X (.Call (.Name x p) (e :: es) [] pos) (tCallX sp t) := by
  intro pins s σ H Q E I h
  refine wpAny_Call_Name_kw (ld_glob I hg hm ?_ hdb)
  have hA : wpAny (model X.prog X.w) X.A (spliced (backTo pos (starEach (e :: es) X.env))) (AP X pins σ fun vs H1 => sp vs H1 Q E) (fun e s' => ∃ H1 s1, Inv X pins σ H1 s1 ∧ CXF X.prog X.w X.stack H1 s1 E e s') s :=
    wpAny_mono (ha pos pins s σ H _ (I.wish _) h) (fun us s1 ⟨vs, H1, I1, r, q⟩ => ⟨vs, H1, I1.unwish, r, q⟩) fun _ _ z => False.elim z
  refine PySem.W.callWith_K (h₀ := X.base) I.ok.mod.kin hk (thn hA fun us s1 ⟨vs, H1, I1, r, q⟩ => ⟨I1.kIn, ?_⟩) he hpl
  have hl : us.length = ps.length := by rw [← r.length]; exact F.len _ _ _ _ q
  have hb' := hb s1 us I1.kIn (by simpa using hl)
  rw [List.append_nil] at hb'
  refine wpAny_call (codeAny_mono (F.run X.A X.stack s1 H1 ⟨us, []⟩ us vs Q E hr I1.env0 hb' r q) fun r s' hq => ?_)
  cases r with
  | error e => exact ⟨H1, s1, I1, hq⟩
  | ok fl =>
    cases fl with
    | ret u => exact I1.after hq
    | next => exact False.elim hq
    | brk => exact False.elim hq
    | cont => exact False.elim hq
end

/-! ### try -/
section
variable {X : Cx} {hs : List ExceptHandler} {h₀ : ExceptHandler} {e : Expr} {tx : TX} {pos epos npos : Pos} {i : Nat} {n : Str}
/-- what is wanted of an exception of the body: the clauses take it, and go on as they are read -/
def xTry (X : Cx) (hs : List ExceptHandler) (D : Ends) (σ : St) : XK := fun c _ H2 => ∃ (C : Addr) (th : Addr → TS), c = .ref C ∧ PH X hs C th ∧ ∀ ea, H2 ea = none → th ea D σ H2
theorem try_caught {pins : List (Addr × Obj)} {σ : St} {D : Ends} {H1 : Hp} {s1 s' : Shared} {ev : Value} (hst : X.stack = X.env :: X.outer ∧ X.env.frame = some X.env.locals) (I1 : Inv X pins σ H1 s1)
    (hc : CXF X.prog X.w X.stack H1 s1 (xTry X (h₀ :: hs) D σ) ev s') :
    wpAny (model X.prog X.w) X.A (noteFrame ev X.env) (fun _ s₂ => wpAny (model X.prog X.w) X.A (setFlight ev none) (fun _ s₃ => wpAny (model X.prog X.w) X.A (handleBy ev X.env (h₀ :: hs)) (SP X pins D) X.xe s₃) X.xe s₂) X.xe s' := by
  obtain ⟨ea, C, a0, H', B, rfl, os, bare, un, hok, b1, b2, fl, q⟩ := hc
  obtain ⟨C', th, hC, hP, q⟩ := q
  cases hC
  have F : Flown X pins σ H1 s1 H' B ea C a0 s' := ⟨I1, os, bare, un, hok, b1, b2, fl⟩
  have hfr : X.A.frames = some (X.env :: X.outer) := by
    rw [← hst.1]
    exact I1.ok.frames
  have fl0 : Heap.FlyingW B (X.env :: X.outer) ea (.ref C) a0 s'.heap := by
    rw [← hst.1]
    exact fl
  refine wpAny_looks_onW hfr hst.2 fl0 fun h4 held up4 => ?_
  refine wpAny_landsW held fun h5 fl5 up5 => ?_
  have fl5' : Heap.FlyingW B X.stack ea (.ref C) a0 h5 := by
    rw [hst.1]
    exact fl5
  exact hP pins σ H1 s1 H' B ea a0 _ D (F.step fl5' (up4.trans up5)) (q ea F.no)
/-- try: n = f(..) except .. -/
def tTryA (X : Cx) (hs : List ExceptHandler) (tx : TX) (i : Nat) : TS := fun D σ H => tx σ H (fun v H1 => D.nx (σ.set i (some v)) H1) (xTry X hs D σ)
theorem ps_tryA (hst : X.stack = X.env :: X.outer ∧ X.env.frame = some X.env.locals) (he : PX X e tx) (hN : X.N.Nodup) (hi : X.N[i]? = some n) (hx : Loc X.env.scope n)
    (hs' : swapsWith e (some (.Name n npos)) epos.line X.env = pure false := by rfl) (hf : X.fn n = true ∨ X.env.scope.names.lookup n = some .local := by first | exact .inl rfl | exact .inr rfl | assumption) :
    PS X (.Try [.Assign [.Name n npos] e epos] (h₀ :: hs) [] [] pos) (tTryA X (h₀ :: hs) tx i) := by
  intro pins s σ H D I h
  refine wpAny_Try_except (wpAny_mono (Q := fun f s1 => f = .next ∧ ∃ σ' H', Inv X pins σ' H' s1 ∧ D.nx σ' H') (E := fun e s' => ∃ H1 s1, Inv X pins σ H1 s1 ∧ CXF X.prog X.w X.stack H1 s1 (xTry X (h₀ :: hs) D σ) e s') ?_ (fun f s1 q => ?_) fun ev s1 ⟨H1, s2, I1, hc⟩ => try_caught hst I1 hc)
  · refine wpAny_execs_cons (wpAny_Assign_Name (thn (he pins s σ H _ _ I h) fun v s1 ⟨y, H1, I1, r1, q1⟩ => ?_) hs')
    exact store_ok I1 hN hi hx r1 (fun s2 I2 => wpAny_execs_nil ⟨rfl, _, H1, I2, q1⟩) hf
  · obtain ⟨rfl, q⟩ := q
    exact wpAny_execs_nil q
/-- try: f(..) except .. -/
def tTryE (X : Cx) (hs : List ExceptHandler) (tx : TX) : TS := fun D σ H => tx σ H (fun _ H1 => D.nx σ H1) (xTry X hs D σ)
theorem ps_tryE (hst : X.stack = X.env :: X.outer ∧ X.env.frame = some X.env.locals) (he : PX X e tx) (hs' : swapsWith e none epos.line X.env = pure false := by rfl) :
    PS X (.Try [.Expr e epos] (h₀ :: hs) [] [] pos) (tTryE X (h₀ :: hs) tx) := by
  intro pins s σ H D I h
  refine wpAny_Try_except (wpAny_mono (Q := fun f s1 => f = .next ∧ ∃ σ' H', Inv X pins σ' H' s1 ∧ D.nx σ' H') (E := fun e s' => ∃ H1 s1, Inv X pins σ H1 s1 ∧ CXF X.prog X.w X.stack H1 s1 (xTry X (h₀ :: hs) D σ) e s') ?_ (fun f s1 q => ?_) fun ev s1 ⟨H1, s2, I1, hc⟩ => try_caught hst I1 hc)
  · exact wpAny_execs_cons (wpAny_Expr_any (thn (he pins s σ H _ _ I h) fun v s1 ⟨y, H1, I1, r1, q1⟩ => wpAny_execs_nil ⟨rfl, σ, H1, I1, q1⟩) I.quiet hs')
  · obtain ⟨rfl, q⟩ := q
    exact wpAny_execs_nil q
end

/-! ### a def whose exceptions may leave -/
section
variable {P : Program} {w : World} {K : PySem.W.Frag} {mg : Str → Option Value} {base : Heap}
theorem Fun.okF {x qual : Str} {st : Stmt} {f : Addr} {fd : FuncData} {N ps : List Str} {k : Nat} {sp : Sp} (F : Fun K x qual st f fd) (S : FnScope N ps (defScope st)) (len : ∀ vs H Q E, sp vs H Q E → vs.length = ps.length)
    (hbody : ∀ (cdv : Value) (A : Around) (outer : List Env) (s : Shared) (H : Hp) (vs : List V) (Q : VK) (E : XK), Room k (A.deeper (envOfC qual (defScope st) s.heap.objs.size f cdv)) → sp vs H Q E →
      ∃ t, PSs (cxOf (CXF P w) P w K mg base N qual (defScope st) f cdv A outer s H E) (defBody st) t ∧ t { nx := fun _ H' => Q .non H', rt := Q } (start N vs) H) : FnOk P w K mg base (CXF P w) (k + 1) f fd ps sp := by
  obtain ⟨oc, od, kV, doc, pm, an, cdv, ct, osl, rfl, lk, hcd⟩ := F.ex
  exact fn_of lk hcd S len fun A outer s H vs Q E hr hsp => hbody cdv A outer s H vs Q E hr hsp
end

/-! ### names of the top that are no defs and no classes -/
theorem pe_globE {X : Cx} {x : Str} {v : V} {pos : Pos} (h : ∃ u, X.mg x = some u ∧ RelV v u) (hg : Gl X x) (hd : (x == ("__debug__" : Str)) = false := by decide) : PE X (.Name x pos) (tC v) := by
  obtain ⟨u, hm, r⟩ := h
  exact fun _ _ _ H _ I q => ld_glob I hg hm ⟨v, H, I, r, q⟩ hd
/-- a clause of the class D, an exception of the class C -/
theorem exm_of {K : PySem.W.Frag} {C D : Addr} {b : Bool} (hb : PySem.W.mroIn K D (.type "BaseException") = some true) (h1 : PySem.W.isClsIn K D = true) (h2 : PySem.W.typeIn K (.ref D) = some (.type "type")) (h3 : PySem.W.mroIn K C (.ref D) = some b) :
    PySem.W.exmOne K (.ref C) (.ref D) = some b := by
  unfold PySem.W.exmOne
  have e : PySem.W.subIn K (.ref D) (.type "BaseException") = some true := hb
  have h1' : (PySem.W.clsIn K D).isSome = true := h1
  rw [if_pos (by rw [e]; rfl)]
  show (if ((PySem.W.clsIn K D).isSome && PySem.W.typeIn K (.ref D) == some (.type "type")) = true then PySem.W.subIn K (.ref C) (.ref D) else none) = some b
  rw [if_pos (by rw [h1', h2]; rfl)]
  exact h3
/-- none of the classes -/
theorem kitAny_no {K : PySem.W.Frag} {t : Value} : ∀ {cs : List Addr}, (∀ c ∈ cs, PySem.W.kitOne K t (.ref c) = some false) → ∀ us, Vals (cs.map V.ref) us → PySem.W.kitAny K t us = some false
  | [], _, _, r => by
    cases r
    rfl
  | c :: cs, h, _, r => by
    rw [List.map_cons] at r
    cases r with
    | cons a r =>
      cases a
      unfold PySem.W.kitAny
      rw [h c (.head _)]
      exact kitAny_no (fun d hd => h d (.tail _ hd)) _ r
end L2

/-! MY RULES: attributes of an exception of one's own class, and isinstance of it. -/
set_option linter.all false
set_option maxRecDepth 100000
namespace PySem.W
open PySem PySem.Spec PySem.Calls PyProof.Rows PySem.Builtin.ObjectAttr

/-- what is asked of a class of exceptions: BaseException's reading of attributes, object's __class__ -/
structure XcIn (K : Frag) (C : Addr) : Prop where
  ga : findIn K (.ref C) "__getattribute__" = some (some (.builtin "BaseException.__getattribute__"))
  gt : findIn K (.ref C) "__getattr__" = some none
  mB : mroIn K C (.type "BaseException") = some true
  mO : mroIn K C (.type "object") = some true
  cl : findIn K (.ref C) "__class__" = some (some (.builtin "object.__class__"))
  sp : specialIn K (.builtin "object.__class__") "__get__" = some (some (.builtin "getset_descriptor.__get__"))
  tk : takesIn K (.builtin "object.__class__") = some true
/-- an object of that class lies there -/
def KitE (a C : Addr) (h : Heap) : Prop := ∃ o, h.get? a = some o ∧ o.cls = .ref C

section
variable {prog : Program} {w : World} {A : Around} {E : Value → Shared → Prop} {h : Heap} {g : Array GenState} {d : Drawn} {t : Nat} {os : OsState} {a C : Addr} {o : Obj} {K : Frag} {name : Str}
theorem XcIn.cls (c : XcIn K C) : ∃ cd, clsIn K C = some cd := by
  obtain ⟨cd, h, _⟩ := Option.bind_eq_some_iff.mp c.mB
  exact ⟨cd, h⟩
theorem KitE.type {M : Model} (p : KitE a C h) : Looks M h (typeOf (.ref a)) (.ref C) := by
  obtain ⟨o, ho, hc⟩ := p
  have z : Looks M h (typeOf (.ref a)) o.cls := (Looks.ld ho).andThen .now
  rwa [hc] at z

/-- the call of BaseException's __getattribute__ is let by -/
theorem xc_check {M : Model} {nv : Value} {Q : Unit → Shared → Prop} (X : K.In h) (c : XcIn K C) (ho : h.get? a = some o) (ok : o.cls = .ref C) (hq : Q () ⟨h, g, d, t, os⟩) :
    wpAny M A (checkBuiltinCall "BaseException.__getattribute__" ⟨[.ref a, nv], []⟩) Q E ⟨h, g, d, t, os⟩ := by
  have sub := looks_mroIn (M := M) X c.mB
  have ar := F.args_bexc_ga (.ref a) nv
  simp only [checkBuiltinCall, (by decide +kernel : builtinKind "BaseException.__getattribute__" = some .slot), (by decide +kernel : splitId "BaseException.__getattribute__" = some ("BaseException", "__getattribute__"))]
  refine wpAny_bind ?_
  unfold isInstance
  repeat (first | (with_reducible refine wpAny_loadPart_at ho ?_; rw [ok]) | (with_reducible refine sub.at ?_) | wp_step)
  exact hq

/-! ### e.__class__ -/
theorem xc_find {M : Model} (X : K.In h) (c : XcIn K C) : Looks M h (find (.ref a) (.ref C) "__class__") (.bind (.builtin "getset_descriptor.__get__") (.builtin "object.__class__")) :=
  (looks_findIn X c.cl).andThen ((show Looks M h (getOf (some (.builtin "object.__class__"))) (some (.builtin "getset_descriptor.__get__")) from looks_specialIn X c.sp).andThen
    ((show Looks M h (dataDescriptor? (some (.builtin "object.__class__")) (some (.builtin "getset_descriptor.__get__"))) (some (.builtin "getset_descriptor.__get__", .builtin "object.__class__")) from (looks_takesIn X c.tk).andThen .now).andThen (Looks.tag .now)))
theorem xc_get {R : Result → Shared → Prop} (X : K.In h) (c : XcIn K C) (ho : h.get? a = some o) (ok : o.cls = .ref C) (hq : R (.ok (.ret (.ref C))) ⟨h, g, d, t, os⟩) :
    codeAny (model prog w) A (.call (.builtin "getset_descriptor.__get__") ⟨[.builtin "object.__class__", .ref a, .ref C], []⟩) R ⟨h, g, d, t, os⟩ := by
  have ty : (⟨h, g, d, t, os⟩ : Shared).TypeIs (.builtin "object.__class__") "getset_descriptor" := F.typeOf_object_class
  have sub : Looks (model prog w) h (isSubtype (.ref C) (.type (".".intercalate ("object.__class__".cutAt '.').dropLast))) true := by
    rw [F.owner_object_class]
    exact looks_mroIn X c.mO
  refine codeAny_call_builtin F.slot_gs_get.plain F.entry_gs_get (F.slot_gs_get.check _ _ _ _ _ _ _ _ ty (F.args_gs_get _ _ _) ?_)
  repeat (any_goals (first | assumption | (with_reducible refine wpAny_loadPart_at ho ?_; rw [ok]) | (with_reducible refine sub.at ?_) | wp_step))
  refine ⟨Code.quiet_builtin _ (by decide +kernel), codeAny_builtin F.entry_object_class ?_⟩
  repeat (any_goals (first | assumption | (with_reducible refine wpAny_loadPart_at ho ?_; rw [ok]) | wp_step))
theorem xc_entry {tk : Tok} {Q : Fin → Shared → Prop} (X : K.In h) (c : XcIn K C) (ho : h.get? a = some o) (ok : o.cls = .ref C) (hq : Q (.done (.ret (.ref C))) ⟨h, g, d, t, os⟩) :
    wpAny (model prog w) A (Builtin.«object.__getattribute__» ⟨[.ref a, .str "__class__" tk], []⟩) Q E ⟨h, g, d, t, os⟩ := by
  have L := xc_find (M := model prog w) (a := a) X c
  unfold Builtin.«object.__getattribute__»
  repeat (any_goals (first | assumption | (with_reducible refine L.at ?_) | (with_reducible refine wpAny_loadPart_at ho ?_; rw [ok]) | wp_step))
  refine xc_get X c ho ok ?_
  repeat (any_goals (first | assumption | wp_step))

/-! ### any attribute, by what the call of __getattribute__ gives -/
theorem xc_by {tk : Tok} {fill expr : Bool} {v : Value} {Q : Value → Shared → Prop} (X : K.In h) (c : XcIn K C) (ho : h.get? a = some o) (ok : o.cls = .ref C)
    (hq : ∀ (A : Around) (R : Result → Shared → Prop), R (.ok (.ret v)) ⟨h, g, d, t, os⟩ → codeAny (model prog w) A (.call (.builtin "BaseException.__getattribute__") ⟨[.ref a, .str name tk], []⟩) R ⟨h, g, d, t, os⟩) (hh : handedIn v = true) (hQ : Q v ⟨h, g, d, t, os⟩) :
    wpAny (model prog w) A (getAttrBy (.ref a) (.str name tk) fill expr) Q E ⟨h, g, d, t, os⟩ := by
  have b := F.attr_ValueError.ga.bind (.ref a)
  have L1 := looks_findIn (M := model prog w) X c.ga
  have L2 := looks_findIn (M := model prog w) X c.gt
  have n1 : (Value.builtin "BaseException.__getattribute__" == Value.builtin "object.__getattribute__") = false := by decide +kernel
  have n2 : (onTheHeap (Value.ref C) && Value.builtin "BaseException.__getattribute__" == Value.builtin "object.__getattribute__") = false := by simp [n1]
  have n3 : (expr && onTheHeap (Value.builtin "BaseException.__getattribute__")) = false := Bool.and_eq_false_iff.mpr (.inr rfl)
  repeat (any_goals (first | assumption | (with_reducible refine wpAny_loadPart_at ho ?_; rw [ok]) | (with_reducible refine L1.at ?_) | (with_reducible refine L2.at ?_) | wp_step))
  refine hq _ _ ?_
  repeat (any_goals (first | assumption | wp_step))
  show wpAny _ _ (handedOut v) _ _ _
  rw [handedOut_of hh]
  exact wpAny_pure hQ
theorem xc_class {Q : Option Value → Shared → Prop} {s : Shared} (X : K.In s.heap) (c : XcIn K C) (p : KitE a C s.heap) (hq : Q (some (.ref C)) { s with toks := s.toks + 1 }) : wpAny (model prog w) A (getAttr? (.ref a) "__class__") Q E s := by
  obtain ⟨o, ho, ok⟩ := p
  obtain ⟨h, g, d, t, os⟩ := s
  unfold getAttr? getAttrBy?
  have B : ∀ {A : Around} {E : Value → Shared → Prop} {Q : Value → Shared → Prop}, Q (.ref C) ⟨h, g, d, t + 1, os⟩ → wpAny (model prog w) A (getAttrBy (.ref a) (.str "__class__" t) false) Q E ⟨h, g, d, t + 1, os⟩ := fun {A E Q} hQ =>
    xc_by X c ho ok (fun A R hR => codeAny_call_builtin F.attr_ValueError.ga.plain F.entry_bexc_ga (xc_check X c ho ok (xc_entry X c ho ok hR))) rfl hQ
  repeat (any_goals (first | assumption | with_reducible apply B | wp_step))

/-! ### isinstance -/
theorem kitx_exc (c : XcIn K C) : KitX K (.ref a) (.ref C) (KitE a C) where
  ty := fun _ _ _ p => p.type
  it := fun _ _ X _ => by
    obtain ⟨cd, e⟩ := c.cls
    intro A Q E s k q
    unfold clsIn at e
    split at e
    case h_1 there => exact wpAny_bind (wpAny_loadPart (k _ _ (X _ _ there)) (wpAny_pure q))
    case h_2 => cases e
  ne := fun h tp dd its n sl X htp => by
    obtain ⟨cd, e⟩ := c.cls
    rw [Bool.eq_false_iff]
    intro q
    cases beq_iff_eq.mp q
    unfold clsIn at e
    split at e
    case h_1 there => cases (X _ _ there).symm.trans htp
    case h_2 => cases e
  ca := fun X p k => xc_class X c p k
end
end PySem.W

namespace L2
open PySem PySem.Spec PyProof.Rows
section
variable {X : Cx}
theorem xcF.kit {ea C : Addr} {h : Heap} (p : xcF ea C h) : PySem.W.KitE ea C h := by
  obtain ⟨o, vs, ho, hc, _⟩ := p
  exact ⟨o, ho, hc⟩
/-- isinstance(e, c), isinstance(e, (c, ..)) of an exception that was caught -/
def rIsiX (K : PySem.W.Frag) : List V → Hp → VK → Prop := fun xs H Q => ∃ ea C c b, xs = [.ref ea, c] ∧ H ea = some (.ext (xcF ea C)) ∧ PySem.W.XcIn K C ∧ (∀ u, RelV c u → PySem.W.kitOne K (.ref C) u = some b) ∧ Q (.bl b) H
theorem call_isiX : CallR X (.builtin "isinstance") (rIsiX X.K) := by
  intro pins s σ H xs us Q I r h
  obtain ⟨ea, C, c, b, rfl, he, xc, k, q⟩ := h
  obtain ⟨u, w', rfl, ru, rw'⟩ := vals2 r
  cases ru
  exact PySem.W.kia_one (PySem.W.kitx_exc xc) I.kIn (xcF.kit (I.hok ea _ he).1) (k w' rw') (fun z => nomatch z) fun tk => ⟨.bl b, H, I.tok tk, rfl, q⟩
def rIsiXT (K : PySem.W.Frag) : List V → Hp → VK → Prop := fun xs H Q => ∃ ea C tp cs b, xs = [.ref ea, .ref tp] ∧ H ea = some (.ext (xcF ea C)) ∧ PySem.W.XcIn K C ∧ H tp = some (.tup cs) ∧ (∀ us, Vals cs us → PySem.W.kitAny K (.ref C) us = some b) ∧ Q (.bl b) H
theorem call_isiXT : CallR X (.builtin "isinstance") (rIsiXT X.K) := by
  intro pins s σ H xs us Q I r h
  obtain ⟨ea, C, tp, cs, b, rfl, he, xc, ht, k, q⟩ := h
  obtain ⟨u, w', rfl, ru, rw'⟩ := vals2 r
  cases ru
  cases rw'
  obtain ⟨_, its, rv, ob, hob, hc, n, hd⟩ := (show ObjOk X.prog X.w H s.heap tp (.tup cs) from I.hok tp _ ht)
  obtain ⟨oc, od, oda, osl⟩ := ob
  dsimp only at hc hd
  subst hc hd
  exact PySem.W.kia_tup (PySem.W.kitx_exc xc) I.kIn (xcF.kit (I.hok ea _ he).1) hob (k its rv) (fun z => nomatch z) fun tk => ⟨.bl b, H, I.tok tk, rfl, q⟩
end
end L2

/-! MY RULES: for k, x in enumerate(list); all(list of bools). -/
set_option linter.all false
set_option maxRecDepth 100000
namespace L2
open PySem PySem.Spec PyProof.Rows
/-- enumerate over a list: the i-th pair is a new tuple -/
def ItEn (K : PySem.W.Frag) (a : Addr) : It :=
  ⟨fun i H => ∃ xs x, SqL K H a xs ∧ xs[i]? = some x,
   fun i H v H' => ∃ p, H p = none ∧ v = .ref p ∧ ∃ x, (∀ xs, SqL K H a xs → xs[i]? = some x) ∧ H' = upd H p (.tup [.int (i : Nat), x]),
   fun i H => ∃ xs, SqL K H a xs ∧ xs.length ≤ i⟩
def EnSt (e it a : Addr) (i : Nat) (h : Heap) : Prop := (∃ old, IsEnum h e it (i : Nat) old) ∧ h.IsListIter it a i
theorem turn_enum {P : Program} {w : World} {K : PySem.W.Frag} {elts : List Expr} {kk : Nat} {pos : Pos} {e it a : Addr} (ne : e ≠ it) : Turn P w K (.Tuple elts kk pos) (ItEn K a) [e, it] e (EnSt e it a) where
  mem := by simp
  obj := fun i h st c hc => by
    obtain ⟨⟨old, h1⟩, h2⟩ := st
    simp only [List.mem_cons, List.not_mem_nil, or_false] at hc
    rcases hc with rfl | rfl
    · exact ⟨_, h1, fun v z => by cases (show Data.fields _ = Data.cell v from z)⟩
    · obtain ⟨o, ho, _, hd⟩ := h2
      exact ⟨o, ho, fun v z => by rw [hd] at z; cases z⟩
  keep := fun i h h' st k => by
    obtain ⟨⟨old, h1⟩, h2⟩ := st
    exact ⟨⟨old, k e (by simp) _ h1⟩, h2.at fun o z => k it (by simp) o z⟩
  item := by
    intro X hP hw hK hc i pins s σ H E I hf st hg
    subst hP hw hK
    obtain ⟨xs, x, hq, hx⟩ := hg
    obtain ⟨its, rv, p1, _⟩ := I.list hq
    obtain ⟨u, hu, ru⟩ := rv.get hx
    obtain ⟨⟨old, h1⟩, h2⟩ := st
    refine wpAny_pyNext_enum_item h1 h2 p1.isList (x := u) (by simpa using hu) ne fun h' z1 z2 z3 z4 kp => ?_
    refine ⟨_, rfl, wpAny_letOwnedTupleGo_enum (s := { s with heap := h', toks := s.toks + 1 }) z1 fun g zg sb => ?_⟩
    have nz : s.heap.objs.size ≠ e := Nat.ne_of_gt (Heap.lt_size h1)
    have n2 : it < s.heap.objs.size := let ⟨_, q, _⟩ := h2; Heap.lt_size q
    have tq : g.get? s.heap.objs.size = some { cls := .type "tuple", data := .seq #[.int i s.toks, u] } := sb.extBut _ _ nz z3
    have I1 : Inv X pins σ (upd H s.heap.objs.size (.tup [.int (i : Nat), x])) { s with heap := g, toks := s.toks + 1 } := I.turnedNew (ts := [e, it]) (fun c o hc q => by
      simp only [List.mem_cons, List.not_mem_nil, or_false, not_or] at hc
      exact sb.extBut _ _ hc.1 (kp c o hc.1 hc.2 q)) hf (Nat.le_refl _) ⟨by show 2 ≤ sizeLine; decide, [.int i s.toks, u], .cons ⟨_, rfl⟩ (.cons ru .nil), ⟨_, tq, rfl, _, rfl⟩⟩
    refine ⟨.ref s.heap.objs.size, _, I1, rfl, ⟨_, I.hok.fresh (Nat.le_refl _), rfl, x, fun zs hz => by rw [I.list_inj hz hq]; exact hx, rfl⟩, ⟨⟨_, zg⟩, z2.at fun o q => sb.extBut _ _ ne.symm q⟩, fun c hc => ?_⟩
    have hcn : c ≠ s.heap.objs.size := by
      simp only [List.mem_cons, List.not_mem_nil, or_false] at hc
      rcases hc with rfl | rfl
      · exact nz.symm
      · exact Nat.ne_of_lt n2
    rw [upd_ne hcn]
    exact (hf c hc).1
  done := by
    intro X hP hw hK hc i pins s σ H E I hf st hg
    subst hP hw hK
    obtain ⟨xs, hq, hx⟩ := hg
    obtain ⟨its, rv, p1, _⟩ := I.list hq
    have e1 := rv.length
    obtain ⟨⟨old, h1⟩, h2⟩ := st
    refine wpAny_pyNext_enum_end (I.ok.hd hc) h1 h2 p1.isList (by simp; omega) fun h' kp => ⟨rfl, ?_⟩
    exact I.turnedL (t' := s.toks) (ts := [e, it]) (fun c o hc q => by
      simp only [List.mem_cons, List.not_mem_nil, or_false, not_or] at hc
      exact kp c o hc.2 q) hf
  self := fun _ _ _ _ _ st h => by
    obtain ⟨⟨old, h1⟩, _⟩ := st
    exact wpAny_pyIter_enum h1 h
def iEnum (K : PySem.W.Frag) (ta : TA) : TI := fun σ H R => ta σ H fun vs H1 => ∃ a xs, vs = [.ref a] ∧ SqL K H1 a xs ∧ R (ItEn K a) H1
theorem pi_enum {X : Cx} {elts : List Expr} {kk : Nat} {tpos : Pos} {a : Expr} {ta : TA} {p pos : Pos} (hg : Gl X "enumerate") (hm : X.mg "enumerate" = none) (ha : PA X [a] ta) (hs : starEach [a] X.env = [(false, eval a X.env)] := by rfl) :
    PI X (.Tuple elts kk tpos) (.Call (.Name "enumerate" p) [a] [] pos) (iEnum X.K ta) := by
  intro pins s σ H R I h
  refine Call_ (ld_blt I hg hm boot_enumerate (PyProof.Rows.callWith_type1 (thn (ha pos pins s σ H _ I h) fun us s1 ⟨vs, H1, I1, r1, q1⟩ => ?_) (by rw [hs]; rfl) (by rfl)))
  obtain ⟨l, xs, e, hq, q⟩ := q1
  subst e
  obtain ⟨u, rfl, ru⟩ := vals1 r1
  cases ru
  obtain ⟨its, rv, p1, _⟩ := I1.list hq
  refine call_enumerate_list p1.isList fun h' z1 z2 z3 kp => wpAny_pyIter_enum z1 ?_
  have I2 : Inv X pins σ H1 { s1 with heap := h' } := I1.kept (t' := s1.toks) kp
  refine ⟨_, [s1.heap.objs.size + 1, s1.heap.objs.size], _, _, H1, rfl, I2, turn_enum (Nat.ne_of_gt (Nat.lt_succ_self _)), ⟨⟨_, z1⟩, z2⟩, fun c hc => ?_, q⟩
  have hle : s1.heap.objs.size ≤ c := by
    simp only [List.mem_cons, List.not_mem_nil, or_false] at hc
    rcases hc with rfl | rfl
    · exact Nat.le_succ _
    · exact Nat.le_refl _
  exact I1.fpOk hle (I1.hok.fresh hle)
/-- over a list that the body leaves as it is -/
theorem for_enum {K : PySem.W.Frag} {a : Addr} {xs : List V} {g : TG} {tb : TS} {D : Ends} {σ : St} {H : Hp} (Pv : Nat → St → Hp → Prop) (h0 : Pv 0 σ H) (hl : ∀ i σ H, Pv i σ H → SqL K H a xs)
    (hs : ∀ i x σ H p, xs[i]? = some x → Pv i σ H → H p = none → g (.ref p) σ (upd H p (.tup [.int (i : Nat), x])) fun σ2 H2 => tb { D with nx := Pv (i + 1), ct := Pv (i + 1), bk := D.nx } σ2 H2) (hd : ∀ σ H, Pv xs.length σ H → D.nx σ H) :
    ∃ W : Nat → Nat → St → Hp → Prop, (∃ m, W 0 m σ H) ∧ ∀ i m σ H, W i m σ H →
      ((ItEn K a).stop i H ∧ D.nx σ H) ∨ ((ItEn K a).go i H ∧ ∃ N : St → Hp → Prop, (∀ σ' H', N σ' H' → ∃ m', m' < m ∧ W (i + 1) m' σ' H') ∧ ∀ x H', (ItEn K a).yld i H x H' → g x σ H' fun σ2 H2 => tb { D with nx := N, ct := N, bk := D.nx } σ2 H2) := by
  refine ⟨fun i m σ H => m = xs.length - i ∧ i ≤ xs.length ∧ Pv i σ H, ⟨xs.length, by simp, Nat.zero_le _, h0⟩, ?_⟩
  rintro i m σ H ⟨rfl, hi, p⟩
  have q := hl i σ H p
  by_cases hlt : i < xs.length
  · refine .inr ⟨⟨xs, _, q, List.getElem?_eq_getElem hlt⟩, Pv (i + 1), fun σ' H' p' => ⟨xs.length - (i + 1), by omega, rfl, hlt, p'⟩, fun v H' y => ?_⟩
    obtain ⟨c, hc, rfl, x, f, rfl⟩ := y
    exact hs i x σ H c (f xs q) p hc
  · have e : i = xs.length := by omega
    subst e
    exact .inl ⟨⟨xs, q, Nat.le_refl _⟩, hd σ H p⟩
/-- all(l) of bools -/
theorem call_all {X : Cx} (hc : X.calm = true) : CallR X (.builtin "all") (fun vs H Q => ∃ (a : Addr) (bs : List Bool), vs = [V.ref a] ∧ SqL X.K H a (bs.map V.bl) ∧ Q (.bl (bs.all id)) H) := by
  intro pins s σ H vs us Q I r h
  obtain ⟨a, bs, rfl, hq, q⟩ := h
  obtain ⟨u, rfl, ru⟩ := vals1 r
  cases ru
  obtain ⟨its, rv, p1, _⟩ := I.list hq
  have la : a < s.heap.objs.size := let ⟨_, e, _⟩ := p1.isList; Heap.lt_size e
  have el : bs.length = its.length := by
    have := rv.length
    simpa using this
  have ei : ∀ (i : Nat) (v : Value), its.toArray[i]? = some v → v = .bool ((bs[i]?).getD true) := fun i v hv => by
    have hi : i < bs.length := by
      have := (Array.getElem?_eq_some_iff.mp hv).1
      simpa [el] using this
    obtain ⟨u, hu, ru⟩ := rv.get (i := i) (x := .bl bs[i]) (by simp [hi])
    have e : some u = some v := hu.symm.trans (by simpa using hv)
    cases e
    rw [List.getElem?_eq_getElem hi]
    exact ru
  refine call_all_walk ?_
  refine wpAny_pyIter_list p1.isList ?_
  refine ⟨s.heap.objs.size, _, _, _, _, _, fun i => (bs[i]?).getD true, rfl, Walks.list (A := X.A.in1) (I.ok.hd hc) s.heap.objs.size a (Nat.ne_of_lt la) its.toArray, ⟨⟨_, Heap.get?_push_size _ rfl, rfl, rfl⟩, Heap.IsList.push p1.isList _⟩, fun i v s2 Q2 E2 hv hQ => ?_, fun h' tk k => ?_⟩
  · rw [ei i v hv]
    exact wpAny_pure hQ
  · refine ⟨.bl (bs.all id), H, ?_, ?_, q⟩
    · exact I.kept (t' := tk) fun b o e => k b o (fun m => absurd (Heap.lt_size e) (by
        rw [List.mem_singleton.mp m]
        exact Nat.lt_irrefl _)) (Heap.get?_push_of_some _ e)
    · have z : ((List.range its.toArray.size).all fun i => (bs[i]?).getD true) = bs.all id := by
        have n : its.toArray.size = bs.length := by simp [el]
        rw [n, Bool.eq_iff_iff, List.all_eq_true, List.all_eq_true]
        constructor
        · intro h b hb
          obtain ⟨i, hi, rfl⟩ := List.mem_iff_getElem.mp hb
          have := h i (List.mem_range.mpr hi)
          rwa [List.getElem?_eq_getElem hi] at this
        · intro h i hi
          rw [List.getElem?_eq_getElem (List.mem_range.mp hi)]
          exact h _ (List.getElem_mem _)
      show Value.bool _ = Value.bool _
      rw [z]
end L2

/-! MY RULES: for v in d.values(); <= of texts; int(b). -/
set_option linter.all false
set_option maxRecDepth 100000
namespace L2
open PySem PySem.Spec PyProof.Rows
/-- the view that d.values() gives -/
def viewV (v d : Addr) : HO := .ext fun h => h.IsValuesView v d
theorem viewV_ok {P : Program} {w : World} {H : Hp} {h : Heap} {v d : Addr} (e : h.IsValuesView v d) : ObjOk P w H h v (viewV v d) :=
  ⟨e, let ⟨o, e1, _⟩ := e; ⟨o, e1⟩, fun h1 h2 ⟨o, e1, e2⟩ k => ⟨o, k o e1, e2⟩⟩
def rValues : V → List V → Hp → VK → Prop := fun x vs H Q => ∃ a kvs, x = .ref a ∧ vs = [] ∧ H a = some (.dK kvs) ∧ ∀ p, H p = none → Q (.ref p) (upd H p (viewV p a))
theorem mt_values {X : Cx} : MtR X "dict.values" rValues := by
  intro pins s σ H x xs v us Q I rx rv h
  obtain ⟨a, kvs, rfl, rfl, ha, q⟩ := h
  cases rx
  cases rv
  obtain ⟨hz, hs, vs, rel, dof⟩ := (show ObjOk X.prog X.w H s.heap a (.dK kvs) from I.hok a _ ha)
  refine call_meetsIn PySem.F.slot_dict_values dof.typeIs PySem.F.entry_dict_values (PySem.F.args_dict_values_1 _) (meets_dict_values (mixKind X.prog X.w) a hs) ⟨⟨vs, dof⟩, ?_⟩
  exact ⟨.ref s.heap.objs.size, _, I.laid (t' := s.toks) (o := viewV s.heap.objs.size a) (fun b u e => Heap.get?_push_of_some _ e) (Nat.le_refl _) (viewV_ok ⟨_, Heap.get?_push_size _ rfl, rfl, rfl⟩), rfl, q _ (I.hok.fresh (Nat.le_refl _))⟩
def ItVs (a : Addr) (o : Obj) (kvs : List (Key × V)) : It :=
  ⟨fun i H => H a = some (.frz o (.dK kvs)) ∧ i < kvs.length, fun i H x H' => H' = H ∧ ∃ k, kvs[i]? = some (k, x), fun i H => H a = some (.frz o (.dK kvs)) ∧ i = kvs.length⟩
theorem turn_values {P : Program} {w : World} {K : PySem.W.Frag} {tg : Expr} (it a : Addr) (o : Obj) (kvs : List (Key × V)) (es : Array DictEntry) (ep : Nat) (ho : o.data = .dict es ep) :
    Turn P w K tg (ItVs a o kvs) [it] it (fun i h => h.IsValIter it a i kvs.length ep) where
  mem := by simp
  obj := fun i h st b hb => by
    have e : b = it := by simpa using hb
    subst e
    obtain ⟨ob, e, _, d⟩ := st
    exact ⟨ob, e, fun v z => by rw [d] at z; cases z⟩
  keep := fun i h h' st k => st.at fun ob e => k it (by simp) ob e
  item := by
    intro X hP hw hK hc i pins s σ H E I hf st hg
    subst hP hw hK
    obtain ⟨ha, hi⟩ := hg
    obtain ⟨f0, f1, f2, f3, f4, f5⟩ := hf it (by simp)
    obtain ⟨_, vs, rel, dd⟩ := dict_ep I.hok ha ho
    have hl := rel.length
    obtain ⟨⟨k, v⟩, hkv⟩ : ∃ p, kvs[i]? = some p := ⟨kvs[i], by simp [hi]⟩
    obtain ⟨u, hu, ru⟩ := rel.at hkv
    rw [hl] at st
    refine wpAny_pyNext_values_item st dd hu fun h' hit sb => ?_
    have I1 : Inv X pins σ H { s with heap := h', toks := s.toks } := I.turned (t' := s.toks) (fun b ob hb e => (sb.2 b hb).trans e) f0 f1 f3 f4 f5
    obtain ⟨ob, e, c, d⟩ := id hit
    exact ⟨u, rfl, go_of (s := { s with heap := h' }) e c d (by decide) ⟨v, H, I1, ru, ⟨rfl, k, hkv⟩, by rw [hl]; exact hit, fun b hb => (hf b hb).1⟩⟩
  done := by
    intro X hP hw hK hc i pins s σ H E I hf st hg
    subst hP hw hK
    obtain ⟨ha, hi⟩ := hg
    obtain ⟨f0, f1, f2, f3, f4, f5⟩ := hf it (by simp)
    obtain ⟨_, vs, rel, dd⟩ := dict_ep I.hok ha ho
    have hl := rel.length
    rw [hl] at st
    exact wpAny_pyNext_values_end (I.ok.hd hc) st dd (by simp; omega) fun h' eb => ⟨rfl, I.turned (t' := s.toks) (fun b ob hb e => eb b ob hb e) f0 f1 f3 f4 f5⟩
  self := fun _ _ _ _ _ st h => wpAny_pyIter_valiter st h
def iValues (tl : TE) : TI := fun σ H R => tl σ H fun x H1 => ∃ v a kvs, x = .ref v ∧ H1 v = some (viewV v a) ∧ H1 a = some (.dK kvs) ∧ ∀ o, R (ItVs a o kvs) (upd H1 a (.frz o (.dK kvs)))
theorem pi_values {X : Cx} {tg l : Expr} {tl : TE} (hl : PE X l tl) : PI X tg l (iValues tl) := by
  intro pins s σ H R I h
  refine thn (hl pins s σ H _ I h) fun u s1 ⟨x, H1, I1, rx, v, a, kvs, ex, hv, ha, q⟩ => ?_
  subst ex
  cases rx
  obtain ⟨vw, _⟩ := (show ObjOk X.prog X.w H1 s1.heap v (viewV v a) from I1.hok v _ hv)
  obtain ⟨hz, hs, vs, rel, o, es, ep, ho, hx, hd, r⟩ := dk_of I1.hok ha
  have dd : s1.heap.DictAt (mixKind X.prog X.w) a vs ep := ⟨o, es, ho, hx, hd, r⟩
  refine wpAny_pyIter_values vw dd ?_
  have I2 : Inv X pins σ H1 { s1 with heap := s1.heap.push { cls := .type "dict_valueiterator", data := .fields #[.ref a, .int 0 0, .int vs.length 0, .int ep 0] }, toks := s1.toks } := I1.kept fun b ob e => Heap.get?_push_of_some _ e
  have I3 := I2.frozen ha (Heap.get?_push_of_some _ ho)
  refine ⟨_, [s1.heap.objs.size], _, _, _, rfl, I3, turn_values _ a o kvs es ep hd, ?_, fun b hb => ?_, q o⟩
  · rw [rel.length]
    exact ⟨_, Heap.get?_push_size _ rfl, rfl, rfl⟩
  · have e : b = s1.heap.objs.size := by simpa using hb
    subst e
    refine I1.fpOk (Nat.le_refl _) ?_
    rw [upd_ne (Nat.ne_of_gt (I1.hok.lt ha))]
    exact I1.hok.fresh (Nat.le_refl _)
theorem for_values {a : Addr} {o : Obj} {kvs : List (Key × V)} {g : TG} {tb : TS} {D : Ends} {σ : St} {H : Hp} (Pv : Nat → St → Hp → Prop) (h0 : Pv 0 σ H) (hl : ∀ i σ H, Pv i σ H → H a = some (.frz o (.dK kvs)))
    (hs : ∀ i k v σ H, kvs[i]? = some (k, v) → Pv i σ H → g v σ H fun σ2 H2 => tb { D with nx := Pv (i + 1), ct := Pv (i + 1), bk := D.nx } σ2 H2) (hd : ∀ σ H, Pv kvs.length σ H → D.nx σ H) :
    ∃ W : Nat → Nat → St → Hp → Prop, (∃ m, W 0 m σ H) ∧ ∀ i m σ H, W i m σ H →
      ((ItVs a o kvs).stop i H ∧ D.nx σ H) ∨ ((ItVs a o kvs).go i H ∧ ∃ N : St → Hp → Prop, (∀ σ' H', N σ' H' → ∃ m', m' < m ∧ W (i + 1) m' σ' H') ∧ ∀ x H', (ItVs a o kvs).yld i H x H' → g x σ H' fun σ2 H2 => tb { D with nx := N, ct := N, bk := D.nx } σ2 H2) := by
  refine ⟨fun i m σ H => m = kvs.length - i ∧ i ≤ kvs.length ∧ Pv i σ H, ⟨kvs.length, by simp, Nat.zero_le _, h0⟩, ?_⟩
  rintro i m σ H ⟨rfl, hi, p⟩
  by_cases hlt : i < kvs.length
  · refine .inr ⟨⟨hl i σ H p, hlt⟩, Pv (i + 1), fun σ' H' p' => ⟨kvs.length - (i + 1), by omega, rfl, hlt, p'⟩, fun x H' y => ?_⟩
    obtain ⟨e, k, e1⟩ := y
    subst e
    exact hs i k x σ _ e1 p
  · have e : i = kvs.length := by omega
    subst e
    exact .inl ⟨⟨hl _ σ H p, rfl⟩, hd σ H p⟩
/-- o.f within a comprehension -/
theorem pe_fldK {X : Cx} {K : PySem.W.Frag} {e : Expr} {f : Str} {pos : Pos} {ta : TE} (h : X.K = K) (he : PE X e ta) (hb : attributeBase e f X.env (eval e X.env) = eval e X.env) : PE X (.Attribute e f pos) (tFld K ta f) := h ▸ pe_fld he hb
section
variable {X : Cx}
/-- a <= b of texts -/
theorem op_leS : OpR X (compareOp .LtE) (fun x y H Q => ∃ i j, x = .str i ∧ y = .str j ∧ Q (.bl (!(decide (j.cps.toList < i.cps.toList)))) H) := by
  intro pins s σ H x y v u Q I rx ry h
  obtain ⟨i, j, rfl, rfl, q⟩ := h
  obtain ⟨t, rfl⟩ := rx
  obtain ⟨t', rfl⟩ := ry
  exact P.le_str ⟨.bl _, H, I, rfl, q⟩
end
end L2

/-! MY RULES: != of tuples that hold alike things (data, dicts); a comprehension over a dict; d.clear(); list(..) within a comprehension. -/
set_option linter.all false
set_option maxRecDepth 100000
namespace L2
open PySem PySem.Spec PyProof.Rows
section
variable {X : Cx}
/-! ### a comprehension over a dict: what was walked is thawed -/
end
theorem call_list_ofK {X : Cx} {K : PySem.W.Frag} (h : X.K = K) : CallR X (.type "list") (fun xs H Q => ∃ p ys, xs = [.ref p] ∧ (SqL K H p ys ∨ SqT K H p ys) ∧ ∀ l, H l = none → Q (.ref l) (upd H l (.lst ys))) := h ▸ call_list_of
end L2

/-! MY RULES: {x!r} in an f-string, of a text and of a list of texts (pj_repr, pj_reprL: the room must bear the guards); list.insert (mt_insert). -/
set_option Elab.async false
set_option linter.all false
set_option maxRecDepth 100000
set_option maxHeartbeats 4000000
namespace L2
open PySem PySem.Spec PyProof.Rows
theorem repr_len {y : Str} (h : PyData.strOk y = true) : (reprText y).length ≤ 10 * y.length + 2 := by
  refine StrLaws.reprText_len y fun c hc => ?_
  have h2 : ∀ (i : Nat) (x : i < y.cps.size), y.cps[i] < 1114112 := by simpa [PyData.strOk] using h
  obtain ⟨i, hi, e⟩ := List.mem_iff_getElem.mp hc
  have := h2 i (by simpa using hi)
  rw [← e]
  exact Nat.lt_of_lt_of_le (by simpa using this) (by decide)
def tJrepr (te : TE) (tr : TJ) : TJ := fun σ H out Q => te σ H fun x H1 => ∃ y : Str, x = .str y ∧ PyData.strOk y = true ∧ out.length + 10 * y.length + 2 ≤ sizeLine ∧ ∀ z : Str, z.length ≤ 10 * y.length + 2 → tr σ H1 (out ++ z) Q
/-- what the texts of a list come to at most -/
def reprSum (ys : List Str) : Nat := (ys.map fun y => 10 * y.length + 4).sum + 3
def tJreprL (te : TE) (tr : TJ) : TJ := fun σ H out Q => te σ H fun x H1 => ∃ (a : Addr) (ys : List Str), x = .ref a ∧ H1 a = some (.lst (ys.map V.str)) ∧ ys ≠ [] ∧ (∀ y ∈ ys, PyData.strOk y = true) ∧ out.length + reprSum ys ≤ sizeLine ∧ ∀ z : Str, z.length ≤ reprSum ys → tr σ H1 (out ++ z) Q
section
variable {X : Cx} {e : Expr} {es : List Expr} {te : TE} {tr : TJ} {pos p2 : Pos}
theorem pj_repr (he : PE X e te) (hr : PJ X es tr) (hs : evalEach (.FormattedValue e 114 none pos :: es) X.env = eval (.FormattedValue e 114 none pos) X.env :: evalEach es X.env := by rfl) : PJ X (.FormattedValue e 114 none pos :: es) (tJrepr te tr) := by
  intro pins s σ H out Q I h
  rw [hs]
  refine joinParts_cons (wpAny_FormattedValue_repr (thn (he pins s σ H _ I h) fun v s1 ⟨x, H1, I1, rx, y, ex, oky, hz, q⟩ => ?_))
  subst ex
  obtain ⟨t, rfl⟩ := (show ∃ t, v = Value.str y t from rx)
  have hl := repr_len oky
  refine pyReprObj_str ?_ (by omega)
  refine formatField_str (fun t' tk => ⟨?_, hr pins _ σ H1 _ Q ((I1.tok _).tok tk) (q _ hl)⟩) (by omega)
  rw [strLen_append]; omega
theorem repr_sum : ∀ {ys : List Str}, (∀ y ∈ ys, PyData.strOk y = true) → ((ys.map reprText).map (·.length)).sum + 2 * (ys.map reprText).length ≤ (ys.map fun y => 10 * y.length + 4).sum
  | [], _ => by simp
  | y :: r, h => by
    have h1 := repr_len (h y (.head _))
    have h2 := repr_sum (ys := r) fun z hz => h z (.tail _ hz)
    simp only [List.map_cons, List.sum_cons, List.length_cons] at h2 ⊢
    omega
theorem len_in {y : Str} : ∀ {ys : List Str}, y ∈ ys → 10 * y.length + 4 ≤ (ys.map fun y => 10 * y.length + 4).sum
  | _ :: r, .head _ => by simp only [List.map_cons, List.sum_cons]; omega
  | z :: r, .tail _ h => by
    have := len_in h
    simp only [List.map_cons, List.sum_cons]; omega
theorem pj_reprL (hg : X.A.guards = some []) (hu : X.A.units < cLine) (he : PE X e te) (hr : PJ X es tr) (hs : evalEach (.FormattedValue e 114 none pos :: es) X.env = eval (.FormattedValue e 114 none pos) X.env :: evalEach es X.env := by rfl) : PJ X (.FormattedValue e 114 none pos :: es) (tJreprL te tr) := by
  intro pins s σ H out Q I h
  rw [hs]
  refine joinParts_cons (wpAny_FormattedValue_repr (thn (he pins s σ H _ I h) fun v s1 ⟨x, H1, I1, rx, a, ys, ex, ha, ne, ok, hz, q⟩ => ?_))
  subst ex
  cases rx
  obtain ⟨z, its, n, r, hl, eo⟩ := I1.lstM ha
  have lt := Nat.le_trans (listText_len_le (ys.map reprText)) (Nat.add_le_add_right (repr_sum ok) 3)
  have lt : (listText (ys.map reprText)).length ≤ reprSum ys := lt
  cases its with
  | nil =>
    rw [List.length_map] at hl
    exact absurd (List.eq_nil_of_length_eq_zero hl) ne
  | cons u us =>
    refine wpAny_pyReprObj_list (x := u) (l := us) (ts := ys.map reprText) ⟨_, eo, rfl⟩ hg (fun v rest kw hm => by cases hm) hu eo rfl ?_ (fun i y hi => ?_) (fun h' t tk hk => ?_) (by omega)
    · rw [List.length_map, List.size_toArray, ← hl, List.length_map]
    · have hi : (u :: us)[i]? = some y := by simpa using hi
      have hil : i < ys.length := by
        have h1 := (List.getElem?_eq_some_iff.mp hi).1
        rw [← hl, List.length_map] at h1
        exact h1
      have hy0 : ys[i]? = some ys[i] := List.getElem?_eq_getElem hil
      generalize ys[i] = y0 at hy0
      obtain ⟨w, hw, rw'⟩ := r.get (i := i) (x := V.str y0) (by rw [List.getElem?_map, hy0]; rfl)
      rw [hi] at hw
      cases hw
      obtain ⟨t, rfl⟩ := (show ∃ t, y = Value.str y0 t from rw')
      have hm := List.mem_of_getElem? hy0
      have h1 := repr_len (ok y0 hm)
      have h2 := len_in hm
      exact ⟨reprText y0, by rw [List.getElem?_map, hy0]; rfl, ReprIs.str y0 t (by unfold reprSum at hz; omega)⟩
    · have I2 : Inv X pins σ H1 { s1 with heap := h', toks := tk } := I1.kept fun b o e => hk b o e
      refine formatField_str (fun t' tk' => ⟨?_, hr pins _ σ H1 _ Q (I2.tok tk') (q _ lt)⟩) (by omega)
      rw [strLen_append]; omega
def rInsert : V → List V → Hp → VK → Prop := fun x vs H Q => ∃ l xs i y, x = .ref l ∧ vs = [.int i, y] ∧ H l = some (.lst xs) ∧ xs.length < sizeLine ∧ 0 ≤ i ∧ i < 2 ^ 63 ∧ Q .non (upd H l (.lst (xs.take i.toNat ++ y :: xs.drop i.toNat)))
theorem mt_insert : MtM X "list.insert" rInsert := by
  intro pins s σ H x vs v us Q I rx rv h
  obtain ⟨l, xs, i, y, rfl, rfl, hH, hz, i0, i1, q⟩ := h
  cases rx
  cases rv with
  | cons ri rv =>
    cases rv with
    | cons ry rv =>
      cases rv
      obtain ⟨t, rfl⟩ := (show ∃ t, _ = Value.int i t from ri)
      rename_i u
      obtain ⟨z, its, n, r, hl, e⟩ := I.lstM hH
      refine call_meets F.slot_list_insert ⟨_, e, rfl⟩ F.entry_list_insert (F.args_list_insert_3 _ _ _)
        (PySem.AutoListH.list_insert_list_int_val_1 l its.toArray n i t u (by rw [fitsIndex_both (by omega) i1]; simp) (by rw [List.size_toArray]; omega)) ⟨e, ?_⟩
      refine ⟨.non, _, I.lset (its' := its.take i.toNat ++ u :: its.drop i.toNat) hH e ?_ ((r.take _).append (.cons ry (r.drop _))) ?_, rfl, q⟩
      · show (its.toArray.extract 0 (if i < 0 then _ else min i.toNat its.toArray.size)).push u ++ its.toArray.extract (if i < 0 then _ else min i.toNat its.toArray.size) = _
        rw [if_neg (by omega)]
        apply Array.ext'
        simp only [Array.toList_append, Array.toList_push, Array.toList_extract, List.size_toArray, List.extract_eq_drop_take]
        by_cases hc : i.toNat ≤ its.length
        · rw [Nat.min_eq_left hc]
          simp [List.take_of_length_le]
        · have hc : its.length ≤ i.toNat := by omega
          rw [Nat.min_eq_right hc, List.take_of_length_le hc, List.drop_eq_nil_of_le hc]
          simp
      · simp only [List.length_append, List.length_cons, List.length_take, List.length_drop]
        omega
end
end L2

set_option Elab.async false
set_option linter.all false
set_option maxRecDepth 100000
set_option maxHeartbeats 4000000
namespace My
open PySem L2
/-! ### the data of k07 -/
def encI (e : Str × Int) : PyData := .tuple [.str e.1, .int e.2]
def encIx (ix : List (Str × Int)) : PyData := .list (ix.map encI)
/-! ### equal data are equal trees -/
/-! ### shape -/
/-! ### texts -/
/-! ### trees with their weight and depth -/
/-! ### good texts -/
abbrev abc : Str := "abcdefghijklmnopqrstuvwxyz"
theorem abc_len : abc.cps.toList.length = 26 := by decide +kernel
theorem abc_len' : abc.length = 26 := by decide +kernel
theorem abc_ok : ∀ c ∈ abc.cps.toList, c < 0x110000 := by decide +kernel
theorem ok_iff {x : Str} : PyData.strOk x = true ↔ ∀ c ∈ x.cps.toList, c < 0x110000 := by
  unfold PyData.strOk
  rw [← Array.all_toList, List.all_eq_true]
  simp
theorem ok_app {x y : Str} (hx : PyData.strOk x = true) (hy : PyData.strOk y = true) : PyData.strOk (x ++ y) = true := by
  rw [ok_iff] at *
  intro c hc
  rw [Str.cps_append, Array.toList_append] at hc
  rcases List.mem_append.mp hc with h | h
  · exact hx c h
  · exact hy c h
theorem ok_one {c : Nat} (h : c < 0x110000) : PyData.strOk ⟨#[c]⟩ = true := by
  rw [ok_iff]
  intro d hd
  simp at hd
  omega
/-! ### indexes -/
theorem ix_cnt {ix : List (Str × Int)} : cnt (encIx ix) ≤ 1 + 3 * ix.length := by
  have h : ∀ l : List (Str × Int), cntAll (l.map encI) ≤ 3 * l.length := by
    intro l
    induction l with
    | nil => simp [cntAll]
    | cons e r ih => simp only [encI, cntAll, cnt, List.map_cons, List.length_cons] at *; omega
  have := h ix
  simp only [encIx, cnt]
  omega
/-! ### how many pairs -/
/-! ### what a tree's tuple holds -/
section
variable {G : Hp} {v : V}
end
end My

set_option Elab.async false
set_option linter.all false
set_option maxRecDepth 100000
set_option maxHeartbeats 4000000
namespace My
open PySem L2
def top (i : Nat) : Stmt := PySem.Challenge.pw_arrayloom_k12_names_looked.main.body.getD i (.Pass ⟨0, 0, 0, 0⟩)
abbrev s_copied : Stmt := top 10
abbrev s_Number_init : Stmt := inClass (top 14) 0
abbrev s_Let_init : Stmt := inClass (top 32) 0
abbrev s_Program_init : Stmt := inClass (top 33) 0
abbrev s_axis_names : Stmt := top 34
abbrev s_table_names : Stmt := top 35
abbrev s_array_names : Stmt := top 36
abbrev s_arrays_of : Stmt := top 38
abbrev s_look_names : Stmt := top 45
abbrev s_look_told_names : Stmt := top 46
abbrev s_is_name : Stmt := top 47
abbrev s_is_of_letters : Stmt := top 48
abbrev s_look_outs : Stmt := top 49
abbrev s_look_axes : Stmt := top 50
abbrev s_look : Stmt := top 61
abbrev s_l_cell : Stmt := top 71
abbrev s_l_name : Stmt := top 72
abbrev s_l_bad : Stmt := top 73
abbrev s_l_axes : Stmt := top 74
abbrev s_l_spoil_names : Stmt := top 75
abbrev s_l_spoil_outs : Stmt := top 76
abbrev s_l_spoil_axes : Stmt := top 77
abbrev s_l_named : Stmt := top 78
abbrev s_l_due : Stmt := top 79
abbrev s_l_asked : Stmt := top 80
abbrev s_l_got : Stmt := top 81
abbrev s_l_under : Stmt := top 82
abbrev s_law : Stmt := top 83
/-- what isinstance asks of an own class -/
structure TyC (K : PySem.W.Frag) (C : Addr) : Prop where
  ha : PySem.W.findIn K (.ref C) "__class__" = some (some (.builtin "object.__class__"))
  hn : PySem.W.specialIn K (.builtin "object.__class__") "__get__" = some (some (.builtin "getset_descriptor.__get__"))
  htk : PySem.W.takesIn K (.builtin "object.__class__") = some true
  hm : PySem.W.mroIn K C (.type "object") = some true
structure Adr where
  C_LoomError : Addr
  C_NoName : Addr
  C_NoShape : Addr
  C_TooMuch : Addr
  C_NoText : Addr
  C_BeyondRim : Addr
  C_NotYet : Addr
  C_Term : Addr
  C_Number : Addr
  C_Place : Addr
  C_Read : Addr
  C_Pair : Addr
  C_Sum : Addr
  C_Guard : Addr
  C_Part : Addr
  C_Let : Addr
  C_Program : Addr
  p_WORDS_OF_TERMS : Addr
  f_copied : Addr
  d_copied : FuncData
  f_Number_init : Addr
  d_Number_init : FuncData
  f_Let_init : Addr
  d_Let_init : FuncData
  f_Program_init : Addr
  d_Program_init : FuncData
  f_axis_names : Addr
  d_axis_names : FuncData
  f_table_names : Addr
  d_table_names : FuncData
  f_array_names : Addr
  d_array_names : FuncData
  f_arrays_of : Addr
  d_arrays_of : FuncData
  f_look_names : Addr
  d_look_names : FuncData
  f_look_told_names : Addr
  d_look_told_names : FuncData
  f_is_name : Addr
  d_is_name : FuncData
  f_is_of_letters : Addr
  d_is_of_letters : FuncData
  f_look_outs : Addr
  d_look_outs : FuncData
  f_look_axes : Addr
  d_look_axes : FuncData
  f_look : Addr
  d_look : FuncData
  f_l_cell : Addr
  d_l_cell : FuncData
  f_l_name : Addr
  d_l_name : FuncData
  f_l_bad : Addr
  d_l_bad : FuncData
  f_l_axes : Addr
  d_l_axes : FuncData
  f_l_spoil_names : Addr
  d_l_spoil_names : FuncData
  f_l_spoil_outs : Addr
  d_l_spoil_outs : FuncData
  f_l_spoil_axes : Addr
  d_l_spoil_axes : FuncData
  f_l_named : Addr
  d_l_named : FuncData
  f_l_due : Addr
  d_l_due : FuncData
  f_l_asked : Addr
  d_l_asked : FuncData
  f_l_got : Addr
  d_l_got : FuncData
  f_l_under : Addr
  d_l_under : FuncData
  f_law : Addr
  d_law : FuncData
structure Txt (K : PySem.W.Frag) (mg : Str → Option Value) (t : Adr) : Prop where
  F_copied : Fun K "copied" "copied" s_copied t.f_copied t.d_copied
  m_copied : mg "copied" = some (.ref t.f_copied)
  b_copied : Binds K t.d_copied ["value"] []
  F_Number_init : Fun K "__init__" "Number.__init__" s_Number_init t.f_Number_init t.d_Number_init
  b_Number_init : Binds K t.d_Number_init ["self", "number"] []
  F_Let_init : Fun K "__init__" "Let.__init__" s_Let_init t.f_Let_init t.d_Let_init
  b_Let_init : Binds K t.d_Let_init ["self", "name", "axes", "term"] []
  F_Program_init : Fun K "__init__" "Program.__init__" s_Program_init t.f_Program_init t.d_Program_init
  b_Program_init : Binds K t.d_Program_init ["self", "wheel", "axes", "tables", "lets", "outs"] []
  F_axis_names : Fun K "axis_names" "axis_names" s_axis_names t.f_axis_names t.d_axis_names
  m_axis_names : mg "axis_names" = some (.ref t.f_axis_names)
  b_axis_names : Binds K t.d_axis_names ["program"] []
  F_table_names : Fun K "table_names" "table_names" s_table_names t.f_table_names t.d_table_names
  m_table_names : mg "table_names" = some (.ref t.f_table_names)
  b_table_names : Binds K t.d_table_names ["program"] []
  F_array_names : Fun K "array_names" "array_names" s_array_names t.f_array_names t.d_array_names
  m_array_names : mg "array_names" = some (.ref t.f_array_names)
  b_array_names : Binds K t.d_array_names ["program"] []
  F_arrays_of : Fun K "arrays_of" "arrays_of" s_arrays_of t.f_arrays_of t.d_arrays_of
  m_arrays_of : mg "arrays_of" = some (.ref t.f_arrays_of)
  b_arrays_of : Binds K t.d_arrays_of ["program"] []
  F_look_names : Fun K "look_names" "look_names" s_look_names t.f_look_names t.d_look_names
  m_look_names : mg "look_names" = some (.ref t.f_look_names)
  b_look_names : Binds K t.d_look_names ["program"] []
  F_look_told_names : Fun K "look_told_names" "look_told_names" s_look_told_names t.f_look_told_names t.d_look_told_names
  m_look_told_names : mg "look_told_names" = some (.ref t.f_look_told_names)
  b_look_told_names : Binds K t.d_look_told_names ["names"] []
  F_is_name : Fun K "is_name" "is_name" s_is_name t.f_is_name t.d_is_name
  m_is_name : mg "is_name" = some (.ref t.f_is_name)
  b_is_name : Binds K t.d_is_name ["text"] []
  F_is_of_letters : Fun K "is_of_letters" "is_of_letters" s_is_of_letters t.f_is_of_letters t.d_is_of_letters
  m_is_of_letters : mg "is_of_letters" = some (.ref t.f_is_of_letters)
  b_is_of_letters : Binds K t.d_is_of_letters ["text"] []
  F_look_outs : Fun K "look_outs" "look_outs" s_look_outs t.f_look_outs t.d_look_outs
  m_look_outs : mg "look_outs" = some (.ref t.f_look_outs)
  b_look_outs : Binds K t.d_look_outs ["outs", "names"] []
  F_look_axes : Fun K "look_axes" "look_axes" s_look_axes t.f_look_axes t.d_look_axes
  m_look_axes : mg "look_axes" = some (.ref t.f_look_axes)
  b_look_axes : Binds K t.d_look_axes ["axes", "known"] []
  F_look : Fun K "look" "look" s_look t.f_look t.d_look
  m_look : mg "look" = some (.ref t.f_look)
  b_look : Binds K t.d_look ["program"] []
  F_l_cell : Fun K "_law_cell" "_law_cell" s_l_cell t.f_l_cell t.d_l_cell
  m_l_cell : mg "_law_cell" = some (.ref t.f_l_cell)
  b_l_cell : Binds K t.d_l_cell ["_law_rest"] []
  F_l_name : Fun K "_law_name" "_law_name" s_l_name t.f_l_name t.d_l_name
  m_l_name : mg "_law_name" = some (.ref t.f_l_name)
  b_l_name : Binds K t.d_l_name ["_law_k", "_law_seed"] []
  F_l_bad : Fun K "_law_bad" "_law_bad" s_l_bad t.f_l_bad t.d_l_bad
  m_l_bad : mg "_law_bad" = some (.ref t.f_l_bad)
  b_l_bad : Binds K t.d_l_bad ["_law_cell_here"] []
  F_l_axes : Fun K "_law_axes" "_law_axes" s_l_axes t.f_l_axes t.d_l_axes
  m_l_axes : mg "_law_axes" = some (.ref t.f_l_axes)
  b_l_axes : Binds K t.d_l_axes ["_law_cell_here", "_law_names"] []
  F_l_spoil_names : Fun K "_law_spoil_names" "_law_spoil_names" s_l_spoil_names t.f_l_spoil_names t.d_l_spoil_names
  m_l_spoil_names : mg "_law_spoil_names" = some (.ref t.f_l_spoil_names)
  b_l_spoil_names : Binds K t.d_l_spoil_names ["_law_way", "_law_names", "_law_place", "_law_cell_here", "_law_seed"] []
  F_l_spoil_outs : Fun K "_law_spoil_outs" "_law_spoil_outs" s_l_spoil_outs t.f_l_spoil_outs t.d_l_spoil_outs
  m_l_spoil_outs : mg "_law_spoil_outs" = some (.ref t.f_l_spoil_outs)
  b_l_spoil_outs : Binds K t.d_l_spoil_outs ["_law_way", "_law_names", "_law_outs", "_law_place", "_law_cell_here", "_law_seed"] []
  F_l_spoil_axes : Fun K "_law_spoil_axes" "_law_spoil_axes" s_l_spoil_axes t.f_l_spoil_axes t.d_l_spoil_axes
  m_l_spoil_axes : mg "_law_spoil_axes" = some (.ref t.f_l_spoil_axes)
  b_l_spoil_axes : Binds K t.d_l_spoil_axes ["_law_way", "_law_names", "_law_lists", "_law_place", "_law_cell_here", "_law_seed"] []
  F_l_named : Fun K "_law_named" "_law_named" s_l_named t.f_l_named t.d_l_named
  m_l_named : mg "_law_named" = some (.ref t.f_l_named)
  b_l_named : Binds K t.d_l_named ["_law_text"] []
  F_l_due : Fun K "_law_due" "_law_due" s_l_due t.f_l_due t.d_l_due
  m_l_due : mg "_law_due" = some (.ref t.f_l_due)
  b_l_due : Binds K t.d_l_due ["_law_names", "_law_many", "_law_lists", "_law_outs"] []
  F_l_asked : Fun K "_law_asked" "_law_asked" s_l_asked t.f_l_asked t.d_l_asked
  m_l_asked : mg "_law_asked" = some (.ref t.f_l_asked)
  b_l_asked : Binds K t.d_l_asked ["_law_program", "_law_whole"] []
  F_l_got : Fun K "_law_got" "_law_got" s_l_got t.f_l_got t.d_l_got
  m_l_got : mg "_law_got" = some (.ref t.f_l_got)
  b_l_got : Binds K t.d_l_got ["_law_program", "_law_whole"] []
  F_l_under : Fun K "_law_under" "_law_under" s_l_under t.f_l_under t.d_l_under
  m_l_under : mg "_law_under" = some (.ref t.f_l_under)
  b_l_under : Binds K t.d_l_under ["_law_program"] []
  F_law : Fun K "law" "law" s_law t.f_law t.d_law
  m_law : mg "law" = some (.ref t.f_law)
  b_law : Binds K t.d_law ["_law_script"] []
  cn_MOST_LETTERS : ∃ u, mg "MOST_LETTERS" = some u ∧ RelV (.int (8)) u
  cn_MOST_AXES : ∃ u, mg "MOST_AXES" = some u ∧ RelV (.int (3)) u
  cn_WORDS_OF_TERMS : ∃ u, mg "WORDS_OF_TERMS" = some u ∧ RelV (.ref t.p_WORDS_OF_TERMS) u
  tu_WORDS_OF_TERMS : ∃ (o : Obj) (its : Array Value) (n : Nat), K.lookup t.p_WORDS_OF_TERMS = some o ∧ o.cls = .type "tuple" ∧ o.data = .seq its n ∧ its.size ≤ sizeLine ∧ Vals [(.str "if"), (.str "sum")] its.toList
  m_BeyondRim : mg "BeyondRim" = some (.ref t.C_BeyondRim)
  m_LoomError : mg "LoomError" = some (.ref t.C_LoomError)
  m_NoName : mg "NoName" = some (.ref t.C_NoName)
  m_NoShape : mg "NoShape" = some (.ref t.C_NoShape)
  m_NoText : mg "NoText" = some (.ref t.C_NoText)
  m_NotYet : mg "NotYet" = some (.ref t.C_NotYet)
  m_TooMuch : mg "TooMuch" = some (.ref t.C_TooMuch)
  xm_NoName_ValueError : PySem.W.mroIn K t.C_NoName (.type "ValueError") = some true
  xm_NoShape_ValueError : PySem.W.mroIn K t.C_NoShape (.type "ValueError") = some true
  xe_NoName : PySem.W.excIn K t.C_NoName bmVE "ValueError.__new__" = true
  xe_NoShape : PySem.W.excIn K t.C_NoShape bmVE "ValueError.__new__" = true
  xc_NoName : PySem.W.XcIn K t.C_NoName
  kx_NoName_NoShape : PySem.W.kitOne K (.ref t.C_NoName) (.ref t.C_NoShape) = some false
  kx_NoName_TooMuch : PySem.W.kitOne K (.ref t.C_NoName) (.ref t.C_TooMuch) = some false
  kx_NoName_BeyondRim : PySem.W.kitOne K (.ref t.C_NoName) (.ref t.C_BeyondRim) = some false
  kx_NoName_NotYet : PySem.W.kitOne K (.ref t.C_NoName) (.ref t.C_NotYet) = some false
  kx_NoName_NoText : PySem.W.kitOne K (.ref t.C_NoName) (.ref t.C_NoText) = some false
  xc_NoShape : PySem.W.XcIn K t.C_NoShape
  kx_NoShape_NoName : PySem.W.kitOne K (.ref t.C_NoShape) (.ref t.C_NoName) = some false
  kx_NoShape_TooMuch : PySem.W.kitOne K (.ref t.C_NoShape) (.ref t.C_TooMuch) = some false
  kx_NoShape_BeyondRim : PySem.W.kitOne K (.ref t.C_NoShape) (.ref t.C_BeyondRim) = some false
  kx_NoShape_NotYet : PySem.W.kitOne K (.ref t.C_NoShape) (.ref t.C_NotYet) = some false
  kx_NoShape_NoText : PySem.W.kitOne K (.ref t.C_NoShape) (.ref t.C_NoText) = some false
  em_NoName_NoName : PySem.W.exmOne K (.ref t.C_NoName) (.ref t.C_NoName) = some true
  em_NoName_LoomError : PySem.W.exmOne K (.ref t.C_NoName) (.ref t.C_LoomError) = some true
  em_NoShape_NoName : PySem.W.exmOne K (.ref t.C_NoShape) (.ref t.C_NoName) = some false
  em_NoShape_NoShape : PySem.W.exmOne K (.ref t.C_NoShape) (.ref t.C_NoShape) = some true
  em_NoShape_LoomError : PySem.W.exmOne K (.ref t.C_NoShape) (.ref t.C_LoomError) = some true
  m_Number : mg "Number" = some (.ref t.C_Number)
  m_Let : mg "Let" = some (.ref t.C_Let)
  m_Program : mg "Program" = some (.ref t.C_Program)
  cl_Let : Cls K t.C_Let
  mk_Let : Mk K t.C_Let t.f_Let_init
  na_Let_name : NoAttr K t.C_Let "name"
  na_Let_axes : NoAttr K t.C_Let "axes"
  na_Let_term : NoAttr K t.C_Let "term"
  ty_Let : TyC K t.C_Let
  mb_Let_list : PySem.W.mroIn K t.C_Let (.type "list") = some false
  mb_Let_tuple : PySem.W.mroIn K t.C_Let (.type "tuple") = some false
  mb_Let_dict : PySem.W.mroIn K t.C_Let (.type "dict") = some false
  cl_Number : Cls K t.C_Number
  mk_Number : Mk K t.C_Number t.f_Number_init
  na_Number_number : NoAttr K t.C_Number "number"
  ty_Number : TyC K t.C_Number
  cl_Program : Cls K t.C_Program
  mk_Program : Mk K t.C_Program t.f_Program_init
  na_Program_wheel : NoAttr K t.C_Program "wheel"
  na_Program_axes : NoAttr K t.C_Program "axes"
  na_Program_tables : NoAttr K t.C_Program "tables"
  na_Program_lets : NoAttr K t.C_Program "lets"
  na_Program_outs : NoAttr K t.C_Program "outs"
  ty_Program : TyC K t.C_Program
  z_isinstance : mg "isinstance" = none
  z_list : mg "list" = none
  z_tuple : mg "tuple" = none
  z_dict : mg "dict" = none
  z_enumerate : mg "enumerate" = none
  z_len : mg "len" = none
  z_all : mg "all" = none
  z_range : mg "range" = none
  z_min : mg "min" = none
  z_ValueError : mg "ValueError" = none
  z_reversed : mg "reversed" = none
theorem sc_copied : FnScope ["value"] ["value"] (defScope s_copied) := ⟨rfl, rfl, rfl, by decide +kernel, rfl, by decide +kernel, by decide +kernel⟩
theorem sc_Number_init : FnScope ["self", "number"] ["self", "number"] (defScope s_Number_init) := ⟨rfl, rfl, rfl, by decide +kernel, rfl, by decide +kernel, by decide +kernel⟩
theorem sc_Let_init : FnScope ["self", "name", "axes", "term"] ["self", "name", "axes", "term"] (defScope s_Let_init) := ⟨rfl, rfl, rfl, by decide +kernel, rfl, by decide +kernel, by decide +kernel⟩
theorem sc_Program_init : FnScope ["self", "wheel", "axes", "tables", "lets", "outs"] ["self", "wheel", "axes", "tables", "lets", "outs"] (defScope s_Program_init) := ⟨rfl, rfl, rfl, by decide +kernel, rfl, by decide +kernel, by decide +kernel⟩
theorem sc_axis_names : FnScope ["program"] ["program"] (defScope s_axis_names) := ⟨rfl, rfl, rfl, by decide +kernel, rfl, by decide +kernel, by decide +kernel⟩
theorem sc_table_names : FnScope ["program"] ["program"] (defScope s_table_names) := ⟨rfl, rfl, rfl, by decide +kernel, rfl, by decide +kernel, by decide +kernel⟩
theorem sc_array_names : FnScope ["program"] ["program"] (defScope s_array_names) := ⟨rfl, rfl, rfl, by decide +kernel, rfl, by decide +kernel, by decide +kernel⟩
theorem sc_arrays_of : FnScope ["program", "arrays", "name", "axes", "let"] ["program"] (defScope s_arrays_of) := ⟨rfl, rfl, rfl, by decide +kernel, rfl, by decide +kernel, by decide +kernel⟩
theorem sc_look_names : FnScope ["program", "axes"] ["program"] (defScope s_look_names) := ⟨rfl, rfl, rfl, by decide +kernel, rfl, by decide +kernel, by decide +kernel⟩
theorem sc_look_told_names : FnScope ["names", "place", "name"] ["names"] (defScope s_look_told_names) := ⟨rfl, rfl, rfl, by decide +kernel, rfl, by decide +kernel, by decide +kernel⟩
theorem sc_is_name : FnScope ["text"] ["text"] (defScope s_is_name) := ⟨rfl, rfl, rfl, by decide +kernel, rfl, by decide +kernel, by decide +kernel⟩
theorem sc_is_of_letters : FnScope ["text"] ["text"] (defScope s_is_of_letters) := ⟨rfl, rfl, rfl, by decide +kernel, rfl, by decide +kernel, by decide +kernel⟩
theorem sc_look_outs : FnScope ["outs", "names", "place", "out"] ["outs", "names"] (defScope s_look_outs) := ⟨rfl, rfl, rfl, by decide +kernel, rfl, by decide +kernel, by decide +kernel⟩
theorem sc_look_axes : FnScope ["axes", "known", "place", "axis"] ["axes", "known"] (defScope s_look_axes) := ⟨rfl, rfl, rfl, by decide +kernel, rfl, by decide +kernel, by decide +kernel⟩
theorem sc_look : FnScope ["program"] ["program"] (defScope s_look) := ⟨rfl, rfl, rfl, by decide +kernel, rfl, by decide +kernel, by decide +kernel⟩
theorem sc_l_cell : FnScope ["_law_rest"] ["_law_rest"] (defScope s_l_cell) := ⟨rfl, rfl, rfl, by decide +kernel, rfl, by decide +kernel, by decide +kernel⟩
theorem sc_l_name : FnScope ["_law_k", "_law_seed", "_law_letters", "_law_size", "_law_spot", "_law_base", "_law_text"] ["_law_k", "_law_seed"] (defScope s_l_name) := ⟨rfl, rfl, rfl, by decide +kernel, rfl, by decide +kernel, by decide +kernel⟩
theorem sc_l_bad : FnScope ["_law_cell_here", "_law_letters", "_law_others", "_law_way", "_law_size", "_law_spot", "_law_base", "_law_text"] ["_law_cell_here"] (defScope s_l_bad) := ⟨rfl, rfl, rfl, by decide +kernel, rfl, by decide +kernel, by decide +kernel⟩
theorem sc_l_axes : FnScope ["_law_cell_here", "_law_names", "_law_many", "_law_turn"] ["_law_cell_here", "_law_names"] (defScope s_l_axes) := ⟨rfl, rfl, rfl, by decide +kernel, rfl, by decide +kernel, by decide +kernel⟩
theorem sc_l_spoil_names : FnScope ["_law_way", "_law_names", "_law_place", "_law_cell_here", "_law_seed"] ["_law_way", "_law_names", "_law_place", "_law_cell_here", "_law_seed"] (defScope s_l_spoil_names) := ⟨rfl, rfl, rfl, by decide +kernel, rfl, by decide +kernel, by decide +kernel⟩
theorem sc_l_spoil_outs : FnScope ["_law_way", "_law_names", "_law_outs", "_law_place", "_law_cell_here", "_law_seed", "_law_at"] ["_law_way", "_law_names", "_law_outs", "_law_place", "_law_cell_here", "_law_seed"] (defScope s_l_spoil_outs) := ⟨rfl, rfl, rfl, by decide +kernel, rfl, by decide +kernel, by decide +kernel⟩
theorem sc_l_spoil_axes : FnScope ["_law_way", "_law_names", "_law_lists", "_law_place", "_law_cell_here", "_law_seed", "_law_some", "_law_at", "_law_name_here"] ["_law_way", "_law_names", "_law_lists", "_law_place", "_law_cell_here", "_law_seed"] (defScope s_l_spoil_axes) := ⟨rfl, rfl, rfl, by decide +kernel, rfl, by decide +kernel, by decide +kernel⟩
theorem sc_l_named : FnScope ["_law_text", "_law_sign"] ["_law_text"] (defScope s_l_named) := ⟨rfl, rfl, rfl, by decide +kernel, rfl, by decide +kernel, by decide +kernel⟩
theorem sc_l_due : FnScope ["_law_names", "_law_many", "_law_lists", "_law_outs", "_law_k", "_law_some"] ["_law_names", "_law_many", "_law_lists", "_law_outs"] (defScope s_l_due) := ⟨rfl, rfl, rfl, by decide +kernel, rfl, by decide +kernel, by decide +kernel⟩
theorem sc_l_asked : FnScope ["_law_program", "_law_whole"] ["_law_program", "_law_whole"] (defScope s_l_asked) := ⟨rfl, rfl, rfl, by decide +kernel, rfl, by decide +kernel, by decide +kernel⟩
theorem sc_l_got : FnScope ["_law_program", "_law_whole", "_law_found", "e"] ["_law_program", "_law_whole"] (defScope s_l_got) := ⟨rfl, rfl, rfl, by decide +kernel, rfl, by decide +kernel, by decide +kernel⟩
theorem sc_l_under : FnScope ["_law_program", "e"] ["_law_program"] (defScope s_l_under) := ⟨rfl, rfl, rfl, by decide +kernel, rfl, by decide +kernel, by decide +kernel⟩
theorem sc_law : FnScope ["_law_script", "_law_rest", "_law_many", "_law_tabled", "_law_told", "_law_seed", "_law_spoils", "_law_names", "_law_lists", "_law_outs", "_law_spoil", "_law_way", "_law_axes_here", "_law_tables", "_law_lets", "_law_program", "_law_due_here"] ["_law_script"] (defScope s_law) := ⟨rfl, rfl, rfl, by decide +kernel, rfl, by decide +kernel, by decide +kernel⟩
theorem nd_comp_0 : (["member"] : List Str).Nodup := by decide +kernel
theorem nd_comp_1 : (["name", "length"] : List Str).Nodup := by decide +kernel
theorem nd_comp_2 : (["name", "axes"] : List Str).Nodup := by decide +kernel
theorem nd_comp_3 : (["let"] : List Str).Nodup := by decide +kernel
theorem nd_comp_4 : (["sign"] : List Str).Nodup := by decide +kernel
theorem nd_comp_5 : (["_law_j", "_law_base"] : List Str).Nodup := by decide +kernel
theorem nd_comp_6 : (["_law_j", "_law_base"] : List Str).Nodup := by decide +kernel
theorem nd_comp_7 : (["_law_j", "_law_cell_here", "_law_letters"] : List Str).Nodup := by decide +kernel
theorem nd_comp_8 : (["_law_j", "_law_base"] : List Str).Nodup := by decide +kernel
theorem nd_comp_9 : (["_law_j", "_law_base"] : List Str).Nodup := by decide +kernel
theorem nd_comp_10 : (["_law_j", "_law_cell_here", "_law_many", "_law_names", "_law_turn"] : List Str).Nodup := by decide +kernel
theorem nd_comp_11 : (["_law_cell_here"] : List Str).Nodup := by decide +kernel
theorem nd_comp_12 : (["_law_k", "_law_rest"] : List Str).Nodup := by decide +kernel
theorem nd_comp_13 : (["_law_k", "_law_seed"] : List Str).Nodup := by decide +kernel
theorem nd_comp_14 : (["_law_k", "_law_many", "_law_names", "_law_rest"] : List Str).Nodup := by decide +kernel
theorem nd_comp_15 : (["_law_k", "_law_names", "_law_seed"] : List Str).Nodup := by decide +kernel
theorem nd_comp_16 : (["_law_k", "_law_lists", "_law_many", "_law_names"] : List Str).Nodup := by decide +kernel
theorem nd_comp_17 : (["_law_k", "_law_lists", "_law_many", "_law_names"] : List Str).Nodup := by decide +kernel
theorem FnOk.none {P : Program} {w : World} {K : PySem.W.Frag} {mg : Str → Option Value} {base : Heap} {CX : CXT} {k : Nat} {f : Addr} {fd : FuncData} {ps : List Str} {sp : Sp} (h : ∀ vs H Q E, ¬ sp vs H Q E) : FnOk P w K mg base CX k f fd ps sp :=
  ⟨fun vs H Q E q => (h vs H Q E q).elim, fun _ _ _ H _ _ vs Q E _ _ _ _ q => (h vs H Q E q).elim⟩
/-! ### data -/
def encT (e : Str × List Str) : PyData := .tuple [.str e.1, .list (e.2.map PyData.str)]
def encTb (ts : List (Str × List Str)) : PyData := .list (ts.map encT)
def encS (xs : List Str) : PyData := .list (xs.map PyData.str)
def encL (e : Str × List Str × Int) : PyData := .tuple [.str e.1, .list (e.2.1.map PyData.str), .int e.2.2]
def encLs (ls : List (Str × List Str × Int)) : PyData := .list (ls.map encL)
def OkS (xs : List Str) : Prop := ∀ x ∈ xs, PyData.strOk x = true
theorem ds_strs : ∀ xs : List Str, PyData.depthAll (xs.map PyData.str) = 0 ∧ cntAll (xs.map PyData.str) = xs.length
  | [] => ⟨rfl, rfl⟩
  | x :: r => by
    obtain ⟨h2, h3⟩ := ds_strs r
    refine ⟨?_, ?_⟩
    · simp [PyData.depthAll, PyData.depth, h2]
    · simp [cntAll, cnt, h3]; omega
theorem lay_strs : ∀ {xs : List Str}, OkS xs → PyData.canLayAll0 (xs.map PyData.str) = true
  | [], _ => rfl
  | x :: r, h => by
    have h1 := lay_strs (xs := r) fun y hy => h y (.tail _ hy)
    simp [PyData.canLayAll0, PyData.canLay0, h1, h x (.head _)]
theorem encS_ok (xs : List Str) : (encS xs).depth ≤ 1 ∧ cnt (encS xs) ≤ 1 + xs.length := by
  obtain ⟨h2, h3⟩ := ds_strs xs
  refine ⟨?_, ?_⟩
  · simp [encS, PyData.depth, h2]
  · simp only [encS, cnt, h3]; omega
theorem encS_lay {xs : List Str} (h : OkS xs) : (encS xs).canLay0 = true := by simp [encS, PyData.canLay0, lay_strs h]
theorem ds_tb {n : Nat} : ∀ ts : List (Str × List Str), (∀ e ∈ ts, e.2.length ≤ n) → PyData.depthAll (ts.map encT) ≤ 2 ∧ cntAll (ts.map encT) ≤ ts.length * (n + 4)
  | [], _ => ⟨by simp [PyData.depthAll], by simp [cntAll]⟩
  | e :: r, h => by
    obtain ⟨h2, h3⟩ := ds_tb r fun x hx => h x (.tail _ hx)
    obtain ⟨g2, g3⟩ := ds_strs e.2
    have hl := h e (.head _)
    refine ⟨?_, ?_⟩
    · simp only [List.map_cons, encT, PyData.depthAll, PyData.depth, g2]
      omega
    · simp only [List.map_cons, encT, cntAll, cnt, g3, List.length_cons, Nat.add_mul, Nat.one_mul]
      omega
theorem encTb_ok {n : Nat} (ts : List (Str × List Str)) (h : ∀ e ∈ ts, e.2.length ≤ n) : (encTb ts).depth ≤ 3 ∧ cnt (encTb ts) ≤ 1 + ts.length * (n + 4) := by
  obtain ⟨h2, h3⟩ := ds_tb ts h
  refine ⟨?_, ?_⟩
  · simp only [encTb, PyData.depth]; omega
  · simp only [encTb, cnt]; omega
theorem lay_tb : ∀ {ts : List (Str × List Str)}, (∀ e ∈ ts, PyData.strOk e.1 = true ∧ OkS e.2) → PyData.canLayAll0 (ts.map encT) = true
  | [], _ => rfl
  | e :: r, h => by
    have h1 := lay_tb (ts := r) fun y hy => h y (.tail _ hy)
    have h2 := h e (.head _)
    simp [encT, PyData.canLayAll0, PyData.canLay0, h1, h2.1, lay_strs h2.2]
theorem encTb_lay {ts : List (Str × List Str)} (h : ∀ e ∈ ts, PyData.strOk e.1 = true ∧ OkS e.2) : (encTb ts).canLay0 = true := by simp [encTb, PyData.canLay0, lay_tb h]
theorem ds_ix : ∀ ts : List (Str × Int), PyData.depthAll (ts.map encI) ≤ 1
  | [] => by simp [PyData.depthAll]
  | e :: r => by
    have h2 := ds_ix r
    simp only [List.map_cons, encI, PyData.depthAll, PyData.depth]; omega
theorem encIx_ok (ts : List (Str × Int)) : (encIx ts).depth ≤ 2 := by
  have h2 := ds_ix ts
  simp only [encIx, PyData.depth]; omega
theorem lay_ix : ∀ {ts : List (Str × Int)}, (∀ e ∈ ts, PyData.strOk e.1 = true) → PyData.canLayAll0 (ts.map encI) = true
  | [], _ => rfl
  | e :: r, h => by
    have h1 := lay_ix (ts := r) fun y hy => h y (.tail _ hy)
    simp [encI, PyData.canLayAll0, PyData.canLay0, h1, h e (.head _)]
theorem encIx_lay {ts : List (Str × Int)} (h : ∀ e ∈ ts, PyData.strOk e.1 = true) : (encIx ts).canLay0 = true := by simp [encIx, PyData.canLay0, lay_ix h]
theorem shaped_of {d : PyData} (h : d.canLay0 = true) (hd : d.depth ≤ 60) : SeqAt.shaped d = true := by
  unfold SeqAt.shaped
  rw [h, Bool.true_and]
  exact decide_eq_true (by omega)
theorem reps_strs {H : Hp} : ∀ {ys : List Str} {xs : List V}, Reps H xs (ys.map PyData.str) → xs = ys.map V.str
  | [], _, r => by cases r; rfl
  | y :: ys, _, r => by
    rw [List.map_cons] at r
    cases r with
    | cons a r =>
      cases a
      rw [List.map_cons, reps_strs r]
theorem rep_S {H : Hp} {v : V} {ys : List Str} (h : Rep H v (encS ys)) : ∃ p, v = .ref p ∧ H p = some (.lst (ys.map V.str)) := by
  obtain ⟨p, xs, rfl, e, r⟩ := rep_lst (show Rep H v (.list (ys.map PyData.str)) from h)
  rw [reps_strs r] at e
  exact ⟨p, rfl, e⟩
theorem S_rep {H : Hp} {p : Addr} {ys : List Str} (e : H p = some (.lst (ys.map V.str))) : Rep H (.ref p) (encS ys) := .lst e (Reps.strs ys)
theorem rep_T {H : Hp} {v : V} {e : Str × List Str} (h : Rep H v (encT e)) : ∃ b c, v = .ref b ∧ H b = some (.tup [.str e.1, .ref c]) ∧ H c = some (.lst (e.2.map V.str)) := by
  unfold encT at h
  cases h with
  | @tup b xs _ eb r =>
    cases r with
    | cons a r =>
      cases r with
      | cons a2 r =>
        cases r
        cases a
        obtain ⟨c, rfl, ec⟩ := rep_S a2
        exact ⟨b, c, rfl, eb, ec⟩
theorem T_rep {H : Hp} {b c : Addr} {e : Str × List Str} (eb : H b = some (.tup [.str e.1, .ref c])) (ec : H c = some (.lst (e.2.map V.str))) : Rep H (.ref b) (encT e) := .tup eb (.cons (.str _) (.cons (S_rep ec) .nil))
theorem rep_L {H : Hp} {v : V} {e : Str × List Str × Int} (h : Rep H v (encL e)) : ∃ b c, v = .ref b ∧ H b = some (.tup [.str e.1, .ref c, .int e.2.2]) ∧ H c = some (.lst (e.2.1.map V.str)) := by
  unfold encL at h
  cases h with
  | @tup b xs _ eb r =>
    cases r with
    | cons a r =>
      cases r with
      | cons a2 r =>
        cases r with
        | cons a3 r =>
          cases r
          cases a
          cases a3
          obtain ⟨c, rfl, ec⟩ := rep_S a2
          exact ⟨b, c, rfl, eb, ec⟩
theorem L_rep {H : Hp} {b c : Addr} {e : Str × List Str × Int} (eb : H b = some (.tup [.str e.1, .ref c, .int e.2.2])) (ec : H c = some (.lst (e.2.1.map V.str))) : Rep H (.ref b) (encL e) := .tup eb (.cons (.str _) (.cons (S_rep ec) (.cons (.int _) .nil)))
theorem rep_I {H : Hp} {v : V} {e : Str × Int} (h : Rep H v (encI e)) : ∃ b, v = .ref b ∧ H b = some (.tup [.str e.1, .int e.2]) := by
  unfold encI at h
  cases h with
  | @tup b xs _ eb r =>
    cases r with
    | cons a r =>
      cases r with
      | cons a2 r =>
        cases r
        cases a
        cases a2
        exact ⟨b, rfl, eb⟩
/-- one of a list of data -/
theorem reps_of {α : Type} {H : Hp} {f : α → PyData} {ts : List α} {xs : List V} (r : Reps H xs (ts.map f)) {i : Nat} {x : V} (hx : xs[i]? = some x) : ∃ e, ts[i]? = some e ∧ Rep H x (f e) := by
  obtain ⟨d, hd, rx⟩ := r.get2 hx
  rw [List.getElem?_map] at hd
  obtain ⟨e, he, rfl⟩ := Option.map_eq_some_iff.mp hd
  exact ⟨e, he, rx⟩
/-! ### objects -/
/-- a let that stands in the part S -/
def LetAt (A : Adr) (S : Addr → Prop) (H : Hp) (v : V) (e : Str × List Str × Int) : Prop := ∃ a dx c n dn, v = .ref a ∧ H a = some (.ins A.C_Let dx [("name", .str e.1), ("axes", .ref c), ("term", .ref n)]) ∧ S c ∧ H c = some (.lst (e.2.1.map V.str)) ∧ H n = some (.ins A.C_Number dn [("number", .int e.2.2)])
abbrev LetsAt (A : Adr) (S : Addr → Prop) (H : Hp) (xs : List V) (ls : List (Str × List Str × Int)) : Prop := Paired (LetAt A S H) xs ls
theorem LetAt.imp {A : Adr} {S S' : Addr → Prop} {H H' : Hp} {v : V} {e : Str × List Str × Int} (h : LetAt A S H v e) (f : ∀ a C dx fs, H a = some (.ins C dx fs) → H' a = some (.ins C dx fs)) (g : ∀ c xs, S c → H c = some (.lst xs) → S' c ∧ H' c = some (.lst xs)) : LetAt A S' H' v e := by
  obtain ⟨a, dx, c, n, dn, rfl, e1, s, e2, e3⟩ := h
  exact ⟨a, dx, c, n, dn, rfl, f _ _ _ _ e1, (g _ _ s e2).1, (g _ _ s e2).2, f _ _ _ _ e3⟩
theorem LetAt.same {A : Adr} {S : Addr → Prop} {H H' : Hp} {v : V} {e : Str × List Str × Int} (h : LetAt A S H v e) (s : Same H H') : LetAt A S H' v e := h.imp (fun _ _ _ _ z => s _ _ z) fun _ _ y z => ⟨y, s _ _ z⟩
/-- a program -/
structure PrAt (A : Adr) (H : Hp) (p : Addr) (wh : Int) (ax : List (Str × Int)) (tb : List (Str × List Str)) (ls : List (Str × List Str × Int)) (os : List Str) : Prop where
  ob : ∃ dx a t l o, H p = some (.ins A.C_Program dx [("wheel", .int wh), ("axes", .ref a), ("tables", .ref t), ("lets", .ref l), ("outs", .ref o)]) ∧ Rep H (.ref a) (encIx ax) ∧ Rep H (.ref t) (encTb tb) ∧ (∃ xs, H l = some (.lst xs) ∧ LetsAt A (fun _ => True) H xs ls) ∧ Rep H (.ref o) (encS os)
theorem PrAt.same {A : Adr} {H H' : Hp} {p : Addr} {wh : Int} {ax : List (Str × Int)} {tb : List (Str × List Str)} {ls : List (Str × List Str × Int)} {os : List Str} (h : PrAt A H p wh ax tb ls os) (s : Same H H') : PrAt A H' p wh ax tb ls os := by
  obtain ⟨dx, a, t, l, o, e, r1, r2, ⟨xs, e2, r3⟩, r4⟩ := h.ob
  exact ⟨dx, a, t, l, o, s _ _ e, r1.same s, r2.same s, ⟨xs, s _ _ e2, Paired.mapP r3 fun _ _ z => z.same s⟩, r4.same s⟩
end My

set_option Elab.async false
set_option linter.all false
set_option maxRecDepth 100000
set_option maxHeartbeats 4000000
namespace My
open PySem L2
local macro_rules | `(tactic| walk_at "lk") => `(tactic| first | with_reducible exact lk0 | (refine lk1 (by decide +kernel) ?_; walk_at "lk") | rfl)
def sp_init1 (K : PySem.W.Frag) (f : Str) : Sp := fun vs H Q _ => ∃ (p C dx : Addr) (v : V), vs = [.ref p, v] ∧ H p = some (.ins C dx []) ∧ Cls K C ∧ NoAttr K C f ∧ Q .non (upd H p (.ins C dx [(f, v)]))
def sp_cop (n : Nat) : Sp := fun vs H Q _ => ∃ (v : V) (d : PyData), vs = [v] ∧ Rep H v d ∧ PyData.depth d ≤ n ∧ cnt d ≤ 100000 ∧ ∀ (v' : V) (H' : Hp), Same H H' → Rep (restr (fun a => H a = none) H') v' d → Q v' H'
def sp_cpI (A : Adr) : Sp := fun vs H Q _ => ∃ (a dx : Addr) (fs : List (Str × V)), vs = [.ref a] ∧ H a = some (.ins A.C_Let dx fs) ∧ Q (.ref a) H
def sp_cpL (A : Adr) : Sp := fun vs H Q _ => ∃ (p : Addr) (xs : List V), vs = [.ref p] ∧ H p = some (.lst xs) ∧ xs.length ≤ 1000 ∧ (∀ x ∈ xs, ∃ a dx fs, x = .ref a ∧ H a = some (.ins A.C_Let dx fs)) ∧ ∀ (D : Addr) (H' : Hp), H D = none → Same H H' → H' D = some (.lst xs) → Q (.ref D) H'
def sp_initL (A : Adr) : Sp := fun vs H Q _ => ∃ (p dx l n : Addr) (x : Str) (ys : List Str), vs = [.ref p, .str x, .ref l, .ref n] ∧ H p = some (.ins A.C_Let dx []) ∧ H l = some (.lst (ys.map V.str)) ∧ ys.length ≤ 1000 ∧
  ∀ (c : Addr) (H' : Hp), H c = none → H' p = some (.ins A.C_Let dx [("name", .str x), ("axes", .ref c), ("term", .ref n)]) → H' c = some (.lst (ys.map V.str)) → (∀ b o, b ≠ p → H b = some o → H' b = some o) → Q .non H'
def sp_initP (A : Adr) : Sp := fun vs H Q _ => ∃ (p dx a t l o : Addr) (wh : Int) (ax : List (Str × Int)) (tb : List (Str × List Str)) (xs : List V) (os : List Str), vs = [.ref p, .int wh, .ref a, .ref t, .ref l, .ref o] ∧ H p = some (.ins A.C_Program dx []) ∧
  Rep H (.ref a) (encIx ax) ∧ ax.length ≤ 1000 ∧ Rep H (.ref t) (encTb tb) ∧ tb.length ≤ 1000 ∧ (∀ e ∈ tb, e.2.length ≤ 10) ∧ H l = some (.lst xs) ∧ xs.length ≤ 1000 ∧ (∀ x ∈ xs, ∃ a dx fs, x = .ref a ∧ a ≠ p ∧ H a = some (.ins A.C_Let dx fs)) ∧ Rep H (.ref o) (encS os) ∧ os.length ≤ 1000 ∧
  ∀ (a' t' l' o' : Addr) (H' : Hp), H' p = some (.ins A.C_Program dx [("wheel", .int wh), ("axes", .ref a'), ("tables", .ref t'), ("lets", .ref l'), ("outs", .ref o')]) → Rep (restr (fun b => H b = none) H') (.ref a') (encIx ax) → Rep (restr (fun b => H b = none) H') (.ref t') (encTb tb) → H l' = none → H' l' = some (.lst xs) → Rep (restr (fun b => H b = none) H') (.ref o') (encS os) → (∀ b o, b ≠ p → H b = some o → H' b = some o) → Q .non H'
section
variable {P : Program} {w : World} {K : PySem.W.Frag} {mg : Str → Option Value} {base : Heap} {t : Adr}
theorem ok_Number_init (T : Txt K mg t) : FnOk P w K mg base CX0 1 t.f_Number_init t.d_Number_init ["self", "number"] (sp_init1 K "number") := by
  refine T.F_Number_init.ok sc_Number_init (fun vs H Q E h => ?_) (fun cdv A outer s H vs Q E hr h => ?_)
  · obtain ⟨p, C, dx, v, rfl, _⟩ := h
    rfl
  · obtain ⟨p, C, dx, v, rfl, hp, cl, na, k⟩ := h
    exact ⟨_, (pss_one (ps_fld (pv 0) (pv 1) rfl)), _, rfl, _, rfl, p, C, dx, [], rfl, hp, cl, na, (by decide), k⟩
/-! ### copied -/
theorem isi_no_list {T : String} (h : T = "NoneType" ∨ T = "bool" ∨ T = "int" ∨ T = "str" ∨ T = "tuple") : ∀ u, RelV (.ty "list") u → PySem.W.kitOne K (.type T) u = some false := by
  rcases h with rfl | rfl | rfl | rfl | rfl <;> exact isi_by (by decide +kernel) (by decide +kernel) (by decide +kernel)
theorem isi_no_tuple {T : String} (h : T = "NoneType" ∨ T = "bool" ∨ T = "int" ∨ T = "str") : ∀ u, RelV (.ty "tuple") u → PySem.W.kitOne K (.type T) u = some false := by
  rcases h with rfl | rfl | rfl | rfl <;> exact isi_by (by decide +kernel) (by decide +kernel) (by decide +kernel)
theorem isi_no_dict {T : String} (h : T = "NoneType" ∨ T = "bool" ∨ T = "int" ∨ T = "str") : ∀ u, RelV (.ty "dict") u → PySem.W.kitOne K (.type T) u = some false := by
  rcases h with rfl | rfl | rfl | rfl <;> exact isi_by (by decide +kernel) (by decide +kernel) (by decide +kernel)
theorem cop_step (T : Txt K mg t) {m n : Nat} {sp' : Sp} (G_copied : FnOk P w K mg base CX0 m t.f_copied t.d_copied ["value"] sp')
    (hs : ∀ (v : V) (d : PyData) (H : Hp) (Q : VK), Rep H v d → PyData.depth d + 1 ≤ n → cnt d ≤ 100000 → (∀ (v' : V) (H' : Hp), Same H H' → Rep (restr (fun a => H a = none) H') v' d → Q v' H') → sp' [v] H Q E0) :
    FnOk P w K mg base CX0 (m + 1) t.f_copied t.d_copied ["value"] (sp_cop n) := by
  refine T.F_copied.ok sc_copied (fun vs H Q E h => ?_) (fun cdv A outer s H vs Q E hr h => ?_)
  · obtain ⟨v, d, rfl, _⟩ := h
    rfl
  · obtain ⟨v, d, rfl, rp, hd, hc, k⟩ := h
    refine ⟨_, (pss_cons (ps_if (pt_val (pe_callB call_isinst (by rfl) T.z_isinstance PyProof.Rows.boot_isinstance (pa_cons (pv 0) (pa_cons (pe_bltn (v := V.ty "list") rfl T.z_list PyProof.Rows.boot_list rfl) pa_nil))))
        (pss_one (ps_ret (pe_comp (N' := ["member"]) (ix := (List.replicate 1 none)) rfl (clok_none rfl (by decide +kernel) (by decide +kernel)) (ixok_none rfl) (pi_seq (pv 0)) (fun _ _ _ _ => (pg_name (i := 0) nd_comp_0 rfl (Or.inl rfl) (Or.inr rfl))) (fun _ _ _ _ => (pe_call G_copied (hr.mono (by omega)) rfl T.m_copied T.F_copied.kp T.b_copied .nil pass0 (pa_cons (pv 0) pa_nil))))))
        pss_nil)
      (pss_cons (ps_if (pt_val (pe_callB call_isinst (by rfl) T.z_isinstance PyProof.Rows.boot_isinstance (pa_cons (pv 0) (pa_cons (pe_bltn (v := V.ty "tuple") rfl T.z_tuple PyProof.Rows.boot_tuple rfl) pa_nil))))
        (pss_one (ps_ret (pe_callTy call_tuple_of (by rfl) T.z_tuple PyProof.Rows.boot_tuple (pa_cons (pe_comp (N' := ["member"]) (ix := (List.replicate 1 none)) rfl (clok_none rfl (by decide +kernel) (by decide +kernel)) (ixok_none rfl) (pi_seq (pv 0)) (fun _ _ _ _ => (pg_name (i := 0) nd_comp_0 rfl (Or.inl rfl) (Or.inr rfl))) (fun _ _ _ _ => (pe_call G_copied (hr.mono (by omega)) rfl T.m_copied T.F_copied.kp T.b_copied .nil pass0 (pa_cons (pv 0) pa_nil)))) pa_nil))))
        pss_nil)
      (pss_cons (ps_if (pt_val (pe_callB call_isinst (by rfl) T.z_isinstance PyProof.Rows.boot_isinstance (pa_cons (pv 0) (pa_cons (pe_bltn (v := V.ty "dict") rfl T.z_dict PyProof.Rows.boot_dict rfl) pa_nil))))
        (pss_one ps_never)
        pss_nil)
      (pss_one (ps_ret (pv 0)))))), ?_⟩
    cases rp with
    | non =>
      refine ⟨_, rfl, _, _, _, _, rfl, .non, isi_no_list (.inl rfl), false, rfl, iteF ?_⟩
      refine ⟨_, rfl, _, _, _, _, rfl, .non, isi_no_tuple (.inl rfl), false, rfl, iteF ?_⟩
      exact ⟨_, rfl, _, _, _, _, rfl, .non, isi_no_dict (.inl rfl), false, rfl, iteF ⟨_, rfl, k _ _ (Same.refl _) .non⟩⟩
    | bl b =>
      refine ⟨_, rfl, _, _, _, _, rfl, .bl b, isi_no_list (.inr (.inl rfl)), false, rfl, iteF ?_⟩
      refine ⟨_, rfl, _, _, _, _, rfl, .bl b, isi_no_tuple (.inr (.inl rfl)), false, rfl, iteF ?_⟩
      exact ⟨_, rfl, _, _, _, _, rfl, .bl b, isi_no_dict (.inr (.inl rfl)), false, rfl, iteF ⟨_, rfl, k _ _ (Same.refl _) (.bl b)⟩⟩
    | int b =>
      refine ⟨_, rfl, _, _, _, _, rfl, .int b, isi_no_list (.inr (.inr (.inl rfl))), false, rfl, iteF ?_⟩
      refine ⟨_, rfl, _, _, _, _, rfl, .int b, isi_no_tuple (.inr (.inr (.inl rfl))), false, rfl, iteF ?_⟩
      exact ⟨_, rfl, _, _, _, _, rfl, .int b, isi_no_dict (.inr (.inr (.inl rfl))), false, rfl, iteF ⟨_, rfl, k _ _ (Same.refl _) (.int b)⟩⟩
    | str b =>
      refine ⟨_, rfl, _, _, _, _, rfl, .str b, isi_no_list (.inr (.inr (.inr (.inl rfl)))), false, rfl, iteF ?_⟩
      refine ⟨_, rfl, _, _, _, _, rfl, .str b, isi_no_tuple (.inr (.inr (.inr rfl))), false, rfl, iteF ?_⟩
      exact ⟨_, rfl, _, _, _, _, rfl, .str b, isi_no_dict (.inr (.inr (.inr rfl))), false, rfl, iteF ⟨_, rfl, k _ _ (Same.refl _) (.str b)⟩⟩
    | @lst p xs ds e r =>
      have hl1 := r.len
      have hl2 := cnt_len ds
      have hc' : cntAll ds + 1 ≤ 100000 := hc
      have hd' : PyData.depthAll ds + 1 ≤ n := hd
      refine ⟨_, rfl, _, _, _, _, rfl, .lst e, isi_same "list", true, rfl, iteT ?_⟩
      refine .inl ⟨_, rfl, p, rfl, ⟨_, SqL.of e⟩, fun D hD => ?_⟩
      refine comp_listQ (K := K) (a := p) (D := D) (xs := xs) (fun i ys H2 => Same H H2 ∧ H2 D = some (.lst ys) ∧ Reps (restr (fun a => H a = none ∧ a ≠ D) H2) ys (ds.take i) ∧ ys.length = i)
        ⟨same_new hD, upd_same, (by rw [List.take_zero]; exact .nil), rfl⟩ (fun i ys H2 ⟨s2, _⟩ => SqL.of (s2 _ _ e)) ?_ ?_
      · rintro i x ys H2 hx ⟨s2, hD2, rs, hyl⟩
        obtain ⟨d, hdi, rx⟩ := r.get2 hx
        obtain ⟨c1, c2⟩ := cnt_at hdi
        have hi : i < xs.length := (List.getElem?_eq_some_iff.mp hx).1
        refine ⟨True.intro, _, rfl, hs x d H2 _ (rx.same s2) (by omega) (by omega) fun v' H5 s5 rp5 => ?_⟩
        have hnS : ¬ (H D = none ∧ D ≠ D) := fun z => z.2 rfl
        refine ⟨s5 _ _ hD2, line_lt (by omega), same_fresh (s2.trans s5) hD, upd_same, ?_, by simp [hyl]⟩
        rw [List.take_add_one, hdi]
        show Reps _ (ys ++ [v']) (ds.take i ++ [d])
        refine (rs.same (restr_upd (restr_same s5) hnS)).snoc (rp5.same ((restr_imp (Same.refl _) fun a o _ ha => ⟨s2.free ha, fun z => ?_⟩).trans (restr_upd (Same.refl _) hnS)))
        subst z
        rw [hD2] at ha
        cases ha
      · rintro ys H2 ⟨s2, hD2, rs, hyl⟩
        refine k (.ref D) H2 s2 (.lst (restr_mk hD hD2) ?_)
        rw [hl1, List.take_length] at rs
        exact rs.same (restr_imp (Same.refl _) fun a o _ h => h.1)
    | @tup p xs ds e r =>
      have hl1 := r.len
      have hl2 := cnt_len ds
      have hc' : cntAll ds + 1 ≤ 100000 := hc
      have hd' : PyData.depthAll ds + 1 ≤ n := hd
      refine ⟨_, rfl, _, _, _, _, rfl, .tup e, isi_no_list (.inr (.inr (.inr (.inr rfl)))), false, rfl, iteF ?_⟩
      refine ⟨_, rfl, _, _, _, _, rfl, .tup e, isi_same "tuple", true, rfl, iteT ?_⟩
      refine .inr ⟨_, rfl, p, rfl, ⟨_, SqT.of e⟩, fun D hD => ?_⟩
      refine comp_tupQ (K := K) (a := p) (D := D) (xs := xs) (fun i ys H2 => Same H H2 ∧ H2 D = some (.lst ys) ∧ Reps (restr (fun a => H a = none ∧ a ≠ D) H2) ys (ds.take i) ∧ ys.length = i)
        ⟨same_new hD, upd_same, (by rw [List.take_zero]; exact .nil), rfl⟩ (fun i ys H2 ⟨s2, _⟩ => SqT.of (s2 _ _ e)) ?_ ?_
      · rintro i x ys H2 hx ⟨s2, hD2, rs, hyl⟩
        obtain ⟨d, hdi, rx⟩ := r.get2 hx
        obtain ⟨c1, c2⟩ := cnt_at hdi
        have hi : i < xs.length := (List.getElem?_eq_some_iff.mp hx).1
        refine ⟨True.intro, _, rfl, hs x d H2 _ (rx.same s2) (by omega) (by omega) fun v' H5 s5 rp5 => ?_⟩
        have hnS : ¬ (H D = none ∧ D ≠ D) := fun z => z.2 rfl
        refine ⟨s5 _ _ hD2, line_lt (by omega), same_fresh (s2.trans s5) hD, upd_same, ?_, by simp [hyl]⟩
        rw [List.take_add_one, hdi]
        show Reps _ (ys ++ [v']) (ds.take i ++ [d])
        refine (rs.same (restr_upd (restr_same s5) hnS)).snoc (rp5.same ((restr_imp (Same.refl _) fun a o _ ha => ⟨s2.free ha, fun z => ?_⟩).trans (restr_upd (Same.refl _) hnS)))
        subst z
        rw [hD2] at ha
        cases ha
      · rintro ys H2 ⟨s2, hD2, rs, hyl⟩
        refine ⟨D, ys, rfl, .inl ⟨SqL.of hD2, fun l hl => ?_⟩⟩
        refine k (.ref l) _ (s2.trans (same_new hl)) (.tup (restr_mk (s2.free hl) upd_same) ?_)
        rw [hl1, List.take_length] at rs
        exact rs.same ((restr_imp (Same.refl _) fun a o _ h => h.1).trans (restr_same (same_new hl)))
theorem ok_copied (T : Txt K mg t) : ∀ n : Nat, FnOk P w K mg base CX0 (n + 1) t.f_copied t.d_copied ["value"] (sp_cop n)
  | 0 => cop_step T (sp' := fun _ _ _ _ => False) (m := 0) (FnOk.none fun _ _ _ _ h => h) fun v d H Q _ h => absurd h (by omega)
  | n + 1 => cop_step T (ok_copied T n) fun v d H Q rp hd hc k => ⟨v, d, rfl, rp, by omega, hc, k⟩
theorem ok_copI (T : Txt K mg t) : FnOk P w K mg base CX0 1 t.f_copied t.d_copied ["value"] (sp_cpI t) := by
  refine T.F_copied.ok sc_copied (fun vs H Q E h => ?_) (fun cdv A outer s H vs Q E hr h => ?_)
  · obtain ⟨a, dx, fs, rfl, _⟩ := h
    rfl
  · obtain ⟨a, dx, fs, rfl, e, k⟩ := h
    have G_copied : FnOk P w K mg base CX0 0 t.f_copied t.d_copied ["value"] (fun _ _ _ _ => False) := FnOk.none fun _ _ _ _ h => h
    have ty : TyOf K H (.ref a) (.ref t.C_Let) := .ins e T.cl_Let T.ty_Let.ha T.ty_Let.hn T.ty_Let.htk T.ty_Let.hm
    refine ⟨_, (pss_cons (ps_if (pt_val (pe_callB call_isinst (by rfl) T.z_isinstance PyProof.Rows.boot_isinstance (pa_cons (pv 0) (pa_cons (pe_bltn (v := V.ty "list") rfl T.z_list PyProof.Rows.boot_list rfl) pa_nil))))
        (pss_one (ps_ret (pe_comp (N' := ["member"]) (ix := (List.replicate 1 none)) rfl (clok_none rfl (by decide +kernel) (by decide +kernel)) (ixok_none rfl) (pi_seq (pv 0)) (fun _ _ _ _ => (pg_name (i := 0) nd_comp_0 rfl (Or.inl rfl) (Or.inr rfl))) (fun _ _ _ _ => (pe_call G_copied (hr.mono (by omega)) rfl T.m_copied T.F_copied.kp T.b_copied .nil pass0 (pa_cons (pv 0) pa_nil))))))
        pss_nil)
      (pss_cons (ps_if (pt_val (pe_callB call_isinst (by rfl) T.z_isinstance PyProof.Rows.boot_isinstance (pa_cons (pv 0) (pa_cons (pe_bltn (v := V.ty "tuple") rfl T.z_tuple PyProof.Rows.boot_tuple rfl) pa_nil))))
        (pss_one (ps_ret (pe_callTy call_tuple_of (by rfl) T.z_tuple PyProof.Rows.boot_tuple (pa_cons (pe_comp (N' := ["member"]) (ix := (List.replicate 1 none)) rfl (clok_none rfl (by decide +kernel) (by decide +kernel)) (ixok_none rfl) (pi_seq (pv 0)) (fun _ _ _ _ => (pg_name (i := 0) nd_comp_0 rfl (Or.inl rfl) (Or.inr rfl))) (fun _ _ _ _ => (pe_call G_copied (hr.mono (by omega)) rfl T.m_copied T.F_copied.kp T.b_copied .nil pass0 (pa_cons (pv 0) pa_nil)))) pa_nil))))
        pss_nil)
      (pss_cons (ps_if (pt_val (pe_callB call_isinst (by rfl) T.z_isinstance PyProof.Rows.boot_isinstance (pa_cons (pv 0) (pa_cons (pe_bltn (v := V.ty "dict") rfl T.z_dict PyProof.Rows.boot_dict rfl) pa_nil))))
        (pss_one ps_never)
        pss_nil)
      (pss_one (ps_ret (pv 0)))))), ?_⟩
    refine ⟨_, rfl, _, _, _, _, rfl, ty, isi_bt T.mb_Let_list (by decide +kernel), false, rfl, iteF ?_⟩
    refine ⟨_, rfl, _, _, _, _, rfl, ty, isi_bt T.mb_Let_tuple (by decide +kernel), false, rfl, iteF ?_⟩
    exact ⟨_, rfl, _, _, _, _, rfl, ty, isi_bt T.mb_Let_dict (by decide +kernel), false, rfl, iteF ⟨_, rfl, k⟩⟩
theorem ok_copL (T : Txt K mg t) : FnOk P w K mg base CX0 2 t.f_copied t.d_copied ["value"] (sp_cpL t) := by
  have G_copied := ok_copI (P := P) (w := w) (base := base) T
  refine T.F_copied.ok sc_copied (fun vs H Q E h => ?_) (fun cdv A outer s H vs Q E hr h => ?_)
  · obtain ⟨p, xs, rfl, _⟩ := h
    rfl
  · obtain ⟨p, xs, rfl, e, hl, hx, k⟩ := h
    refine ⟨_, (pss_cons (ps_if (pt_val (pe_callB call_isinst (by rfl) T.z_isinstance PyProof.Rows.boot_isinstance (pa_cons (pv 0) (pa_cons (pe_bltn (v := V.ty "list") rfl T.z_list PyProof.Rows.boot_list rfl) pa_nil))))
        (pss_one (ps_ret (pe_comp (N' := ["member"]) (ix := (List.replicate 1 none)) rfl (clok_none rfl (by decide +kernel) (by decide +kernel)) (ixok_none rfl) (pi_seq (pv 0)) (fun _ _ _ _ => (pg_name (i := 0) nd_comp_0 rfl (Or.inl rfl) (Or.inr rfl))) (fun _ _ _ _ => (pe_call G_copied (hr.mono (by omega)) rfl T.m_copied T.F_copied.kp T.b_copied .nil pass0 (pa_cons (pv 0) pa_nil))))))
        pss_nil)
      (pss_cons (ps_if (pt_val (pe_callB call_isinst (by rfl) T.z_isinstance PyProof.Rows.boot_isinstance (pa_cons (pv 0) (pa_cons (pe_bltn (v := V.ty "tuple") rfl T.z_tuple PyProof.Rows.boot_tuple rfl) pa_nil))))
        (pss_one (ps_ret (pe_callTy call_tuple_of (by rfl) T.z_tuple PyProof.Rows.boot_tuple (pa_cons (pe_comp (N' := ["member"]) (ix := (List.replicate 1 none)) rfl (clok_none rfl (by decide +kernel) (by decide +kernel)) (ixok_none rfl) (pi_seq (pv 0)) (fun _ _ _ _ => (pg_name (i := 0) nd_comp_0 rfl (Or.inl rfl) (Or.inr rfl))) (fun _ _ _ _ => (pe_call G_copied (hr.mono (by omega)) rfl T.m_copied T.F_copied.kp T.b_copied .nil pass0 (pa_cons (pv 0) pa_nil)))) pa_nil))))
        pss_nil)
      (pss_cons (ps_if (pt_val (pe_callB call_isinst (by rfl) T.z_isinstance PyProof.Rows.boot_isinstance (pa_cons (pv 0) (pa_cons (pe_bltn (v := V.ty "dict") rfl T.z_dict PyProof.Rows.boot_dict rfl) pa_nil))))
        (pss_one ps_never)
        pss_nil)
      (pss_one (ps_ret (pv 0)))))), ?_⟩
    refine ⟨_, rfl, _, _, _, _, rfl, .lst e, isi_same "list", true, rfl, iteT ?_⟩
    refine .inl ⟨_, rfl, p, rfl, ⟨_, SqL.of e⟩, fun D hD => ?_⟩
    refine comp_listQ (K := K) (a := p) (D := D) (xs := xs) (fun i ys H2 => Same H H2 ∧ H2 D = some (.lst ys) ∧ ys = xs.take i)
      ⟨same_new hD, upd_same, rfl⟩ (fun i ys H2 ⟨s2, _⟩ => SqL.of (s2 _ _ e)) ?_ ?_
    · rintro i x ys H2 hxi ⟨s2, hD2, rfl⟩
      obtain ⟨a, dx, fs, rfl, ea⟩ := hx x (List.mem_of_getElem? hxi)
      have hlt : (xs.take i).length ≤ xs.length := by rw [List.length_take]; omega
      refine ⟨True.intro, _, rfl, a, dx, fs, rfl, s2 _ _ ea, hD2, line_lt (by omega), same_fresh s2 hD, upd_same, ?_⟩
      rw [List.take_add_one, hxi]
      rfl
    · rintro ys H2 ⟨s2, hD2, rfl⟩
      rw [List.take_length] at hD2
      exact k D H2 hD s2 hD2
theorem ok_cop (T : Txt K mg t) : FnOk P w K mg base CX0 4 t.f_copied t.d_copied ["value"] (fun vs H Q E => sp_cop 3 vs H Q E ∨ sp_cpL t vs H Q E) := FnOk.or (ok_copied T 3) ((ok_copL T).mono (by omega))
theorem ok_Let_init (T : Txt K mg t) : FnOk P w K mg base CX0 5 t.f_Let_init t.d_Let_init ["self", "name", "axes", "term"] (sp_initL t) := by
  have G_copied := ok_cop (P := P) (w := w) (base := base) T
  refine T.F_Let_init.ok sc_Let_init (fun vs H Q E h => ?_) (fun cdv A outer s H vs Q E hr h => ?_)
  · obtain ⟨p, dx, l, n, x, ys, rfl, _⟩ := h
    rfl
  · obtain ⟨p, dx, l, n, x, ys, rfl, hp, hl, hy, k⟩ := h
    obtain ⟨c2, c3⟩ := encS_ok ys
    have lp : l ≠ p := ne_of hl hp (by intro z; cases z)
    refine ⟨_, (pss_cons (ps_fld (pv 0) (pv 1) rfl)
      (pss_cons (ps_fld (pv 0) (pe_call G_copied (hr.mono (by omega)) rfl T.m_copied T.F_copied.kp T.b_copied .nil pass0 (pa_cons (pv 2) pa_nil)) rfl)
      (pss_one (ps_fld (pv 0) (pv 3) rfl)))), _, rfl, _, rfl, p, _, dx, [], rfl, hp, T.cl_Let, T.na_Let_name, (by decide), ?_⟩
    refine ⟨_, rfl, .inl ⟨.ref l, encS ys, rfl, (S_rep hl).ins hp, by omega, by omega, fun v' H2 s2 rp2 => ?_⟩⟩
    have hp2 := s2 _ _ (upd_same (H := H) (a := p))
    obtain ⟨c, rfl, ec⟩ := rep_S rp2
    obtain ⟨hc0, ec⟩ := restr_some ec
    have hcn : H c = none := by
      by_cases z : c = p
      · subst z; rw [upd_same] at hc0; cases hc0
      · rw [upd_ne z] at hc0; exact hc0
    have cp : c ≠ p := fun z => by subst z; rw [hp] at hcn; cases hcn
    refine ⟨_, rfl, p, _, dx, _, rfl, hp2, T.cl_Let, T.na_Let_axes, (by show 1 < 1000; decide), ?_⟩
    refine ⟨_, rfl, _, rfl, p, _, dx, _, rfl, upd_same, T.cl_Let, T.na_Let_term, (by show 2 < 1000; decide), ?_⟩
    show Q V.non (upd (upd H2 p _) p (.ins t.C_Let dx (putF "term" (.ref n) (putF "axes" (.ref c) (putF "name" (.str x) [])))))
    have e1 : putF "axes" (V.ref c) (putF "name" (.str x) []) = ([("name", .str x), ("axes", .ref c)] : List (Str × V)) := by rw [putF_nil, putF_ne (by decide +kernel), putF_nil]
    have e2 : putF "term" (V.ref n) ([("name", .str x), ("axes", .ref c)] : List (Str × V)) = ([("name", .str x), ("axes", .ref c), ("term", .ref n)] : List (Str × V)) := by rw [putF_ne (by decide +kernel), putF_ne (by decide +kernel), putF_nil]
    rw [upd_upd, e1, e2]
    refine k c _ hcn upd_same (by rw [upd_ne cp]; exact ec) fun b o hb e => ?_
    rw [upd_ne hb]
    exact s2 _ _ (by rw [upd_ne hb]; exact e)
theorem ok_Program_init (T : Txt K mg t) : FnOk P w K mg base CX0 5 t.f_Program_init t.d_Program_init ["self", "wheel", "axes", "tables", "lets", "outs"] (sp_initP t) := by
  have G_copied := ok_cop (P := P) (w := w) (base := base) T
  refine T.F_Program_init.ok sc_Program_init (fun vs H Q E h => ?_) (fun cdv A outer s H vs Q E hr h => ?_)
  · obtain ⟨p, dx, a, tt, l, o, wh, ax, tb, xs, os, rfl, _⟩ := h
    rfl
  · obtain ⟨p, dx, a, tt, l, o, wh, ax, tb, xs, os, rfl, hp, ra, la, rt, lt, lt2, hl, ll, hx, ro, lo, k⟩ := h
    have a2 := encIx_ok ax
    have a3 := ix_cnt (ix := ax)
    obtain ⟨t2, t3⟩ := encTb_ok tb lt2
    obtain ⟨o2, o3⟩ := encS_ok os
    have fr : ∀ {H' : Hp} {u : HO} {b : Addr}, Same (upd H p u) H' → H' b = none → H b = none := fun {H' u b} s z => by
      have z2 := s.free z
      by_cases zb : b = p
      · subst zb; rw [upd_same] at z2; cases z2
      · rw [upd_ne zb] at z2; exact z2
    have e1 : ∀ v : V, putF "axes" v [("wheel", .int wh)] = ([("wheel", .int wh), ("axes", v)] : List (Str × V)) := fun v => by rw [putF_ne (by decide +kernel), putF_nil]
    have e2 : ∀ u v : V, putF "tables" v [("wheel", .int wh), ("axes", u)] = ([("wheel", .int wh), ("axes", u), ("tables", v)] : List (Str × V)) := fun u v => by rw [putF_ne (by decide +kernel), putF_ne (by decide +kernel), putF_nil]
    have e3 : ∀ u1 u v : V, putF "lets" v [("wheel", .int wh), ("axes", u1), ("tables", u)] = ([("wheel", .int wh), ("axes", u1), ("tables", u), ("lets", v)] : List (Str × V)) := fun u1 u v => by rw [putF_ne (by decide +kernel), putF_ne (by decide +kernel), putF_ne (by decide +kernel), putF_nil]
    have e4 : ∀ u1 u2 u v : V, putF "outs" v [("wheel", .int wh), ("axes", u1), ("tables", u2), ("lets", u)] = ([("wheel", .int wh), ("axes", u1), ("tables", u2), ("lets", u), ("outs", v)] : List (Str × V)) := fun u1 u2 u v => by rw [putF_ne (by decide +kernel), putF_ne (by decide +kernel), putF_ne (by decide +kernel), putF_ne (by decide +kernel), putF_nil]
    refine ⟨_, (pss_cons (ps_fld (pv 0) (pv 1) rfl)
      (pss_cons (ps_fld (pv 0) (pe_call G_copied (hr.mono (by omega)) rfl T.m_copied T.F_copied.kp T.b_copied .nil pass0 (pa_cons (pv 2) pa_nil)) rfl)
      (pss_cons (ps_fld (pv 0) (pe_call G_copied (hr.mono (by omega)) rfl T.m_copied T.F_copied.kp T.b_copied .nil pass0 (pa_cons (pv 3) pa_nil)) rfl)
      (pss_cons (ps_fld (pv 0) (pe_call G_copied (hr.mono (by omega)) rfl T.m_copied T.F_copied.kp T.b_copied .nil pass0 (pa_cons (pv 4) pa_nil)) rfl)
      (pss_one (ps_fld (pv 0) (pe_call G_copied (hr.mono (by omega)) rfl T.m_copied T.F_copied.kp T.b_copied .nil pass0 (pa_cons (pv 5) pa_nil)) rfl)))))), _, rfl, _, rfl, p, _, dx, [], rfl, hp, T.cl_Program, T.na_Program_wheel, (by decide), ?_⟩
    rw [putF_nil]
    -- axes
    refine ⟨_, rfl, .inl ⟨.ref a, encIx ax, rfl, ra.ins hp, by omega, by omega, fun va H2 s2 rp2 => ?_⟩⟩
    have hp2 := s2 _ _ (upd_same (H := H) (a := p))
    obtain ⟨a', xa, rfl, ea, _⟩ := rep_lst (show Rep _ va (.list (ax.map encI)) from rp2)
    refine ⟨_, rfl, p, _, dx, _, rfl, hp2, T.cl_Program, T.na_Program_axes, (by show 1 < 1000; decide), ?_⟩
    rw [e1]
    have sA : ∀ b u, b ≠ p → H b = some u → upd H2 p (.ins t.C_Program dx [("wheel", .int wh), ("axes", .ref a')]) b = some u := fun b u hb e => by rw [upd_ne hb]; exact s2 _ _ (by rw [upd_ne hb]; exact e)
    have rA : Rep (restr (fun b => H b = none) (upd H2 p (.ins t.C_Program dx [("wheel", .int wh), ("axes", .ref a')]))) (.ref a') (encIx ax) := by
      refine rp2.imp2 (fun q ys z => ?_) fun q ys z => ?_
      · obtain ⟨z1, z2⟩ := restr_some z
        have hq : H q = none := fr (Same.refl _) z1
        exact restr_mk hq (by rw [upd_ne (ne_of z2 hp2 (by intro z; cases z))]; exact z2)
      · obtain ⟨z1, z2⟩ := restr_some z
        have hq : H q = none := fr (Same.refl _) z1
        exact restr_mk hq (by rw [upd_ne (ne_of z2 hp2 (by intro z; cases z))]; exact z2)
    -- tables
    have nap : ∀ {b : Addr} {u : HO}, H b = some u → (∀ C d fs, u ≠ .ins C d fs) → b ≠ p := fun e n z => by subst z; rw [hp] at e; cases e; exact n _ _ _ rfl
    have rt2 : Rep (upd H2 p (.ins t.C_Program dx [("wheel", .int wh), ("axes", .ref a')])) (.ref tt) (encTb tb) := rt.imp2 (fun q ys z => sA _ _ (nap z (by intros; intro z; cases z)) z) fun q ys z => sA _ _ (nap z (by intros; intro z; cases z)) z
    refine ⟨_, rfl, .inl ⟨.ref tt, encTb tb, rfl, rt2, by omega, by omega, fun vt H3 s3 rp3 => ?_⟩⟩
    have hp3 := s3 _ _ (upd_same (H := H2) (a := p))
    obtain ⟨t', xt, rfl, et, _⟩ := rep_lst (show Rep _ vt (.list (tb.map encT)) from rp3)
    refine ⟨_, rfl, p, _, dx, _, rfl, hp3, T.cl_Program, T.na_Program_tables, (by show 2 < 1000; decide), ?_⟩
    rw [e2]
    have f3 : ∀ {b : Addr}, upd H2 p (.ins t.C_Program dx [("wheel", .int wh), ("axes", .ref a')]) b = none → H b = none := fun {b} z => by
      by_cases zb : b = p
      · subst zb; rw [upd_same] at z; cases z
      · rw [upd_ne zb] at z; exact fr s2 z
    have mv3 : ∀ {v : V} {d : PyData} {G : Hp}, Same G H3 → (∀ b o, G b = some o → H b = none) → Rep G v d → Rep (restr (fun b => H b = none) (upd H3 p (.ins t.C_Program dx [("wheel", .int wh), ("axes", .ref a'), ("tables", .ref t')]))) v d := fun {v d G} sg hg r => r.imp2 (fun q ys z => restr_mk (hg _ _ z) (by rw [upd_ne (ne_of (sg _ _ z) hp3 (by intro z; cases z))]; exact sg _ _ z)) fun q ys z => restr_mk (hg _ _ z) (by rw [upd_ne (ne_of (sg _ _ z) hp3 (by intro z; cases z))]; exact sg _ _ z)
    have sB : ∀ b u, b ≠ p → H b = some u → upd H3 p (.ins t.C_Program dx [("wheel", .int wh), ("axes", .ref a'), ("tables", .ref t')]) b = some u := fun b u hb e => by rw [upd_ne hb]; exact s3 _ _ (sA b u hb e)
    have rA3 := mv3 (restr_sub.trans s3) (fun b o z => (restr_some z).1) rA
    have rT3 := mv3 restr_sub (fun b o z => f3 (restr_some z).1) rp3
    -- lets
    refine ⟨_, rfl, .inr ⟨l, xs, rfl, sB _ _ (nap hl (by intros; intro z; cases z)) hl, ll, fun x hxx => ?_, fun l' H4 hl' s4 hl4 => ?_⟩⟩
    · obtain ⟨b, db, fs, rfl, nb, eb⟩ := hx x hxx
      exact ⟨b, db, fs, rfl, sB _ _ nb eb⟩
    have hp4 := s4 _ _ (upd_same (H := H3) (a := p))
    refine ⟨_, rfl, p, _, dx, _, rfl, hp4, T.cl_Program, T.na_Program_lets, (by show 3 < 1000; decide), ?_⟩
    rw [e3]
    have hln : H l' = none := by
      by_cases zb : l' = p
      · subst zb; rw [upd_same] at hl'; cases hl'
      · rw [upd_ne zb] at hl'; exact f3 (s3.free hl')
    have lp : l' ≠ p := fun z => by subst z; rw [hp] at hln; cases hln
    have sC : ∀ b u, b ≠ p → H b = some u → upd H4 p (.ins t.C_Program dx [("wheel", .int wh), ("axes", .ref a'), ("tables", .ref t'), ("lets", .ref l')]) b = some u := fun b u hb e => by rw [upd_ne hb]; exact s4 _ _ (sB b u hb e)
    have ro4 : Rep (upd H4 p (.ins t.C_Program dx [("wheel", .int wh), ("axes", .ref a'), ("tables", .ref t'), ("lets", .ref l')])) (.ref o) (encS os) := ro.imp2 (fun q ys z => sC _ _ (nap z (by intros; intro z; cases z)) z) fun q ys z => sC _ _ (nap z (by intros; intro z; cases z)) z
    -- outs
    refine ⟨_, rfl, .inl ⟨.ref o, encS os, rfl, ro4, by omega, by omega, fun vo H5 s5 rp5 => ?_⟩⟩
    have hp5 := s5 _ _ (upd_same (H := H4) (a := p))
    obtain ⟨o', rfl, eo⟩ := rep_S rp5
    refine ⟨_, rfl, p, _, dx, _, rfl, hp5, T.cl_Program, T.na_Program_outs, (by show 4 < 1000; decide), ?_⟩
    show Q V.non (upd H5 p _)
    rw [e4]
    have f5 : ∀ {b : Addr}, upd H4 p (.ins t.C_Program dx [("wheel", .int wh), ("axes", .ref a'), ("tables", .ref t'), ("lets", .ref l')]) b = none → H b = none := fun {b} z => by
      by_cases zb : b = p
      · subst zb; rw [upd_same] at z; cases z
      · rw [upd_ne zb] at z
        have z := s4.free z
        rw [upd_ne zb] at z
        exact f3 (s3.free z)
    have mv5 : ∀ {v : V} {d : PyData} {G : Hp}, (∀ b xs, G b = some (.lst xs) → H5 b = some (.lst xs)) → (∀ b xs, G b = some (.tup xs) → H5 b = some (.tup xs)) → (∀ b o, G b = some o → H b = none) → Rep G v d → Rep (restr (fun b => H b = none) (upd H5 p (.ins t.C_Program dx [("wheel", .int wh), ("axes", .ref a'), ("tables", .ref t'), ("lets", .ref l'), ("outs", .ref o')]))) v d := fun {v d G} s1 s2 hg r => r.imp2 (fun q ys z => restr_mk (hg _ _ z) (by rw [upd_ne (ne_of (s1 _ _ z) hp5 (by intro z; cases z))]; exact s1 _ _ z)) fun q ys z => restr_mk (hg _ _ z) (by rw [upd_ne (ne_of (s2 _ _ z) hp5 (by intro z; cases z))]; exact s2 _ _ z)
    have up4 : ∀ {b : Addr} {u : HO}, (∀ C d fs, u ≠ .ins C d fs) → upd H3 p (.ins t.C_Program dx [("wheel", .int wh), ("axes", .ref a'), ("tables", .ref t')]) b = some u → H5 b = some u := fun {b u} n z => s5 _ _ (by
      have z4 := s4 _ _ z
      rw [upd_ne (ne_of z4 hp4 (n _ _ _))]
      exact z4)
    refine k a' t' l' o' _ upd_same (mv5 (fun b ys z => up4 (by intros; intro z; cases z) (restr_sub _ _ z)) (fun b ys z => up4 (by intros; intro z; cases z) (restr_sub _ _ z)) (fun b o z => (restr_some z).1) rA3)
      (mv5 (fun b ys z => up4 (by intros; intro z; cases z) (restr_sub _ _ z)) (fun b ys z => up4 (by intros; intro z; cases z) (restr_sub _ _ z)) (fun b o z => (restr_some z).1) rT3) hln ?_
      (mv5 (fun b ys z => restr_sub _ _ z) (fun b ys z => restr_sub _ _ z) (fun b o z => f5 (restr_some z).1) rp5) fun b u hb e => ?_
    · rw [upd_ne lp]
      exact s5 _ _ (by rw [upd_ne lp]; exact hl4)
    · rw [upd_ne hb]
      exact s5 _ _ (sC b u hb e)
end
end My

set_option Elab.async false
set_option linter.all false
set_option maxRecDepth 100000
set_option maxHeartbeats 4000000
namespace My
open PySem L2
local macro_rules | `(tactic| walk_at "lk") => `(tactic| first | with_reducible exact lk0 | (refine lk1 (by decide +kernel) ?_; walk_at "lk") | rfl)
theorem pget {α β : Type} {F : α → β → Prop} : ∀ {l : List α} {m : List β}, Paired F l m → ∀ {i : Nat} {x : α}, l[i]? = some x → ∃ y, m[i]? = some y ∧ F x y
  | _, _, .nil, i, x, e => by simp at e
  | _, _, .cons r t, 0, x, e => by simp at e; subst e; exact ⟨_, rfl, r⟩
  | _, _, .cons r t, i + 1, x, e => by
    obtain ⟨y, e1, e2⟩ := pget t (i := i) (by simpa using e)
    exact ⟨y, by simpa using e1, e2⟩
/-- what arrays are told: each with a new list -/
abbrev ArrW (S : Addr → Prop) (H : Hp) (ws : List (Key × V)) (es : List (Str × List Str)) : Prop := Paired (fun (p : Key × V) (e : Str × List Str) => p.1 = Sum.inr e.1 ∧ ∃ b, p.2 = .ref b ∧ S b ∧ H b = some (.lst (e.2.map V.str))) ws es
def arr (tb : List (Str × List Str)) (ls : List (Str × List Str × Int)) : List (Str × List Str) := tb ++ ls.map fun e => (e.1, e.2.1)
def sp_arr (A : Adr) : Sp := fun vs H Q _ => ∃ (p : Addr) (wh : Int) (ax : List (Str × Int)) (tb : List (Str × List Str)) (ls : List (Str × List Str × Int)) (os : List Str), vs = [.ref p] ∧ PrAt A H p wh ax tb ls os ∧ tb.length ≤ 1000 ∧ ls.length ≤ 1000 ∧
  ∀ (q : Addr) (ws : List (Key × V)) (H' : Hp), H q = none → Same H H' → H' q = some (.dK (mergeK [] ws)) → ArrW (fun b => H b = none) H' ws (arr tb ls) → Q (.ref q) H'
section
variable {P : Program} {w : World} {K : PySem.W.Frag} {mg : Str → Option Value} {base : Heap} {t : Adr}
theorem ok_arrays_of (T : Txt K mg t) : FnOk P w K mg base CX0 1 t.f_arrays_of t.d_arrays_of ["program"] (sp_arr t) := by
  refine T.F_arrays_of.ok sc_arrays_of (fun vs H Q E h => ?_) (fun cdv A outer s H vs Q E hr h => ?_)
  · obtain ⟨p, wh, ax, tb, ls, os, rfl, _⟩ := h
    rfl
  · obtain ⟨p, wh, ax, tb, ls, os, rfl, pr, ht, hls, k⟩ := h
    have hu := hu_of hr
    obtain ⟨dx, a, tt, l, o, e, ra, rt, ⟨xl, hl, rl⟩, ro⟩ := pr.ob
    obtain ⟨t2, xs, et, hx, rs⟩ := rep_lst (show Rep H (.ref tt) (.list (tb.map encT)) from rt)
    cases et
    have lxs := rs.len
    rw [List.length_map] at lxs
    have lxl := Paired.length rl
    refine ⟨_, (pss_cons (ps_set (i := 1) sc_arrays_of.nd rfl (Or.inl rfl) pe_dnewK)
      (pss_cons (ps_for PassesOwn.never rfl (pi_list (pe_fld (pv 0) rfl)) (pg_tup (n := 2) rfl (pgs_cons (pg_name (i := 2) sc_arrays_of.nd rfl (Or.inl rfl) (Or.inl rfl)) (pgs_cons (pg_name (i := 3) sc_arrays_of.nd rfl (Or.inl rfl) (Or.inl rfl)) pgs_nil)))
        (pss_one (ps_dput hu (pv 1) (pv 2) (pe_callTy call_list_of (by rfl) T.z_list PyProof.Rows.boot_list (pa_cons (pv 3) pa_nil)) rfl)))
      (pss_cons (ps_for PassesOwn.never rfl (pi_list (pe_fld (pv 0) rfl)) (pg_name (i := 4) sc_arrays_of.nd rfl (Or.inl rfl) (Or.inl rfl))
        (pss_one (ps_dput hu (pv 1) (pe_fld (pv 4) rfl) (pe_callTy call_list_of (by rfl) T.z_list PyProof.Rows.boot_list (pa_cons (pe_fld (pv 4) rfl) pa_nil)) rfl)))
      (pss_one (ps_ret (pv 1)))))), ?_⟩
    refine fun q hq => ?_
    have s0 : Same H (upd H q (.dK [])) := same_new hq
    -- a dict that is laid, one more
    have put : ∀ {H2 : Hp} {ws : List (Key × V)} {es : List (Str × List Str)} {n : Str} {c : Addr} {ys : List Str}, Same H H2 → H2 q = some (.dK (mergeK [] ws)) → ArrW (fun b => H b = none ∧ b ≠ q) H2 ws es → H2 c = none →
        Same H (upd (upd H2 c (.lst (ys.map V.str))) q (.dK (putK (mergeK [] ws) (Sum.inr n) (.ref c)))) ∧ upd (upd H2 c (.lst (ys.map V.str))) q (.dK (putK (mergeK [] ws) (Sum.inr n) (.ref c))) q = some (.dK (mergeK [] (ws ++ [(Sum.inr n, .ref c)]))) ∧
        ArrW (fun b => H b = none ∧ b ≠ q) (upd (upd H2 c (.lst (ys.map V.str))) q (.dK (putK (mergeK [] ws) (Sum.inr n) (.ref c)))) (ws ++ [(Sum.inr n, .ref c)]) (es ++ [(n, ys)]) := by
      intro H2 ws es n c ys s2 h2 r2 hc
      have cq : c ≠ q := fun z => by subst z; rw [h2] at hc; cases hc
      refine ⟨same_fresh (s2.trans (same_new hc)) hq, ?_, ?_⟩
      · rw [mergeK_snoc]; exact upd_same
      · refine Paired.snoc ⟨rfl, c, rfl, ⟨s2.free hc, cq⟩, by rw [upd_ne cq]; exact upd_same⟩ (Paired.mapP r2 fun a b ⟨z1, b', z2, z3, z4⟩ => ⟨z1, b', z2, z3, ?_⟩)
        rw [upd_ne z3.2, upd_ne (ne_of_none z4 hc)]
        exact z4
    refine ⟨_, rfl, p, _, dx, _, _, rfl, s0 _ _ e, T.cl_Program, T.na_Program_tables, (by walk_at "lk"), tt, rfl, ⟨_, SqL.of (s0 _ _ hx)⟩, ?_⟩
    refine for_list (K := K) (a := tt) (xs := xs) (fun i σ H2 => ∃ (o2 o3 : Option V) (ws : List (Key × V)), σ = [some (.ref p), some (.ref q), o2, o3, none] ∧ Same H H2 ∧ H2 q = some (.dK (mergeK [] ws)) ∧ ArrW (fun b => H b = none ∧ b ≠ q) H2 ws (tb.take i))
      ⟨none, none, [], rfl, s0, upd_same, .nil⟩ (fun i σ H2 _ ⟨_, _, _, _, s2, _⟩ => SqL.of (s2 _ _ hx)) ?_ ?_
    · rintro i y σ H2 hy ⟨o2, o3, ws, rfl, s2, h2, r2⟩
      obtain ⟨te, hte, ry⟩ := reps_of rs hy
      obtain ⟨b, c, rfl, eb, ec⟩ := rep_T ry
      have lw := Paired.length r2
      have lt : (tb.take i).length ≤ tb.length := by rw [List.length_take]; omega
      have lm := length_mergeK ws []
      rw [List.length_nil] at lm
      refine ⟨b, _, rfl, SqT.of (s2 _ _ eb), rfl, _, _, rfl, _, _, rfl, rfl, ?_⟩
      refine ⟨_, rfl, c, _, rfl, .inl (SqL.of (s2 _ _ ec)), fun c' hc' => ?_⟩
      have cq : q ≠ c' := fun z => by subst z; rw [h2] at hc'; cases hc'
      refine ⟨_, rfl, _, rfl, q, _, rfl, DPut.k (k := Sum.inr te.1) (by rw [upd_ne cq]; exact h2) (line_lt (by omega)), ?_⟩
      obtain ⟨p1, p2, p3⟩ := put (n := te.1) (ys := te.2) s2 h2 r2 hc'
      refine ⟨_, _, _, rfl, p1, p2, ?_⟩
      rw [List.take_add_one, hte]
      exact p3
    · rintro σ H2 ⟨o2, o3, ws, rfl, s2, h2, r2⟩
      rw [lxs, List.take_length] at r2
      refine ⟨_, rfl, p, _, dx, _, _, rfl, s2 _ _ e, T.cl_Program, T.na_Program_lets, (by walk_at "lk"), l, rfl, ⟨_, SqL.of (s2 _ _ hl)⟩, ?_⟩
      refine for_list (K := K) (a := l) (xs := xl) (fun i σ H3 => ∃ (o4 : Option V) (ws : List (Key × V)), σ = [some (.ref p), some (.ref q), o2, o3, o4] ∧ Same H H3 ∧ H3 q = some (.dK (mergeK [] ws)) ∧ ArrW (fun b => H b = none ∧ b ≠ q) H3 ws (tb ++ (ls.take i).map fun e => (e.1, e.2.1)))
        ⟨none, ws, rfl, s2, h2, by simpa using r2⟩ (fun i σ H3 _ ⟨_, _, _, s3, _⟩ => SqL.of (s3 _ _ hl)) ?_ ?_
      · rintro i y σ H3 hy ⟨o4, ws, rfl, s3, h3, r3⟩
        obtain ⟨le, hle, b, db, c, n, dn, rfl, eb, _, ec, _⟩ := pget rl hy
        have lw := Paired.length r3
        have lt : ((ls.take i).map fun e => (e.1, e.2.1)).length ≤ ls.length := by rw [List.length_map, List.length_take]; omega
        rw [List.length_append] at lw
        have lm := length_mergeK ws []
        rw [List.length_nil] at lm
        refine ⟨_, rfl, b, _, db, _, _, rfl, s3 _ _ eb, T.cl_Let, T.na_Let_axes, (by walk_at "lk"), c, _, rfl, .inl (SqL.of (s3 _ _ ec)), fun c' hc' => ?_⟩
        have cq : q ≠ c' := fun z => by subst z; rw [h3] at hc'; cases hc'
        refine ⟨_, rfl, _, rfl, b, _, db, _, _, rfl, by rw [upd_ne (ne_of_none (s3 _ _ eb) hc')]; exact s3 _ _ eb, T.cl_Let, T.na_Let_name, (by walk_at "lk"), q, _, rfl, DPut.k (k := Sum.inr le.1) (by rw [upd_ne cq]; exact h3) (line_lt (by omega)), ?_⟩
        obtain ⟨p1, p2, p3⟩ := put (n := le.1) (ys := le.2.1) s3 h3 r3 hc'
        refine ⟨_, _, rfl, p1, p2, ?_⟩
        rw [List.take_add_one, hle, Option.toList_some, List.map_append, ← List.append_assoc]
        exact p3
      · rintro σ H3 ⟨o4, ws, rfl, s3, h3, r3⟩
        rw [lxl, List.take_length] at r3
        exact ⟨_, rfl, k q ws H3 hq s3 h3 (Paired.mapP r3 fun _ _ ⟨z1, b', z2, z3, z4⟩ => ⟨z1, b', z2, z3.1, z4⟩)⟩
end
end My

set_option Elab.async false
set_option linter.all false
set_option maxRecDepth 100000
set_option maxHeartbeats 4000000
namespace My
open PySem L2
local macro_rules | `(tactic| walk_at "lk") => `(tactic| first | with_reducible exact lk0 | (refine lk1 (by decide +kernel) ?_; walk_at "lk") | rfl)
/-- all but r is as it was -/
def Oth (r : Addr) (H H' : Hp) : Prop := ∀ b, b ≠ r → H' b = H b
def sp_cell : Sp := fun vs H Q _ => ∃ (r : Addr) (ns : List Int), vs = [.ref r] ∧ H r = some (.lst (ns.map V.int)) ∧ ∀ (i : Int) (ms : List Int) (H' : Hp), ms.length ≤ ns.length → H' r = some (.lst (ms.map V.int)) → Oth r H H' → Q (.int i) H'
/-- a text that is handed about -/
def OkX (z : Str) : Prop := PyData.strOk z = true ∧ z.length ≤ 4000
def OkN (xs : List Str) : Prop := ∀ x ∈ xs, OkX x
def sp_name : Sp := fun vs H Q _ => ∃ (k seed : Int), vs = [.int k, .int seed] ∧ ∀ (z : Str) (H' : Hp), OkX z → Same H H' → Q (.str z) H'
def sp_axes : Sp := fun vs H Q _ => ∃ (c : Int) (l : Addr) (nm : List Str), vs = [.int c, .ref l] ∧ H l = some (.lst (nm.map V.str)) ∧ nm.length ≤ 1000 ∧ OkN nm ∧ ∀ (ys : List Str) (p : Addr) (H' : Hp), H p = none → ys.length ≤ 3 → OkN ys → Same H H' → H' p = some (.lst (ys.map V.str)) → Q (.ref p) H'
section
variable {P : Program} {w : World} {K : PySem.W.Frag} {mg : Str → Option Value} {base : Heap} {t : Adr}
theorem ok_l_cell (T : Txt K mg t) : FnOk P w K mg base CX0 1 t.f_l_cell t.d_l_cell ["_law_rest"] sp_cell := by
  refine T.F_l_cell.ok sc_l_cell (fun vs H Q E h => ?_) (fun cdv A outer s H vs Q E hr h => ?_)
  · obtain ⟨r, ns, rfl, _⟩ := h
    rfl
  · obtain ⟨r, ns, rfl, hns, k⟩ := h
    refine ⟨_, (pss_cons (ps_if (pt_cmpR op_eq (pe_callB call_len_seq (by rfl) T.z_len PySem.boot_len (pa_cons (pv 0) pa_nil)) pe_int (nomark _))
        (pss_one (ps_ret pe_int))
        pss_nil)
      (pss_one (ps_ret (pe_bm0 PySem.F.plainAttrs_list PySem.F.slot_list_pop PySem.F.type_list_pop mt_pop (pv 0))))), ?_⟩
    refine ⟨_, rfl, r, _, rfl, .inl (SqL.of hns), rfl, _, rfl, iteD (fun _ => ?_) (fun h => ?_)⟩
    · exact k 0 ns H (Nat.le_refl _) hns fun _ _ => rfl
    · have hpos : 0 < ns.length := by
        rcases Nat.eq_zero_or_pos ns.length with z | z
        · exact absurd (by rw [List.length_map, z]; rfl) h
        · exact z
      have e : (ns.map V.int)[(ns.map V.int).length - 1]? = some (V.int (ns[ns.length - 1]'(by omega))) := by
        rw [List.length_map, List.getElem?_map, List.getElem?_eq_getElem (by omega : ns.length - 1 < ns.length)]
        rfl
      refine ⟨_, rfl, .inl ⟨rfl, _, SqL.of hns⟩, r, _, _, rfl, rfl, hns, e, k _ ns.dropLast _ (by simp) ?_ fun b hb => upd_ne hb⟩
      rw [upd_same, List.map_dropLast]
theorem ok_l_name (T : Txt K mg t) : FnOk P w K mg base CX0 1 t.f_l_name t.d_l_name ["_law_k", "_law_seed"] sp_name := by
  refine T.F_l_name.ok sc_l_name (fun vs H Q E h => ?_) (fun cdv A outer s H vs Q E hr h => ?_)
  · obtain ⟨k, seed, rfl, _⟩ := h
    rfl
  · obtain ⟨kk, seed, rfl, k⟩ := h
    refine ⟨_, (pss_cons (ps_set (i := 2) sc_l_name.nd rfl (Or.inl rfl) pe_str)
      (pss_cons (ps_set (i := 3) sc_l_name.nd rfl (Or.inl rfl) (pe_op op_add pe_int (pe_op op_mod (pv 1) pe_int)))
      (pss_cons (ps_set (i := 4) sc_l_name.nd rfl (Or.inl rfl) (pe_op op_mod (pe_op op_fdiv (pv 1) pe_int) (pv 3)))
      (pss_cons (ps_set (i := 5) sc_l_name.nd rfl (Or.inr rfl) (pe_ix ix_str (pv 2) (pe_op op_mod (pe_op op_fdiv (pv 1) pe_int) pe_int) (fun _ _ => rfl)))
      (pss_cons (ps_set (i := 6) sc_l_name.nd rfl (Or.inl rfl) (pe_op op_add_str (pe_bm PySem.F.plainAttrs_str PySem.F.slot_str_join PySem.F.type_str_join mt_join pe_str (pa_cons (pe_comp (N' := ["_law_j", "_law_base"]) (ix := (List.replicate 1 none ++ [some 5])) rfl (clok_one (x := "_law_base") rfl rfl rfl (by decide +kernel) (by decide +kernel)) (ixok_last (N0 := ["_law_j"]) rfl (Or.inl rfl) (by first | exact Or.inl rfl | exact Or.inr rfl | (simp [relabel]; rfl) | (with_unfolding_all exact Or.inl rfl) | (with_unfolding_all exact Or.inr rfl) | (with_unfolding_all decide))) (pi_range1 rfl T.z_range (pa_cons (pv 4) pa_nil)) (fun _ _ _ _ => (pg_name (i := 0) nd_comp_5 rfl (Or.inl rfl) (Or.inr rfl))) (fun _ _ _ _ => (pv 1))) pa_nil)) (pe_ix ix_str (pv 2) (pe_op op_mod (pe_op op_add (pe_op op_fdiv (pv 1) pe_int) (pv 0)) pe_int) (fun _ _ => rfl))))
      (pss_cons (ps_set (i := 6) sc_l_name.nd rfl (Or.inl rfl) (pe_op op_add_str (pv 6) (pe_bm PySem.F.plainAttrs_str PySem.F.slot_str_join PySem.F.type_str_join mt_join pe_str (pa_cons (pe_comp (N' := ["_law_j", "_law_base"]) (ix := (List.replicate 1 none ++ [some 5])) rfl (clok_one (x := "_law_base") rfl rfl rfl (by decide +kernel) (by decide +kernel)) (ixok_last (N0 := ["_law_j"]) rfl (Or.inl rfl) (by first | exact Or.inl rfl | exact Or.inr rfl | (simp [relabel]; rfl) | (with_unfolding_all exact Or.inl rfl) | (with_unfolding_all exact Or.inr rfl) | (with_unfolding_all decide))) (pi_range1 rfl T.z_range (pa_cons (pe_op op_sub (pe_op op_sub (pv 3) (pv 4)) pe_int) pa_nil)) (fun _ _ _ _ => (pg_name (i := 0) nd_comp_6 rfl (Or.inl rfl) (Or.inr rfl))) (fun _ _ _ _ => (pv 1))) pa_nil))))
      (pss_cons (ps_if (pt_cmpR op_eq (pv 6) pe_str (nomark _))
        (pss_one (ps_ret pe_str))
        pss_nil)
      (pss_one (ps_ret (pv 6)))))))))), ?_⟩
    obtain ⟨cb, b1, b2⟩ := atI_ok (xs := abc.cps.toList) (i := seed / 1664 % 26) (by omega) (by rw [abc_len]; omega)
    obtain ⟨cm, m1, m2⟩ := atI_ok (xs := abc.cps.toList) (i := (seed / 64 + kk) % 26) (by omega) (by rw [abc_len]; omega)
    have z0 : 0 < 1 + seed % 8 := by omega
    have z8 : 1 + seed % 8 ≤ 8 := by omega
    have p0 : 0 ≤ seed / 8 % (1 + seed % 8) := Int.emod_nonneg _ (by omega)
    have p1 : seed / 8 % (1 + seed % 8) < 1 + seed % 8 := Int.emod_lt_of_pos _ z0
    generalize hz : 1 + seed % 8 = size at *
    generalize hp : seed / 8 % size = spot at *
    refine ⟨_, rfl, _, _, rfl, rfl, (by show (0 : Int) < 8; decide), _, _, rfl, rfl, ?_⟩
    dsimp only
    rw [hz]
    refine ⟨_, rfl, _, _, rfl, rfl, ⟨by decide, by decide⟩, _, rfl, _, _, rfl, rfl, z0, ?_⟩
    dsimp only
    rw [hp]
    refine ⟨_, rfl, _, rfl, _, _, rfl, rfl, ⟨by decide, by decide⟩, _, _, rfl, rfl, (by show (0 : Int) < 26; decide), _, _, cb, rfl, rfl, line_le (by rw [abc_len']; decide), b2, ?_⟩
    have many : ∀ (n : Nat), n ≤ 8 → ((List.replicate n (⟨#[cb]⟩ : Str)).map (·.length)).sum + (List.replicate n (⟨#[cb]⟩ : Str)).length * ("" : Str).length ≤ 16777216 ∧ (Txt.join "" (List.replicate n (⟨#[cb]⟩ : Str))).length ≤ 1000 ∧ PyData.strOk (Txt.join "" (List.replicate n (⟨#[cb]⟩ : Str))) = true := by
      intro n hn
      have okb : cb < 1114112 := abc_ok cb (List.mem_of_getElem? b1)
      have e0 : ("" : Str).length = 0 := rfl
      have e1 : ((List.replicate n (⟨#[cb]⟩ : Str)).map (·.length)).sum = n := by
        clear hn
        induction n with
        | zero => rfl
        | succ n ih => rw [List.replicate_succ, List.map_cons, List.sum_cons, ih]; show 1 + n = n + 1; omega
      refine ⟨by rw [e1, e0]; omega, ?_⟩
      match n, hn with
      | 0, _ => exact ⟨Nat.le_of_ble_eq_true rfl, ok_iff.mpr fun c hc => by rw [List.eq_of_mem_replicate (show c ∈ List.replicate 0 cb from hc)]; exact okb⟩
      | 1, _ => exact ⟨Nat.le_of_ble_eq_true rfl, ok_iff.mpr fun c hc => by rw [List.eq_of_mem_replicate (show c ∈ List.replicate 1 cb from hc)]; exact okb⟩
      | 2, _ => exact ⟨Nat.le_of_ble_eq_true rfl, ok_iff.mpr fun c hc => by rw [List.eq_of_mem_replicate (show c ∈ List.replicate 2 cb from hc)]; exact okb⟩
      | 3, _ => exact ⟨Nat.le_of_ble_eq_true rfl, ok_iff.mpr fun c hc => by rw [List.eq_of_mem_replicate (show c ∈ List.replicate 3 cb from hc)]; exact okb⟩
      | 4, _ => exact ⟨Nat.le_of_ble_eq_true rfl, ok_iff.mpr fun c hc => by rw [List.eq_of_mem_replicate (show c ∈ List.replicate 4 cb from hc)]; exact okb⟩
      | 5, _ => exact ⟨Nat.le_of_ble_eq_true rfl, ok_iff.mpr fun c hc => by rw [List.eq_of_mem_replicate (show c ∈ List.replicate 5 cb from hc)]; exact okb⟩
      | 6, _ => exact ⟨Nat.le_of_ble_eq_true rfl, ok_iff.mpr fun c hc => by rw [List.eq_of_mem_replicate (show c ∈ List.replicate 6 cb from hc)]; exact okb⟩
      | 7, _ => exact ⟨Nat.le_of_ble_eq_true rfl, ok_iff.mpr fun c hc => by rw [List.eq_of_mem_replicate (show c ∈ List.replicate 7 cb from hc)]; exact okb⟩
      | 8, _ => exact ⟨Nat.le_of_ble_eq_true rfl, ok_iff.mpr fun c hc => by rw [List.eq_of_mem_replicate (show c ∈ List.replicate 8 cb from hc)]; exact okb⟩
    have one : (⟨#[cm]⟩ : Str).length = 1 := rfl
    -- the first join
    obtain ⟨l1, o1⟩ := (many spot.toNat (by omega)).2
    refine ⟨rfl, _, rfl, _, rfl, by omega, by omega, fun D hD => ?_⟩
    refine comp_genQ (D := D) spot.toNat (fun i ys H2 => Same H H2 ∧ H2 D = some (.lst ys) ∧ ys = (List.replicate i (⟨#[cb]⟩ : Str)).map V.str) ⟨same_new hD, upd_same, rfl⟩ (fun i ys H2 hi _ => hi) (fun ys H2 _ => Nat.le_refl _) ?_ ?_
    · rintro i ys H2 hi ⟨s2, hD2, rfl⟩ x H3 ⟨rfl, rfl⟩
      refine ⟨⟨rfl, True.intro⟩, _, rfl, hD2, line_lt (by simp; omega), same_fresh s2 hD, upd_same, ?_⟩
      rw [List.replicate_succ', List.map_append]
      rfl
    · rintro ys H2 ⟨s2, hD2, rfl⟩
      refine ⟨_, D, _, rfl, rfl, SqL.of hD2, (many _ (by omega)).1, ?_⟩
      refine ⟨_, rfl, _, rfl, _, _, rfl, rfl, ⟨by decide, by decide⟩, _, rfl, _, _, rfl, rfl, _, _, rfl, rfl, (by show (0 : Int) < 26; decide), _, _, cm, rfl, rfl, line_le (by rw [abc_len']; decide), m2, _, _, rfl, rfl, line_le (by omega), ?_⟩
      -- the second join
      obtain ⟨l2, o2⟩ := (many (size - spot - 1).toNat (by omega)).2
      refine ⟨_, rfl, rfl, _, rfl, _, rfl, _, _, rfl, rfl, _, _, rfl, rfl, _, rfl, by omega, by omega, fun D2 hD2' => ?_⟩
      refine comp_genQ (D := D2) (size - spot - 1).toNat (fun i ys H3 => Same H H3 ∧ H3 D2 = some (.lst ys) ∧ ys = (List.replicate i (⟨#[cb]⟩ : Str)).map V.str) ⟨s2.trans (same_new hD2'), upd_same, rfl⟩ (fun i ys H3 hi _ => hi) (fun ys H3 _ => Nat.le_refl _) ?_ ?_
      · rintro i ys H3 hi ⟨s3, h3, rfl⟩ x H4 ⟨rfl, rfl⟩
        refine ⟨⟨rfl, True.intro⟩, _, rfl, h3, line_lt (by simp; omega), same_fresh s3 (s2.free hD2'), upd_same, ?_⟩
        rw [List.replicate_succ', List.map_append]
        rfl
      · rintro ys H3 ⟨s3, h3, rfl⟩
        refine ⟨_, D2, _, rfl, rfl, SqL.of h3, (many _ (by omega)).1, ?_⟩
        refine ⟨_, _, rfl, rfl, line_le (by rw [Str.length_append]; omega), ?_⟩
        refine ⟨_, rfl, rfl, _, rfl, iteD (fun _ => k _ H3 ⟨by decide +kernel, by decide +kernel⟩ s3) (fun _ => ⟨_, rfl, k _ H3 ⟨ok_app (ok_app o1 (ok_one (abc_ok cm (List.mem_of_getElem? m1)))) o2, by rw [Str.length_append, Str.length_append]; omega⟩ s3⟩)⟩
theorem ok_l_axes (T : Txt K mg t) : FnOk P w K mg base CX0 1 t.f_l_axes t.d_l_axes ["_law_cell_here", "_law_names"] sp_axes := by
  refine T.F_l_axes.ok sc_l_axes (fun vs H Q E h => ?_) (fun cdv A outer s H vs Q E hr h => ?_)
  · obtain ⟨c, l, nm, rfl, _⟩ := h
    rfl
  · obtain ⟨c, l, nm, rfl, hl, ln, okn, k⟩ := h
    refine ⟨_, (pss_cons (ps_set (i := 2) sc_l_axes.nd rfl (Or.inr rfl) (pe_callB call_len_seq (by rfl) T.z_len PySem.boot_len (pa_cons (pv 1) pa_nil)))
      (pss_cons (ps_if (pt_cmpR op_eq (pv 2) pe_int (nomark _))
        (pss_one (ps_ret (pe_lst pa_nil)))
        pss_nil)
      (pss_cons (ps_set (i := 3) sc_l_axes.nd rfl (Or.inr rfl) pe_int)
      (pss_cut (ps_if (PW.pt (pw_and (pt_cmpR op_eq (pe_op op_mod (pe_op op_fdiv (pv 0) pe_int) pe_int) pe_int (nomark _)) (pw_and1 (pt_cmpR op_gt (pv 2) pe_int (nomark _)))))
        (pss_one (ps_set (i := 3) sc_l_axes.nd rfl (Or.inr rfl) (pe_op op_sub (pv 2) pe_int)))
        pss_nil)
      (pss_one (ps_ret (pe_comp (N' := ["_law_j", "_law_cell_here", "_law_many", "_law_names", "_law_turn"]) (ix := (List.replicate 1 none ++ [some 0, some 2, some 1, some 3])) rfl (clok_many (cl := [("_law_turn", _), ("_law_names", _), ("_law_many", _), ("_law_cell_here", _)]) (xs := ["_law_turn", "_law_names", "_law_many", "_law_cell_here"]) rfl ⟨rfl, rfl, rfl, rfl, trivial⟩ rfl rfl (by decide +kernel) (by decide +kernel)) (ixok_many (N0 := ["_law_j"]) (xs := ["_law_cell_here", "_law_many", "_law_names", "_law_turn"]) (js := [0, 2, 1, 3]) ⟨⟨rfl, Or.inl rfl, (by first | exact Or.inl rfl | exact Or.inr rfl | (simp [relabel]; rfl) | (with_unfolding_all exact Or.inl rfl) | (with_unfolding_all exact Or.inr rfl) | (with_unfolding_all decide))⟩, ⟨rfl, Or.inl rfl, (by first | exact Or.inl rfl | exact Or.inr rfl | (simp [relabel]; rfl) | (with_unfolding_all exact Or.inl rfl) | (with_unfolding_all exact Or.inr rfl) | (with_unfolding_all decide))⟩, ⟨rfl, Or.inl rfl, (by first | exact Or.inl rfl | exact Or.inr rfl | (simp [relabel]; rfl) | (with_unfolding_all exact Or.inl rfl) | (with_unfolding_all exact Or.inr rfl) | (with_unfolding_all decide))⟩, ⟨rfl, Or.inl rfl, (by first | exact Or.inl rfl | exact Or.inr rfl | (simp [relabel]; rfl) | (with_unfolding_all exact Or.inl rfl) | (with_unfolding_all exact Or.inr rfl) | (with_unfolding_all decide))⟩, trivial⟩) (pi_range1 rfl T.z_range (pa_cons (pe_callB (call_min2 rfl) (by rfl) T.z_min PyProof.Rows.boot_min (pa_cons (pe_op op_mod (pv 0) pe_int) (pa_cons (pv 2) pa_nil))) pa_nil)) (fun _ _ _ _ => (pg_name (i := 0) nd_comp_10 rfl (Or.inl rfl) (Or.inr rfl))) (fun _ _ _ _ => (pe_ix (ix_listK (K := K) rfl) (pv 3) (pe_op op_mod (pe_op op_add (pe_op op_fdiv (pv 1) pe_int) (pe_op op_mul (pv 0) (pv 4))) (pv 2)) (fun _ _ => rfl)))))))))), ?_⟩
    refine ⟨_, rfl, l, _, rfl, .inl (SqL.of hl), ?_⟩
    rw [List.length_map]
    refine ⟨_, rfl, rfl, _, rfl, iteD (fun _ => ⟨line_le (by simp), fun p hp => k [] p _ hp (by simp) (by intro x hx; cases hx) (same_new hp) upd_same⟩) (fun hne => ?_)⟩
    have hpos : 0 < nm.length := by
      rcases Nat.eq_zero_or_pos nm.length with z | z
      · exact absurd (by rw [z]; rfl) hne
      · exact z
    refine ⟨fun σ H2 => H = H2 ∧ ∃ tn : Int, σ = [some (.int c), some (.ref l), some (.int nm.length), some (.int tn)], ?_, ?_⟩
    · refine ⟨_, rfl, _, _, rfl, rfl, ⟨by decide, by decide⟩, _, _, rfl, rfl, (by show (0 : Int) < 2; decide), rfl, _, rfl, ite2 (fun _ => ?_) (fun _ => iteF ⟨rfl, _, rfl⟩)⟩
      refine ⟨_, rfl, _, _, rfl, rfl, _, rfl, iteD (fun _ => ?_) (fun _ => ⟨rfl, _, rfl⟩)⟩
      exact ⟨_, rfl, _, _, rfl, rfl, rfl, _, rfl⟩
    · rintro σ H2 ⟨rfl, tn, rfl⟩
      have m4 : 0 ≤ c % 4 ∧ c % 4 < 4 := by omega
      refine ⟨_, rfl, _, _, rfl, rfl, (by show (0 : Int) < 4; decide), _, rfl, _, _, rfl, ?_⟩
      generalize hm : (if (nm.length : Int) < c % 4 then (nm.length : Int) else c % 4) = m
      have hm4 : m ≤ 3 := by rw [← hm]; split <;> omega
      have hm0 : 0 ≤ m := by rw [← hm]; split <;> omega
      refine ⟨_, rfl, by omega, by omega, fun D hD => ?_⟩
      refine comp_genQ (D := D) m.toNat (fun i ys H3 => Same H H3 ∧ H3 D = some (.lst ys) ∧ ∃ zs : List Str, ys = zs.map V.str ∧ zs.length = i ∧ OkN zs) ⟨same_new hD, upd_same, [], rfl, rfl, by intro x hx; cases hx⟩ (fun i ys H3 hi _ => hi) (fun ys H3 _ => Nat.le_refl _) ?_ ?_
      · rintro i ys H3 hi ⟨s3, h3, zs, rfl, hz, oz⟩ x H4 ⟨rfl, rfl⟩
        obtain ⟨x, xm, e⟩ := at_mapV (f := V.str) (xs := nm) (i := (c / 8 + (0 + (i : Int)) * tn) % (nm.length : Int)) (Int.emod_nonneg _ (by omega)) (Int.emod_lt_of_pos _ (by omega))
        refine ⟨⟨rfl, rfl, rfl, rfl, True.intro⟩, _, rfl, _, rfl, _, _, rfl, rfl, ⟨by decide, by decide⟩, _, rfl, _, rfl, _, _, rfl, rfl, .inl ⟨by omega, by omega⟩, _, _, rfl, rfl, _, rfl, _, _, rfl, rfl, (by show (0 : Int) < (nm.length : Int); omega), l, _, _, _, rfl, rfl, SqL.of (s3 _ _ hl), e, ?_⟩
        refine ⟨h3, line_lt (by simp; omega), same_fresh s3 hD, upd_same, zs ++ [x], by simp, by simp [hz], fun y hy => ?_⟩
        rcases List.mem_append.mp hy with hy | hy
        · exact oz y hy
        · rw [List.mem_singleton.mp hy]; exact okn x (List.mem_of_getElem? xm)
      · rintro ys H3 ⟨s3, h3, zs, rfl, hz, oz⟩
        exact k zs D H3 hD (by omega) oz s3 h3
end
end My

set_option Elab.async false
set_option linter.all false
set_option maxRecDepth 100000
set_option maxHeartbeats 4000000
namespace L2
open PySem PySem.Spec PyProof.Rows
theorem call_isiXK {X : Cx} {K : PySem.W.Frag} (h : X.K = K) : CallR X (.builtin "isinstance") (rIsiX K) := h ▸ call_isiX
theorem call_isiXTK {X : Cx} {K : PySem.W.Frag} (h : X.K = K) : CallR X (.builtin "isinstance") (rIsiXT K) := h ▸ call_isiXT
end L2
namespace My
open PySem L2
local macro_rules | `(tactic| walk_at "lk") => `(tactic| first | with_reducible exact lk0 | (refine lk1 (by decide +kernel) ?_; walk_at "lk") | rfl)
theorem iteBN {b : Bool} {A B : Prop} (h1 : b = false → A) (h2 : b = true → B) : if (!b) = true then A else B := by
  cases b
  · exact h1 rfl
  · exact h2 rfl
theorem iteBB {b : Bool} {A B : Prop} (h1 : b = true → A) (h2 : b = false → B) : if b = true then A else B := by
  cases b
  · exact h2 rfl
  · exact h1 rfl
theorem inV_str (z : Str) : ∀ bs : List Str, inV (.str z) (bs.map V.str) = decide (z ∈ bs)
  | [] => rfl
  | b :: r => by
    have ih := inV_str z r
    unfold inV at ih ⊢
    rw [List.map_cons, List.any_cons, ih]
    show ((b == z) || decide (z ∈ r)) = decide (z ∈ b :: r)
    by_cases e : b = z
    · subst e; simp
    · have : ¬ z = b := fun h => e h.symm
      simp [e, this]
theorem flat_strs : ∀ bs : List Str, (bs.map V.str).all flatV = true
  | [] => rfl
  | b :: r => by rw [List.map_cons, List.all_cons, flat_strs r]; rfl
theorem cut_take {ys : List Str} {i : Nat} (hi : i ≤ ys.length) : cutV (ys.map V.str) none (some (i : Int)) = (ys.take i).map V.str := by
  unfold cutV
  have e1 : HT.sIx (ys.map V.str).length 0 none = 0 := rfl
  have e2 : HT.sIx (ys.map V.str).length (ys.map V.str).length (some (i : Int)) = i := by
    unfold HT.sIx
    rw [List.length_map]
    simp only [show ¬ ((i : Int) < 0) by omega, if_false]
    omega
  rw [e1, e2, List.drop_zero, Nat.sub_zero, List.map_take]
theorem cut_drop {ys : List Str} {i : Nat} (hi : i ≤ ys.length) : cutV (ys.map V.str) (some (i : Int)) none = (ys.drop i).map V.str := by
  unfold cutV
  have e1 : HT.sIx (ys.map V.str).length 0 (some (i : Int)) = i := by
    unfold HT.sIx
    rw [List.length_map]
    simp only [show ¬ ((i : Int) < 0) by omega, if_false]
    omega
  have e2 : HT.sIx (ys.map V.str).length (ys.map V.str).length none = (ys.map V.str).length := rfl
  rw [e1, e2, List.map_drop]
  exact List.take_of_length_le (by rw [List.length_drop]; exact Nat.le_refl _)
/-! ### names -/
abbrev Lt3 := Str × List Str × Int
def axN (ax : List (Str × Int)) : List Str := ax.map (·.1)
def arN (tb : List (Str × List Str)) (ls : List Lt3) : List Str := tb.map (·.1) ++ ls.map (·.1)
def sp_axn (A : Adr) : Sp := fun vs H Q _ => ∃ (p : Addr) (wh : Int) (ax : List (Str × Int)) (tb : List (Str × List Str)) (ls : List Lt3) (os : List Str), vs = [.ref p] ∧ PrAt A H p wh ax tb ls os ∧ ax.length ≤ 100 ∧ ∀ (q : Addr) (H' : Hp), H q = none → Same H H' → H' q = some (.lst ((axN ax).map V.str)) → Q (.ref q) H'
def sp_tbn (A : Adr) : Sp := fun vs H Q _ => ∃ (p : Addr) (wh : Int) (ax : List (Str × Int)) (tb : List (Str × List Str)) (ls : List Lt3) (os : List Str), vs = [.ref p] ∧ PrAt A H p wh ax tb ls os ∧ tb.length ≤ 100 ∧ ∀ (q : Addr) (H' : Hp), H q = none → Same H H' → H' q = some (.lst ((tb.map (·.1)).map V.str)) → Q (.ref q) H'
def sp_arn (A : Adr) : Sp := fun vs H Q _ => ∃ (p : Addr) (wh : Int) (ax : List (Str × Int)) (tb : List (Str × List Str)) (ls : List Lt3) (os : List Str), vs = [.ref p] ∧ PrAt A H p wh ax tb ls os ∧ tb.length ≤ 100 ∧ ls.length ≤ 100 ∧ ∀ (q : Addr) (H' : Hp), H q = none → Same H H' → H' q = some (.lst ((arN tb ls).map V.str)) → Q (.ref q) H'
/-! ### what a name is -/
def la (c : Nat) : Bool := !(decide (([c] : List Nat) < ("a" : Str).cps.toList))
def lz (c : Nat) : Bool := !(decide (("z" : Str).cps.toList < [c]))
theorem abc_eq : abc.cps.toList = List.range' 97 26 := by decide +kernel
theorem la_iff (c : Nat) : la c = decide (97 ≤ c) := by
  have e : ("a" : Str).cps.toList = [97] := by decide +kernel
  unfold la
  rw [e]
  by_cases h : 97 ≤ c
  · have : ¬ ([c] < [97]) := fun z => by
      rcases List.cons_lt_cons_iff.mp z with z | ⟨_, z⟩
      · omega
      · exact absurd z (by simp)
    rw [decide_eq_false this, decide_eq_true h]; rfl
  · have : [c] < [97] := List.cons_lt_cons_iff.mpr (.inl (by omega))
    rw [decide_eq_true this, decide_eq_false h]; rfl
theorem lz_iff (c : Nat) : lz c = decide (c ≤ 122) := by
  have e : ("z" : Str).cps.toList = [122] := by decide +kernel
  unfold lz
  rw [e]
  by_cases h : c ≤ 122
  · have : ¬ ([122] < [c]) := fun z => by
      rcases List.cons_lt_cons_iff.mp z with z | ⟨_, z⟩
      · omega
      · exact absurd z (by simp)
    rw [decide_eq_false this, decide_eq_true h]; rfl
  · have : [122] < [c] := List.cons_lt_cons_iff.mpr (.inl (by omega))
    rw [decide_eq_true this, decide_eq_false h]; rfl
theorem ch_abc (c : Nat) : (la c && lz c) = decide (c ∈ abc.cps.toList) := by
  rw [la_iff, lz_iff, abc_eq]
  by_cases h : 97 ≤ c ∧ c ≤ 122
  · rw [decide_eq_true h.1, decide_eq_true h.2, decide_eq_true (List.mem_range'_1.mpr (by omega))]; rfl
  · have : ¬ c ∈ List.range' 97 26 := fun z => h (by have := List.mem_range'_1.mp z; omega)
    rw [decide_eq_false this]
    by_cases h1 : 97 ≤ c
    · rw [decide_eq_true h1, decide_eq_false (fun z => h ⟨h1, z⟩)]; rfl
    · rw [decide_eq_false h1]; rfl
def letB (x : Str) : Bool := (!(decide (x = ""))) && x.cps.toList.all fun c => la c && lz c
def nmB (x : Str) : Bool := letB x && decide (x.length ≤ 8) && !(decide (x ∈ (["if", "sum"] : List Str)))
def sp_let : Sp := fun vs H Q _ => ∃ x : Str, vs = [.str x] ∧ x.length ≤ 4000 ∧ ∀ H', Same H H' → Q (.bl (letB x)) H'
def sp_isn : Sp := fun vs H Q _ => ∃ x : Str, vs = [.str x] ∧ x.length ≤ 4000 ∧ ∀ H', Same H H' → Q (.bl (nmB x)) H'
section
variable {P : Program} {w : World} {K : PySem.W.Frag} {mg : Str → Option Value} {base : Heap} {t : Adr}
theorem ok_axis_names (T : Txt K mg t) : FnOk P w K mg base CX0 1 t.f_axis_names t.d_axis_names ["program"] (sp_axn t) := by
  refine T.F_axis_names.ok sc_axis_names (fun vs H Q E h => ?_) (fun cdv A outer s H vs Q E hr h => ?_)
  · obtain ⟨p, wh, ax, tb, ls, os, rfl, _⟩ := h
    rfl
  · obtain ⟨p, wh, ax, tb, ls, os, rfl, pr, la, k⟩ := h
    obtain ⟨dx, a, tt, l, o, e, ra, rt, ⟨xl, hl, rl⟩, ro⟩ := pr.ob
    obtain ⟨a2, xs, ea, hx, rs⟩ := rep_lst (show Rep H (.ref a) (.list (ax.map encI)) from ra)
    cases ea
    have lxs := rs.len
    rw [List.length_map] at lxs
    refine ⟨_, (pss_one (ps_ret (pe_comp (N' := ["name", "length"]) (ix := (List.replicate 2 none)) (g := gTup K 2 (gCons (gName 0) (gCons (gName 1) gNil))) rfl (clok_none rfl (by decide +kernel) (by decide +kernel)) (ixok_none rfl) (pi_list (pe_fld (pv 0) rfl)) (fun _ _ _ _ => (pg_tup (n := 2) rfl (pgs_cons (pg_name (i := 0) nd_comp_1 rfl (Or.inl rfl) (Or.inr rfl)) (pgs_cons (pg_name (i := 1) nd_comp_1 rfl (Or.inl rfl) (Or.inr rfl)) pgs_nil)))) (fun _ _ _ _ => (pv 0))))), ?_⟩
    refine ⟨_, rfl, p, _, dx, _, _, rfl, e, T.cl_Program, T.na_Program_axes, (by walk_at "lk"), a, rfl, ⟨_, SqL.of hx⟩, fun D hD => ?_⟩
    refine comp_listQ (K := K) (a := a) (D := D) (xs := xs) (fun i zs H2 => Same H H2 ∧ H2 D = some (.lst zs) ∧ zs = (axN (ax.take i)).map V.str) ⟨same_new hD, upd_same, rfl⟩ (fun i zs H2 ⟨s2, _⟩ => SqL.of (s2 _ _ hx)) ?_ ?_
    · rintro i x zs H2 hy ⟨s2, hD2, rfl⟩
      have hi : i < xs.length := (List.getElem?_eq_some_iff.mp hy).1
      obtain ⟨te, hte, ry⟩ := reps_of rs hy
      obtain ⟨b, rfl, eb⟩ := rep_I ry
      refine ⟨b, _, rfl, SqT.of (s2 _ _ eb), rfl, _, _, rfl, _, _, rfl, rfl, ?_⟩
      refine ⟨True.intro, _, rfl, hD2, line_lt (by simp [axN]; omega), same_fresh s2 hD, upd_same, ?_⟩
      rw [List.take_add_one, hte, Option.toList_some]
      simp [axN]
    · rintro zs H2 ⟨s2, hD2, rfl⟩
      rw [lxs, List.take_length] at hD2
      exact k D H2 hD s2 hD2
theorem ok_table_names (T : Txt K mg t) : FnOk P w K mg base CX0 1 t.f_table_names t.d_table_names ["program"] (sp_tbn t) := by
  refine T.F_table_names.ok sc_table_names (fun vs H Q E h => ?_) (fun cdv A outer s H vs Q E hr h => ?_)
  · obtain ⟨p, wh, ax, tb, ls, os, rfl, _⟩ := h
    rfl
  · obtain ⟨p, wh, ax, tb, ls, os, rfl, pr, lt, k⟩ := h
    obtain ⟨dx, a, tt, l, o, e, ra, rt, ⟨xl, hl, rl⟩, ro⟩ := pr.ob
    obtain ⟨t2, xs, et, hx, rs⟩ := rep_lst (show Rep H (.ref tt) (.list (tb.map encT)) from rt)
    cases et
    have lxs := rs.len
    rw [List.length_map] at lxs
    refine ⟨_, (pss_one (ps_ret (pe_comp (N' := ["name", "axes"]) (ix := (List.replicate 2 none)) (g := gTup K 2 (gCons (gName 0) (gCons (gName 1) gNil))) rfl (clok_none rfl (by decide +kernel) (by decide +kernel)) (ixok_none rfl) (pi_list (pe_fld (pv 0) rfl)) (fun _ _ _ _ => (pg_tup (n := 2) rfl (pgs_cons (pg_name (i := 0) nd_comp_2 rfl (Or.inl rfl) (Or.inr rfl)) (pgs_cons (pg_name (i := 1) nd_comp_2 rfl (Or.inl rfl) (Or.inr rfl)) pgs_nil)))) (fun _ _ _ _ => (pv 0))))), ?_⟩
    refine ⟨_, rfl, p, _, dx, _, _, rfl, e, T.cl_Program, T.na_Program_tables, (by walk_at "lk"), tt, rfl, ⟨_, SqL.of hx⟩, fun D hD => ?_⟩
    refine comp_listQ (K := K) (a := tt) (D := D) (xs := xs) (fun i zs H2 => Same H H2 ∧ H2 D = some (.lst zs) ∧ zs = ((tb.take i).map (·.1)).map V.str) ⟨same_new hD, upd_same, rfl⟩ (fun i zs H2 ⟨s2, _⟩ => SqL.of (s2 _ _ hx)) ?_ ?_
    · rintro i x zs H2 hy ⟨s2, hD2, rfl⟩
      have hi : i < xs.length := (List.getElem?_eq_some_iff.mp hy).1
      obtain ⟨te, hte, ry⟩ := reps_of rs hy
      obtain ⟨b, c, rfl, eb, ec⟩ := rep_T ry
      refine ⟨b, _, rfl, SqT.of (s2 _ _ eb), rfl, _, _, rfl, _, _, rfl, rfl, ?_⟩
      refine ⟨True.intro, _, rfl, hD2, line_lt (by simp; omega), same_fresh s2 hD, upd_same, ?_⟩
      rw [List.take_add_one, hte, Option.toList_some]
      simp
    · rintro zs H2 ⟨s2, hD2, rfl⟩
      rw [lxs, List.take_length] at hD2
      exact k D H2 hD s2 hD2
theorem ok_array_names (T : Txt K mg t) : FnOk P w K mg base CX0 2 t.f_array_names t.d_array_names ["program"] (sp_arn t) := by
  have G_table_names := ok_table_names (P := P) (w := w) (base := base) T
  refine T.F_array_names.ok sc_array_names (fun vs H Q E h => ?_) (fun cdv A outer s H vs Q E hr h => ?_)
  · obtain ⟨p, wh, ax, tb, ls, os, rfl, _⟩ := h
    rfl
  · obtain ⟨p, wh, ax, tb, ls, os, rfl, pr, lt, ll, k⟩ := h
    obtain ⟨dx, a, tt, l, o, e, ra, rt, ⟨xl, hl, rl⟩, ro⟩ := pr.ob
    have lxl := Paired.length rl
    refine ⟨_, (pss_one (ps_ret (pe_op op_cat (pe_call G_table_names (hr.mono (by omega)) rfl T.m_table_names T.F_table_names.kp T.b_table_names .nil pass0 (pa_cons (pv 0) pa_nil)) (pe_comp (N' := ["let"]) (ix := (List.replicate 1 none)) rfl (clok_none rfl (by decide +kernel) (by decide +kernel)) (ixok_none rfl) (pi_list (pe_fld (pv 0) rfl)) (fun _ _ _ _ => (pg_name (i := 0) nd_comp_3 rfl (Or.inl rfl) (Or.inr rfl))) (fun _ _ _ _ => (pe_fldK (K := K) rfl (pv 0) rfl)))))), ?_⟩
    refine ⟨_, rfl, p, wh, ax, tb, ls, os, rfl, pr, lt, fun D H2 hD s2 hD2 => ?_⟩
    refine ⟨_, rfl, p, _, dx, _, _, rfl, s2 _ _ e, T.cl_Program, T.na_Program_lets, (by walk_at "lk"), l, rfl, ⟨_, SqL.of (s2 _ _ hl)⟩, fun D2 hE => ?_⟩
    refine comp_listQ (K := K) (a := l) (D := D2) (xs := xl) (fun i zs H3 => Same H2 H3 ∧ H3 D2 = some (.lst zs) ∧ zs = ((ls.take i).map (·.1)).map V.str) ⟨same_new hE, upd_same, rfl⟩ (fun i zs H3 ⟨s3, _⟩ => SqL.of (s3 _ _ (s2 _ _ hl))) ?_ ?_
    · rintro i x zs H3 hy ⟨s3, hD3, rfl⟩
      have hi : i < xl.length := (List.getElem?_eq_some_iff.mp hy).1
      obtain ⟨le, hle, b, db, c, n, dn, rfl, eb, _, ec, _⟩ := pget rl hy
      refine ⟨True.intro, _, rfl, b, _, db, _, _, rfl, s3 _ _ (s2 _ _ eb), T.cl_Let, T.na_Let_name, (by walk_at "lk"), hD3, line_lt (by simp; omega), same_fresh s3 hE, upd_same, ?_⟩
      rw [List.take_add_one, hle, Option.toList_some]
      simp
    · rintro zs H3 ⟨s3, hD3, rfl⟩
      rw [lxl, List.take_length] at hD3
      refine ⟨D, D2, _, _, rfl, rfl, s3 _ _ hD2, hD3, line_le (by simp; omega), fun q hq => ?_⟩
      have s4 := s2.trans (s3.trans (same_new (o := .lst ((tb.map (·.1)).map V.str ++ (ls.map (·.1)).map V.str)) hq))
      refine k q _ ((s2.trans s3).free hq) s4 ?_
      rw [show (arN tb ls).map V.str = (tb.map (·.1)).map V.str ++ (ls.map (·.1)).map V.str by simp [arN]]
      exact upd_same
theorem ok_is_of_letters (T : Txt K mg t) : FnOk P w K mg base CX0 1 t.f_is_of_letters t.d_is_of_letters ["text"] sp_let := by
  refine T.F_is_of_letters.ok sc_is_of_letters (fun vs H Q E h => ?_) (fun cdv A outer s H vs Q E hr h => ?_)
  · obtain ⟨x, rfl, _⟩ := h
    rfl
  · obtain ⟨x, rfl, lx, k⟩ := h
    refine ⟨_, (pss_one (ps_ret (pe_and (pe_cmpR op_ne (pv 0) pe_str (nomark _)) (pe_one (pe_callB (call_all rfl) (by rfl) T.z_all PyProof.Rows.boot_all (pa_cons (pe_comp (N' := ["sign"]) (ix := (List.replicate 1 none)) rfl (clok_none rfl (by decide +kernel) (by decide +kernel)) (ixok_none rfl) (pi_str (pv 0)) (fun _ _ _ _ => (pg_name (i := 0) nd_comp_4 rfl (Or.inl rfl) (Or.inr rfl))) (fun _ _ _ _ => (pe_chain op_leS op_leS pe_str (pv 0) pe_str))) pa_nil)))))), ?_⟩
    by_cases hx : x = ""
    · have n0 : (!(decide ((V.str x) = V.str ""))) = false := by rw [hx]; decide
      have e : letB x = false := by unfold letB; rw [decide_eq_true hx]; rfl
      refine ⟨_, rfl, rfl, false, congrArg V.bl n0, iteF ?_⟩
      have := k H (Same.refl _)
      rw [e] at this
      exact this
    have n0 : (!(decide ((V.str x) = V.str ""))) = true := by
      rw [decide_eq_false (fun e => hx (by injection e))]; rfl
    refine ⟨_, rfl, rfl, true, congrArg V.bl n0, iteT ?_⟩
    refine ⟨_, rfl, x, rfl, fun D hD => ?_⟩
    have lc : x.cps.size ≤ 4000 := lx
    refine comp_genQ (J := Its x) (D := D) x.cps.size (fun i ys H2 => Same H H2 ∧ H2 D = some (.lst ys) ∧ ys = (((x.cps.toList.take i).map fun c => la c && lz c).map V.bl)) ⟨same_new hD, upd_same, rfl⟩ (fun i ys H2 hi _ => hi) (fun ys H2 _ => rfl) ?_ ?_
    · rintro i ys H2 hi ⟨s2, hD2, rfl⟩ v H3 ⟨rfl, c, hc, rfl⟩
      have hc' : x.cps.toList[i]? = some c := by simpa using hc
      have lt : (((x.cps.toList.take i).map fun c => la c && lz c).map V.bl).length ≤ 4000 := by
        rw [List.length_map, List.length_map, List.length_take]
        omega
      have nx : ∀ b : Bool, b = (la c && lz c) → ((x.cps.toList.take i).map fun c => la c && lz c).map V.bl ++ [V.bl b] = ((x.cps.toList.take (i + 1)).map fun c => la c && lz c).map V.bl := fun b hb => by
        rw [List.take_add_one, hc', Option.toList_some, List.map_append, List.map_append, hb]; rfl
      by_cases h1 : la c = true
      · refine ⟨True.intro, _, rfl, _, _, rfl, rfl, true, congrArg V.bl h1, iteT ⟨_, _, rfl, rfl, hD2, line_lt (by omega), same_fresh s2 hD, upd_same, ?_⟩⟩
        exact nx (lz c) (by rw [h1]; rfl)
      · have h1 : la c = false := by simpa using h1
        refine ⟨True.intro, _, rfl, _, _, rfl, rfl, false, congrArg V.bl h1, iteF ⟨hD2, line_lt (by omega), same_fresh s2 hD, upd_same, ?_⟩⟩
        exact nx false (by rw [h1]; rfl)
    · rintro ys H2 ⟨s2, hD2, rfl⟩
      rw [show x.cps.size = x.cps.toList.length by simp, List.take_length] at hD2
      refine ⟨D, x.cps.toList.map fun c => la c && lz c, rfl, SqL.of hD2, ?_⟩
      have e : letB x = (x.cps.toList.map fun c => la c && lz c).all id := by
        unfold letB
        rw [decide_eq_false hx, List.all_map]
        rfl
      rw [← e]
      exact k H2 s2
theorem ok_is_name (T : Txt K mg t) : FnOk P w K mg base CX0 2 t.f_is_name t.d_is_name ["text"] sp_isn := by
  have G_is_of_letters := ok_is_of_letters (P := P) (w := w) (base := base) T
  refine T.F_is_name.ok sc_is_name (fun vs H Q E h => ?_) (fun cdv A outer s H vs Q E hr h => ?_)
  · obtain ⟨x, rfl, _⟩ := h
    rfl
  · obtain ⟨x, rfl, lx, k⟩ := h
    have lzz : x.length ≤ sizeLine := line_le (by omega)
    refine ⟨_, (pss_one (ps_ret (pe_and (pe_call G_is_of_letters (hr.mono (by omega)) rfl T.m_is_of_letters T.F_is_of_letters.kp T.b_is_of_letters .nil pass0 (pa_cons (pv 0) pa_nil)) (pe_and (pe_cmpR op_le (pe_callB call_len_str (by rfl) T.z_len PySem.boot_len (pa_cons (pv 0) pa_nil)) (pe_globE T.cn_MOST_LETTERS rfl) (nomark _)) (pe_one (pe_cmpR op_notIn_seq (pv 0) (pe_globE T.cn_WORDS_OF_TERMS rfl) (by with_unfolding_all rfl))))))), ?_⟩
    refine ⟨_, rfl, x, rfl, lx, fun H1 s1 => ?_⟩
    have kk := k H1 s1
    by_cases h1 : letB x = true
    · refine ⟨true, congrArg V.bl h1, iteT ?_⟩
      by_cases h2 : x.length ≤ 8
      · have h2' : ((x.length : Nat) : Int) ≤ 8 := by omega
        refine ⟨_, rfl, x, rfl, lzz, _, _, rfl, rfl, true, congrArg V.bl (decide_eq_true h2'), iteT ?_⟩
        refine ⟨_, rfl, t.p_WORDS_OF_TERMS, [.str "if", .str "sum"], rfl, .inr (.inr T.tu_WORDS_OF_TERMS), rfl, rfl, ?_⟩
        have e : nmB x = !(inV (.str x) ((["if", "sum"] : List Str).map V.str)) := by
          unfold nmB
          rw [h1, decide_eq_true h2, inV_str]; rfl
        rw [e] at kk
        exact kk
      · have h2' : ¬ ((x.length : Nat) : Int) ≤ 8 := by omega
        refine ⟨_, rfl, x, rfl, lzz, _, _, rfl, rfl, false, congrArg V.bl (decide_eq_false h2'), iteF ?_⟩
        have e : nmB x = false := by
          unfold nmB
          rw [h1, decide_eq_false h2]; rfl
        rw [e] at kk
        exact kk
    · have h1 : letB x = false := by simpa using h1
      refine ⟨false, congrArg V.bl h1, iteF ?_⟩
      have e : nmB x = false := by unfold nmB; rw [h1]; rfl
      rw [e] at kk
      exact kk
end
end My

set_option Elab.async false
set_option linter.all false
set_option maxRecDepth 100000
set_option maxHeartbeats 4000000
namespace My
open PySem L2
local macro_rules | `(tactic| walk_at "lk") => `(tactic| first | with_reducible exact lk0 | (refine lk1 (by decide +kernel) ?_; walk_at "lk") | rfl)
/-- each is as asked, and comes once -/
def GoodL1 (p : Str → Prop) (ns : List Str) : Prop := ∀ i x, ns[i]? = some x → p x ∧ x ∉ ns.take i
def GoodNs (ns : List Str) : Prop := GoodL1 (fun x => nmB x = true) ns
def GoodOs (kn os : List Str) : Prop := os ≠ [] ∧ GoodL1 (fun x => x ∈ kn) os
def GoodAs (kn ys : List Str) : Prop := ys.length ≤ 3 ∧ GoodL1 (fun x => x ∈ kn) ys
def sp_told (A : Adr) : Sp := fun vs H Q E => ∃ (l : Addr) (ns : List Str), vs = [.ref l] ∧ H l = some (.lst (ns.map V.str)) ∧ ns.length ≤ 500 ∧ OkN ns ∧ (GoodNs ns → ∀ H', Same H H' → Q .non H') ∧ (¬ GoodNs ns → ∀ H', Same H H' → E (.ref A.C_NoName) none H')
def sp_outs (A : Adr) : Sp := fun vs H Q E => ∃ (l k : Addr) (ys kn : List Str), vs = [.ref l, .ref k] ∧ H l = some (.lst (ys.map V.str)) ∧ H k = some (.lst (kn.map V.str)) ∧ ys.length ≤ 500 ∧ OkN ys ∧ (GoodOs kn ys → ∀ H', Same H H' → Q .non H') ∧ (¬ GoodOs kn ys → ∀ H', Same H H' → E (.ref A.C_NoName) none H')
def sp_axs (A : Adr) : Sp := fun vs H Q E => ∃ (l k : Addr) (ys kn : List Str), vs = [.ref l, .ref k] ∧ H l = some (.lst (ys.map V.str)) ∧ H k = some (.lst (kn.map V.str)) ∧ ys.length ≤ 20 ∧ OkN ys ∧ (GoodAs kn ys → ∀ H', Same H H' → Q .non H') ∧ (¬ GoodAs kn ys → ∀ H', Same H H' → E (.ref A.C_NoShape) none H')
theorem good_end {p : Str → Prop} {ns : List Str} (h : ∀ j x, j < ns.length → ns[j]? = some x → p x ∧ x ∉ ns.take j) : GoodL1 p ns := fun i x e => h i x (List.getElem?_eq_some_iff.mp e).1 e
theorem rs_le {ys : List Str} (ok : OkN ys) : reprSum ys ≤ ys.length * 40004 + 3 := by
  unfold reprSum
  refine Nat.add_le_add_right ?_ 3
  induction ys with
  | nil => simp
  | cons y r ih =>
    have h1 := (ok y (.head _)).2
    have h2 := ih fun z hz => ok z (.tail _ hz)
    simp only [List.map_cons, List.sum_cons, List.length_cons]
    omega
theorem slen (a b : Str) : (a ++ b).length = a.length + b.length := Str.length_append _ _
theorem slen0 : (Str.empty : Str).length = 0 := rfl
section
variable {P : Program} {w : World} {K : PySem.W.Frag} {mg : Str → Option Value} {base : Heap} {t : Adr}
theorem ok_look_told_names (T : Txt K mg t) : FnOk P w K mg base (CXF P w) 3 t.f_look_told_names t.d_look_told_names ["names"] (sp_told t) := by
  have G_is_name := ok_is_name (P := P) (w := w) (base := base) T
  refine T.F_look_told_names.okF sc_look_told_names (fun vs H Q E h => ?_) (fun cdv A outer s H vs Q E hr h => ?_)
  · obtain ⟨l, ns, rfl, _⟩ := h
    rfl
  · obtain ⟨l, ns, rfl, hl, ln, ok, kq, ke⟩ := h
    refine ⟨_, (pss_one (ps_for PassesOwn.leaving rfl (pi_enum rfl T.z_enumerate (pa_cons (pv 0) pa_nil)) (pg_tup (n := 2) rfl (pgs_cons (pg_name (i := 1) sc_look_told_names.nd rfl (Or.inl rfl) (Or.inl rfl)) (pgs_cons (pg_name (i := 2) sc_look_told_names.nd rfl (Or.inl rfl) (Or.inl rfl)) pgs_nil)))
        (pss_cons (ps_if (pt_not (pt_val (pe_call G_is_name (hr.mono (by omega)) rfl T.m_is_name T.F_is_name.kp T.b_is_name .nil pass0 (pa_cons (pv 2) pa_nil))))
          (pss_one (ps_raise throwF T.xe_NoName rfl T.m_NoName rfl (pa_cons (pe_fstr (pj_repr (pv 2) (pj_lit pj_nil))) pa_nil)))
          pss_nil)
        (pss_one (ps_if (pt_cmpR op_in_seq (pv 2) (pe_slice sl_list (pv 0) po_none (po_some (pv 1))) (by with_unfolding_all rfl))
          (pss_one (ps_raise throwF T.xe_NoName rfl T.m_NoName rfl (pa_cons (pe_fstr (pj_repr (pv 2) (pj_lit pj_nil))) pa_nil)))
          pss_nil))))), ?_⟩
    refine ⟨_, rfl, l, _, rfl, SqL.of hl, ?_⟩
    refine for_enum (K := K) (a := l) (xs := ns.map V.str) (fun i σ H2 => ∃ o1 o2 : Option V, σ = [some (.ref l), o1, o2] ∧ Same H H2 ∧ ∀ j x, j < i → ns[j]? = some x → nmB x = true ∧ x ∉ ns.take j) ⟨none, none, rfl, Same.refl _, by intro j x h; omega⟩ (fun i σ H2 ⟨_, _, _, s2, _⟩ => SqL.of (s2 _ _ hl)) ?_ ?_
    · rintro i v σ H2 p hv ⟨o1, o2, rfl, s2, gd⟩ hp
      rw [List.getElem?_map] at hv
      obtain ⟨x, hx, rfl⟩ := Option.map_eq_some_iff.mp hv
      have hi : i < ns.length := (List.getElem?_eq_some_iff.mp hx).1
      obtain ⟨okx, lx⟩ := ok x (List.mem_of_getElem? hx)
      have s3 := s2.trans (same_new (o := .tup [.int (i : Nat), .str x]) hp)
      refine ⟨p, _, rfl, SqT.of upd_same, rfl, _, _, rfl, _, _, rfl, rfl, ?_⟩
      refine ⟨_, rfl, x, rfl, lx, fun H4 s4 => ⟨_, rfl, iteBN (fun hb => ?_) (fun hb => ?_)⟩⟩
      · refine ⟨_, rfl, x, rfl, okx, line_le (by rw [slen0]; omega), fun z hz => ⟨line_le ?_, line_le ?_, line_le (by show 1 ≤ 1000000; decide), ke (fun g => ?_) H4 (s3.trans s4)⟩⟩
        · have : (" is no name" : Str).length ≤ 20 := by decide +kernel
          rw [slen, slen, slen0]; omega
        · have : (" is no name" : Str).length ≤ 20 := by decide +kernel
          rw [slen, slen, slen0]; omega
        · have := (g i x hx).1
          rw [this] at hb; cases hb
      have s5 := s3.trans s4
      refine ⟨_, rfl, _, rfl, _, rfl, _, rfl, l, _, rfl, SqL.of (s5 _ _ hl), fun q hq => ?_⟩
      rw [cut_take (Nat.le_of_lt hi)]
      have s6 : Same H4 (upd H4 q (.lst ((ns.take i).map V.str))) := same_new hq
      refine ⟨q, (ns.take i).map V.str, rfl, .inl (SqL.of upd_same), rfl, flat_strs _, _, rfl, ?_⟩
      rw [inV_str]
      refine iteD (fun hin => ?_) (fun hout => ⟨_, _, rfl, s5.trans s6, fun j y hj hy => ?_⟩)
      · refine ⟨_, rfl, x, rfl, okx, line_le (by rw [slen0]; omega), fun z hz => ⟨line_le ?_, line_le ?_, line_le (by show 1 ≤ 1000000; decide), ke (fun g => (g i x hx).2 hin) _ (s5.trans s6)⟩⟩
        · have : (" is told twice" : Str).length ≤ 20 := by decide +kernel
          rw [slen, slen, slen0]; omega
        · have : (" is told twice" : Str).length ≤ 20 := by decide +kernel
          rw [slen, slen, slen0]; omega
      · rcases Nat.lt_or_ge j i with h | h
        · exact gd j y h hy
        · have : j = i := by omega
          subst this
          rw [hx] at hy
          cases hy
          exact ⟨hb, hout⟩
    · rintro σ H2 ⟨o1, o2, rfl, s2, gd⟩
      rw [List.length_map] at gd
      exact kq (good_end gd) H2 s2
theorem ok_look_outs (T : Txt K mg t) : FnOk P w K mg base (CXF P w) 1 t.f_look_outs t.d_look_outs ["outs", "names"] (sp_outs t) := by
  refine T.F_look_outs.okF sc_look_outs (fun vs H Q E h => ?_) (fun cdv A outer s H vs Q E hr h => ?_)
  · obtain ⟨l, kk, ys, kn, rfl, _⟩ := h
    rfl
  · obtain ⟨l, kk, ys, kn, rfl, hl, hk, ly, ok, kq, ke⟩ := h
    refine ⟨_, (pss_cons (ps_if (pt_cmpR op_eq (pe_callB call_len_seq (by rfl) T.z_len PySem.boot_len (pa_cons (pv 0) pa_nil)) pe_int (nomark _))
        (pss_one (ps_raise throwF T.xe_NoName rfl T.m_NoName rfl (pa_cons pe_str pa_nil)))
        pss_nil)
      (pss_one (ps_for PassesOwn.leaving rfl (pi_enum rfl T.z_enumerate (pa_cons (pv 0) pa_nil)) (pg_tup (n := 2) rfl (pgs_cons (pg_name (i := 2) sc_look_outs.nd rfl (Or.inl rfl) (Or.inl rfl)) (pgs_cons (pg_name (i := 3) sc_look_outs.nd rfl (Or.inl rfl) (Or.inl rfl)) pgs_nil)))
        (pss_cons (ps_if (pt_cmpR op_notIn_seq (pv 3) (pv 1) (by with_unfolding_all rfl))
          (pss_one (ps_raise throwF T.xe_NoName rfl T.m_NoName rfl (pa_cons (pe_fstr (pj_lit (pj_repr (pv 3) (pj_lit pj_nil)))) pa_nil)))
          pss_nil)
        (pss_one (ps_if (pt_cmpR op_in_seq (pv 3) (pe_slice sl_list (pv 0) po_none (po_some (pv 2))) (by with_unfolding_all rfl))
          (pss_one (ps_raise throwF T.xe_NoName rfl T.m_NoName rfl (pa_cons (pe_fstr (pj_lit (pj_repr (pv 3) (pj_lit pj_nil)))) pa_nil)))
          pss_nil)))))), ?_⟩
    refine ⟨_, rfl, l, _, rfl, .inl (SqL.of hl), rfl, _, rfl, iteD (fun h0 => ⟨line_le (by show 1 ≤ 1000000; decide), ke (fun g => g.1 (List.eq_nil_of_length_eq_zero ?_)) _ (Same.refl _)⟩) (fun h0 => ?_)⟩
    · have h0 : ((ys.map V.str).length : Int) = 0 := by injection h0
      rw [List.length_map] at h0; omega
    have ne : ys ≠ [] := fun z => h0 (by rw [z]; rfl)
    refine ⟨_, rfl, l, _, rfl, SqL.of hl, ?_⟩
    refine for_enum (K := K) (a := l) (xs := ys.map V.str) (fun i σ H2 => ∃ o1 o2 : Option V, σ = [some (.ref l), some (.ref kk), o1, o2] ∧ Same H H2 ∧ ∀ j x, j < i → ys[j]? = some x → x ∈ kn ∧ x ∉ ys.take j) ⟨none, none, rfl, Same.refl _, by intro j x h; omega⟩ (fun i σ H2 ⟨_, _, _, s2, _⟩ => SqL.of (s2 _ _ hl)) ?_ ?_
    · rintro i v σ H2 p hv ⟨o1, o2, rfl, s2, gd⟩ hp
      rw [List.getElem?_map] at hv
      obtain ⟨x, hx, rfl⟩ := Option.map_eq_some_iff.mp hv
      have hi : i < ys.length := (List.getElem?_eq_some_iff.mp hx).1
      obtain ⟨okx, lx⟩ := ok x (List.mem_of_getElem? hx)
      have s3 := s2.trans (same_new (o := .tup [.int (i : Nat), .str x]) hp)
      refine ⟨p, _, rfl, SqT.of upd_same, rfl, _, _, rfl, _, _, rfl, rfl, ?_⟩
      refine ⟨_, rfl, _, rfl, kk, _, rfl, .inl (SqL.of (s3 _ _ hk)), rfl, flat_strs _, _, rfl, ?_⟩
      rw [inV_str]
      refine iteND (fun hno => ?_) (fun hyes => ?_)
      · refine ⟨line_le ?_, _, rfl, x, rfl, okx, line_le ?_, fun z hz => ⟨line_le ?_, line_le ?_, line_le (by show 1 ≤ 1000000; decide), ke (fun g => hno (g.2 i x hx).1) _ s3⟩⟩
        · have : ("the out " : Str).length ≤ 50 := by decide +kernel
          have : (" is no table and no let" : Str).length ≤ 50 := by decide +kernel
          simp only [slen, slen0]; omega
        · have : ("the out " : Str).length ≤ 50 := by decide +kernel
          have : (" is no table and no let" : Str).length ≤ 50 := by decide +kernel
          simp only [slen, slen0]; omega
        · have : ("the out " : Str).length ≤ 50 := by decide +kernel
          have : (" is no table and no let" : Str).length ≤ 50 := by decide +kernel
          simp only [slen, slen0]; omega
        · have : ("the out " : Str).length ≤ 50 := by decide +kernel
          have : (" is no table and no let" : Str).length ≤ 50 := by decide +kernel
          simp only [slen, slen0]; omega
      refine ⟨_, rfl, _, rfl, _, rfl, _, rfl, l, _, rfl, SqL.of (s3 _ _ hl), fun q hq => ?_⟩
      rw [cut_take (Nat.le_of_lt hi)]
      have s6 := same_new (o := .lst ((ys.take i).map V.str)) hq
      refine ⟨q, (ys.take i).map V.str, rfl, .inl (SqL.of upd_same), rfl, flat_strs _, _, rfl, ?_⟩
      rw [inV_str]
      refine iteD (fun hin => ?_) (fun hout => ⟨_, _, rfl, s3.trans s6, fun j y hj hy => ?_⟩)
      · refine ⟨line_le ?_, _, rfl, x, rfl, okx, line_le ?_, fun z hz => ⟨line_le ?_, line_le ?_, line_le (by show 1 ≤ 1000000; decide), ke (fun g => (g.2 i x hx).2 hin) _ (s3.trans s6)⟩⟩
        · have : ("the out " : Str).length ≤ 50 := by decide +kernel
          have : (" is told twice" : Str).length ≤ 50 := by decide +kernel
          simp only [slen, slen0]; omega
        · have : ("the out " : Str).length ≤ 50 := by decide +kernel
          have : (" is told twice" : Str).length ≤ 50 := by decide +kernel
          simp only [slen, slen0]; omega
        · have : ("the out " : Str).length ≤ 50 := by decide +kernel
          have : (" is told twice" : Str).length ≤ 50 := by decide +kernel
          simp only [slen, slen0]; omega
        · have : ("the out " : Str).length ≤ 50 := by decide +kernel
          have : (" is told twice" : Str).length ≤ 50 := by decide +kernel
          simp only [slen, slen0]; omega
      · rcases Nat.lt_or_ge j i with h | h
        · exact gd j y h hy
        · have : j = i := by omega
          subst this
          rw [hx] at hy
          cases hy
          exact ⟨hyes, hout⟩
    · rintro σ H2 ⟨o1, o2, rfl, s2, gd⟩
      rw [List.length_map] at gd
      exact kq ⟨ne, good_end gd⟩ H2 s2
theorem ok_look_axes (T : Txt K mg t) : FnOk P w K mg base (CXF P w) 1 t.f_look_axes t.d_look_axes ["axes", "known"] (sp_axs t) := by
  refine T.F_look_axes.okF sc_look_axes (fun vs H Q E h => ?_) (fun cdv A outer s H vs Q E hr h => ?_)
  · obtain ⟨l, kk, ys, kn, rfl, _⟩ := h
    rfl
  · obtain ⟨l, kk, ys, kn, rfl, hl, hk, ly, ok, kq, ke⟩ := h
    refine ⟨_, (pss_cons (ps_if (pt_cmpR op_gt (pe_callB call_len_seq (by rfl) T.z_len PySem.boot_len (pa_cons (pv 0) pa_nil)) (pe_globE T.cn_MOST_AXES rfl) (nomark _))
        (pss_one (ps_raise throwF T.xe_NoShape rfl T.m_NoShape rfl (pa_cons (pe_fstr (pj_reprL hr.gd hr.units0 (pv 0) (pj_lit pj_nil))) pa_nil)))
        pss_nil)
      (pss_one (ps_for PassesOwn.leaving rfl (pi_enum rfl T.z_enumerate (pa_cons (pv 0) pa_nil)) (pg_tup (n := 2) rfl (pgs_cons (pg_name (i := 2) sc_look_axes.nd rfl (Or.inl rfl) (Or.inl rfl)) (pgs_cons (pg_name (i := 3) sc_look_axes.nd rfl (Or.inl rfl) (Or.inl rfl)) pgs_nil)))
        (pss_cons (ps_if (pt_cmpR op_notIn_seq (pv 3) (pv 1) (by with_unfolding_all rfl))
          (pss_one (ps_raise throwF T.xe_NoShape rfl T.m_NoShape rfl (pa_cons (pe_fstr (pj_repr (pv 3) (pj_lit pj_nil))) pa_nil)))
          pss_nil)
        (pss_one (ps_if (pt_cmpR op_in_seq (pv 3) (pe_slice sl_list (pv 0) po_none (po_some (pv 2))) (by with_unfolding_all rfl))
          (pss_one (ps_raise throwF T.xe_NoShape rfl T.m_NoShape rfl (pa_cons (pe_fstr (pj_lit (pj_repr (pv 3) (pj_lit pj_nil)))) pa_nil)))
          pss_nil)))))), ?_⟩
    have rs := rs_le ok
    refine ⟨_, rfl, l, _, rfl, .inl (SqL.of hl), _, _, rfl, rfl, _, rfl, iteD (fun h0 => ?_) (fun h0 => ?_)⟩
    · have h3 : 3 < ys.length := by
        have h0 : (3 : Int) < ((ys.map V.str).length : Nat) := h0
        rw [List.length_map] at h0; omega
      have lit : (" are too many axes" : Str).length ≤ 30 := by decide +kernel
      refine ⟨_, rfl, l, ys, rfl, hl, (fun z => by rw [z] at h3; simp at h3), (fun y hy => (ok y hy).1), line_le (by rw [slen0]; omega), fun z hz => ⟨line_le ?_, line_le ?_, line_le (by show 1 ≤ 1000000; decide), ke (fun g => by have := g.1; omega) _ (Same.refl _)⟩⟩
      · simp only [slen, slen0]; omega
      · simp only [slen, slen0]; omega
    have l3 : ys.length ≤ 3 := by
      have h0 : ¬ (3 : Int) < ((ys.map V.str).length : Nat) := h0
      rw [List.length_map] at h0; omega
    refine ⟨_, rfl, l, _, rfl, SqL.of hl, ?_⟩
    refine for_enum (K := K) (a := l) (xs := ys.map V.str) (fun i σ H2 => ∃ o1 o2 : Option V, σ = [some (.ref l), some (.ref kk), o1, o2] ∧ Same H H2 ∧ ∀ j x, j < i → ys[j]? = some x → x ∈ kn ∧ x ∉ ys.take j) ⟨none, none, rfl, Same.refl _, by intro j x h; omega⟩ (fun i σ H2 ⟨_, _, _, s2, _⟩ => SqL.of (s2 _ _ hl)) ?_ ?_
    · rintro i v σ H2 p hv ⟨o1, o2, rfl, s2, gd⟩ hp
      rw [List.getElem?_map] at hv
      obtain ⟨x, hx, rfl⟩ := Option.map_eq_some_iff.mp hv
      have hi : i < ys.length := (List.getElem?_eq_some_iff.mp hx).1
      obtain ⟨okx, lx⟩ := ok x (List.mem_of_getElem? hx)
      have s3 := s2.trans (same_new (o := .tup [.int (i : Nat), .str x]) hp)
      refine ⟨p, _, rfl, SqT.of upd_same, rfl, _, _, rfl, _, _, rfl, rfl, ?_⟩
      refine ⟨_, rfl, _, rfl, kk, _, rfl, .inl (SqL.of (s3 _ _ hk)), rfl, flat_strs _, _, rfl, ?_⟩
      rw [inV_str]
      refine iteND (fun hno => ?_) (fun hyes => ?_)
      · refine ⟨_, rfl, x, rfl, okx, line_le ?_, fun z hz => ⟨line_le ?_, line_le ?_, line_le (by show 1 ≤ 1000000; decide), ke (fun g => hno (g.2 i x hx).1) _ s3⟩⟩
        · have : (" is no axis of the program" : Str).length ≤ 50 := by decide +kernel
          simp only [slen, slen0]; omega
        · have : (" is no axis of the program" : Str).length ≤ 50 := by decide +kernel
          simp only [slen, slen0]; omega
        · have : (" is no axis of the program" : Str).length ≤ 50 := by decide +kernel
          simp only [slen, slen0]; omega
      refine ⟨_, rfl, _, rfl, _, rfl, _, rfl, l, _, rfl, SqL.of (s3 _ _ hl), fun q hq => ?_⟩
      rw [cut_take (Nat.le_of_lt hi)]
      have s6 := same_new (o := .lst ((ys.take i).map V.str)) hq
      refine ⟨q, (ys.take i).map V.str, rfl, .inl (SqL.of upd_same), rfl, flat_strs _, _, rfl, ?_⟩
      rw [inV_str]
      refine iteD (fun hin => ?_) (fun hout => ⟨_, _, rfl, s3.trans s6, fun j y hj hy => ?_⟩)
      · refine ⟨line_le ?_, _, rfl, x, rfl, okx, line_le ?_, fun z hz => ⟨line_le ?_, line_le ?_, line_le (by show 1 ≤ 1000000; decide), ke (fun g => (g.2 i x hx).2 hin) _ (s3.trans s6)⟩⟩
        · have : ("the axis " : Str).length ≤ 50 := by decide +kernel
          have : (" comes twice in one list" : Str).length ≤ 50 := by decide +kernel
          simp only [slen, slen0]; omega
        · have : ("the axis " : Str).length ≤ 50 := by decide +kernel
          have : (" comes twice in one list" : Str).length ≤ 50 := by decide +kernel
          simp only [slen, slen0]; omega
        · have : ("the axis " : Str).length ≤ 50 := by decide +kernel
          have : (" comes twice in one list" : Str).length ≤ 50 := by decide +kernel
          simp only [slen, slen0]; omega
        · have : ("the axis " : Str).length ≤ 50 := by decide +kernel
          have : (" comes twice in one list" : Str).length ≤ 50 := by decide +kernel
          simp only [slen, slen0]; omega
      · rcases Nat.lt_or_ge j i with h | h
        · exact gd j y h hy
        · have : j = i := by omega
          subst this
          rw [hx] at hy
          cases hy
          exact ⟨hyes, hout⟩
    · rintro σ H2 ⟨o1, o2, rfl, s2, gd⟩
      rw [List.length_map] at gd
      exact kq ⟨l3, good_end gd⟩ H2 s2
end
end My

set_option Elab.async false
set_option linter.all false
set_option maxRecDepth 100000
set_option maxHeartbeats 4000000
namespace My
open PySem L2
local macro_rules | `(tactic| walk_at "lk") => `(tactic| first | with_reducible exact lk0 | (refine lk1 (by decide +kernel) ?_; walk_at "lk") | rfl)
theorem valV_no {k : Key} : ∀ {l : List (Key × V)}, k ∉ l.map (·.1) → valV l k = none
  | [], _ => rfl
  | p :: r, h => by
    have h1 : ¬ p.1 = k := fun z => h (by rw [← z]; exact .head _)
    have h2 := valV_no (l := r) fun z => h (.tail _ z)
    unfold valV at h2 ⊢
    rw [List.find?_cons]
    simp only [decide_eq_false h1]
    exact h2
theorem mergeK_nodup : ∀ {ws acc : List (Key × V)}, ((acc ++ ws).map (·.1)).Nodup → mergeK acc ws = acc ++ ws
  | [], acc, _ => by rw [List.append_nil]; rfl
  | w :: r, acc, h => by
    have hn : w.1 ∉ acc.map (·.1) := fun z => by
      rw [List.map_append, List.map_cons] at h
      exact (List.nodup_append.mp h).2.2 _ z _ (.head _) rfl
    show mergeK (putK acc w.1 w.2) r = _
    rw [putK_new w.2 (valV_no hn), mergeK_nodup (by rw [List.append_assoc]; exact h), List.append_assoc]
    rfl
structure NmIn (ax : List (Str × Int)) (tb : List (Str × List Str)) (ls : List Lt3) (os : List Str) : Prop where
  la : ax.length ≤ 100
  lt : tb.length ≤ 100
  ll : ls.length ≤ 100
  lo : os.length ≤ 500
  on : OkN (axN ax ++ arN tb ls)
  oo : OkN os
  t : ∀ e ∈ arr tb ls, e.2.length ≤ 20 ∧ OkN e.2
def GdN (ax : List (Str × Int)) (tb : List (Str × List Str)) (ls : List Lt3) (os : List Str) : Prop := GoodNs (axN ax ++ arN tb ls) ∧ GoodOs (arN tb ls) os
def GdS (ax : List (Str × Int)) (tb : List (Str × List Str)) (ls : List Lt3) : Prop := ∀ e ∈ arr tb ls, GoodAs (axN ax) e.2
def sp_names (A : Adr) : Sp := fun vs H Q E => ∃ (p : Addr) (wh : Int) (ax : List (Str × Int)) (tb : List (Str × List Str)) (ls : List Lt3) (os : List Str), vs = [.ref p] ∧ PrAt A H p wh ax tb ls os ∧ NmIn ax tb ls os ∧
  (GdN ax tb ls os → GdS ax tb ls → ∀ H', Same H H' → Q .non H') ∧ (¬ GdN ax tb ls os → ∀ H', Same H H' → E (.ref A.C_NoName) none H') ∧ (GdN ax tb ls os → ¬ GdS ax tb ls → ∀ H', Same H H' → E (.ref A.C_NoShape) none H')
def sp_lookX (A : Adr) : Sp := fun vs H Q E => ∃ (p : Addr) (wh : Int) (ax : List (Str × Int)) (tb : List (Str × List Str)) (ls : List Lt3) (os : List Str), vs = [.ref p] ∧ PrAt A H p wh ax tb ls os ∧ NmIn ax tb ls os ∧ ¬ (GdN ax tb ls os ∧ GdS ax tb ls) ∧
  (¬ GdN ax tb ls os → ∀ H', Same H H' → E (.ref A.C_NoName) none H') ∧ (GdN ax tb ls os → ¬ GdS ax tb ls → ∀ H', Same H H' → E (.ref A.C_NoShape) none H')
theorem good_nd {p : Str → Prop} {ns : List Str} (h : GoodL1 p ns) : ns.Nodup := by
  rw [List.Nodup, List.pairwise_iff_getElem]
  intro i j hi hj hij e
  refine (h j ns[j] (List.getElem?_eq_getElem hj)).2 ?_
  rw [← e]
  exact List.mem_iff_getElem.mpr ⟨i, by rw [List.length_take]; omega, List.getElem_take⟩
theorem arrw_keys {S : Addr → Prop} {H : Hp} : ∀ {ws : List (Key × V)} {es : List (Str × List Str)}, ArrW S H ws es → ws.map (·.1) = es.map fun e => (Sum.inr e.1 : Key)
  | _, _, .nil => rfl
  | _, _, .cons ⟨h, _⟩ t => by rw [List.map_cons, List.map_cons, arrw_keys t, h]
theorem arr_names (tb : List (Str × List Str)) (ls : List Lt3) : (arr tb ls).map (·.1) = arN tb ls := by
  unfold arr arN
  rw [List.map_append, List.map_map]
  rfl
section
variable {P : Program} {w : World} {K : PySem.W.Frag} {mg : Str → Option Value} {base : Heap} {t : Adr}
theorem ok_look_names (T : Txt K mg t) : FnOk P w K mg base (CXF P w) 4 t.f_look_names t.d_look_names ["program"] (sp_names t) := by
  have G_array_names := ok_array_names (P := P) (w := w) (base := base) T
  have G_arrays_of := ok_arrays_of (P := P) (w := w) (base := base) T
  have G_axis_names := ok_axis_names (P := P) (w := w) (base := base) T
  have G_look_axes := ok_look_axes (P := P) (w := w) (base := base) T
  have G_look_outs := ok_look_outs (P := P) (w := w) (base := base) T
  have G_look_told_names := ok_look_told_names (P := P) (w := w) (base := base) T
  refine T.F_look_names.okF sc_look_names (fun vs H Q E h => ?_) (fun cdv A outer s H vs Q E hr h => ?_)
  · obtain ⟨p, wh, ax, tb, ls, os, rfl, _⟩ := h
    rfl
  · obtain ⟨p, wh, ax, tb, ls, os, rfl, pr, ok, kQ, kN, kS⟩ := h
    obtain ⟨dx, a, tt, l, o, e, ra, rt, ⟨xl, hl, rl⟩, ro⟩ := pr.ob
    obtain ⟨o2, eo, ho⟩ := rep_S ro
    cases eo
    have la := ok.la
    have lt := ok.lt
    have ll := ok.ll
    refine ⟨_, (pss_cons (ps_expr (pe_call G_look_told_names (hr.mono (by omega)) rfl T.m_look_told_names T.F_look_told_names.kp T.b_look_told_names .nil passF (pa_cons (pe_op op_cat (pe_call G_axis_names (hr.mono (by omega)) rfl T.m_axis_names T.F_axis_names.kp T.b_axis_names .nil pass0 (pa_cons (pv 0) pa_nil)) (pe_call G_array_names (hr.mono (by omega)) rfl T.m_array_names T.F_array_names.kp T.b_array_names .nil pass0 (pa_cons (pv 0) pa_nil))) pa_nil)))
      (pss_cons (ps_expr (pe_call G_look_outs (hr.mono (by omega)) rfl T.m_look_outs T.F_look_outs.kp T.b_look_outs .nil passF (pa_cons (pe_fld (pv 0) rfl) (pa_cons (pe_call G_array_names (hr.mono (by omega)) rfl T.m_array_names T.F_array_names.kp T.b_array_names .nil pass0 (pa_cons (pv 0) pa_nil)) pa_nil))))
      (pss_cons (ps_for PassesOwn.leaving rfl (pi_values (pe_bm0 PySem.F.plainAttrs_dict PySem.F.slot_dict_values PySem.F.type_dict_values mt_values (pe_call G_arrays_of (hr.mono (by omega)) rfl T.m_arrays_of T.F_arrays_of.kp T.b_arrays_of .nil pass0 (pa_cons (pv 0) pa_nil)))) (pg_name (i := 1) sc_look_names.nd rfl (Or.inl rfl) (Or.inl rfl))
        (pss_one (ps_expr (pe_call G_look_axes (hr.mono (by omega)) rfl T.m_look_axes T.F_look_axes.kp T.b_look_axes .nil passF (pa_cons (pv 1) (pa_cons (pe_call G_axis_names (hr.mono (by omega)) rfl T.m_axis_names T.F_axis_names.kp T.b_axis_names .nil pass0 (pa_cons (pv 0) pa_nil)) pa_nil))))))
      (pss_thaw pss_nil)))), ?_⟩
    refine ⟨_, rfl, p, wh, ax, tb, ls, os, rfl, pr, la, fun q1 H1 hq1 s1 h1 => ?_⟩
    refine ⟨_, rfl, p, wh, ax, tb, ls, os, rfl, pr.same s1, lt, ll, fun q2 H2 hq2 s2 h2 => ?_⟩
    have z1 : ((axN ax).map V.str ++ (arN tb ls).map V.str) = (axN ax ++ arN tb ls).map V.str := by simp
    have ln : (axN ax ++ arN tb ls).length ≤ 300 := by simp [axN, arN]; omega
    refine ⟨q1, q2, _, _, rfl, rfl, s2 _ _ h1, h2, line_le (by rw [List.length_append] at ln; rw [List.length_map, List.length_map]; omega), fun q3 hq3 => ?_⟩
    rw [z1]
    have s3 := (s1.trans s2).trans (same_new (o := .lst ((axN ax ++ arN tb ls).map V.str)) hq3)
    refine ⟨q3, _, rfl, upd_same, by omega, ok.on, fun g1 H4 s4 => ?_, fun g1 H4 s4 => kN (fun z => g1 z.1) H4 (s3.trans s4)⟩
    have s5 := s3.trans s4
    refine ⟨_, rfl, p, _, dx, _, _, rfl, s5 _ _ e, T.cl_Program, T.na_Program_outs, (by walk_at "lk"), _, rfl, p, wh, ax, tb, ls, os, rfl, pr.same s5, lt, ll, fun q6 H6 hq6 s6 h6 => ?_⟩
    have s7 := s5.trans s6
    refine ⟨o, q6, os, _, rfl, s7 _ _ ho, h6, ok.lo, ok.oo, fun g2 H8 s8 => ?_, fun g2 H8 s8 => kN (fun z => g2 z.2) H8 (s7.trans s8)⟩
    have s9 := s7.trans s8
    have gN : GdN ax tb ls os := ⟨g1, g2⟩
    refine ⟨_, rfl, p, wh, ax, tb, ls, os, rfl, pr.same s9, by omega, by omega, fun qd ws Hd hqd sd hd arw => ?_⟩
    have nk : mergeK [] ws = ws := by
      refine mergeK_nodup ?_
      rw [List.nil_append, arrw_keys arw]
      have h1 : ((arr tb ls).map (·.1)).Nodup := by
        rw [arr_names]
        exact (List.nodup_append.mp (good_nd g1)).2.1
      rw [List.Nodup, List.pairwise_map] at h1 ⊢
      exact h1.imp fun hne z => hne (by injection z)
    rw [nk] at hd
    have s10 := s9.trans sd
    refine ⟨.inr (.inr (.inl ⟨rfl, .inl ⟨ws, hd⟩⟩)), qd, ws, rfl, rfl, hd, fun pv hpv => ?_⟩
    have nv : qd ≠ pv := fun z => by subst z; rw [hd] at hpv; cases hpv
    refine ⟨pv, qd, ws, rfl, upd_same, by rw [upd_ne nv]; exact hd, fun ob => ?_⟩
    have frq : ∀ b u, b ≠ qd → Hd b = some u → upd (upd Hd pv (viewV pv qd)) qd (.frz ob (.dK ws)) b = some u := fun b u hb e => by
      rw [upd_ne hb]
      exact same_new hpv _ _ e
    have nq : ∀ b u, H b = some u → b ≠ qd := fun b u e z => by
      subst z
      have := s9 _ _ e
      rw [this] at hqd
      cases hqd
    have S11 : Same H (upd (upd Hd pv (viewV pv qd)) qd (.frz ob (.dK ws))) := fun b u e => frq b u (nq b u e) (s10 _ _ e)
    refine for_values (a := qd) (o := ob) (kvs := ws) (fun i σ H2 => ∃ o1 : Option V, σ = [some (.ref p), o1] ∧ Same (upd (upd Hd pv (viewV pv qd)) qd (.frz ob (.dK ws))) H2 ∧ ∀ j e, j < i → (arr tb ls)[j]? = some e → GoodAs (axN ax) e.2) ⟨none, rfl, Same.refl _, by intro j e h; omega⟩ (fun i σ H2 ⟨_, _, s2, _⟩ => s2 _ _ upd_same) ?_ ?_
    · rintro i kk v σ H2 hkv ⟨o1, rfl, s2, gd⟩
      obtain ⟨ee, hee, _, c, ec, _, hc⟩ := pget arw hkv
      have ec : v = .ref c := ec
      subst ec
      have cq : c ≠ qd := ne_of hc hd (by intro z; cases z)
      have hc2 := s2 _ _ (frq _ _ cq hc)
      obtain ⟨l20, okys⟩ := ok.t ee (List.mem_of_getElem? hee)
      refine ⟨_, rfl, _, rfl, p, wh, ax, tb, ls, os, rfl, pr.same (S11.trans s2), la, fun q3 H3 hq3 s3 h3 => ?_⟩
      refine ⟨c, q3, ee.2, _, rfl, s3 _ _ hc2, h3, l20, okys, fun g H4 s4 => ⟨_, rfl, s2.trans (s3.trans s4), fun j e hj he => ?_⟩, fun g H4 s4 => kS gN (fun z => g (z ee (List.mem_of_getElem? hee))) H4 (S11.trans (s2.trans (s3.trans s4)))⟩
      rcases Nat.lt_or_ge j i with h | h
      · exact gd j e h he
      · have : j = i := by omega
        subst this
        rw [hee] at he
        cases he
        exact g
    · rintro σ H2 ⟨o1, rfl, s2, gd⟩
      have hq0 : H qd = none := s9.free hqd
      refine ⟨qd, ob, ws, s2 _ _ upd_same, fun o' u' z => ?_, kQ gN (fun e he => ?_) _ (same_fresh (S11.trans s2) hq0)⟩
      · have z' : H qd = some _ := z
        rw [hq0] at z'
        cases z'
      · obtain ⟨j, hj, e2⟩ := List.mem_iff_getElem.mp he
        refine gd j e ?_ (by rw [List.getElem?_eq_getElem hj, e2])
        rw [Paired.length arw]
        exact hj
theorem ok_look (T : Txt K mg t) : FnOk P w K mg base (CXF P w) 5 t.f_look t.d_look ["program"] (sp_lookX t) := by
  have G_look_names := ok_look_names (P := P) (w := w) (base := base) T
  refine T.F_look.okF sc_look (fun vs H Q E h => ?_) (fun cdv A outer s H vs Q E hr h => ?_)
  · obtain ⟨p, wh, ax, tb, ls, os, rfl, _⟩ := h
    rfl
  · obtain ⟨p, wh, ax, tb, ls, os, rfl, pr, ok, bad, kN, kS⟩ := h
    refine ⟨_, (pss_cons (ps_expr (pe_call G_look_names (hr.mono (by omega)) rfl T.m_look_names T.F_look_names.kp T.b_look_names .nil passF (pa_cons (pv 0) pa_nil)))
      (pss_cons ps_never
      (pss_cons ps_never
      (pss_one ps_never)))), ?_⟩
    exact ⟨_, rfl, p, wh, ax, tb, ls, os, rfl, pr, ok, fun g1 g2 => (bad ⟨g1, g2⟩).elim, kN, kS⟩
end
end My

set_option Elab.async false
set_option linter.all false
set_option maxRecDepth 100000
set_option maxHeartbeats 4000000
namespace My
open PySem L2
local macro_rules | `(tactic| walk_at "lk") => `(tactic| first | with_reducible exact lk0 | (refine lk1 (by decide +kernel) ?_; walk_at "lk") | rfl)
/-- all but r stays -/
def KBx (r : Addr) (H H' : Hp) : Prop := ∀ b o, b ≠ r → H b = some o → H' b = some o
theorem KBx.refl {r : Addr} {H : Hp} : KBx r H H := fun _ _ _ e => e
theorem KBx.of {r : Addr} {H H' : Hp} (s : Same H H') : KBx r H H' := fun _ _ _ e => s _ _ e
theorem KBx.trans {r : Addr} {H H' H2 : Hp} (a : KBx r H H') (b : KBx r H' H2) : KBx r H H2 := fun p o n e => b _ _ n (a _ _ n e)
theorem KBx.upd {r : Addr} {H : Hp} {o : HO} : KBx r H (upd H r o) := fun p u n e => by rw [upd_ne n]; exact e
theorem ix_mod {n : Nat} {p : Int} (h : 0 < n) : ixN n (p % (n : Int)) = some (p % (n : Int)).toNat := by
  unfold ixN
  rw [if_pos (Int.emod_nonneg _ (by omega)), if_pos (Int.emod_lt_of_pos _ (by omega))]
theorem sj_ok : ∀ (l : List Str), (∀ x ∈ l, PyData.strOk x = true ∧ x.length = 1) → PyData.strOk (Str.join "" l) = true ∧ (Str.join "" l).length ≤ l.length
  | [], _ => ⟨by decide +kernel, Nat.le_of_eq rfl⟩
  | [x], h => ⟨(h x (.head _)).1, by show x.length ≤ 1; rw [(h x (.head _)).2]; exact Nat.le_refl _⟩
  | x :: y :: r, h => by
    obtain ⟨h1, h2⟩ := sj_ok (y :: r) fun z hz => h z (.tail _ hz)
    obtain ⟨h3, h4⟩ := h x (.head _)
    show PyData.strOk (x ++ "" ++ Str.join "" (y :: r)) = true ∧ (x ++ "" ++ Str.join "" (y :: r)).length ≤ _
    refine ⟨ok_app (ok_app h3 (by decide +kernel)) h1, ?_⟩
    have e0 : ("" : Str).length = 0 := rfl
    rw [slen, slen, h4, e0, List.length_cons]
    omega
theorem tj_ok {l : List Str} (h : ∀ x ∈ l, PyData.strOk x = true ∧ x.length = 1) (hl : l.length ≤ 100) : PyData.strOk (Txt.join "" l) = true ∧ (Txt.join "" l).length ≤ 100 ∧ (l.map (·.length)).sum + l.length * ("" : Str).length ≤ 16777216 := by
  have e : Txt.join "" l = Str.join "" l := StrLaws.glued_eq_join _ _
  obtain ⟨h1, h2⟩ := sj_ok l h
  have hs : (l.map (·.length)).sum ≤ l.length := by
    clear hl h1 h2 e
    induction l with
    | nil => simp
    | cons x r ih =>
      have := ih fun z hz => h z (.tail _ hz)
      have := (h x (.head _)).2
      simp only [List.map_cons, List.sum_cons, List.length_cons]
      omega
  have e0 : ("" : Str).length = 0 := rfl
  rw [e]
  exact ⟨h1, by omega, by rw [e0]; omega⟩
abbrev oth : Str := " !\"#$&'()*+,-./0123456789:;<=>?@ABCDEFGHIJKLMNOPQRSTUVWXYZ[\\]^_`{|}~"
theorem oth_len : oth.cps.toList.length = 68 := by decide +kernel
theorem oth_len' : oth.length = 68 := by decide +kernel
theorem oth_ok : ∀ c ∈ oth.cps.toList, c < 0x110000 := by decide +kernel
def sp_bad : Sp := fun vs H Q _ => ∃ c : Int, vs = [.int c] ∧ ∀ (z : Str) (H' : Hp), OkX z → Same H H' → Q (.str z) H'
def sp_spn : Sp := fun vs H Q _ => ∃ (way place cell seed : Int) (n : Addr) (nm : List Str), vs = [.int way, .ref n, .int place, .int cell, .int seed] ∧ H n = some (.lst (nm.map V.str)) ∧ nm.length ≤ 100 ∧ OkN nm ∧
  ∀ (nm' : List Str) (H' : Hp), nm'.length = nm.length → OkN nm' → H' n = some (.lst (nm'.map V.str)) → KBx n H H' → Q .non H'
def sp_spo : Sp := fun vs H Q _ => ∃ (way place cell seed : Int) (n o : Addr) (nm os : List Str), vs = [.int way, .ref n, .ref o, .int place, .int cell, .int seed] ∧ H n = some (.lst (nm.map V.str)) ∧ n ≠ o ∧ nm.length ≤ 100 ∧ OkN nm ∧ H o = some (.lst (os.map V.str)) ∧ os.length ≤ 100 ∧ OkN os ∧
  ∀ (os' : List Str) (H' : Hp), os'.length ≤ os.length + 2 → OkN os' → H' o = some (.lst (os'.map V.str)) → KBx o H H' → Q .non H'
def sp_spa : Sp := fun vs H Q _ => ∃ (way place cell seed : Int) (n l : Addr) (nm : List Str) (cs : List Addr) (b : Nat), vs = [.int way, .ref n, .ref l, .int place, .int cell, .int seed] ∧ H n = some (.lst (nm.map V.str)) ∧ nm.length ≤ 100 ∧ OkN nm ∧ H l = some (.lst (cs.map V.ref)) ∧ cs.length ≤ 100 ∧ 5 ≤ b ∧ b ≤ 10 ∧
  (∀ c ∈ cs, c ≠ n ∧ c ≠ l ∧ ∃ ys : List Str, H c = some (.lst (ys.map V.str)) ∧ ys.length ≤ b ∧ OkN ys) ∧
  ∀ H' : Hp, (∀ p o, p ∉ cs → H p = some o → H' p = some o) → (∀ c ∈ cs, ∃ ys : List Str, H' c = some (.lst (ys.map V.str)) ∧ ys.length ≤ b + 2 ∧ OkN ys) → Q .non H'
theorem okn_app {a b : List Str} (h : OkN a) (g : OkN b) : OkN (a ++ b) := fun x hx => (List.mem_append.mp hx).elim (h x) (g x)
theorem okn_ins {a : List Str} {z : Str} (k : Nat) (h : OkN a) (g : OkX z) : OkN (a.take k ++ z :: a.drop k) := fun x hx => by
  rcases List.mem_append.mp hx with hx | hx
  · exact h x (List.mem_of_mem_take hx)
  · rcases List.mem_cons.mp hx with hx | hx
    · rw [hx]; exact g
    · exact h x (List.mem_of_mem_drop hx)
theorem ins_map {a : List Str} {z : Str} (k : Nat) : (a.map V.str).take k ++ V.str z :: (a.map V.str).drop k = (a.take k ++ z :: a.drop k).map V.str := by
  rw [List.map_append, List.map_cons, List.map_take, List.map_drop]
theorem ins_len {a : List Str} {z : Str} (k : Nat) : (a.take k ++ z :: a.drop k).length = a.length + 1 := by
  simp only [List.length_append, List.length_cons, List.length_take, List.length_drop]
  omega
section
variable {P : Program} {w : World} {K : PySem.W.Frag} {mg : Str → Option Value} {base : Heap} {t : Adr}
theorem ok_l_bad (T : Txt K mg t) : FnOk P w K mg base CX0 1 t.f_l_bad t.d_l_bad ["_law_cell_here"] sp_bad := by
  refine T.F_l_bad.ok sc_l_bad (fun vs H Q E h => ?_) (fun cdv A outer s H vs Q E hr h => ?_)
  · obtain ⟨c, rfl, _⟩ := h
    rfl
  · obtain ⟨c0, rfl, k⟩ := h
    refine ⟨_, (pss_cons (ps_set (i := 1) sc_l_bad.nd rfl (Or.inr rfl) pe_str)
      (pss_cons (ps_set (i := 2) sc_l_bad.nd rfl (Or.inl rfl) pe_str)
      (pss_cons (ps_set (i := 3) sc_l_bad.nd rfl (Or.inl rfl) (pe_op op_mod (pv 0) pe_int))
      (pss_cons (ps_set (i := 0) sc_l_bad.nd rfl (Or.inr rfl) (pe_op op_fdiv (pv 0) pe_int))
      (pss_cons (ps_if (pt_cmpR op_eq (pv 3) pe_int (nomark _))
        (pss_one (ps_ret pe_str))
        pss_nil)
      (pss_cons (ps_if (pt_cmpR op_eq (pv 3) pe_int (nomark _))
        (pss_one (ps_ret (pe_bm PySem.F.plainAttrs_str PySem.F.slot_str_join PySem.F.type_str_join mt_join pe_str (pa_cons (pe_comp (N' := ["_law_j", "_law_cell_here", "_law_letters"]) (ix := (List.replicate 1 none ++ [some 0, some 1])) rfl (clok_many (cl := [("_law_letters", _), ("_law_cell_here", _)]) (xs := ["_law_letters", "_law_cell_here"]) rfl ⟨rfl, rfl, trivial⟩ rfl rfl (by decide +kernel) (by decide +kernel)) (ixok_many (N0 := ["_law_j"]) (xs := ["_law_cell_here", "_law_letters"]) (js := [0, 1]) ⟨⟨rfl, Or.inl rfl, (by first | exact Or.inl rfl | exact Or.inr rfl | (simp [relabel]; rfl) | (with_unfolding_all exact Or.inl rfl) | (with_unfolding_all exact Or.inr rfl) | (with_unfolding_all decide))⟩, ⟨rfl, Or.inl rfl, (by first | exact Or.inl rfl | exact Or.inr rfl | (simp [relabel]; rfl) | (with_unfolding_all exact Or.inl rfl) | (with_unfolding_all exact Or.inr rfl) | (with_unfolding_all decide))⟩, trivial⟩) (pi_range1 rfl T.z_range (pa_cons (pe_op op_add pe_int (pe_op op_mod (pv 0) pe_int)) pa_nil)) (fun _ _ _ _ => (pg_name (i := 0) nd_comp_7 rfl (Or.inl rfl) (Or.inr rfl))) (fun _ _ _ _ => (pe_ix ix_str (pv 2) (pe_op op_mod (pe_op op_add (pe_op op_fdiv (pv 1) pe_int) (pv 0)) pe_int) (fun _ _ => rfl)))) pa_nil))))
        pss_nil)
      (pss_cons (ps_if (pt_cmpR op_eq (pv 3) pe_int (nomark _))
        (pss_one (ps_ret (pe_ix ix_list (pe_lst (pa_cons pe_str (pa_cons pe_str pa_nil))) (pe_op op_mod (pv 0) pe_int) (fun _ _ => rfl))))
        pss_nil)
      (pss_cons (ps_if (pt_cmpR op_eq (pv 3) pe_int (nomark _))
        (pss_one (ps_ret (pe_ix ix_list (pe_lst (pa_cons pe_str (pa_cons pe_str (pa_cons pe_str (pa_cons pe_str (pa_cons pe_str (pa_cons pe_str (pa_cons pe_str (pa_cons pe_str pa_nil))))))))) (pe_op op_mod (pv 0) pe_int) (fun _ _ => rfl))))
        pss_nil)
      (pss_cons (ps_set (i := 4) sc_l_bad.nd rfl (Or.inl rfl) (pe_op op_add pe_int (pe_op op_mod (pv 0) pe_int)))
      (pss_cons (ps_set (i := 5) sc_l_bad.nd rfl (Or.inl rfl) (pe_op op_mod (pe_op op_fdiv (pv 0) pe_int) (pv 4)))
      (pss_cons (ps_set (i := 6) sc_l_bad.nd rfl (Or.inr rfl) (pe_ix ix_str (pv 1) (pe_op op_mod (pe_op op_fdiv (pv 0) pe_int) pe_int) (fun _ _ => rfl)))
      (pss_cons (ps_set (i := 7) sc_l_bad.nd rfl (Or.inl rfl) (pe_op op_add_str (pe_bm PySem.F.plainAttrs_str PySem.F.slot_str_join PySem.F.type_str_join mt_join pe_str (pa_cons (pe_comp (N' := ["_law_j", "_law_base"]) (ix := (List.replicate 1 none ++ [some 6])) rfl (clok_one (x := "_law_base") rfl rfl rfl (by decide +kernel) (by decide +kernel)) (ixok_last (N0 := ["_law_j"]) rfl (Or.inl rfl) (by first | exact Or.inl rfl | exact Or.inr rfl | (simp [relabel]; rfl) | (with_unfolding_all exact Or.inl rfl) | (with_unfolding_all exact Or.inr rfl) | (with_unfolding_all decide))) (pi_range1 rfl T.z_range (pa_cons (pv 5) pa_nil)) (fun _ _ _ _ => (pg_name (i := 0) nd_comp_8 rfl (Or.inl rfl) (Or.inr rfl))) (fun _ _ _ _ => (pv 1))) pa_nil)) (pe_ix ix_str (pv 2) (pe_op op_mod (pe_op op_fdiv (pv 0) pe_int) (pe_callB call_len_str (by rfl) T.z_len PySem.boot_len (pa_cons (pv 2) pa_nil))) (fun _ _ => rfl))))
      (pss_one (ps_ret (pe_op op_add_str (pv 7) (pe_bm PySem.F.plainAttrs_str PySem.F.slot_str_join PySem.F.type_str_join mt_join pe_str (pa_cons (pe_comp (N' := ["_law_j", "_law_base"]) (ix := (List.replicate 1 none ++ [some 6])) rfl (clok_one (x := "_law_base") rfl rfl rfl (by decide +kernel) (by decide +kernel)) (ixok_last (N0 := ["_law_j"]) rfl (Or.inl rfl) (by first | exact Or.inl rfl | exact Or.inr rfl | (simp [relabel]; rfl) | (with_unfolding_all exact Or.inl rfl) | (with_unfolding_all exact Or.inr rfl) | (with_unfolding_all decide))) (pi_range1 rfl T.z_range (pa_cons (pe_op op_sub (pe_op op_sub (pv 4) (pv 5)) pe_int) pa_nil)) (fun _ _ _ _ => (pg_name (i := 0) nd_comp_9 rfl (Or.inl rfl) (Or.inr rfl))) (fun _ _ _ _ => (pv 1))) pa_nil))))))))))))))))), ?_⟩
    refine ⟨_, rfl, _, _, rfl, rfl, (by show (0 : Int) < 6; decide), ?_⟩
    refine ⟨_, rfl, _, _, rfl, rfl, ⟨by decide, by decide⟩, ?_⟩
    obtain ⟨c, ec⟩ : ∃ c : Int, c = c0 / 6 := ⟨_, rfl⟩
    dsimp only
    rw [← ec]
    refine ⟨_, rfl, rfl, _, rfl, iteD (fun _ => k "" H ⟨by decide +kernel, by decide +kernel⟩ (Same.refl _)) (fun _ => ?_)⟩
    refine ⟨_, rfl, rfl, _, rfl, iteD (fun _ => ?_) (fun _ => ?_)⟩
    · have b32 : 0 ≤ c % 32 ∧ c % 32 < 32 := ⟨Int.emod_nonneg _ (by decide), Int.emod_lt_of_pos _ (by decide)⟩
      refine ⟨rfl, _, rfl, _, _, rfl, rfl, (by show (0 : Int) < 32; decide), _, _, rfl, rfl, _, rfl, by omega, by omega, fun D hD => ?_⟩
      refine comp_genQ (D := D) (9 + c % 32).toNat (fun i ys H2 => Same H H2 ∧ H2 D = some (.lst ys) ∧ ∃ zs : List Str, ys = zs.map V.str ∧ zs.length = i ∧ ∀ x ∈ zs, PyData.strOk x = true ∧ x.length = 1) ⟨same_new hD, upd_same, [], rfl, rfl, by intro x hx; cases hx⟩ (fun i ys H2 hi _ => hi) (fun ys H2 _ => Nat.le_refl _) ?_ ?_
      · rintro i ys H2 hi ⟨s2, hD2, zs, rfl, lz, oz⟩ x H3 ⟨rfl, rfl⟩
        obtain ⟨cc, c1, c2⟩ := atI_ok (xs := abc.cps.toList) (i := (c / 32 + (0 + (i : Int))) % 26) (Int.emod_nonneg _ (by decide)) (by rw [abc_len]; exact Int.emod_lt_of_pos _ (by decide))
        refine ⟨⟨rfl, rfl, True.intro⟩, _, rfl, _, rfl, _, _, rfl, rfl, ⟨by decide, by decide⟩, _, rfl, _, _, rfl, rfl, _, _, rfl, rfl, (by show (0 : Int) < 26; decide), _, _, cc, rfl, rfl, line_le (by rw [abc_len']; decide), c2, hD2, line_lt (by rw [List.length_map]; omega), same_fresh s2 hD, upd_same, zs ++ [⟨#[cc]⟩], by simp, by simp [lz], fun x hx => ?_⟩
        rcases List.mem_append.mp hx with hx | hx
        · exact oz x hx
        · rw [List.mem_singleton.mp hx]
          exact ⟨ok_one (abc_ok cc (List.mem_of_getElem? c1)), rfl⟩
      · rintro ys H2 ⟨s2, hD2, zs, rfl, lz, oz⟩
        obtain ⟨j1, j2, j3⟩ := tj_ok oz (by omega)
        exact ⟨_, D, _, rfl, rfl, SqL.of hD2, j3, k _ H2 ⟨j1, by omega⟩ s2⟩
    refine ⟨_, rfl, rfl, _, rfl, iteD (fun _ => ?_) (fun _ => ?_)⟩
    · refine ⟨line_le (by simp), fun q hq => ⟨_, rfl, _, _, rfl, rfl, (by show (0 : Int) < 2; decide), ?_⟩⟩
      obtain ⟨x, xm, e⟩ := at_mapV (f := V.str) (xs := [("if" : Str), "sum"]) (i := c % 2) (Int.emod_nonneg _ (by decide)) (Int.emod_lt_of_pos _ (by decide))
      refine ⟨q, _, _, _, rfl, rfl, SqL.of upd_same, e, k x _ ?_ (same_new hq)⟩
      have := List.mem_of_getElem? xm
      simp at this
      rcases this with rfl | rfl <;> exact ⟨by decide +kernel, by decide +kernel⟩
    refine ⟨_, rfl, rfl, _, rfl, iteD (fun _ => ?_) (fun _ => ?_)⟩
    · refine ⟨line_le (by simp), fun q hq => ⟨_, rfl, _, _, rfl, rfl, (by show (0 : Int) < 8; decide), ?_⟩⟩
      obtain ⟨x, xm, e⟩ := at_mapV (f := V.str) (xs := [("sums" : Str), "ifs", "su", "um", "i", "fi", "f", "sumsumsu"]) (i := c % 8) (Int.emod_nonneg _ (by decide)) (Int.emod_lt_of_pos _ (by decide))
      refine ⟨q, _, _, _, rfl, rfl, SqL.of upd_same, e, k x _ ?_ (same_new hq)⟩
      have := List.mem_of_getElem? xm
      simp at this
      rcases this with rfl | rfl | rfl | rfl | rfl | rfl | rfl | rfl <;> exact ⟨by decide +kernel, by decide +kernel⟩
    have z0 : 0 < 1 + c % 8 := by omega
    have z8 : 1 + c % 8 ≤ 8 := by omega
    have p0 : 0 ≤ c / 8 % (1 + c % 8) := Int.emod_nonneg _ (by omega)
    have p1 : c / 8 % (1 + c % 8) < 1 + c % 8 := Int.emod_lt_of_pos _ z0
    refine ⟨_, rfl, _, _, rfl, rfl, (by show (0 : Int) < 8; decide), _, _, rfl, rfl, ?_⟩
    refine ⟨_, rfl, _, _, rfl, rfl, ⟨by decide, by decide⟩, _, rfl, _, _, rfl, rfl, z0, ?_⟩
    obtain ⟨cb, b1, b2⟩ := atI_ok (xs := abc.cps.toList) (i := c / 5000 % 26) (Int.emod_nonneg _ (by decide)) (by rw [abc_len]; exact Int.emod_lt_of_pos _ (by decide))
    refine ⟨_, rfl, _, rfl, _, _, rfl, rfl, ⟨by decide, by decide⟩, _, _, rfl, rfl, (by show (0 : Int) < 26; decide), _, _, cb, rfl, rfl, line_le (by rw [abc_len']; decide), b2, ?_⟩
    have okb : PyData.strOk (⟨#[cb]⟩ : Str) = true ∧ (⟨#[cb]⟩ : Str).length = 1 := ⟨ok_one (abc_ok cb (List.mem_of_getElem? b1)), rfl⟩
    have many : ∀ n : Nat, ∀ x ∈ List.replicate n (⟨#[cb]⟩ : Str), PyData.strOk x = true ∧ x.length = 1 := fun n x hx => by rw [List.eq_of_mem_replicate hx]; exact okb
    dsimp only
    generalize hz : 1 + c % 8 = size at *
    generalize hp : c / 8 % size = spot at *
    refine ⟨rfl, _, rfl, _, rfl, by omega, by omega, fun D hD => ?_⟩
    refine comp_genQ (D := D) spot.toNat (fun i ys H2 => Same H H2 ∧ H2 D = some (.lst ys) ∧ ys = (List.replicate i (⟨#[cb]⟩ : Str)).map V.str) ⟨same_new hD, upd_same, rfl⟩ (fun i ys H2 hi _ => hi) (fun ys H2 _ => Nat.le_refl _) ?_ ?_
    · rintro i ys H2 hi ⟨s2, hD2, rfl⟩ x H3 ⟨rfl, rfl⟩
      refine ⟨⟨rfl, True.intro⟩, _, rfl, hD2, line_lt (by simp; omega), same_fresh s2 hD, upd_same, ?_⟩
      rw [List.replicate_succ', List.map_append]
      rfl
    · rintro ys H2 ⟨s2, hD2, rfl⟩
      obtain ⟨j1, j2, j3⟩ := tj_ok (many spot.toNat) (by rw [List.length_replicate]; omega)
      have b68 : 0 < ((oth.length : Nat) : Int) := by rw [oth_len']; decide
      obtain ⟨cm, m1, m2⟩ := atI_ok (xs := oth.cps.toList) (i := c / 64 % ((oth.length : Nat) : Int)) (Int.emod_nonneg _ (by omega)) (by rw [oth_len]; have := Int.emod_lt_of_pos (c / 64) b68; rw [oth_len'] at this ⊢; exact this)
      have okm : PyData.strOk (⟨#[cm]⟩ : Str) = true := ok_one (oth_ok cm (List.mem_of_getElem? m1))
      have lm : (⟨#[cm]⟩ : Str).length = 1 := rfl
      refine ⟨_, D, _, rfl, rfl, SqL.of hD2, j3, ?_⟩
      refine ⟨_, rfl, _, rfl, _, _, rfl, rfl, ⟨by decide, by decide⟩, _, rfl, oth, rfl, line_le (by rw [oth_len']; decide), _, _, rfl, rfl, b68, _, _, cm, rfl, rfl, line_le (by rw [oth_len']; decide), m2, _, _, rfl, rfl, line_le (by omega), ?_⟩
      refine ⟨_, rfl, rfl, _, rfl, _, rfl, _, _, rfl, rfl, _, _, rfl, rfl, _, rfl, by omega, by omega, fun D2 hD2' => ?_⟩
      refine comp_genQ (D := D2) (size - spot - 1).toNat (fun i ys H3 => Same H H3 ∧ H3 D2 = some (.lst ys) ∧ ys = (List.replicate i (⟨#[cb]⟩ : Str)).map V.str) ⟨s2.trans (same_new hD2'), upd_same, rfl⟩ (fun i ys H3 hi _ => hi) (fun ys H3 _ => Nat.le_refl _) ?_ ?_
      · rintro i ys H3 hi ⟨s3, h3, rfl⟩ x H4 ⟨rfl, rfl⟩
        refine ⟨⟨rfl, True.intro⟩, _, rfl, h3, line_lt (by simp; omega), same_fresh s3 (s2.free hD2'), upd_same, ?_⟩
        rw [List.replicate_succ', List.map_append]
        rfl
      · rintro ys H3 ⟨s3, h3, rfl⟩
        obtain ⟨i1, i2, i3⟩ := tj_ok (many (size - spot - 1).toNat) (by rw [List.length_replicate]; omega)
        refine ⟨_, D2, _, rfl, rfl, SqL.of h3, i3, ?_⟩
        exact ⟨_, _, rfl, rfl, line_le (by rw [slen]; omega), k _ H3 ⟨ok_app (ok_app j1 okm) i1, by rw [slen, slen]; omega⟩ s3⟩
theorem ok_l_spoil_names (T : Txt K mg t) : FnOk P w K mg base CX0 2 t.f_l_spoil_names t.d_l_spoil_names ["_law_way", "_law_names", "_law_place", "_law_cell_here", "_law_seed"] sp_spn := by
  have G_l_bad := ok_l_bad (P := P) (w := w) (base := base) T
  have G_l_name := ok_l_name (P := P) (w := w) (base := base) T
  refine T.F_l_spoil_names.ok sc_l_spoil_names (fun vs H Q E h => ?_) (fun cdv A outer s H vs Q E hr h => ?_)
  · obtain ⟨way, place, cell, seed, n, nm, rfl, _⟩ := h
    rfl
  · obtain ⟨way, place, cell, seed, n, nm, rfl, hn, ln, ok, k⟩ := h
    refine ⟨_, (pss_cons (ps_if (pt_cmpR op_eq (pe_callB call_len_seq (by rfl) T.z_len PySem.boot_len (pa_cons (pv 1) pa_nil)) pe_int (nomark _))
        (pss_one ps_retN)
        pss_nil)
      (pss_cut (ps_if (pt_cmpR op_eq (pv 0) pe_int (nomark _))
        (pss_one (ps_asg (pe_call G_l_bad (hr.mono (by omega)) rfl T.m_l_bad T.F_l_bad.kp T.b_l_bad .nil pass0 (pa_cons (pv 3) pa_nil)) (pg_sub (pv 1) (pe_op op_mod (pv 2) (pe_callB call_len_seq (by rfl) T.z_len PySem.boot_len (pa_cons (pv 1) pa_nil))) set_list)))
        pss_nil)
      (pss_cut (ps_if (pt_cmpR op_eq (pv 0) pe_int (nomark _))
        (pss_one (ps_asg (pe_ix ix_list (pv 1) (pe_op op_mod (pv 3) (pe_callB call_len_seq (by rfl) T.z_len PySem.boot_len (pa_cons (pv 1) pa_nil))) (fun _ _ => rfl)) (pg_sub (pv 1) (pe_op op_mod (pv 2) (pe_callB call_len_seq (by rfl) T.z_len PySem.boot_len (pa_cons (pv 1) pa_nil))) set_list)))
        pss_nil)
      (pss_one (ps_if (pt_cmpR op_eq (pv 0) pe_int (nomark _))
        (pss_one (ps_asg (pe_call G_l_name (hr.mono (by omega)) rfl T.m_l_name T.F_l_name.kp T.b_l_name .nil pass0 (pa_cons pe_int (pa_cons (pv 4) pa_nil))) (pg_sub (pv 1) (pe_op op_mod (pv 2) (pe_callB call_len_seq (by rfl) T.z_len PySem.boot_len (pa_cons (pv 1) pa_nil))) set_list)))
        pss_nil))))), ?_⟩
    refine ⟨_, rfl, n, _, rfl, .inl (SqL.of hn), rfl, _, rfl, iteD (fun _ => k nm H rfl ok hn KBx.refl) (fun hne => ?_)⟩
    have hpos : 0 < nm.length := by
      rcases Nat.eq_zero_or_pos nm.length with z | z
      · exact absurd (by rw [List.length_map, z]; rfl) hne
      · exact z
    have put : ∀ {nm1 : List Str} {G G1 : Hp} {z : Str}, nm1.length = nm.length → OkN nm1 → G n = some (.lst (nm1.map V.str)) → KBx n H G → Same G G1 → OkX z → ∃ j, ixN (nm1.map V.str).length (place % ((nm1.map V.str).length : Int)) = some j ∧ (nm1.set j z).length = nm.length ∧ OkN (nm1.set j z) ∧ upd G1 n (.lst ((nm1.map V.str).set j (V.str z))) n = some (.lst ((nm1.set j z).map V.str)) ∧ KBx n H (upd G1 n (.lst ((nm1.map V.str).set j (V.str z)))) := fun {nm1 G G1 z} l1 o1 h1 k1 s1 oz => by
      refine ⟨_, ix_mod (by rw [List.length_map]; omega), by rw [List.length_set]; exact l1, fun x hx => ?_, by rw [upd_same, List.map_set], (k1.trans (KBx.of s1)).trans KBx.upd⟩
      rcases List.mem_or_eq_of_mem_set hx with hx | hx
      · exact o1 x hx
      · rw [hx]; exact oz
    refine ⟨fun σ G => ∃ nm1 : List Str, σ = [some (.int way), some (.ref n), some (.int place), some (.int cell), some (.int seed)] ∧ nm1.length = nm.length ∧ OkN nm1 ∧ G n = some (.lst (nm1.map V.str)) ∧ KBx n H G, ?_, ?_⟩
    · refine ⟨_, rfl, rfl, _, rfl, iteD (fun _ => ?_) (fun _ => ⟨nm, rfl, rfl, ok, hn, KBx.refl⟩)⟩
      refine ⟨_, rfl, cell, rfl, fun z G1 oz s1 => ?_⟩
      obtain ⟨j, hj, q1, q2, q3, q4⟩ := put rfl ok hn KBx.refl s1 oz
      exact ⟨_, rfl, _, rfl, _, rfl, n, _, rfl, .inl (SqL.of (s1 _ _ hn)), _, _, rfl, rfl, (by show (0 : Int) < ((nm.map V.str).length : Int); rw [List.length_map]; omega), n, _, _, j, rfl, rfl, s1 _ _ hn, hj, _, rfl, q1, q2, q3, q4⟩
    rintro σ G ⟨nm1, rfl, l1, o1, h1, k1⟩
    have hp1 : (0 : Int) < ((nm1.map V.str).length : Int) := by rw [List.length_map]; omega
    refine ⟨fun σ G => ∃ nm1 : List Str, σ = [some (.int way), some (.ref n), some (.int place), some (.int cell), some (.int seed)] ∧ nm1.length = nm.length ∧ OkN nm1 ∧ G n = some (.lst (nm1.map V.str)) ∧ KBx n H G, ?_, ?_⟩
    · refine ⟨_, rfl, rfl, _, rfl, iteD (fun _ => ?_) (fun _ => ⟨nm1, rfl, l1, o1, h1, k1⟩)⟩
      obtain ⟨x, xm, e⟩ := at_mapV (f := V.str) (xs := nm1) (i := cell % ((nm1.map V.str).length : Int)) (Int.emod_nonneg _ (by omega)) (by have := Int.emod_lt_of_pos cell hp1; rw [List.length_map] at this ⊢; exact this)
      obtain ⟨j, hj, q1, q2, q3, q4⟩ := put l1 o1 h1 k1 (Same.refl _) (o1 x (List.mem_of_getElem? xm))
      exact ⟨_, rfl, _, rfl, _, rfl, n, _, rfl, .inl (SqL.of h1), _, _, rfl, rfl, hp1, n, _, _, _, rfl, rfl, SqL.of h1, e, _, rfl, _, rfl, _, rfl, n, _, rfl, .inl (SqL.of h1), _, _, rfl, rfl, hp1, n, _, _, j, rfl, rfl, h1, hj, _, rfl, q1, q2, q3, q4⟩
    rintro σ G ⟨nm2, rfl, l2, o2, h2, k2⟩
    have hp2 : (0 : Int) < ((nm2.map V.str).length : Int) := by rw [List.length_map]; omega
    refine ⟨_, rfl, rfl, _, rfl, iteD (fun _ => ?_) (fun _ => k nm2 G l2 o2 h2 k2)⟩
    refine ⟨_, rfl, 24, seed, rfl, fun z G1 oz s1 => ?_⟩
    obtain ⟨j, hj, q1, q2, q3, q4⟩ := put l2 o2 h2 k2 s1 oz
    exact ⟨_, rfl, _, rfl, _, rfl, n, _, rfl, .inl (SqL.of (s1 _ _ h2)), _, _, rfl, rfl, hp2, n, _, _, j, rfl, rfl, s1 _ _ h2, hj, k _ _ q1 q2 q3 q4⟩
theorem ok_l_spoil_outs (T : Txt K mg t) : FnOk P w K mg base CX0 2 t.f_l_spoil_outs t.d_l_spoil_outs ["_law_way", "_law_names", "_law_outs", "_law_place", "_law_cell_here", "_law_seed"] sp_spo := by
  have G_l_name := ok_l_name (P := P) (w := w) (base := base) T
  refine T.F_l_spoil_outs.ok sc_l_spoil_outs (fun vs H Q E h => ?_) (fun cdv A outer s H vs Q E hr h => ?_)
  · obtain ⟨way, place, cell, seed, n, o, nm, os, rfl, _⟩ := h
    rfl
  · obtain ⟨way, place, cell, seed, n, o, nm, os, rfl, hn, no, ln, okn, ho, lo, oko, k⟩ := h
    refine ⟨_, (pss_cons (ps_set (i := 6) sc_l_spoil_outs.nd rfl (Or.inl rfl) (pe_op op_mod (pv 3) (pe_op op_add (pe_callB call_len_seq (by rfl) T.z_len PySem.boot_len (pa_cons (pv 2) pa_nil)) pe_int)))
      (pss_cut (ps_if (PW.pt (pw_and (pt_cmpR op_eq (pv 0) pe_int (nomark _)) (pw_and (pt_cmpR op_eq (pe_op op_mod (pv 4) pe_int) pe_int (nomark _)) (pw_and1 (pt_cmpR op_gt (pe_callB call_len_seq (by rfl) T.z_len PySem.boot_len (pa_cons (pv 1) pa_nil)) pe_int (nomark _))))))
        (pss_one (ps_expr (pe_bm PySem.F.plainAttrs_list PySem.F.slot_list_insert PySem.F.type_list_insert mt_insert (pv 2) (pa_cons (pv 6) (pa_cons (pe_ix ix_list (pv 1) (pe_op op_mod (pe_op op_fdiv (pv 4) pe_int) (pe_callB call_len_seq (by rfl) T.z_len PySem.boot_len (pa_cons (pv 1) pa_nil))) (fun _ _ => rfl)) pa_nil)))))
        (pss_one (ps_if (pt_cmpR op_eq (pv 0) pe_int (nomark _))
          (pss_one (ps_expr (pe_bm PySem.F.plainAttrs_list PySem.F.slot_list_insert PySem.F.type_list_insert mt_insert (pv 2) (pa_cons (pv 6) (pa_cons (pe_call G_l_name (hr.mono (by omega)) rfl T.m_l_name T.F_l_name.kp T.b_l_name .nil pass0 (pa_cons pe_int (pa_cons (pv 5) pa_nil))) pa_nil)))))
          pss_nil)))
      (pss_cut (ps_if (PW.pt (pw_and (pt_cmpR op_eq (pv 0) pe_int (nomark _)) (pw_and1 (pt_cmpR op_gt (pe_callB call_len_seq (by rfl) T.z_len PySem.boot_len (pa_cons (pv 2) pa_nil)) pe_int (nomark _)))))
        (pss_one (ps_expr (pe_bm PySem.F.plainAttrs_list PySem.F.slot_list_insert PySem.F.type_list_insert mt_insert (pv 2) (pa_cons (pv 6) (pa_cons (pe_ix ix_list (pv 2) (pe_op op_mod (pv 4) (pe_callB call_len_seq (by rfl) T.z_len PySem.boot_len (pa_cons (pv 2) pa_nil))) (fun _ _ => rfl)) pa_nil)))))
        pss_nil)
      (pss_one (ps_if (pt_cmpR op_eq (pv 0) pe_int (nomark _))
        (pss_one (ps_expr (pe_bm0 PySem.F.plainAttrs_list PySem.F.slot_list_clear PySem.F.type_list_clear mt_clear (pv 2))))
        pss_nil))))), ?_⟩
    have hp0 : (0 : Int) < ((os.map V.str).length : Int) + 1 := by omega
    refine ⟨_, rfl, _, rfl, o, _, rfl, .inl (SqL.of ho), _, _, rfl, rfl, _, _, rfl, rfl, hp0, ?_⟩
    have a0 : 0 ≤ place % (((os.map V.str).length : Int) + 1) := Int.emod_nonneg _ (by omega)
    have a1 : place % (((os.map V.str).length : Int) + 1) < 2 ^ 63 := by
      have := Int.emod_lt_of_pos place hp0
      rw [List.length_map] at this ⊢
      omega
    dsimp only
    generalize place % (((os.map V.str).length : Int) + 1) = at' at a0 a1 ⊢
    refine ⟨fun σ G => ∃ os1 : List Str, σ = [some (.int way), some (.ref n), some (.ref o), some (.int place), some (.int cell), some (.int seed), some (.int at')] ∧ os1.length ≤ os.length + 1 ∧ OkN os1 ∧ G o = some (.lst (os1.map V.str)) ∧ KBx o H G, ?_, ?_⟩
    · have other : ∀ {D : Ends} {R : St → Hp → Prop}, True := fun {_ _} => True.intro
      have els : ∃ os1 : List Str, [some (V.int way), some (.ref n), some (.ref o), some (.int place), some (.int cell), some (.int seed), some (.int at')] = [some (V.int way), some (.ref n), some (.ref o), some (.int place), some (.int cell), some (.int seed), some (.int at')] ∧ os1.length ≤ os.length + 1 ∧ OkN os1 ∧ H o = some (.lst (os1.map V.str)) ∧ KBx o H H := ⟨os, rfl, by omega, oko, ho, KBx.refl⟩
      have nw : ∀ {z : Str} {G1 : Hp}, OkX z → Same H G1 → ∃ os1 : List Str, [some (V.int way), some (.ref n), some (.ref o), some (.int place), some (.int cell), some (.int seed), some (.int at')] = [some (V.int way), some (.ref n), some (.ref o), some (.int place), some (.int cell), some (.int seed), some (.int at')] ∧ os1.length ≤ os.length + 1 ∧ OkN os1 ∧ upd G1 o (.lst ((os.map V.str).take at'.toNat ++ V.str z :: (os.map V.str).drop at'.toNat)) o = some (.lst (os1.map V.str)) ∧ KBx o H (upd G1 o (.lst ((os.map V.str).take at'.toNat ++ V.str z :: (os.map V.str).drop at'.toNat))) := fun {z G1} oz s1 =>
        ⟨os.take at'.toNat ++ z :: os.drop at'.toNat, rfl, by rw [ins_len]; exact Nat.le_refl _, okn_ins _ oko oz, by rw [upd_same, ins_map], (KBx.of s1).trans KBx.upd⟩
      have second : ∀ R : Prop, R → R := fun _ r => r
      refine ⟨_, rfl, rfl, _, rfl, ite2 (fun _ => ?_) (fun _ => iteF ?_)⟩
      · refine ⟨_, rfl, _, _, rfl, rfl, (by show (0 : Int) < 2; decide), rfl, _, rfl, ite2 (fun _ => ?_) (fun _ => iteF ?_)⟩
        · refine ⟨_, rfl, n, _, rfl, .inl (SqL.of hn), _, _, rfl, rfl, _, rfl, iteD (fun hgt => ?_) (fun _ => ?_)⟩
          · have hp1 : (0 : Int) < ((nm.map V.str).length : Int) := hgt
            obtain ⟨x, xm, e⟩ := at_mapV (f := V.str) (xs := nm) (i := cell / 2 % ((nm.map V.str).length : Int)) (Int.emod_nonneg _ (by omega)) (by have := Int.emod_lt_of_pos (cell / 2) hp1; rw [List.length_map] at this ⊢; exact this)
            exact ⟨_, rfl, .inl ⟨rfl, _, SqL.of ho⟩, _, rfl, _, rfl, _, rfl, _, _, rfl, rfl, ⟨by decide, by decide⟩, _, rfl, n, _, rfl, .inl (SqL.of hn), _, _, rfl, rfl, hp1, n, _, _, _, rfl, rfl, SqL.of hn, e, o, _, _, _, rfl, rfl, ho, line_lt (by rw [List.length_map]; omega), a0, a1, nw (okn x (List.mem_of_getElem? xm)) (Same.refl _)⟩
          · refine ⟨_, rfl, rfl, _, rfl, iteD (fun _ => ?_) (fun _ => els)⟩
            exact ⟨_, rfl, .inl ⟨rfl, _, SqL.of ho⟩, _, rfl, _, rfl, 25, seed, rfl, fun z G1 oz s1 => ⟨o, _, _, _, rfl, rfl, s1 _ _ ho, line_lt (by rw [List.length_map]; omega), a0, a1, nw oz s1⟩⟩
        · refine ⟨_, rfl, rfl, _, rfl, iteD (fun _ => ?_) (fun _ => els)⟩
          exact ⟨_, rfl, .inl ⟨rfl, _, SqL.of ho⟩, _, rfl, _, rfl, 25, seed, rfl, fun z G1 oz s1 => ⟨o, _, _, _, rfl, rfl, s1 _ _ ho, line_lt (by rw [List.length_map]; omega), a0, a1, nw oz s1⟩⟩
      · refine ⟨_, rfl, rfl, _, rfl, iteD (fun _ => ?_) (fun _ => els)⟩
        exact ⟨_, rfl, .inl ⟨rfl, _, SqL.of ho⟩, _, rfl, _, rfl, 25, seed, rfl, fun z G1 oz s1 => ⟨o, _, _, _, rfl, rfl, s1 _ _ ho, line_lt (by rw [List.length_map]; omega), a0, a1, nw oz s1⟩⟩
    rintro σ G ⟨os1, rfl, l1, o1, h1, k1⟩
    refine ⟨fun σ G => ∃ os1 : List Str, σ = [some (.int way), some (.ref n), some (.ref o), some (.int place), some (.int cell), some (.int seed), some (.int at')] ∧ os1.length ≤ os.length + 2 ∧ OkN os1 ∧ G o = some (.lst (os1.map V.str)) ∧ KBx o H G, ?_, ?_⟩
    · have els : ∃ os2 : List Str, [some (V.int way), some (.ref n), some (.ref o), some (.int place), some (.int cell), some (.int seed), some (.int at')] = [some (V.int way), some (.ref n), some (.ref o), some (.int place), some (.int cell), some (.int seed), some (.int at')] ∧ os2.length ≤ os.length + 2 ∧ OkN os2 ∧ G o = some (.lst (os2.map V.str)) ∧ KBx o H G := ⟨os1, rfl, by omega, o1, h1, k1⟩
      refine ⟨_, rfl, rfl, _, rfl, ite2 (fun _ => ?_) (fun _ => iteF els)⟩
      refine ⟨_, rfl, o, _, rfl, .inl (SqL.of h1), _, _, rfl, rfl, _, rfl, iteD (fun hgt => ?_) (fun _ => els)⟩
      have hp1 : (0 : Int) < ((os1.map V.str).length : Int) := hgt
      obtain ⟨x, xm, e⟩ := at_mapV (f := V.str) (xs := os1) (i := cell % ((os1.map V.str).length : Int)) (Int.emod_nonneg _ (by omega)) (by have := Int.emod_lt_of_pos cell hp1; rw [List.length_map] at this ⊢; exact this)
      refine ⟨_, rfl, .inl ⟨rfl, _, SqL.of h1⟩, _, rfl, _, rfl, _, rfl, _, rfl, o, _, rfl, .inl (SqL.of h1), _, _, rfl, rfl, hp1, o, _, _, _, rfl, rfl, SqL.of h1, e, o, _, _, _, rfl, rfl, h1, line_lt (by rw [List.length_map]; omega), a0, a1, ?_⟩
      exact ⟨os1.take at'.toNat ++ x :: os1.drop at'.toNat, rfl, by rw [ins_len]; omega, okn_ins _ o1 (o1 x (List.mem_of_getElem? xm)), by rw [upd_same, ins_map], k1.trans KBx.upd⟩
    rintro σ G ⟨os2, rfl, l2, o2, h2, k2⟩
    refine ⟨_, rfl, rfl, _, rfl, iteD (fun _ => ?_) (fun _ => k os2 G l2 o2 h2 k2)⟩
    exact ⟨_, rfl, .inl ⟨rfl, _, SqL.of h2⟩, o, _, rfl, rfl, h2, k [] _ (Nat.zero_le _) (by intro x hx; cases hx) upd_same (k2.trans KBx.upd)⟩
end
end My

set_option Elab.async false
set_option linter.all false
set_option maxRecDepth 100000
set_option maxHeartbeats 4000000
namespace My
open PySem L2
local macro_rules | `(tactic| walk_at "lk") => `(tactic| first | with_reducible exact lk0 | (refine lk1 (by decide +kernel) ?_; walk_at "lk") | rfl)
def sp_named : Sp := fun vs H Q _ => ∃ x : Str, vs = [.str x] ∧ x.length ≤ 4000 ∧ Q (.bl (nmB x)) H
/-- what is due -/
def DueIs (nm : List Str) (m : Nat) (lists : List (List Str)) (os : List Str) (r : Str) : Prop :=
  (r = "name" ∧ ¬ (GoodNs nm ∧ GoodOs (nm.drop m) os)) ∨ (r = "shape" ∧ (GoodNs nm ∧ GoodOs (nm.drop m) os) ∧ ¬ ∀ ys ∈ lists, GoodAs (nm.take m) ys) ∨ (r = "by" ∧ (GoodNs nm ∧ GoodOs (nm.drop m) os) ∧ ∀ ys ∈ lists, GoodAs (nm.take m) ys)
def sp_due : Sp := fun vs H Q _ => ∃ (n l o : Addr) (m : Nat) (nm os : List Str) (cs : List Addr) (lists : List (List Str)), vs = [.ref n, .int (m : Int), .ref l, .ref o] ∧ H n = some (.lst (nm.map V.str)) ∧ nm.length ≤ 100 ∧ m ≤ nm.length ∧ OkN nm ∧ H l = some (.lst (cs.map V.ref)) ∧ cs.length ≤ 100 ∧ Paired (fun c ys => H c = some (.lst (ys.map V.str)) ∧ List.length ys ≤ 20) cs lists ∧ H o = some (.lst (os.map V.str)) ∧ os.length ≤ 200 ∧ OkN os ∧
  ∀ (r : Str) (H' : Hp), DueIs nm m lists os r → Same H H' → Q (.str r) H'
theorem nmB_le {x : Str} (h : x.length > 8) : nmB x = false := by
  unfold nmB
  rw [decide_eq_false (show ¬ x.length ≤ 8 by omega)]
  simp
section
variable {P : Program} {w : World} {K : PySem.W.Frag} {mg : Str → Option Value} {base : Heap} {t : Adr}
theorem ok_l_spoil_axes (T : Txt K mg t) : FnOk P w K mg base CX0 2 t.f_l_spoil_axes t.d_l_spoil_axes ["_law_way", "_law_names", "_law_lists", "_law_place", "_law_cell_here", "_law_seed"] sp_spa := by
  have G_l_name := ok_l_name (P := P) (w := w) (base := base) T
  refine T.F_l_spoil_axes.ok sc_l_spoil_axes (fun vs H Q E h => ?_) (fun cdv A outer s H vs Q E hr h => ?_)
  · obtain ⟨way, place, cell, seed, n, l, nm, cs, b, rfl, _⟩ := h
    rfl
  · obtain ⟨way, place, cell, seed, n, l, nm, cs, b, rfl, hn, ln, okn, hl, lc, b5, b10, hcs, k⟩ := h
    refine ⟨_, (pss_cons (ps_if (PW.pt (pw_or (pt_cmpR op_eq (pe_callB call_len_seq (by rfl) T.z_len PySem.boot_len (pa_cons (pv 2) pa_nil)) pe_int (nomark _)) (pw_or (pt_cmpR op_lt (pv 0) pe_int (nomark _)) (pw_or1 (pt_cmpR op_gt (pv 0) pe_int (nomark _))))))
        (pss_one ps_retN)
        pss_nil)
      (pss_cons (ps_set (i := 6) sc_l_spoil_axes.nd rfl (Or.inl rfl) (pe_ix ix_list (pv 2) (pe_op op_mod (pv 3) (pe_callB call_len_seq (by rfl) T.z_len PySem.boot_len (pa_cons (pv 2) pa_nil))) (fun _ _ => rfl)))
      (pss_cons (ps_set (i := 7) sc_l_spoil_axes.nd rfl (Or.inl rfl) (pe_op op_mod (pv 4) (pe_op op_add (pe_callB call_len_seq (by rfl) T.z_len PySem.boot_len (pa_cons (pv 6) pa_nil)) pe_int)))
      (pss_cut (ps_if (pt_cmpR op_eq (pv 0) pe_int (nomark _))
        (pss_one (ps_expr (pe_bm PySem.F.plainAttrs_list PySem.F.slot_list_insert PySem.F.type_list_insert mt_insert (pv 6) (pa_cons (pv 7) (pa_cons (pe_ix ix_list (pe_lst (pa_cons (pe_call G_l_name (hr.mono (by omega)) rfl T.m_l_name T.F_l_name.kp T.b_l_name .nil pass0 (pa_cons pe_int (pa_cons (pv 5) pa_nil))) (pa_cons pe_str pa_nil))) (pe_op op_mod (pe_op op_fdiv (pv 4) pe_int) pe_int) (fun _ _ => rfl)) pa_nil)))))
        pss_nil)
      (pss_cut (ps_if (PW.pt (pw_and (pt_cmpR op_eq (pv 0) pe_int (nomark _)) (pw_and1 (pt_cmpR op_gt (pe_callB call_len_seq (by rfl) T.z_len PySem.boot_len (pa_cons (pv 6) pa_nil)) pe_int (nomark _)))))
        (pss_one (ps_expr (pe_bm PySem.F.plainAttrs_list PySem.F.slot_list_insert PySem.F.type_list_insert mt_insert (pv 6) (pa_cons (pv 7) (pa_cons (pe_ix ix_list (pv 6) (pe_op op_mod (pe_op op_fdiv (pv 4) pe_int) (pe_callB call_len_seq (by rfl) T.z_len PySem.boot_len (pa_cons (pv 6) pa_nil))) (fun _ _ => rfl)) pa_nil)))))
        pss_nil)
      (pss_one (ps_if (pt_cmpR op_eq (pv 0) pe_int (nomark _))
        (pss_one (ps_for PassesOwn.never rfl (pi_list (pv 1)) (pg_name (i := 8) sc_l_spoil_axes.nd rfl (Or.inl rfl) (Or.inl rfl))
          (pss_one (ps_if (PW.pt (pw_and (pt_cmpR op_notIn_seq (pv 8) (pv 6) (by with_unfolding_all rfl)) (pw_and1 (pt_cmpR op_lt (pe_callB call_len_seq (by rfl) T.z_len PySem.boot_len (pa_cons (pv 6) pa_nil)) (pe_op op_add pe_int (pe_op op_mod (pv 4) pe_int)) (nomark _)))))
            (pss_one (ps_expr (pe_bm PySem.F.plainAttrs_list PySem.F.slot_list_append PySem.F.type_list_append mt_append (pv 6) (pa_cons (pv 8) pa_nil))))
            pss_nil))))
        pss_nil))))))), ?_⟩
    have stay : Q .non H := k H (fun _ _ _ e => e) fun c hc => by
      obtain ⟨_, _, ys, h1, h2, h3⟩ := hcs c hc
      exact ⟨ys, h1, by omega, h3⟩
    refine ⟨_, rfl, l, _, rfl, .inl (SqL.of hl), rfl, _, rfl, iteD (fun _ => iteT stay) (fun hne => ?_)⟩
    have hpos : 0 < cs.length := by
      rcases Nat.eq_zero_or_pos cs.length with z | z
      · exact absurd (by rw [List.length_map, z]; rfl) hne
      · exact z
    refine ⟨_, rfl, _, _, rfl, rfl, _, rfl, iteD (fun _ => iteT stay) (fun _ => ?_)⟩
    refine ⟨_, rfl, _, _, rfl, rfl, _, rfl, iteD (fun _ => stay) (fun _ => ?_)⟩
    have hp0 : (0 : Int) < ((cs.map V.ref).length : Int) := by rw [List.length_map]; omega
    obtain ⟨c, cm, ec⟩ := at_mapV (f := V.ref) (xs := cs) (i := place % ((cs.map V.ref).length : Int)) (Int.emod_nonneg _ (by omega)) (by have := Int.emod_lt_of_pos place hp0; rw [List.length_map] at this ⊢; exact this)
    have hc := List.mem_of_getElem? cm
    obtain ⟨cn, cl, ys, hy, ly, oky⟩ := hcs c hc
    have fin : ∀ {G : Hp} {zs : List Str}, KBx c H G → G c = some (.lst (zs.map V.str)) → zs.length ≤ b + 2 → OkN zs → Q .non G := fun {G zs} kb h1 h2 h3 => k G (fun p o hp e => kb _ _ (fun z => hp (by rw [z]; exact hc)) e) fun c' hc' => by
      by_cases z : c' = c
      · rw [z]; exact ⟨zs, h1, h2, h3⟩
      · obtain ⟨_, _, ys', g1, g2, g3⟩ := hcs c' hc'
        exact ⟨ys', kb _ _ z g1, by omega, g3⟩
    refine ⟨_, rfl, _, rfl, _, rfl, l, _, rfl, .inl (SqL.of hl), _, _, rfl, rfl, hp0, l, _, _, _, rfl, rfl, SqL.of hl, ec, ?_⟩
    have hp1 : (0 : Int) < ((ys.map V.str).length : Int) + 1 := by omega
    refine ⟨_, rfl, _, rfl, c, _, rfl, .inl (SqL.of hy), _, _, rfl, rfl, _, _, rfl, rfl, hp1, ?_⟩
    have a0 : 0 ≤ cell % (((ys.map V.str).length : Int) + 1) := Int.emod_nonneg _ (by omega)
    have a1 : cell % (((ys.map V.str).length : Int) + 1) < 2 ^ 63 := by
      have := Int.emod_lt_of_pos cell hp1
      rw [List.length_map] at this ⊢
      omega
    dsimp only
    generalize cell % (((ys.map V.str).length : Int) + 1) = at' at a0 a1 ⊢
    refine ⟨fun σ G => ∃ zs : List Str, σ = [some (.int way), some (.ref n), some (.ref l), some (.int place), some (.int cell), some (.int seed), some (.ref c), some (.int at'), none] ∧ zs.length ≤ b + 1 ∧ OkN zs ∧ G c = some (.lst (zs.map V.str)) ∧ KBx c H G, ?_, ?_⟩
    · refine ⟨_, rfl, rfl, _, rfl, iteD (fun _ => ?_) (fun _ => ⟨ys, rfl, by omega, oky, hy, KBx.refl⟩)⟩
      refine ⟨_, rfl, .inl ⟨rfl, _, SqL.of hy⟩, _, rfl, _, rfl, 25, seed, rfl, fun z G1 oz s1 => ⟨line_le (by simp), fun q hq => ?_⟩⟩
      have s2 := s1.trans (same_new (o := .lst [.str z, .str ""]) hq)
      obtain ⟨x, xm, e⟩ := at_mapV (f := V.str) (xs := [z, ("" : Str)]) (i := cell / 5 % 2) (Int.emod_nonneg _ (by decide)) (Int.emod_lt_of_pos _ (by decide))
      have ox : OkX x := by
        have := List.mem_of_getElem? xm
        simp at this
        rcases this with rfl | rfl
        · exact oz
        · exact ⟨by decide +kernel, by decide +kernel⟩
      refine ⟨_, rfl, _, _, rfl, rfl, ⟨by decide, by decide⟩, _, _, rfl, rfl, (by show (0 : Int) < 2; decide), q, _, _, _, rfl, rfl, SqL.of upd_same, e, c, _, _, _, rfl, rfl, s2 _ _ hy, line_lt (by rw [List.length_map]; omega), a0, a1, ?_⟩
      exact ⟨ys.take at'.toNat ++ x :: ys.drop at'.toNat, rfl, by rw [ins_len]; omega, okn_ins _ oky ox, by rw [upd_same, ins_map], (KBx.of s2).trans KBx.upd⟩
    rintro σ G ⟨zs, rfl, lzs, okz, hz, kz⟩
    refine ⟨fun σ G => ∃ zs : List Str, σ = [some (.int way), some (.ref n), some (.ref l), some (.int place), some (.int cell), some (.int seed), some (.ref c), some (.int at'), none] ∧ zs.length ≤ b + 2 ∧ OkN zs ∧ G c = some (.lst (zs.map V.str)) ∧ KBx c H G, ?_, ?_⟩
    · refine ⟨_, rfl, rfl, _, rfl, ite2 (fun _ => ?_) (fun _ => iteF ⟨zs, rfl, by omega, okz, hz, kz⟩)⟩
      refine ⟨_, rfl, c, _, rfl, .inl (SqL.of hz), _, _, rfl, rfl, _, rfl, iteD (fun hgt => ?_) (fun _ => ⟨zs, rfl, by omega, okz, hz, kz⟩)⟩
      have hp2 : (0 : Int) < ((zs.map V.str).length : Int) := hgt
      obtain ⟨x, xm, e⟩ := at_mapV (f := V.str) (xs := zs) (i := cell / 5 % ((zs.map V.str).length : Int)) (Int.emod_nonneg _ (by omega)) (by have := Int.emod_lt_of_pos (cell / 5) hp2; rw [List.length_map] at this ⊢; exact this)
      refine ⟨_, rfl, .inl ⟨rfl, _, SqL.of hz⟩, _, rfl, _, rfl, _, rfl, _, _, rfl, rfl, ⟨by decide, by decide⟩, _, rfl, c, _, rfl, .inl (SqL.of hz), _, _, rfl, rfl, hp2, c, _, _, _, rfl, rfl, SqL.of hz, e, c, _, _, _, rfl, rfl, hz, line_lt (by rw [List.length_map]; omega), a0, a1, ?_⟩
      exact ⟨zs.take at'.toNat ++ x :: zs.drop at'.toNat, rfl, by rw [ins_len]; omega, okn_ins _ okz (okz x (List.mem_of_getElem? xm)), by rw [upd_same, ins_map], kz.trans KBx.upd⟩
    rintro σ G ⟨us, rfl, lus, oku, hu, ku⟩
    refine ⟨_, rfl, rfl, _, rfl, iteD (fun _ => ?_) (fun _ => fin ku hu lus oku)⟩
    have hn2 := ku _ _ (Ne.symm cn) hn
    refine ⟨_, rfl, n, rfl, ⟨_, SqL.of hn2⟩, ?_⟩
    refine for_list (K := K) (a := n) (xs := nm.map V.str) (fun i σ G => ∃ (o8 : Option V) (us : List Str), σ = [some (.int way), some (.ref n), some (.ref l), some (.int place), some (.int cell), some (.int seed), some (.ref c), some (.int at'), o8] ∧ us.length ≤ b + 2 ∧ OkN us ∧ G c = some (.lst (us.map V.str)) ∧ KBx c H G) ⟨none, us, rfl, lus, oku, hu, ku⟩ (fun i σ G _ ⟨_, _, _, _, _, _, kk⟩ => SqL.of (kk _ _ (Ne.symm cn) hn)) ?_ ?_
    · rintro i v σ G hv ⟨o8, us, rfl, lus, oku, hu, ku⟩
      rw [List.getElem?_map] at hv
      obtain ⟨x, hx, rfl⟩ := Option.map_eq_some_iff.mp hv
      refine ⟨_, rfl, _, rfl, c, _, rfl, .inl (SqL.of hu), rfl, flat_strs _, _, rfl, iteBB (fun _ => ?_) (fun _ => iteF ⟨_, us, rfl, lus, oku, hu, ku⟩)⟩
      have b3 : 0 ≤ cell % 3 ∧ cell % 3 < 3 := ⟨Int.emod_nonneg _ (by decide), Int.emod_lt_of_pos _ (by decide)⟩
      refine ⟨_, rfl, c, _, rfl, .inl (SqL.of hu), _, rfl, _, _, rfl, rfl, (by show (0 : Int) < 3; decide), _, _, rfl, rfl, _, _, rfl, rfl, _, rfl, iteD (fun hlt => ?_) (fun _ => ⟨_, us, rfl, lus, oku, hu, ku⟩)⟩
      have hlt : ((us.map V.str).length : Int) < 4 + cell % 3 := hlt
      rw [List.length_map] at hlt
      refine ⟨_, rfl, .inl ⟨rfl, _, SqL.of hu⟩, _, rfl, c, _, _, rfl, rfl, hu, line_lt (by rw [List.length_map]; omega), ?_⟩
      refine ⟨_, us ++ [x], rfl, by rw [List.length_append, List.length_singleton]; omega, okn_app oku (fun y hy => by rw [List.mem_singleton.mp hy]; exact okn x (List.mem_of_getElem? hx)), by rw [upd_same, List.map_append]; rfl, ku.trans KBx.upd⟩
    · rintro σ G ⟨o8, us, rfl, lus, oku, hu, ku⟩
      exact fin ku hu lus oku
theorem ok_l_named (T : Txt K mg t) : FnOk P w K mg base CX0 1 t.f_l_named t.d_l_named ["_law_text"] sp_named := by
  refine T.F_l_named.ok sc_l_named (fun vs H Q E h => ?_) (fun cdv A outer s H vs Q E hr h => ?_)
  · obtain ⟨x, rfl, _⟩ := h
    rfl
  · obtain ⟨x, rfl, lx, k⟩ := h
    have lzz : x.length ≤ sizeLine := line_le (by omega)
    refine ⟨_, (pss_cons (ps_if (PW.pt (pw_or (pt_cmpR op_eq (pv 0) pe_str (nomark _)) (pw_or (pt_cmpR op_eq (pv 0) pe_str (nomark _)) (pw_or (pt_cmpR op_lt (pe_callB call_len_str (by rfl) T.z_len PySem.boot_len (pa_cons (pv 0) pa_nil)) pe_int (nomark _)) (pw_or1 (pt_cmpR op_gt (pe_callB call_len_str (by rfl) T.z_len PySem.boot_len (pa_cons (pv 0) pa_nil)) pe_int (nomark _)))))))
        (pss_one (ps_ret pe_bl))
        pss_nil)
      (pss_cons (ps_for PassesOwn.never rfl (pi_str (pv 0)) (pg_name (i := 1) sc_l_named.nd rfl (Or.inl rfl) (Or.inl rfl))
        (pss_one (ps_if (pt_cmpR op_notIn_str (pv 1) pe_str (by with_unfolding_all rfl))
          (pss_one (ps_ret pe_bl))
          pss_nil)))
      (pss_one (ps_ret pe_bl)))), ?_⟩
    refine ⟨_, rfl, rfl, _, rfl, iteD (fun e => iteT ?_) (fun n1 => ?_)⟩
    · have e : x = "if" := by injection e
      have : nmB x = false := by rw [e]; decide +kernel
      rw [this] at k
      exact k
    refine ⟨_, rfl, rfl, _, rfl, iteD (fun e => iteT ?_) (fun n2 => ?_)⟩
    · have e : x = "sum" := by injection e
      have : nmB x = false := by rw [e]; decide +kernel
      rw [this] at k
      exact k
    refine ⟨_, rfl, x, rfl, lzz, _, _, rfl, rfl, _, rfl, iteD (fun e => iteT ?_) (fun n3 => ?_)⟩
    · have e : ((x.length : Nat) : Int) < 1 := e
      have e0 : x = "" := by
        have h0 : x.cps.size = 0 := by show x.length = 0; omega
        obtain ⟨cps⟩ := x
        have : cps = #[] := Array.eq_empty_of_size_eq_zero h0
        rw [this]; decide +kernel
      have : nmB x = false := by rw [e0]; decide +kernel
      rw [this] at k
      exact k
    refine ⟨_, rfl, x, rfl, lzz, _, _, rfl, rfl, _, rfl, iteD (fun e => ?_) (fun n4 => ?_)⟩
    · have e : (8 : Int) < ((x.length : Nat) : Int) := e
      rw [nmB_le (by omega)] at k
      exact k
    have n3 : ¬ ((x.length : Nat) : Int) < 1 := n3
    have n4 : ¬ (8 : Int) < ((x.length : Nat) : Int) := n4
    have x1 : x ≠ "if" := fun z => n1 (by rw [z])
    have x2 : x ≠ "sum" := fun z => n2 (by rw [z])
    have x0 : x ≠ "" := fun z => by
      rw [z] at n3
      exact n3 (by decide +kernel)
    have nb : nmB x = x.cps.toList.all fun c => decide (c ∈ abc.cps.toList) := by
      unfold nmB letB
      rw [decide_eq_false x0, decide_eq_true (show x.length ≤ 8 by omega), decide_eq_false (show ¬ x ∈ (["if", "sum"] : List Str) by
        intro m
        rcases List.mem_cons.mp m with e | m
        · exact x1 e
        · exact x2 (List.mem_singleton.mp m))]
      simp only [Bool.not_false, Bool.true_and, Bool.and_true]
      congr 1
      funext c
      exact ch_abc c
    refine ⟨_, rfl, x, rfl, ?_⟩
    refine for_str (z := x) (fun i σ G => ∃ o1 : Option V, σ = [some (.str x), o1] ∧ G = H ∧ ∀ j c, j < i → x.cps[j]? = some c → c ∈ abc.cps.toList) ⟨none, rfl, rfl, by intro j c h; omega⟩ ?_ ?_
    · rintro i c σ G hc ⟨o1, rfl, rfl, gd⟩
      refine ⟨_, rfl, _, _, rfl, rfl, _, rfl, ?_⟩
      rw [StrLaws.found_one]
      refine iteND (fun hno => ?_) (fun hyes => ⟨_, rfl, rfl, fun j d hj hd => ?_⟩)
      · have : nmB x = false := by
          rw [nb]
          refine List.all_eq_false.mpr ⟨c, ?_, by simpa using hno⟩
          obtain ⟨hh, e⟩ := Array.getElem?_eq_some_iff.mp hc
          rw [← e]
          exact Array.getElem_mem_toList hh
        rw [this] at k
        exact k
      · rcases Nat.lt_or_ge j i with h | h
        · exact gd j d h hd
        · have : j = i := by omega
          subst this
          rw [hc] at hd
          cases hd
          exact hyes
    · rintro σ G ⟨o1, rfl, rfl, gd⟩
      have : nmB x = true := by
        rw [nb]
        refine List.all_eq_true.mpr fun c hc => decide_eq_true ?_
        obtain ⟨j, hj, e⟩ := List.mem_iff_getElem.mp hc
        rw [Array.length_toList] at hj
        exact gd j c hj (by rw [Array.getElem?_eq_getElem hj]; exact congrArg some (by simpa using e))
      rw [this] at k
      exact k
end
end My

set_option Elab.async false
set_option linter.all false
set_option maxRecDepth 100000
set_option maxHeartbeats 4000000
namespace My
open PySem L2
local macro_rules | `(tactic| walk_at "lk") => `(tactic| first | with_reducible exact lk0 | (refine lk1 (by decide +kernel) ?_; walk_at "lk") | rfl)
theorem at_str {ys : List Str} {i : Nat} {x : Str} (h : ys[i]? = some x) : atI (ys.map V.str) (i : Int) = some (.str x) := atI_nat (by rw [List.getElem?_map, h]; rfl)
section
variable {P : Program} {w : World} {K : PySem.W.Frag} {mg : Str → Option Value} {base : Heap} {t : Adr}
theorem ok_l_due (T : Txt K mg t) : FnOk P w K mg base CX0 2 t.f_l_due t.d_l_due ["_law_names", "_law_many", "_law_lists", "_law_outs"] sp_due := by
  have G_l_named := ok_l_named (P := P) (w := w) (base := base) T
  refine T.F_l_due.ok sc_l_due (fun vs H Q E h => ?_) (fun cdv A outer s H vs Q E hr h => ?_)
  · obtain ⟨n, l, o, m, nm, os, cs, lists, rfl, _⟩ := h
    rfl
  · obtain ⟨n, l, o, m, nm, os, cs, lists, rfl, hn, ln, mn, okn, hl, lc, pl, ho, lo, oko, k⟩ := h
    have lcl := Paired.length pl
    refine ⟨_, (pss_cons (ps_for PassesOwn.never rfl (pi_range1 rfl T.z_range (pa_cons (pe_callB call_len_seq (by rfl) T.z_len PySem.boot_len (pa_cons (pv 0) pa_nil)) pa_nil)) (pg_name (i := 4) sc_l_due.nd rfl (Or.inl rfl) (Or.inl rfl))
        (pss_one (ps_if (PW.pt (pw_or (pt_not (pt_val (pe_call G_l_named (hr.mono (by omega)) rfl T.m_l_named T.F_l_named.kp T.b_l_named .nil pass0 (pa_cons (pe_ix ix_list (pv 0) (pv 4) (fun _ _ => rfl)) pa_nil)))) (pw_or1 (pt_cmpR op_in_seq (pe_ix ix_list (pv 0) (pv 4) (fun _ _ => rfl)) (pe_slice sl_list (pv 0) po_none (po_some (pv 4))) (by with_unfolding_all rfl)))))
          (pss_one (ps_ret pe_str))
          pss_nil)))
      (pss_cons (ps_for PassesOwn.never rfl (pi_range1 rfl T.z_range (pa_cons (pe_callB call_len_seq (by rfl) T.z_len PySem.boot_len (pa_cons (pv 3) pa_nil)) pa_nil)) (pg_name (i := 4) sc_l_due.nd rfl (Or.inl rfl) (Or.inl rfl))
        (pss_one (ps_if (PW.pt (pw_or (pt_cmpR op_notIn_seq (pe_ix ix_list (pv 3) (pv 4) (fun _ _ => rfl)) (pe_slice sl_list (pv 0) (po_some (pv 1)) po_none) (by with_unfolding_all rfl)) (pw_or1 (pt_cmpR op_in_seq (pe_ix ix_list (pv 3) (pv 4) (fun _ _ => rfl)) (pe_slice sl_list (pv 3) po_none (po_some (pv 4))) (by with_unfolding_all rfl)))))
          (pss_one (ps_ret pe_str))
          pss_nil)))
      (pss_cons (ps_if (pt_cmpR (op_eqD hr.units) (pv 3) (pe_lst pa_nil) (nomark _))
        (pss_one (ps_ret pe_str))
        pss_nil)
      (pss_cons (ps_for PassesOwn.never rfl (pi_list (pv 2)) (pg_name (i := 5) sc_l_due.nd rfl (Or.inl rfl) (Or.inl rfl))
        (pss_one (ps_for PassesOwn.never rfl (pi_range1 rfl T.z_range (pa_cons (pe_callB call_len_seq (by rfl) T.z_len PySem.boot_len (pa_cons (pv 5) pa_nil)) pa_nil)) (pg_name (i := 4) sc_l_due.nd rfl (Or.inl rfl) (Or.inl rfl))
          (pss_one (ps_if (PW.pt (pw_or (pt_cmpR op_gt (pv 4) pe_int (nomark _)) (pw_or (pt_cmpR op_notIn_seq (pe_ix ix_list (pv 5) (pv 4) (fun _ _ => rfl)) (pe_slice sl_list (pv 0) po_none (po_some (pv 1))) (by with_unfolding_all rfl)) (pw_or1 (pt_cmpR op_in_seq (pe_ix ix_list (pv 5) (pv 4) (fun _ _ => rfl)) (pe_slice sl_list (pv 5) po_none (po_some (pv 4))) (by with_unfolding_all rfl))))))
            (pss_one (ps_ret pe_str))
            pss_nil)))))
      (pss_one (ps_ret pe_str)))))), ?_⟩
    refine ⟨_, rfl, n, _, rfl, .inl (SqL.of hn), _, rfl, by omega, by rw [List.length_map]; omega, ?_⟩
    refine for_range (n := (nm.map V.str).length) (fun i σ G => ∃ o4 : Option V, σ = [some (.ref n), some (.int (m : Int)), some (.ref l), some (.ref o), o4, none] ∧ Same H G ∧ ∀ j x, j < i → nm[j]? = some x → nmB x = true ∧ x ∉ nm.take j) ⟨none, rfl, Same.refl _, by intro j x h; omega⟩ ?_ ?_
    · rintro i σ G hi ⟨o4, rfl, sG, gd⟩
      rw [Int.zero_add]
      rw [List.length_map] at hi
      have hx : nm[i]? = some nm[i] := List.getElem?_eq_getElem hi
      generalize nm[i] = x at hx
      obtain ⟨_, lx⟩ := okn x (List.mem_of_getElem? hx)
      refine ⟨_, rfl, _, rfl, n, _, _, _, rfl, rfl, SqL.of (sG _ _ hn), at_str hx, x, rfl, lx, _, rfl, iteBN (fun hb => iteT ?_) (fun hb => ?_)⟩
      · exact k "name" G (.inl ⟨rfl, fun g => by have := (g.1 i x hx).1; rw [this] at hb; cases hb⟩) sG
      refine ⟨_, rfl, _, rfl, n, _, _, _, rfl, rfl, SqL.of (sG _ _ hn), at_str hx, _, rfl, _, rfl, _, rfl, n, _, rfl, SqL.of (sG _ _ hn), fun q hq => ?_⟩
      rw [cut_take (Nat.le_of_lt hi)]
      have s6 := same_new (o := .lst ((nm.take i).map V.str)) hq
      refine ⟨q, (nm.take i).map V.str, rfl, .inl (SqL.of upd_same), rfl, flat_strs _, _, rfl, ?_⟩
      rw [inV_str]
      refine iteD (fun hin => k "name" _ (.inl ⟨rfl, fun g => (g.1 i x hx).2 hin⟩) (sG.trans s6)) (fun hout => ⟨_, rfl, sG.trans s6, fun j y hj hy => ?_⟩)
      rcases Nat.lt_or_ge j i with h | h
      · exact gd j y h hy
      · have : j = i := by omega
        subst this
        rw [hx] at hy
        cases hy
        exact ⟨hb, hout⟩
    rintro σ G ⟨o4, rfl, sG, gd⟩
    rw [List.length_map] at gd
    have gn : GoodNs nm := good_end gd
    clear gd
    refine ⟨_, rfl, o, _, rfl, .inl (SqL.of (sG _ _ ho)), _, rfl, by omega, by rw [List.length_map]; omega, ?_⟩
    refine for_range (n := (os.map V.str).length) (fun i σ G => ∃ o4 : Option V, σ = [some (.ref n), some (.int (m : Int)), some (.ref l), some (.ref o), o4, none] ∧ Same H G ∧ ∀ j x, j < i → os[j]? = some x → x ∈ nm.drop m ∧ x ∉ os.take j) ⟨_, rfl, sG, by intro j x h; omega⟩ ?_ ?_
    · rintro i σ G hi ⟨o4, rfl, sG, gd⟩
      rw [Int.zero_add]
      rw [List.length_map] at hi
      have hx : os[i]? = some os[i] := List.getElem?_eq_getElem hi
      generalize os[i] = x at hx
      refine ⟨_, rfl, _, rfl, o, _, _, _, rfl, rfl, SqL.of (sG _ _ ho), at_str hx, _, rfl, _, rfl, _, rfl, n, _, rfl, SqL.of (sG _ _ hn), fun q hq => ?_⟩
      rw [cut_drop mn]
      have s5 := same_new (o := .lst ((nm.drop m).map V.str)) hq
      refine ⟨q, (nm.drop m).map V.str, rfl, .inl (SqL.of upd_same), rfl, flat_strs _, _, rfl, ?_⟩
      rw [inV_str]
      have s5' := sG.trans s5
      refine iteND (fun hno => iteT (k "name" _ (.inl ⟨rfl, fun g => hno (g.2.2 i x hx).1⟩) s5')) (fun hyes => ?_)
      refine ⟨_, rfl, _, rfl, o, _, _, _, rfl, rfl, SqL.of (s5' _ _ ho), at_str hx, _, rfl, _, rfl, _, rfl, o, _, rfl, SqL.of (s5' _ _ ho), fun q2 hq2 => ?_⟩
      rw [cut_take (Nat.le_of_lt hi)]
      have s6 := s5'.trans (same_new (o := .lst ((os.take i).map V.str)) hq2)
      refine ⟨q2, (os.take i).map V.str, rfl, .inl (SqL.of upd_same), rfl, flat_strs _, _, rfl, ?_⟩
      rw [inV_str]
      refine iteD (fun hin => k "name" _ (.inl ⟨rfl, fun g => (g.2.2 i x hx).2 hin⟩) s6) (fun hout => ⟨_, rfl, s6, fun j y hj hy => ?_⟩)
      rcases Nat.lt_or_ge j i with h | h
      · exact gd j y h hy
      · have : j = i := by omega
        subst this
        rw [hx] at hy
        cases hy
        exact ⟨hyes, hout⟩
    rintro σ G ⟨o4, rfl, sG, gd⟩
    rw [List.length_map] at gd
    have go : GoodL1 (fun x => x ∈ nm.drop m) os := good_end gd
    clear gd
    refine ⟨_, rfl, line_le (by simp), fun z hz => ?_⟩
    have s7 := sG.trans (same_new (o := .lst []) hz)
    refine ⟨encS os, encS [], S_rep (s7 _ _ ho), S_rep (ys := []) upd_same, shaped_of (encS_lay fun x hx => (oko x hx).1) (by have := (encS_ok os).1; omega), rfl, _, rfl, ?_⟩
    rw [show PyData.eqv (encS os) (encS []) = decide (os = []) by cases os <;> rfl]
    refine iteD (fun he => k "name" _ (.inl ⟨rfl, fun g => g.2.1 he⟩) s7) (fun hne => ?_)
    have gg : GoodNs nm ∧ GoodOs (nm.drop m) os := ⟨gn, hne, go⟩
    generalize upd G z (.lst []) = G0 at s7 ⊢
    refine ⟨_, rfl, l, rfl, ⟨_, SqL.of (s7 _ _ hl)⟩, ?_⟩
    refine for_list (K := K) (a := l) (xs := cs.map V.ref) (fun i σ G => ∃ (o4 o5 : Option V), σ = [some (.ref n), some (.int (m : Int)), some (.ref l), some (.ref o), o4, o5] ∧ Same H G ∧ ∀ j ys, j < i → lists[j]? = some ys → GoodAs (nm.take m) ys) ⟨_, _, rfl, s7, by intro j x h; omega⟩ (fun i σ G _ ⟨_, _, _, s2, _⟩ => SqL.of (s2 _ _ hl)) ?_ ?_
    · rintro i v σ G hv ⟨o4, o5, rfl, sG, gd⟩
      rw [List.getElem?_map] at hv
      obtain ⟨c, hc, rfl⟩ := Option.map_eq_some_iff.mp hv
      obtain ⟨ys, hys, hcy, l20⟩ := pget pl hc
      have hm := List.mem_of_getElem? hys
      refine ⟨_, rfl, c, _, rfl, .inl (SqL.of (sG _ _ hcy)), _, rfl, by omega, by rw [List.length_map]; omega, ?_⟩
      refine for_range (n := (ys.map V.str).length) (fun a σ G => ∃ o4 : Option V, σ = [some (.ref n), some (.int (m : Int)), some (.ref l), some (.ref o), o4, some (.ref c)] ∧ Same H G ∧ a ≤ 3 ∧ ∀ j x, j < a → ys[j]? = some x → x ∈ nm.take m ∧ x ∉ ys.take j) ⟨_, rfl, sG, by omega, by intro j x h; omega⟩ ?_ ?_
      · rintro a σ G ha ⟨o4, rfl, sG, a3, gd2⟩
        rw [Int.zero_add]
        rw [List.length_map] at ha
        have hx : ys[a]? = some ys[a] := List.getElem?_eq_getElem ha
        generalize ys[a] = x at hx
        refine ⟨_, rfl, _, _, rfl, rfl, _, rfl, iteD (fun h2 => iteT ?_) (fun h2 => ?_)⟩
        · have h2 : (2 : Int) < (a : Int) := h2
          exact k "shape" G (.inr (.inl ⟨rfl, gg, fun g => by have := (g ys hm).1; omega⟩)) sG
        have h2 : ¬ (2 : Int) < (a : Int) := h2
        refine ⟨_, rfl, _, rfl, c, _, _, _, rfl, rfl, SqL.of (sG _ _ hcy), at_str hx, _, rfl, _, rfl, _, rfl, n, _, rfl, SqL.of (sG _ _ hn), fun q hq => ?_⟩
        rw [cut_take mn]
        have s5 := sG.trans (same_new (o := .lst ((nm.take m).map V.str)) hq)
        refine ⟨q, (nm.take m).map V.str, rfl, .inl (SqL.of upd_same), rfl, flat_strs _, _, rfl, ?_⟩
        rw [inV_str]
        refine iteND (fun hno => iteT (k "shape" _ (.inr (.inl ⟨rfl, gg, fun g => hno ((g ys hm).2 a x hx).1⟩)) s5)) (fun hyes => ?_)
        refine ⟨_, rfl, _, rfl, c, _, _, _, rfl, rfl, SqL.of (s5 _ _ hcy), at_str hx, _, rfl, _, rfl, _, rfl, c, _, rfl, SqL.of (s5 _ _ hcy), fun q2 hq2 => ?_⟩
        rw [cut_take (Nat.le_of_lt ha)]
        have s6 := s5.trans (same_new (o := .lst ((ys.take a).map V.str)) hq2)
        refine ⟨q2, (ys.take a).map V.str, rfl, .inl (SqL.of upd_same), rfl, flat_strs _, _, rfl, ?_⟩
        rw [inV_str]
        refine iteD (fun hin => k "shape" _ (.inr (.inl ⟨rfl, gg, fun g => ((g ys hm).2 a x hx).2 hin⟩)) s6) (fun hout => ⟨_, rfl, s6, by omega, fun j y hj hy => ?_⟩)
        rcases Nat.lt_or_ge j a with h | h
        · exact gd2 j y h hy
        · have : j = a := by omega
          subst this
          rw [hx] at hy
          cases hy
          exact ⟨hyes, hout⟩
      · rintro σ G ⟨o4, rfl, sG, a3, gd2⟩
        rw [List.length_map] at a3 gd2
        refine ⟨_, _, rfl, sG, fun j zs hj hz => ?_⟩
        rcases Nat.lt_or_ge j i with h | h
        · exact gd j zs h hz
        · have : j = i := by omega
          subst this
          rw [hys] at hz
          cases hz
          exact ⟨a3, good_end gd2⟩
    · rintro σ G ⟨o4, o5, rfl, sG, gd⟩
      rw [List.length_map] at gd
      refine k "by" G (.inr (.inr ⟨rfl, gg, fun ys hys => ?_⟩)) sG
      obtain ⟨j, hj, e⟩ := List.mem_iff_getElem.mp hys
      exact gd j ys (by omega) (by rw [List.getElem?_eq_getElem hj, e])
end
end My

set_option Elab.async false
set_option linter.all false
set_option maxRecDepth 100000
set_option maxHeartbeats 4000000
namespace My
open PySem L2
local macro_rules | `(tactic| walk_at "lk") => `(tactic| first | with_reducible exact lk0 | (refine lk1 (by decide +kernel) ?_; walk_at "lk") | rfl)
def sp_asked (A : Adr) : Sp := fun vs H Q E => ∃ (p : Addr) (b : Bool) (wh : Int) (ax : List (Str × Int)) (tb : List (Str × List Str)) (ls : List Lt3) (os : List Str), vs = [.ref p, .bl b] ∧ PrAt A H p wh ax tb ls os ∧ NmIn ax tb ls os ∧ (b = true → ¬ (GdN ax tb ls os ∧ GdS ax tb ls)) ∧
  (GdN ax tb ls os → GdS ax tb ls → ∀ H', Same H H' → Q .non H') ∧ (¬ GdN ax tb ls os → ∀ H', Same H H' → E (.ref A.C_NoName) none H') ∧ (GdN ax tb ls os → ¬ GdS ax tb ls → ∀ H', Same H H' → E (.ref A.C_NoShape) none H')
def ResIs (ax : List (Str × Int)) (tb : List (Str × List Str)) (ls : List Lt3) (os : List Str) (r : Str) : Prop := (r = "name" ∧ ¬ GdN ax tb ls os) ∨ (r = "shape" ∧ GdN ax tb ls os ∧ ¬ GdS ax tb ls) ∨ (r = "by" ∧ GdN ax tb ls os ∧ GdS ax tb ls)
def sp_got (A : Adr) : Sp := fun vs H Q _ => ∃ (p : Addr) (b : Bool) (wh : Int) (ax : List (Str × Int)) (tb : List (Str × List Str)) (ls : List Lt3) (os : List Str), vs = [.ref p, .bl b] ∧ PrAt A H p wh ax tb ls os ∧ NmIn ax tb ls os ∧ (b = true → ¬ (GdN ax tb ls os ∧ GdS ax tb ls)) ∧ ∀ (r : Str) (H' : Hp), ResIs ax tb ls os r → Same H H' → Q (.str r) H'
def sp_under (A : Adr) : Sp := fun vs H Q _ => ∃ (p : Addr) (wh : Int) (ax : List (Str × Int)) (tb : List (Str × List Str)) (ls : List Lt3) (os : List Str), vs = [.ref p] ∧ PrAt A H p wh ax tb ls os ∧ NmIn ax tb ls os ∧ ¬ (GdN ax tb ls os ∧ GdS ax tb ls) ∧ ∀ H', Same H H' → Q (.bl true) H'
section
variable {P : Program} {w : World} {K : PySem.W.Frag} {mg : Str → Option Value} {base : Heap} {t : Adr}
theorem ok_l_asked (T : Txt K mg t) : FnOk P w K mg base (CXF P w) 6 t.f_l_asked t.d_l_asked ["_law_program", "_law_whole"] (sp_asked t) := by
  have G_look := ok_look (P := P) (w := w) (base := base) T
  have G_look_names := ok_look_names (P := P) (w := w) (base := base) T
  refine T.F_l_asked.okF sc_l_asked (fun vs H Q E h => ?_) (fun cdv A outer s H vs Q E hr h => ?_)
  · obtain ⟨p, b, wh, ax, tb, ls, os, rfl, _⟩ := h
    rfl
  · obtain ⟨p, b, wh, ax, tb, ls, os, rfl, pr, ok, hb, kQ, kN, kS⟩ := h
    refine ⟨_, (pss_cons (ps_if (pt_val (pv 1))
        (pss_one (ps_ret (pe_call G_look (hr.mono (by omega)) rfl T.m_look T.F_look.kp T.b_look .nil passF (pa_cons (pv 0) pa_nil))))
        pss_nil)
      (pss_one (ps_ret (pe_call G_look_names (hr.mono (by omega)) rfl T.m_look_names T.F_look_names.kp T.b_look_names .nil passF (pa_cons (pv 0) pa_nil))))), ?_⟩
    refine ⟨_, rfl, _, rfl, iteBB (fun b1 => ?_) (fun _ => ?_)⟩
    · exact ⟨_, rfl, p, wh, ax, tb, ls, os, rfl, pr, ok, hb b1, kN, kS⟩
    · exact ⟨_, rfl, p, wh, ax, tb, ls, os, rfl, pr, ok, kQ, kN, kS⟩
theorem ok_l_got (T : Txt K mg t) : FnOk P w K mg base CX0 7 t.f_l_got t.d_l_got ["_law_program", "_law_whole"] (sp_got t) := by
  have G_l_asked := ok_l_asked (P := P) (w := w) (base := base) T
  refine T.F_l_got.ok sc_l_got (fun vs H Q E h => ?_) (fun cdv A outer s H vs Q E hr h => ?_)
  · obtain ⟨p, b, wh, ax, tb, ls, os, rfl, _⟩ := h
    rfl
  · obtain ⟨p, b, wh, ax, tb, ls, os, rfl, pr, ok, hb, k⟩ := h
    refine ⟨_, (pss_cons (ps_set (i := 2) sc_l_got.nd rfl (Or.inl rfl) pe_non)
      (pss_cons (ps_tryA (i := 2) ⟨rfl, rfl⟩ (px_call G_l_asked (hr.mono (by omega)) rfl T.m_l_asked T.F_l_asked.kp T.b_l_asked (pa_cons (pv 0) (pa_cons (pv 1) pa_nil))) sc_l_got.nd rfl (Or.inl rfl))
      (pss_cons (ps_if (pt_cmpR op_isN (pv 2) pe_non (nomark _))
        (pss_one (ps_ret pe_str))
        pss_nil)
      (pss_one (ps_ret pe_str))))), ?_⟩
    refine ⟨_, rfl, _, rfl, p, b, wh, ax, tb, ls, os, rfl, pr, ok, hb, fun g1 g2 H1 s1 => ?_, fun g1 H1 s1 => ⟨t.C_NoName, _, rfl, (ph_hit (i := 3) rfl T.m_NoName T.em_NoName_NoName sc_l_got.nd rfl rfl (fun _ => (pss_cons (ps_if (pt_val (pe_callB (call_isiXTK (K := K) rfl) (by rfl) T.z_isinstance PyProof.Rows.boot_isinstance (pa_cons (pv 3) (pa_cons (pe_tup (pa_cons (pe_glob (v := V.ref t.C_NoShape) rfl T.m_NoShape rfl) (pa_cons (pe_glob (v := V.ref t.C_TooMuch) rfl T.m_TooMuch rfl) (pa_cons (pe_glob (v := V.ref t.C_BeyondRim) rfl T.m_BeyondRim rfl) (pa_cons (pe_glob (v := V.ref t.C_NotYet) rfl T.m_NotYet rfl) (pa_cons (pe_glob (v := V.ref t.C_NoText) rfl T.m_NoText rfl) pa_nil)))))) pa_nil))))
        (pss_one (ps_ret pe_str))
        pss_nil)
      (pss_one (ps_ret pe_str))))), fun ea hea => ?_⟩, fun g1 g2 H1 s1 => ⟨t.C_NoShape, _, rfl, (ph_miss rfl T.m_NoName T.em_NoShape_NoName (ph_hit (i := 3) rfl T.m_NoShape T.em_NoShape_NoShape sc_l_got.nd rfl rfl (fun _ => (pss_cons (ps_if (pt_val (pe_callB (call_isiXTK (K := K) rfl) (by rfl) T.z_isinstance PyProof.Rows.boot_isinstance (pa_cons (pv 3) (pa_cons (pe_tup (pa_cons (pe_glob (v := V.ref t.C_NoName) rfl T.m_NoName rfl) (pa_cons (pe_glob (v := V.ref t.C_TooMuch) rfl T.m_TooMuch rfl) (pa_cons (pe_glob (v := V.ref t.C_BeyondRim) rfl T.m_BeyondRim rfl) (pa_cons (pe_glob (v := V.ref t.C_NotYet) rfl T.m_NotYet rfl) (pa_cons (pe_glob (v := V.ref t.C_NoText) rfl T.m_NoText rfl) pa_nil)))))) pa_nil))))
        (pss_one (ps_ret pe_str))
        pss_nil)
      (pss_one (ps_ret pe_str)))))), fun ea hea => ?_⟩⟩
    · exact ⟨_, rfl, rfl, true, rfl, iteT (k "by" H1 (.inr (.inr ⟨rfl, g1, g2⟩)) s1)⟩
    · have s0 : Same H1 (upd H1 ea (.ext (xcF ea t.C_NoName))) := same_new hea
      refine ⟨_, rfl, line_le (by show 5 ≤ 1000000; decide), fun tp htp => ?_⟩
      have s2 := same_new (o := .tup [.ref t.C_NoShape, .ref t.C_TooMuch, .ref t.C_BeyondRim, .ref t.C_NotYet, .ref t.C_NoText]) htp
      refine ⟨ea, t.C_NoName, tp, _, false, rfl, s2 _ _ upd_same, T.xc_NoName, upd_same, kitAny_no (cs := [t.C_NoShape, t.C_TooMuch, t.C_BeyondRim, t.C_NotYet, t.C_NoText]) (fun c hc => ?_), false, rfl, iteF (k "name" _ (.inl ⟨rfl, g1⟩) (s1.trans (s0.trans s2)))⟩
      simp only [List.mem_cons, List.not_mem_nil, or_false] at hc
      rcases hc with rfl | rfl | rfl | rfl | rfl
      · exact T.kx_NoName_NoShape
      · exact T.kx_NoName_TooMuch
      · exact T.kx_NoName_BeyondRim
      · exact T.kx_NoName_NotYet
      · exact T.kx_NoName_NoText
    · have s0 : Same H1 (upd H1 ea (.ext (xcF ea t.C_NoShape))) := same_new hea
      refine ⟨_, rfl, line_le (by show 5 ≤ 1000000; decide), fun tp htp => ?_⟩
      have s2 := same_new (o := .tup [.ref t.C_NoName, .ref t.C_TooMuch, .ref t.C_BeyondRim, .ref t.C_NotYet, .ref t.C_NoText]) htp
      refine ⟨ea, t.C_NoShape, tp, _, false, rfl, s2 _ _ upd_same, T.xc_NoShape, upd_same, kitAny_no (cs := [t.C_NoName, t.C_TooMuch, t.C_BeyondRim, t.C_NotYet, t.C_NoText]) (fun c hc => ?_), false, rfl, iteF (k "shape" _ (.inr (.inl ⟨rfl, g1, g2⟩)) (s1.trans (s0.trans s2)))⟩
      simp only [List.mem_cons, List.not_mem_nil, or_false] at hc
      rcases hc with rfl | rfl | rfl | rfl | rfl
      · exact T.kx_NoShape_NoName
      · exact T.kx_NoShape_TooMuch
      · exact T.kx_NoShape_BeyondRim
      · exact T.kx_NoShape_NotYet
      · exact T.kx_NoShape_NoText
theorem ok_l_under (T : Txt K mg t) : FnOk P w K mg base CX0 5 t.f_l_under t.d_l_under ["_law_program"] (sp_under t) := by
  have G_look_names := ok_look_names (P := P) (w := w) (base := base) T
  refine T.F_l_under.ok sc_l_under (fun vs H Q E h => ?_) (fun cdv A outer s H vs Q E hr h => ?_)
  · obtain ⟨p, wh, ax, tb, ls, os, rfl, _⟩ := h
    rfl
  · obtain ⟨p, wh, ax, tb, ls, os, rfl, pr, ok, hb, k⟩ := h
    refine ⟨_, (pss_cons (ps_tryE ⟨rfl, rfl⟩ (px_call G_look_names (hr.mono (by omega)) rfl T.m_look_names T.F_look_names.kp T.b_look_names (pa_cons (pv 0) pa_nil)))
      (pss_one (ps_ret pe_bl))), ?_⟩
    refine ⟨_, rfl, p, wh, ax, tb, ls, os, rfl, pr, ok, fun g1 g2 => (hb ⟨g1, g2⟩).elim, fun g1 H1 s1 => ⟨t.C_NoName, _, rfl, (ph_hit (i := 1) rfl T.m_LoomError T.em_NoName_LoomError sc_l_under.nd rfl rfl (fun _ => (pss_one (ps_ret (pe_callB (call_isiXK (K := K) rfl) (by rfl) T.z_isinstance PyProof.Rows.boot_isinstance (pa_cons (pv 1) (pa_cons (pe_bltn (v := V.ty "ValueError") rfl T.z_ValueError PyProof.Rows.Boot.«ValueError» rfl) pa_nil))))))), fun ea hea => ?_⟩, fun g1 g2 H1 s1 => ⟨t.C_NoShape, _, rfl, (ph_hit (i := 1) rfl T.m_LoomError T.em_NoShape_LoomError sc_l_under.nd rfl rfl (fun _ => (pss_one (ps_ret (pe_callB (call_isiXK (K := K) rfl) (by rfl) T.z_isinstance PyProof.Rows.boot_isinstance (pa_cons (pv 1) (pa_cons (pe_bltn (v := V.ty "ValueError") rfl T.z_ValueError PyProof.Rows.Boot.«ValueError» rfl) pa_nil))))))), fun ea hea => ?_⟩⟩
    · exact ⟨_, rfl, ea, t.C_NoName, _, true, rfl, upd_same, T.xc_NoName, isi_bt T.xm_NoName_ValueError (by decide +kernel), k _ (s1.trans (same_new hea))⟩
    · exact ⟨_, rfl, ea, t.C_NoShape, _, true, rfl, upd_same, T.xc_NoShape, isi_bt T.xm_NoShape_ValueError (by decide +kernel), k _ (s1.trans (same_new hea))⟩
end
end My

set_option Elab.async false
set_option linter.all false
set_option maxRecDepth 100000
set_option maxHeartbeats 4000000
namespace My
open PySem L2
local macro_rules | `(tactic| walk_at "lk") => `(tactic| first | with_reducible exact lk0 | (refine lk1 (by decide +kernel) ?_; walk_at "lk") | rfl)
def spLaw (K : PySem.W.Frag) : Sp := fun vs H Q _ => ∃ (a : Addr) (ns : List Int), vs = [.ref a] ∧ SqL K H a (ns.map V.int) ∧ ns.length ≤ 63 ∧ ∀ H', Q (.bl true) H'
theorem cut_map {α : Type} (f : α → V) (nm : List α) (lo hi : Option Int) : ∃ zs : List α, cutV (nm.map f) lo hi = zs.map f ∧ zs.length ≤ nm.length ∧ ∀ x ∈ zs, x ∈ nm := by
  refine ⟨(nm.drop (HT.sIx nm.length 0 lo)).take (HT.sIx nm.length nm.length hi - HT.sIx nm.length 0 lo), ?_, ?_, fun x hx => ?_⟩
  · unfold cutV
    rw [List.length_map, ← List.map_drop, ← List.map_take]
  · rw [List.length_take, List.length_drop]; omega
  · exact List.mem_of_mem_drop (List.mem_of_mem_take hx)
theorem Oth.kp {r : Addr} {H H' : Hp} (h : Oth r H H') : KBx r H H' := fun b o hb e => by rw [h b hb]; exact e
theorem kbx_free {r : Addr} {H H' : Hp} (h : KBx r H H') {b : Addr} (n : b ≠ r) (e : H' b = none) : H b = none := by
  cases q : H b with
  | none => rfl
  | some o => rw [h b o n q] at e; cases e
theorem pairs_of {α β : Type} {R : α → β → Prop} : ∀ {as : List α}, (∀ a ∈ as, ∃ b, R a b) → ∃ bs, Paired R as bs
  | [], _ => ⟨[], .nil⟩
  | a :: r, h => by
    obtain ⟨b, hb⟩ := h a (.head _)
    obtain ⟨bs, h2⟩ := pairs_of (as := r) fun x hx => h x (.tail _ hx)
    exact ⟨b :: bs, .cons hb h2⟩
theorem emptyD {os : List Str} : (if false = true then !PyData.eqv (encS os) (encS []) else PyData.eqv (encS os) (encS [])) = decide (os = []) := by
  cases os with
  | nil => rfl
  | cons x r => rfl
/-- what the spoiling works on: two lists of names, and lists of names in a list -/
structure WI (H : Hp) (SP N O L : Addr) (qs cs : List Addr) (n i j : Nat) : Prop where
  sp : H SP = some (.lst (qs.map V.ref))
  q : ∀ q ∈ qs, ∃ a b c : Int, H q = some (.lst [.int a, .int b, .int c])
  nm : ∃ nm : List Str, H N = some (.lst (nm.map V.str)) ∧ nm.length = n ∧ OkN nm
  os : ∃ os : List Str, H O = some (.lst (os.map V.str)) ∧ os.length ≤ 22 + 2 * i ∧ OkN os
  ls : H L = some (.lst (cs.map V.ref))
  cs : ∀ c ∈ cs, ∃ ys : List Str, H c = some (.lst (ys.map V.str)) ∧ ys.length ≤ 5 + 2 * j ∧ OkN ys
structure WD (SP N O L : Addr) (qs cs : List Addr) : Prop where
  no : N ≠ O
  sp : SP ≠ N ∧ SP ≠ O ∧ SP ∉ cs
  l : L ≠ N ∧ L ≠ O ∧ L ∉ cs
  q : ∀ q ∈ qs, q ≠ N ∧ q ≠ O ∧ q ∉ cs
  c : ∀ c ∈ cs, c ≠ N ∧ c ≠ O
section
variable {H H' : Hp} {SP N O L : Addr} {qs cs : List Addr} {n i j : Nat}
theorem WI.setN (h : WI H SP N O L qs cs n i j) (d : WD SP N O L qs cs) {nm' : List Str} (e : H' N = some (.lst (nm'.map V.str))) (l : nm'.length = n) (o : OkN nm') (k : KBx N H H') : WI H' SP N O L qs cs n i j :=
  ⟨k _ _ d.sp.1 h.sp, fun q hq => let ⟨x, y, z, e⟩ := h.q q hq; ⟨x, y, z, k _ _ (d.q q hq).1 e⟩, ⟨nm', e, l, o⟩, let ⟨os, e, l, o⟩ := h.os; ⟨os, k _ _ d.no.symm e, l, o⟩, k _ _ d.l.1 h.ls, fun c hc => let ⟨ys, e, l, o⟩ := h.cs c hc; ⟨ys, k _ _ (d.c c hc).1 e, l, o⟩⟩
theorem WI.setO (h : WI H SP N O L qs cs n i j) (d : WD SP N O L qs cs) {os' : List Str} (e : H' O = some (.lst (os'.map V.str))) (l : os'.length ≤ 22 + 2 * (i + 1)) (o : OkN os') (k : KBx O H H') : WI H' SP N O L qs cs n (i + 1) j :=
  ⟨k _ _ d.sp.2.1 h.sp, fun q hq => let ⟨x, y, z, e⟩ := h.q q hq; ⟨x, y, z, k _ _ (d.q q hq).2.1 e⟩, let ⟨nm, e, l, o⟩ := h.nm; ⟨nm, k _ _ d.no e, l, o⟩, ⟨os', e, l, o⟩, k _ _ d.l.2.1 h.ls, fun c hc => let ⟨ys, e, l, o⟩ := h.cs c hc; ⟨ys, k _ _ (d.c c hc).2 e, l, o⟩⟩
theorem WI.setC (h : WI H SP N O L qs cs n i j) (d : WD SP N O L qs cs) (k : ∀ p o, p ∉ cs → H p = some o → H' p = some o) (e : ∀ c ∈ cs, ∃ ys : List Str, H' c = some (.lst (ys.map V.str)) ∧ ys.length ≤ 5 + 2 * (j + 1) ∧ OkN ys) : WI H' SP N O L qs cs n i (j + 1) :=
  ⟨k _ _ d.sp.2.2 h.sp, fun q hq => let ⟨x, y, z, e⟩ := h.q q hq; ⟨x, y, z, k _ _ (d.q q hq).2.2 e⟩, let ⟨nm, e, l, o⟩ := h.nm; ⟨nm, k _ _ (fun z => (d.c _ z).1 rfl) e, l, o⟩, let ⟨os, e, l, o⟩ := h.os; ⟨os, k _ _ (fun z => (d.c _ z).2 rfl) e, l, o⟩, k _ _ d.l.2.2 h.ls, e⟩
theorem WI.same (h : WI H SP N O L qs cs n i j) (s : Same H H') : WI H' SP N O L qs cs n i j :=
  ⟨s _ _ h.sp, fun q hq => let ⟨x, y, z, e⟩ := h.q q hq; ⟨x, y, z, s _ _ e⟩, let ⟨nm, e, l, o⟩ := h.nm; ⟨nm, s _ _ e, l, o⟩, let ⟨os, e, l, o⟩ := h.os; ⟨os, s _ _ e, l, o⟩, s _ _ h.ls, fun c hc => let ⟨ys, e, l, o⟩ := h.cs c hc; ⟨ys, s _ _ e, l, o⟩⟩
end
/-- an axis, as it is laid -/
def AxAt (H : Hp) (v : V) (e : Str × Int) : Prop := ∃ q, v = .ref q ∧ H q = some (.tup [.str e.1, .int e.2])
theorem ax_reps {H : Hp} : ∀ {xs : List V} {ax : List (Str × Int)}, Paired (AxAt H) xs ax → Reps H xs (ax.map encI)
  | _, _, .nil => .nil
  | _, _, .cons ⟨q, e1, e2⟩ t => by rw [e1]; exact .cons (.tup e2 (.cons (.str _) (.cons (.int _) .nil))) (ax_reps t)
/-- a table, as it is laid -/
def TbA (D : Addr) (H : Hp) (v : V) (e : Str × List Str) : Prop := ∃ q c, v = .ref q ∧ H q = some (.tup [.str e.1, .ref c]) ∧ c ≠ D ∧ H c = some (.lst (e.2.map V.str))
theorem tba_reps {D : Addr} {H : Hp} : ∀ {xs : List V} {tb : List (Str × List Str)}, Paired (TbA D H) xs tb → Reps H xs (tb.map encT)
  | _, _, .nil => .nil
  | _, _, .cons ⟨q, c, e1, e2, _, e3⟩ t => by rw [e1]; exact .cons (T_rep e2 e3) (tba_reps t)
theorem map_take1 {α : Type} {f : α → Str} {ts : List α} {ns : List Str} {x : α} {i : Nat} (h : ts.map f = ns.take i) (e : ns[i]? = some (f x)) : (ts ++ [x]).map f = ns.take (i + 1) := by
  rw [List.map_append, h, List.take_add_one, e]; rfl
theorem map_take2 {α : Type} {f : α → List Str} {ts : List α} {ns : List (List Str)} {x : α} {i : Nat} (h : ts.map f = ns.take i) (e : ns[i]? = some (f x)) : (ts ++ [x]).map f = ns.take (i + 1) := by
  rw [List.map_append, h, List.take_add_one, e]; rfl
/-- what is due is what is got -/
theorem due_res {nm : List Str} {m : Nat} {lists : List (List Str)} {os : List Str} {ax : List (Str × Int)} {tb : List (Str × List Str)} {ls : List Lt3} (h1 : axN ax = nm.take m) (h2 : arN tb ls = nm.drop m) (h3 : (arr tb ls).map (·.2) = lists) : (GdN ax tb ls os ↔ GoodNs nm ∧ GoodOs (nm.drop m) os) ∧ (GdS ax tb ls ↔ ∀ ys ∈ lists, GoodAs (nm.take m) ys) := by
  refine ⟨?_, ?_⟩
  · unfold GdN
    rw [h1, h2, List.take_append_drop]
  · unfold GdS
    rw [h1, ← h3]
    refine ⟨fun h ys hy => ?_, fun h e he => h _ (List.mem_map.mpr ⟨e, he, rfl⟩)⟩
    obtain ⟨e, he, rfl⟩ := List.mem_map.mp hy
    exact h e he
theorem due_eq {nm : List Str} {m : Nat} {lists : List (List Str)} {os : List Str} {ax : List (Str × Int)} {tb : List (Str × List Str)} {ls : List Lt3} {r r' : Str} (h : (GdN ax tb ls os ↔ GoodNs nm ∧ GoodOs (nm.drop m) os) ∧ (GdS ax tb ls ↔ ∀ ys ∈ lists, GoodAs (nm.take m) ys)) (d : DueIs nm m lists os r) (g : ResIs ax tb ls os r') : r' = r := by
  unfold ResIs at g
  rw [h.1, h.2] at g
  rcases d with ⟨rfl, d⟩ | ⟨rfl, d1, d2⟩ | ⟨rfl, d1, d2⟩ <;> rcases g with ⟨rfl, g⟩ | ⟨rfl, g1, g2⟩ | ⟨rfl, g1, g2⟩
  · rfl
  · exact absurd g1 d
  · exact absurd g1 d
  · exact absurd d1 g
  · rfl
  · exact absurd g2 d2
  · exact absurd d1 g
  · exact absurd d2 g2
  · rfl
theorem pair_right {α β : Type} {R : α → β → Prop} : ∀ {as : List α} {bs : List β}, Paired R as bs → ∀ b ∈ bs, ∃ a ∈ as, R a b
  | _, _, .nil, _, h => by cases h
  | _, _, .cons r t, b, h => by
    rcases List.mem_cons.mp h with rfl | h
    · exact ⟨_, .head _, r⟩
    · obtain ⟨a, ha, hr⟩ := pair_right t b h
      exact ⟨a, .tail _ ha, hr⟩
theorem two_parts {α : Type} {ns : List α} {a b : Nat} (h : ns.length = a + b) : ns.take a ++ (ns.drop a).take b = ns := by
  rw [List.take_of_length_le (l := ns.drop a) (by rw [List.length_drop]; omega), List.take_append_drop]
section
variable {P : Program} {w : World} {K : PySem.W.Frag} {mg : Str → Option Value} {base : Heap} {t : Adr}
theorem ok_law (T : Txt K mg t) : FnOk P w K mg base CX0 8 t.f_law t.d_law ["_law_script"] (spLaw K) := by
  have G_Let_init := ok_Let_init (P := P) (w := w) (base := base) T
  have G_Number_init := ok_Number_init (P := P) (w := w) (base := base) T
  have G_Program_init := ok_Program_init (P := P) (w := w) (base := base) T
  have G_l_axes := ok_l_axes (P := P) (w := w) (base := base) T
  have G_l_cell := ok_l_cell (P := P) (w := w) (base := base) T
  have G_l_due := ok_l_due (P := P) (w := w) (base := base) T
  have G_l_got := ok_l_got (P := P) (w := w) (base := base) T
  have G_l_name := ok_l_name (P := P) (w := w) (base := base) T
  have G_l_spoil_axes := ok_l_spoil_axes (P := P) (w := w) (base := base) T
  have G_l_spoil_names := ok_l_spoil_names (P := P) (w := w) (base := base) T
  have G_l_spoil_outs := ok_l_spoil_outs (P := P) (w := w) (base := base) T
  have G_l_under := ok_l_under (P := P) (w := w) (base := base) T
  refine T.F_law.ok sc_law (fun vs H Q E h => ?_) (fun cdv A outer s H vs Q E hr h => ?_)
  · obtain ⟨a, ns, rfl, _⟩ := h
    rfl
  · obtain ⟨a, ns, rfl, hS, hn, k⟩ := h
    refine ⟨_, (pss_cons (ps_set (i := 1) sc_law.nd rfl (Or.inr rfl) (pe_comp (N' := ["_law_cell_here"]) (ix := (List.replicate 1 none)) rfl (clok_none rfl (by decide +kernel) (by decide +kernel)) (ixok_none rfl) (pi_rev rfl T.z_reversed (pa_cons (pe_slice sl_list (pv 0) po_none (po_some pe_int)) pa_nil)) (fun _ _ _ _ => (pg_name (i := 0) nd_comp_11 rfl (Or.inl rfl) (Or.inr rfl))) (fun _ _ _ _ => (pv 0))))
      (pss_cons (ps_set (i := 2) sc_law.nd rfl (Or.inr rfl) (pe_op op_mod (pe_call G_l_cell (hr.mono (by omega)) rfl T.m_l_cell T.F_l_cell.kp T.b_l_cell .nil pass0 (pa_cons (pv 1) pa_nil)) pe_int))
      (pss_cons (ps_set (i := 3) sc_law.nd rfl (Or.inl rfl) (pe_op op_mod (pe_call G_l_cell (hr.mono (by omega)) rfl T.m_l_cell T.F_l_cell.kp T.b_l_cell .nil pass0 (pa_cons (pv 1) pa_nil)) pe_int))
      (pss_cons (ps_set (i := 4) sc_law.nd rfl (Or.inl rfl) (pe_op op_mod (pe_call G_l_cell (hr.mono (by omega)) rfl T.m_l_cell T.F_l_cell.kp T.b_l_cell .nil pass0 (pa_cons (pv 1) pa_nil)) pe_int))
      (pss_cons (ps_set (i := 5) sc_law.nd rfl (Or.inr rfl) (pe_call G_l_cell (hr.mono (by omega)) rfl T.m_l_cell T.F_l_cell.kp T.b_l_cell .nil pass0 (pa_cons (pv 1) pa_nil)))
      (pss_cons (ps_setC (i₀ := 6) (N' := ["_law_k", "_law_rest"]) (ix := (List.replicate 1 none ++ [some 1])) sc_law.nd rfl (Or.inl rfl) rfl (clok_one (x := "_law_rest") rfl rfl rfl (by decide +kernel) (by decide +kernel)) (ixok_last (N0 := ["_law_k"]) rfl (Or.inl rfl) (by first | exact Or.inl rfl | exact Or.inr rfl | (simp [relabel]; rfl) | (with_unfolding_all exact Or.inl rfl) | (with_unfolding_all exact Or.inr rfl) | (with_unfolding_all decide))) (pi_range1 rfl T.z_range (pa_cons pe_int pa_nil)) (fun _ _ _ _ => (pg_name (i := 0) nd_comp_12 rfl (Or.inl rfl) (Or.inr rfl))) (fun _ _ _ _ => (pe_lst (pa_cons (pe_call G_l_cell (hr.mono (by omega)) rfl T.m_l_cell T.F_l_cell.kp T.b_l_cell .nil pass0 (pa_cons (pv 1) pa_nil)) (pa_cons (pe_call G_l_cell (hr.mono (by omega)) rfl T.m_l_cell T.F_l_cell.kp T.b_l_cell .nil pass0 (pa_cons (pv 1) pa_nil)) (pa_cons (pe_call G_l_cell (hr.mono (by omega)) rfl T.m_l_cell T.F_l_cell.kp T.b_l_cell .nil pass0 (pa_cons (pv 1) pa_nil)) pa_nil))))))
      (pss_cons (ps_set (i := 7) sc_law.nd rfl (Or.inr rfl) (pe_comp (N' := ["_law_k", "_law_seed"]) (ix := (List.replicate 1 none ++ [some 5])) rfl (clok_one (x := "_law_seed") rfl rfl rfl (by decide +kernel) (by decide +kernel)) (ixok_last (N0 := ["_law_k"]) rfl (Or.inl rfl) (by first | exact Or.inl rfl | exact Or.inr rfl | (simp [relabel]; rfl) | (with_unfolding_all exact Or.inl rfl) | (with_unfolding_all exact Or.inr rfl) | (with_unfolding_all decide))) (pi_range1 rfl T.z_range (pa_cons (pe_op op_add (pe_op op_add (pv 2) (pv 3)) (pv 4)) pa_nil)) (fun _ _ _ _ => (pg_name (i := 0) nd_comp_13 rfl (Or.inl rfl) (Or.inr rfl))) (fun _ _ _ _ => (pe_call G_l_name (hr.mono (by omega)) rfl T.m_l_name T.F_l_name.kp T.b_l_name .nil pass0 (pa_cons (pv 0) (pa_cons (pv 1) pa_nil))))))
      (pss_cons (ps_set (i := 8) sc_law.nd rfl (Or.inr rfl) (pe_comp (N' := ["_law_k", "_law_many", "_law_names", "_law_rest"]) (ix := (List.replicate 1 none ++ [some 2, some 7, some 1])) rfl (clok_many (cl := [("_law_rest", _), ("_law_names", _), ("_law_many", _)]) (xs := ["_law_rest", "_law_names", "_law_many"]) rfl ⟨rfl, rfl, rfl, trivial⟩ rfl rfl (by decide +kernel) (by decide +kernel)) (ixok_many (N0 := ["_law_k"]) (xs := ["_law_many", "_law_names", "_law_rest"]) (js := [2, 7, 1]) ⟨⟨rfl, Or.inl rfl, (by first | exact Or.inl rfl | exact Or.inr rfl | (simp [relabel]; rfl) | (with_unfolding_all exact Or.inl rfl) | (with_unfolding_all exact Or.inr rfl) | (with_unfolding_all decide))⟩, ⟨rfl, Or.inl rfl, (by first | exact Or.inl rfl | exact Or.inr rfl | (simp [relabel]; rfl) | (with_unfolding_all exact Or.inl rfl) | (with_unfolding_all exact Or.inr rfl) | (with_unfolding_all decide))⟩, ⟨rfl, Or.inl rfl, (by first | exact Or.inl rfl | exact Or.inr rfl | (simp [relabel]; rfl) | (with_unfolding_all exact Or.inl rfl) | (with_unfolding_all exact Or.inr rfl) | (with_unfolding_all decide))⟩, trivial⟩) (pi_range1 rfl T.z_range (pa_cons (pe_op op_add (pv 3) (pv 4)) pa_nil)) (fun _ _ _ _ => (pg_name (i := 0) nd_comp_14 rfl (Or.inl rfl) (Or.inr rfl))) (fun _ _ _ _ => (pe_call G_l_axes (hr.mono (by omega)) rfl T.m_l_axes T.F_l_axes.kp T.b_l_axes .nil pass0 (pa_cons (pe_call G_l_cell (hr.mono (by omega)) rfl T.m_l_cell T.F_l_cell.kp T.b_l_cell .nil pass0 (pa_cons (pv 3) pa_nil)) (pa_cons (pe_slice (sl_listK (K := K) rfl) (pv 2) po_none (po_some (pv 1))) pa_nil))))))
      (pss_cons (ps_set (i := 9) sc_law.nd rfl (Or.inl rfl) (pe_slice sl_list (pv 7) (po_some (pe_op op_add (pv 2) (pe_op op_mod (pe_call G_l_cell (hr.mono (by omega)) rfl T.m_l_cell T.F_l_cell.kp T.b_l_cell .nil pass0 (pa_cons (pv 1) pa_nil)) (pe_op op_add (pe_op op_add (pv 3) (pv 4)) pe_int)))) po_none))
      (pss_cut (ps_if (pt_cmpR (op_eqD hr.units) (pv 9) (pe_lst pa_nil) (nomark _))
        (pss_one (ps_set (i := 9) sc_law.nd rfl (Or.inl rfl) (pe_slice sl_list (pv 7) (po_some (pv 2)) po_none)))
        pss_nil)
      (pss_cons (ps_for PassesOwn.never rfl (pi_list (pv 6)) (pg_name (i := 10) sc_law.nd rfl (Or.inl rfl) (Or.inl rfl))
        (pss_cons (ps_set (i := 11) sc_law.nd rfl (Or.inl rfl) (pe_op op_mod (pe_ix ix_list (pv 10) pe_int (fun _ _ => rfl)) pe_int))
        (pss_cons (ps_expr (pe_call G_l_spoil_names (hr.mono (by omega)) rfl T.m_l_spoil_names T.F_l_spoil_names.kp T.b_l_spoil_names .nil pass0 (pa_cons (pv 11) (pa_cons (pv 7) (pa_cons (pe_ix ix_list (pv 10) pe_int (fun _ _ => rfl)) (pa_cons (pe_ix ix_list (pv 10) pe_int (fun _ _ => rfl)) (pa_cons (pv 5) pa_nil)))))))
        (pss_cons (ps_expr (pe_call G_l_spoil_outs (hr.mono (by omega)) rfl T.m_l_spoil_outs T.F_l_spoil_outs.kp T.b_l_spoil_outs .nil pass0 (pa_cons (pv 11) (pa_cons (pv 7) (pa_cons (pv 9) (pa_cons (pe_ix ix_list (pv 10) pe_int (fun _ _ => rfl)) (pa_cons (pe_ix ix_list (pv 10) pe_int (fun _ _ => rfl)) (pa_cons (pv 5) pa_nil))))))))
        (pss_one (ps_expr (pe_call G_l_spoil_axes (hr.mono (by omega)) rfl T.m_l_spoil_axes T.F_l_spoil_axes.kp T.b_l_spoil_axes .nil pass0 (pa_cons (pv 11) (pa_cons (pe_slice sl_list (pv 7) po_none (po_some (pv 2))) (pa_cons (pv 8) (pa_cons (pe_ix ix_list (pv 10) pe_int (fun _ _ => rfl)) (pa_cons (pe_ix ix_list (pv 10) pe_int (fun _ _ => rfl)) (pa_cons (pv 5) pa_nil)))))))))))))
      (pss_cons (ps_setC (i₀ := 12) (N' := ["_law_k", "_law_names", "_law_seed"]) (ix := (List.replicate 1 none ++ [some 7, some 5])) sc_law.nd rfl (Or.inl rfl) rfl (clok_many (cl := [("_law_seed", _), ("_law_names", _)]) (xs := ["_law_seed", "_law_names"]) rfl ⟨rfl, rfl, trivial⟩ rfl rfl (by decide +kernel) (by decide +kernel)) (ixok_many (N0 := ["_law_k"]) (xs := ["_law_names", "_law_seed"]) (js := [7, 5]) ⟨⟨rfl, Or.inl rfl, (by first | exact Or.inl rfl | exact Or.inr rfl | (simp [relabel]; rfl) | (with_unfolding_all exact Or.inl rfl) | (with_unfolding_all exact Or.inr rfl) | (with_unfolding_all decide))⟩, ⟨rfl, Or.inl rfl, (by first | exact Or.inl rfl | exact Or.inr rfl | (simp [relabel]; rfl) | (with_unfolding_all exact Or.inl rfl) | (with_unfolding_all exact Or.inr rfl) | (with_unfolding_all decide))⟩, trivial⟩) (pi_range1 rfl T.z_range (pa_cons (pv 2) pa_nil)) (fun _ _ _ _ => (pg_name (i := 0) nd_comp_15 rfl (Or.inl rfl) (Or.inr rfl))) (fun _ _ _ _ => (pe_tup (pa_cons (pe_ix (ix_listK (K := K) rfl) (pv 1) (pv 0) (fun _ _ => rfl)) (pa_cons (pe_op op_add pe_int (pe_op op_mod (pe_op op_add (pe_op op_fdiv (pv 2) pe_int) (pe_op op_mul (pv 0) (pv 0))) pe_int)) pa_nil)))))
      (pss_cons (ps_setC (i₀ := 13) (N' := ["_law_k", "_law_lists", "_law_many", "_law_names"]) (ix := (List.replicate 1 none ++ [some 8, some 2, some 7])) sc_law.nd rfl (Or.inl rfl) rfl (clok_many (cl := [("_law_names", _), ("_law_many", _), ("_law_lists", _)]) (xs := ["_law_names", "_law_many", "_law_lists"]) rfl ⟨rfl, rfl, rfl, trivial⟩ rfl rfl (by decide +kernel) (by decide +kernel)) (ixok_many (N0 := ["_law_k"]) (xs := ["_law_lists", "_law_many", "_law_names"]) (js := [8, 2, 7]) ⟨⟨rfl, Or.inl rfl, (by first | exact Or.inl rfl | exact Or.inr rfl | (simp [relabel]; rfl) | (with_unfolding_all exact Or.inl rfl) | (with_unfolding_all exact Or.inr rfl) | (with_unfolding_all decide))⟩, ⟨rfl, Or.inl rfl, (by first | exact Or.inl rfl | exact Or.inr rfl | (simp [relabel]; rfl) | (with_unfolding_all exact Or.inl rfl) | (with_unfolding_all exact Or.inr rfl) | (with_unfolding_all decide))⟩, ⟨rfl, Or.inl rfl, (by first | exact Or.inl rfl | exact Or.inr rfl | (simp [relabel]; rfl) | (with_unfolding_all exact Or.inl rfl) | (with_unfolding_all exact Or.inr rfl) | (with_unfolding_all decide))⟩, trivial⟩) (pi_range1 rfl T.z_range (pa_cons (pv 3) pa_nil)) (fun _ _ _ _ => (pg_name (i := 0) nd_comp_16 rfl (Or.inl rfl) (Or.inr rfl))) (fun _ _ _ _ => (pe_tup (pa_cons (pe_ix (ix_listK (K := K) rfl) (pv 3) (pe_op op_add (pv 2) (pv 0)) (fun _ _ => rfl)) (pa_cons (pe_callTy (call_list_ofK (K := K) rfl) (by rfl) T.z_list PyProof.Rows.boot_list (pa_cons (pe_ix (ix_listK (K := K) rfl) (pv 1) (pv 0) (fun _ _ => rfl)) pa_nil)) pa_nil)))))
      (pss_cons (ps_setC (i₀ := 14) (N' := ["_law_k", "_law_lists", "_law_many", "_law_names"]) (ix := (List.replicate 1 none ++ [some 8, some 2, some 7])) sc_law.nd rfl (Or.inl rfl) rfl (clok_many (cl := [("_law_names", _), ("_law_many", _), ("_law_lists", _)]) (xs := ["_law_names", "_law_many", "_law_lists"]) rfl ⟨rfl, rfl, rfl, trivial⟩ rfl rfl (by decide +kernel) (by decide +kernel)) (ixok_many (N0 := ["_law_k"]) (xs := ["_law_lists", "_law_many", "_law_names"]) (js := [8, 2, 7]) ⟨⟨rfl, Or.inl rfl, (by first | exact Or.inl rfl | exact Or.inr rfl | (simp [relabel]; rfl) | (with_unfolding_all exact Or.inl rfl) | (with_unfolding_all exact Or.inr rfl) | (with_unfolding_all decide))⟩, ⟨rfl, Or.inl rfl, (by first | exact Or.inl rfl | exact Or.inr rfl | (simp [relabel]; rfl) | (with_unfolding_all exact Or.inl rfl) | (with_unfolding_all exact Or.inr rfl) | (with_unfolding_all decide))⟩, ⟨rfl, Or.inl rfl, (by first | exact Or.inl rfl | exact Or.inr rfl | (simp [relabel]; rfl) | (with_unfolding_all exact Or.inl rfl) | (with_unfolding_all exact Or.inr rfl) | (with_unfolding_all decide))⟩, trivial⟩) (pi_range2 rfl T.z_range (pa_cons (pv 3) (pa_cons (pe_op op_add (pv 3) (pv 4)) pa_nil))) (fun _ _ _ _ => (pg_name (i := 0) nd_comp_17 rfl (Or.inl rfl) (Or.inr rfl))) (fun _ _ _ _ => (pe_make T.mk_Let G_Let_init (hr.mono (by omega)) rfl T.m_Let T.b_Let_init .nil pass0 (pa_cons (pe_ix (ix_listK (K := K) rfl) (pv 3) (pe_op op_add (pv 2) (pv 0)) (fun _ _ => rfl)) (pa_cons (pe_callTy (call_list_ofK (K := K) rfl) (by rfl) T.z_list PyProof.Rows.boot_list (pa_cons (pe_ix (ix_listK (K := K) rfl) (pv 1) (pv 0) (fun _ _ => rfl)) pa_nil)) (pa_cons (pe_make T.mk_Number G_Number_init (hr.mono (by omega)) rfl T.m_Number T.b_Number_init .nil pass0 (pa_cons (pv 0) pa_nil)) pa_nil))))))
      (pss_cons (ps_set (i := 15) sc_law.nd rfl (Or.inl rfl) (pe_make T.mk_Program G_Program_init (hr.mono (by omega)) rfl T.m_Program T.b_Program_init .nil pass0 (pa_cons (pe_op op_add pe_int (pe_op op_mod (pv 5) (pe_op op_pow pe_int pe_int))) (pa_cons (pv 12) (pa_cons (pv 13) (pa_cons (pv 14) (pa_cons (pe_callTy call_list_of (by rfl) T.z_list PyProof.Rows.boot_list (pa_cons (pv 9) pa_nil)) pa_nil)))))))
      (pss_cons (ps_set (i := 16) sc_law.nd rfl (Or.inl rfl) (pe_call G_l_due (hr.mono (by omega)) rfl T.m_l_due T.F_l_due.kp T.b_l_due .nil pass0 (pa_cons (pv 7) (pa_cons (pv 2) (pa_cons (pv 8) (pa_cons (pv 9) pa_nil))))))
      (pss_cons (ps_if (PW.pt (pw_or (pt_cmpR op_ne (pe_call G_l_got (hr.mono (by omega)) rfl T.m_l_got T.F_l_got.kp T.b_l_got .nil pass0 (pa_cons (pv 15) (pa_cons pe_bl pa_nil))) (pv 16) (nomark _)) (pw_or1 (pt_cmpR op_ne (pe_call G_l_got (hr.mono (by omega)) rfl T.m_l_got T.F_l_got.kp T.b_l_got .nil pass0 (pa_cons (pv 15) (pa_cons pe_bl pa_nil))) (pv 16) (nomark _)))))
        (pss_one (ps_ret pe_bl))
        pss_nil)
      (pss_one (ps_ret (pe_or (pe_cmpR op_eq (pv 16) pe_str (nomark _)) (pe_one (pe_and (pe_cmpR op_eq (pe_call G_l_got (hr.mono (by omega)) rfl T.m_l_got T.F_l_got.kp T.b_l_got .nil pass0 (pa_cons (pv 15) (pa_cons pe_bl pa_nil))) (pv 16) (nomark _)) (pe_one (pe_call G_l_under (hr.mono (by omega)) rfl T.m_l_under T.F_l_under.kp T.b_l_under .nil pass0 (pa_cons (pv 15) pa_nil))))))))))))))))))))))))), ?_⟩
    obtain ⟨zs, ez, lz, _⟩ := cut_map V.int ns none (some 60)
    refine ⟨_, rfl, _, rfl, a, _, rfl, hS, fun p0 hp0 => ?_⟩
    rw [ez]
    refine ⟨p0, _, rfl, SqL.of upd_same, fun r hD => ?_⟩
    have pD : p0 ≠ r := fun z => by subst z; rw [upd_same] at hD; cases hD
    refine comp_genQ (D := r) (zs.map V.int).length (fun i ys H2 => H2 p0 = some (.lst (zs.map V.int)) ∧ H2 r = some (.lst ys) ∧ ∃ ms : List Int, ys = ms.map V.int ∧ ms.length = i) ⟨by rw [upd_ne pD]; exact upd_same, upd_same, [], rfl, rfl⟩ (fun i ys H2 hi ⟨h, _⟩ => ?_) (fun ys H2 _ => rfl) ?_ ?_
    · exact ⟨_, (zs.map V.int)[(zs.map V.int).length - 1 - i], SqL.of h, rfl, hi, List.getElem?_eq_getElem (by omega)⟩
    · rintro i ys H2 hi ⟨h, hD2, ms, rfl, hms⟩ x H3 ⟨rfl, hx⟩
      have hx := hx _ (SqL.of h)
      rw [List.getElem?_map] at hx
      obtain ⟨z, _, rfl⟩ := Option.map_eq_some_iff.mp hx
      refine ⟨True.intro, _, rfl, hD2, line_lt (by simp at hi ⊢; omega), by rw [upd_ne pD]; exact h, upd_same, ms ++ [z], by simp, by simp [hms]⟩
    rintro ys H0 ⟨_, hD2, ms, rfl, hms⟩
    clear hD
    refine ⟨_, rfl, r, ms, rfl, hD2, fun i1 ms1 H1 l1 h1 o1 => ?_⟩
    refine ⟨_, _, rfl, rfl, (by show (0 : Int) < 9; decide), ?_⟩
    refine ⟨_, rfl, r, ms1, rfl, h1, fun i2 ms2 H2 l2 h2 o2 => ?_⟩
    refine ⟨_, _, rfl, rfl, (by show (0 : Int) < 7; decide), ?_⟩
    refine ⟨_, rfl, r, ms2, rfl, h2, fun i3 ms3 H3 l3 h3 o3 => ?_⟩
    refine ⟨_, _, rfl, rfl, (by show (0 : Int) < 9; decide), ?_⟩
    refine ⟨_, rfl, r, ms3, rfl, h3, fun seed ms4 H4 l4 h4 o4 => ?_⟩
    obtain ⟨m, em, m9⟩ : ∃ m : Nat, i1 % 9 = (m : Int) ∧ m < 9 := ⟨(i1 % 9).toNat, by omega, by omega⟩
    obtain ⟨tn, et, m7⟩ : ∃ m : Nat, i2 % 7 = (m : Int) ∧ m < 7 := ⟨(i2 % 7).toNat, by omega, by omega⟩
    obtain ⟨un, eu, n9⟩ : ∃ m : Nat, i3 % 9 = (m : Int) ∧ m < 9 := ⟨(i3 % 9).toNat, by omega, by omega⟩
    dsimp only
    rw [em, et, eu]
    clear em et eu h1 h2 h3 o1 o2 o3 o4 l1 l2 l3 l4
    -- the spoils
    refine ⟨_, rfl, by decide, by decide, fun SP hSP => ?_⟩
    have rSP : r ≠ SP := fun z => by subst z; rw [h4] at hSP; cases hSP
    refine comp_genQ (D := SP) 2 (fun i ys H5 => (∃ ms : List Int, H5 r = some (.lst (ms.map V.int))) ∧ H5 SP = some (.lst ys) ∧ ∃ qs : List Addr, ys = qs.map V.ref ∧ qs.length = i ∧ ∀ q ∈ qs, q ≠ r ∧ q ≠ SP ∧ ∃ a b c : Int, H5 q = some (.lst [.int a, .int b, .int c])) ⟨⟨ms4, by rw [upd_ne rSP]; exact h4⟩, upd_same, [], rfl, rfl, by intro x hx; cases hx⟩ (fun i ys H5 hi _ => hi) (fun ys H5 _ => Nat.le_refl _) ?_ ?_
    · rintro i ys H5 hi ⟨⟨ms, h5⟩, hs5, qs, rfl, lq, oq⟩ x H6 ⟨rfl, rfl⟩
      refine ⟨⟨rfl, True.intro⟩, _, rfl, r, ms, rfl, h5, fun c1 ms1 H1 l1 h1 o1 => ?_⟩
      refine ⟨_, rfl, r, ms1, rfl, h1, fun c2 ms2 H2 l2 h2 o2 => ?_⟩
      refine ⟨_, rfl, r, ms2, rfl, h2, fun c3 ms3 H3 l3 h3 o3 => ?_⟩
      refine ⟨line_le (by simp), fun q hq => ?_⟩
      have kp := (o1.kp.trans o2.kp).trans o3.kp
      have hs3 : H3 SP = some (.lst (qs.map V.ref)) := kp _ _ rSP.symm hs5
      have qr : q ≠ r := (ne_of_none h3 hq).symm
      have qS : q ≠ SP := (ne_of_none hs3 hq).symm
      refine ⟨by rw [upd_ne qS.symm]; exact hs3, line_lt (by rw [List.length_map]; omega), ⟨ms3, by rw [upd_ne rSP, upd_ne qr.symm]; exact h3⟩, upd_same, qs ++ [q], by simp, by simp [lq], fun b hb => ?_⟩
      rcases List.mem_append.mp hb with hb | hb
      · obtain ⟨n1, n2, x, y, z, e⟩ := oq b hb
        have e3 := kp _ _ n1 e
        exact ⟨n1, n2, x, y, z, by rw [upd_ne n2, upd_ne (ne_of_none e3 hq)]; exact e3⟩
      · rw [List.mem_singleton.mp hb]
        exact ⟨qr, qS, c1, c2, c3, by rw [upd_ne qS]; exact upd_same⟩
    rintro ys H5 ⟨⟨ms5, h5r⟩, h5S, qs, rfl, lq, oq⟩
    clear h4 hSP
    -- the names
    refine ⟨_, rfl, _, rfl, _, _, rfl, rfl, _, rfl, _, _, rfl, rfl, _, rfl, by omega, by omega, fun N hN => ?_⟩
    have rN : r ≠ N := ne_of_none h5r hN
    refine comp_genQ (D := N) ((m : Int) + tn + un).toNat (fun i ys H6 => Same H5 H6 ∧ H6 N = some (.lst ys) ∧ ∃ zs : List Str, ys = zs.map V.str ∧ zs.length = i ∧ OkN zs) ⟨same_new hN, upd_same, [], rfl, rfl, by intro x hx; cases hx⟩ (fun i ys H6 hi _ => hi) (fun ys H6 _ => Nat.le_refl _) ?_ ?_
    · rintro i ys H6 hi ⟨s6, h6, zs, rfl, hz, oz⟩ x H7 ⟨rfl, rfl⟩
      refine ⟨⟨rfl, True.intro⟩, _, rfl, _, rfl, _, _, rfl, fun z H8 okz s8 => ?_⟩
      refine ⟨s8 _ _ h6, line_lt (by simp; omega), same_fresh (s6.trans s8) hN, upd_same, zs ++ [z], by simp, by simp [hz], fun y hy => ?_⟩
      rcases List.mem_append.mp hy with hy | hy
      · exact oz y hy
      · rw [List.mem_singleton.mp hy]; exact okz
    rintro ys H6 ⟨s6, h6N, nm, rfl, hnl, okn⟩
    have h6r := s6 _ _ h5r
    have h6S := s6 _ _ h5S
    have hnl : nm.length = m + tn + un := by omega
    have oq6 : ∀ q ∈ qs, q ≠ r ∧ ∃ a b c : Int, H6 q = some (.lst [.int a, .int b, .int c]) := fun q hq => let ⟨n1, _, x, y, z, e⟩ := oq q hq; ⟨n1, x, y, z, s6 _ _ e⟩
    have nS : SP ≠ N := ne_of_none h5S hN
    have nq : ∀ q ∈ qs, q ≠ N := fun q hq => let ⟨_, _, _, _, _, e⟩ := oq q hq; ne_of_none e hN
    clear s6 h5r h5S oq hN
    -- the lists
    refine ⟨_, rfl, _, rfl, _, _, rfl, rfl, _, rfl, by omega, by omega, fun L hL => ?_⟩
    have rL : r ≠ L := ne_of_none h6r hL
    refine comp_genQ (D := L) ((tn : Int) + un).toNat (fun i ys H7 => KBx r H6 H7 ∧ (∃ ms : List Int, H7 r = some (.lst (ms.map V.int))) ∧ H7 L = some (.lst ys) ∧ ∃ cs : List Addr, ys = cs.map V.ref ∧ cs.length = i ∧ ∀ c ∈ cs, c ≠ r ∧ c ≠ L ∧ H6 c = none ∧ ∃ ys : List Str, H7 c = some (.lst (ys.map V.str)) ∧ ys.length ≤ 3 ∧ OkN ys) ⟨KBx.of (same_new hL), ⟨ms5, same_new hL _ _ h6r⟩, upd_same, [], rfl, rfl, by intro x hx; cases hx⟩ (fun i ys H7 hi _ => hi) (fun ys H7 _ => Nat.le_refl _) ?_ ?_
    · rintro i ys H7 hi ⟨kp7, ⟨ms, h7⟩, h7L, cs, rfl, lc, oc⟩ x H8 ⟨rfl, rfl⟩
      refine ⟨⟨rfl, rfl, rfl, True.intro⟩, _, rfl, r, ms, rfl, h7, fun c1 ms1 H1 l1 h1 o1 => ?_⟩
      have kp1 := kp7.trans o1.kp
      refine ⟨_, rfl, _, rfl, _, rfl, N, _, rfl, SqL.of (kp1 _ _ rN.symm h6N), fun p3 hp3 => ?_⟩
      rw [cut_take (by omega)]
      have s2 : Same H1 (upd H1 p3 (.lst ((nm.take m).map V.str))) := same_new hp3
      refine ⟨c1, p3, nm.take m, rfl, upd_same, by rw [List.length_take]; omega, fun y hy => okn y (List.mem_of_mem_take hy), fun zs cc H2 hcc lz oz s3 h3 => ?_⟩
      have s4 := s2.trans s3
      have h2L : H2 L = some (.lst (cs.map V.ref)) := s4 _ _ (o1.kp _ _ rL.symm h7L)
      have hcc1 : H1 cc = none := s2.free hcc
      have cr : cc ≠ r := (ne_of_none h1 hcc1).symm
      have cL : cc ≠ L := (ne_of_none (o1.kp _ _ rL.symm h7L) hcc1).symm
      have kp2 : KBx r H6 H2 := kp1.trans (KBx.of s4)
      refine ⟨h2L, line_lt (by rw [List.length_map]; omega), fun b o n e => by rw [upd_ne (ne_of_none e hL)]; exact kp2 _ _ n e, ⟨ms1, by rw [upd_ne rL]; exact s4 _ _ h1⟩, upd_same, cs ++ [cc], by simp, by simp [lc], fun b hb => ?_⟩
      rcases List.mem_append.mp hb with hb | hb
      · obtain ⟨n1, n2, n3, ys, e, ly, oy⟩ := oc b hb
        exact ⟨n1, n2, n3, ys, by rw [upd_ne n2]; exact s4 _ _ (o1.kp _ _ n1 e), ly, oy⟩
      · rw [List.mem_singleton.mp hb]
        exact ⟨cr, cL, kbx_free kp1 cr hcc1, zs, by rw [upd_ne cL]; exact h3, lz, oz⟩
    rintro ys H7 ⟨kp7, ⟨ms7, h7r⟩, h7L, cs, rfl, lc, oc⟩
    have h7N := kp7 _ _ rN.symm h6N
    have h7S := kp7 _ _ rSP.symm h6S
    -- the outputs
    refine ⟨_, rfl, _, rfl, _, rfl, r, ms7, rfl, h7r, fun c8 ms8 H8 l8 h8 o8 => ?_⟩
    refine ⟨_, rfl, _, rfl, _, _, rfl, rfl, _, _, rfl, rfl, _, _, rfl, rfl, (by show (0 : Int) < (tn : Int) + un + 1; omega), _, _, rfl, rfl, _, rfl, N, _, rfl, SqL.of (o8.kp _ _ rN.symm h7N), fun p9 hp9 => ?_⟩
    obtain ⟨os, eo, lo, mo⟩ := cut_map V.str nm (some ((m : Int) + c8 % ((tn : Int) + un + 1))) none
    rw [eo]
    have h8S := o8.kp _ _ rSP.symm h7S
    have h8N := o8.kp _ _ rN.symm h7N
    have h8L := o8.kp _ _ rL.symm h7L
    have o8q : ∀ q ∈ qs, H8 q ≠ none ∧ ∃ a b c : Int, H8 q = some (.lst [.int a, .int b, .int c]) := fun q hq => by
      obtain ⟨n1, x, y, z, e⟩ := oq6 q hq
      have e := o8.kp _ _ n1 (kp7 _ _ n1 e)
      exact ⟨by rw [e]; exact nofun, x, y, z, e⟩
    have o8c : ∀ c ∈ cs, ∃ ys : List Str, H8 c = some (.lst (ys.map V.str)) ∧ ys.length ≤ 3 ∧ OkN ys := fun c hc => by
      obtain ⟨n1, _, _, ys, e, l, o⟩ := oc c hc
      exact ⟨ys, o8.kp _ _ n1 e, l, o⟩
    have fin : ∀ {G : Hp} {O : Addr} {zo : List Str}, Same H8 G → H8 O = none → G O = some (.lst (zo.map V.str)) → zo.length ≤ 22 → OkN zo → WI G SP N O L qs cs (m + tn + un) 0 0 ∧ WD SP N O L qs cs := fun {G} {O} {zo} s hO e l o => by
      refine ⟨⟨s _ _ h8S, fun q hq => ?_, ⟨nm, s _ _ h8N, hnl, okn⟩, ⟨zo, e, by omega, o⟩, s _ _ h8L, fun c hc => ?_⟩, ⟨ne_of_none h8N hO, ⟨nS, ne_of_none h8S hO, fun z => ?_⟩, ⟨(ne_of_none h6N hL).symm, ne_of_none h8L hO, fun z => (oc _ z).2.1 rfl⟩, fun q hq => ⟨nq q hq, fun z => ?_, fun z => ?_⟩, fun c hc => ⟨fun z => ?_, fun z => ?_⟩⟩⟩
      · obtain ⟨_, x, y, z, e⟩ := o8q q hq
        exact ⟨x, y, z, s _ _ e⟩
      · obtain ⟨ys, e, l, o⟩ := o8c c hc
        exact ⟨ys, s _ _ e, by omega, o⟩
      · have z := (oc _ z).2.2.1
        rw [h6S] at z; cases z
      · exact (o8q q hq).1 (by rw [z]; exact hO)
      · obtain ⟨_, _, _, _, e⟩ := oq6 q hq
        have z := (oc _ z).2.2.1
        rw [e] at z; cases z
      · have y := (oc _ hc).2.2.1
        rw [z, h6N] at y; cases y
      · obtain ⟨_, e, _⟩ := o8c c hc
        rw [z, hO] at e; cases e
    refine ⟨fun σ G => ∃ (O : Addr), σ = [some (.ref a), some (.ref r), some (.int m), some (.int tn), some (.int un), some (.int seed), some (.ref SP), some (.ref N), some (.ref L), some (.ref O), none, none, none, none, none, none, none] ∧ WI G SP N O L qs cs (m + tn + un) 0 0 ∧ WD SP N O L qs cs, ?_, ?_⟩
    · have s9 : Same H8 (upd H8 p9 (.lst (os.map V.str))) := same_new hp9
      refine ⟨_, rfl, line_le (by simp), fun ea hea => ⟨_, _, S_rep (same_new hea _ _ upd_same), S_rep (ys := []) upd_same, shaped_of (encS_lay fun x hx => (okn x (mo x hx)).1) (by have := (encS_ok os).1; omega), by decide +kernel, ?_⟩⟩
      rw [emptyD]
      have s10 := s9.trans (same_new (o := .lst []) hea)
      refine ⟨_, rfl, iteD (fun _ => ?_) (fun _ => ?_)⟩
      · refine ⟨_, rfl, _, rfl, _, rfl, N, _, rfl, SqL.of (s10 _ _ h8N), fun p11 hp11 => ?_⟩
        obtain ⟨os2, eo2, lo2, mo2⟩ := cut_map V.str nm (some (m : Int)) none
        rw [eo2]
        exact ⟨p11, rfl, fin (s10.trans (same_new hp11)) (s10.free hp11) upd_same (by omega) fun x hx => okn x (mo2 x hx)⟩
      · exact ⟨p9, rfl, fin s10 hp9 (same_new hea _ _ upd_same) (by omega) fun x hx => okn x (mo x hx)⟩
    clear fin o8c o8q h8S h8N h8L hp9 eo mo lo os p9 o8 h8 l8 oc h7N h7S h7L h7r kp7 hL oq6 h6S h6N h6r okn nq
    rintro σ G ⟨O, rfl, wi, wd⟩
    refine ⟨_, rfl, SP, rfl, ⟨_, SqL.of wi.sp⟩, ?_⟩
    refine for_list (K := K) (a := SP) (xs := qs.map V.ref) (fun i σ G => ∃ (o10 o11 : Option V), σ = [some (.ref a), some (.ref r), some (.int m), some (.int tn), some (.int un), some (.int seed), some (.ref SP), some (.ref N), some (.ref L), some (.ref O), o10, o11, none, none, none, none, none] ∧ WI G SP N O L qs cs (m + tn + un) i i) ⟨none, none, rfl, wi⟩ (fun i σ G _ ⟨_, _, _, wi⟩ => SqL.of wi.sp) ?_ ?_
    · rintro i y σ G1 hy ⟨o10, o11, rfl, wi⟩
      rw [List.getElem?_map] at hy
      obtain ⟨q, hq, rfl⟩ := Option.map_eq_some_iff.mp hy
      have hqm := List.mem_of_getElem? hq
      have hi : i < qs.length := (List.getElem?_eq_some_iff.mp hq).1
      obtain ⟨x, y, z, e⟩ := wi.q q hqm
      refine ⟨_, rfl, q, _, _, _, rfl, rfl, SqL.of e, rfl, _, _, rfl, rfl, (by show (0 : Int) < 12; decide), ?_⟩
      obtain ⟨nm, en, ln, on⟩ := wi.nm
      refine ⟨_, rfl, _, rfl, _, rfl, q, _, _, _, rfl, rfl, SqL.of e, rfl, _, rfl, q, _, _, _, rfl, rfl, SqL.of e, rfl, _, rfl, _, _, _, _, N, nm, rfl, en, by omega, on, fun nm' G2 l2 o2 e2 k2 => ?_⟩
      have wi := wi.setN wd e2 (by omega) o2 k2
      clear e en on
      obtain ⟨x, y, z, e⟩ := wi.q q hqm
      obtain ⟨os, eo, lo, oo⟩ := wi.os
      refine ⟨_, rfl, _, rfl, _, rfl, _, rfl, q, _, _, _, rfl, rfl, SqL.of e, rfl, _, rfl, q, _, _, _, rfl, rfl, SqL.of e, rfl, _, rfl, _, _, _, _, N, O, nm', os, rfl, e2, wd.no, by omega, o2, eo, by omega, oo, fun os' G3 l3 o3 e3 k3 => ?_⟩
      have wi := wi.setO wd e3 (by omega) o3 k3
      clear e eo
      obtain ⟨x, y, z, e⟩ := wi.q q hqm
      have e3n := k3 _ _ wd.no e2
      refine ⟨_, rfl, _, rfl, _, rfl, _, rfl, N, _, rfl, SqL.of e3n, fun p4 hp4 => ?_⟩
      rw [cut_take (by omega)]
      have s4 : Same G3 (upd G3 p4 (.lst ((nm'.take m).map V.str))) := same_new hp4
      have wi3 := wi
      have wi := wi.same s4
      refine ⟨_, rfl, _, rfl, q, _, _, _, rfl, rfl, SqL.of (s4 _ _ e), rfl, _, rfl, q, _, _, _, rfl, rfl, SqL.of (s4 _ _ e), rfl, _, rfl, _, _, _, _, p4, L, nm'.take m, cs, 5 + 2 * i, rfl, upd_same, by rw [List.length_take]; omega, fun u hu => o2 u (List.mem_of_mem_take hu), wi.ls, ?_, by omega, by omega, fun c hc => ⟨fun z => ?_, fun z => wd.l.2.2 (by rw [← z]; exact hc), wi.cs c hc⟩, fun G5 k5 c5 => ?_⟩
      · omega
      · obtain ⟨_, e, _⟩ := wi3.cs c hc
        rw [z, hp4] at e; cases e
      · exact ⟨_, _, rfl, wi.setC wd k5 c5⟩
    rintro σ G1 ⟨o10, o11, rfl, wi⟩
    rw [List.length_map, lq] at wi
    obtain ⟨nm, hN, ln, on⟩ := wi.nm
    obtain ⟨os, hO, lo, oo⟩ := wi.os
    have hLs := wi.ls
    obtain ⟨lists, pl⟩ := pairs_of wi.cs
    have ll := Paired.length pl
    -- the axes
    refine ⟨_, rfl, _, rfl, by omega, by omega, fun DA hDA => ?_⟩
    refine comp_genQ (D := DA) (m : Int).toNat (fun i ys H2 => Same G1 H2 ∧ H2 DA = some (.lst ys) ∧ ∃ ax : List (Str × Int), ax.map (·.1) = nm.take i ∧ Paired (AxAt H2) ys ax) ⟨same_new hDA, upd_same, [], rfl, .nil⟩ (fun i ys H6 hi _ => hi) (fun ys H6 _ => Nat.le_refl _) ?_ ?_
    · rintro i ys H2 hi ⟨s2, h2, ax, hx, px⟩ x H3 ⟨rfl, rfl⟩
      have hi' : i < nm.length := by omega
      have hxi : nm[i]? = some nm[i] := List.getElem?_eq_getElem hi'
      have lys := Paired.length px
      have lax : ax.length ≤ i := by
        have := congrArg List.length hx
        rw [List.length_map, List.length_take] at this
        omega
      refine ⟨⟨rfl, rfl, True.intro⟩, _, rfl, _, rfl, N, _, _, _, rfl, rfl, SqL.of (s2 _ _ hN), (by rw [Int.zero_add]; exact at_str hxi), ?_⟩
      refine ⟨_, rfl, _, _, rfl, rfl, ⟨by decide, by decide⟩, _, rfl, _, rfl, _, _, rfl, rfl, .inl ⟨by omega, by omega⟩, _, _, rfl, rfl, _, _, rfl, rfl, (by show (0 : Int) < 60; decide), _, _, rfl, rfl, line_le (by simp), fun q hq => ?_⟩
      have nq : q ≠ DA := (ne_of_none h2 hq).symm
      refine ⟨by rw [upd_ne nq.symm]; exact h2, line_lt (by omega), same_fresh (s2.trans (same_new hq)) hDA, upd_same, ax ++ [(nm[i], _)], map_take1 hx hxi, Paired.snoc ⟨q, rfl, by rw [upd_ne nq]; exact upd_same⟩ (Paired.mapP px fun _ _ ⟨b, e1, e2⟩ => ⟨b, e1, ?_⟩)⟩
      rw [upd_ne (ne_of e2 h2 (by intro z; cases z)), upd_ne (ne_of_none e2 hq)]
      exact e2
    rintro ysA G2 ⟨s2, h2A, ax, hax, pax⟩
    have hax : axN ax = nm.take m := hax
    have lax : ax.length = m := by
      have := congrArg List.length hax
      rw [axN, List.length_map, List.length_take] at this
      omega
    -- the tables
    refine ⟨_, rfl, _, rfl, by omega, by omega, fun DT hDT => ?_⟩
    refine comp_genQ (D := DT) (tn : Int).toNat (fun i ys H2 => Same G2 H2 ∧ H2 DT = some (.lst ys) ∧ ∃ tb : List (Str × List Str), tb.map (·.1) = (nm.drop m).take i ∧ tb.map (·.2) = lists.take i ∧ Paired (TbA DT H2) ys tb) ⟨same_new hDT, upd_same, [], rfl, rfl, .nil⟩ (fun i ys H6 hi _ => hi) (fun ys H6 _ => Nat.le_refl _) ?_ ?_
    · rintro i ys H3 hi ⟨sH, h2, tb, hx, hy, px⟩ x H2 ⟨rfl, rfl⟩
      have sG := s2.trans sH
      have hi' : m + i < nm.length := by omega
      have hxi : nm[m + i]? = some nm[m + i] := List.getElem?_eq_getElem hi'
      have hci : cs[i]? = some (cs[i]'(by omega)) := List.getElem?_eq_getElem (by omega)
      obtain ⟨zl, hzl, ez, _, _⟩ := pget pl hci
      have lys := Paired.length px
      have ltb : tb.length ≤ i := by
        have := congrArg List.length hy
        rw [List.length_map, List.length_take] at this
        omega
      have at1 : atI (nm.map V.str) ((m : Int) + (0 + (i : Int))) = some (.str nm[m + i]) := by
        rw [show (m : Int) + (0 + (i : Int)) = ((m + i : Nat) : Int) by omega]; exact at_str hxi
      have at2 : atI (cs.map V.ref) (0 + (i : Int)) = some (.ref (cs[i]'(by omega))) := by
        rw [Int.zero_add]; exact atI_nat (by rw [List.getElem?_map, hci]; rfl)
      refine ⟨⟨rfl, rfl, rfl, True.intro⟩, _, rfl, _, rfl, _, rfl, _, _, rfl, rfl, N, _, _, _, rfl, rfl, SqL.of (sG _ _ hN), at1, ?_⟩
      refine ⟨_, rfl, _, rfl, L, _, _, _, rfl, rfl, SqL.of (sG _ _ hLs), at2, _, _, rfl, .inl (SqL.of (sG _ _ ez)), fun c hc => ⟨line_le (by simp), fun q hq => ?_⟩⟩
      have sc : Same H2 (upd H2 c (.lst (zl.map V.str))) := same_new hc
      have nc : c ≠ DT := (ne_of_none h2 hc).symm
      have nq : q ≠ DT := (ne_of_none (sc _ _ h2) hq).symm
      have sq := same_new (o := .tup [.str nm[m + i], .ref c]) hq
      have ss := sc.trans sq
      refine ⟨ss _ _ h2, line_lt (by omega), same_fresh (sH.trans ss) hDT, upd_same, tb ++ [(nm[m + i], zl)], map_take1 hx (by rw [List.getElem?_drop]; exact hxi), map_take2 hy hzl, Paired.snoc ⟨q, c, rfl, by rw [upd_ne nq]; exact upd_same, nc, by rw [upd_ne nc]; exact sq _ _ upd_same⟩ (Paired.mapP px fun _ _ ⟨b, d, e1, e2, e3, e4⟩ => ⟨b, d, e1, ?_, e3, ?_⟩)⟩
      · rw [upd_ne (ne_of e2 h2 (by intro z; cases z))]; exact ss _ _ e2
      · rw [upd_ne e3]; exact ss _ _ e4
    rintro ysT G3 ⟨s3, h3T, tb, htb, hts, ptb⟩
    -- the lets
    have s23 := s2.trans s3
    refine ⟨_, rfl, _, rfl, _, rfl, _, _, rfl, rfl, _, _, rfl, ⟨by omega, by omega, by omega, by omega⟩, fun DL hDL => ?_⟩
    refine comp_genQ (D := DL) ((tn : Int) + un - tn).toNat (fun i ys H2 => Same G3 H2 ∧ H2 DL = some (.lst ys) ∧ ∃ ls : List Lt3, ls.map (·.1) = (nm.drop (m + tn)).take i ∧ ls.map (·.2.1) = (lists.drop tn).take i ∧ LetsAt t (fun c => c ≠ DL) H2 ys ls) ⟨same_new hDL, upd_same, [], rfl, rfl, .nil⟩ (fun i ys H6 hi _ => hi) (fun ys H6 _ => Nat.le_refl _) ?_ ?_
    · rintro i ys H3 hi ⟨sH, h2, ls, hx, hy, px⟩ x H2 ⟨rfl, rfl⟩
      have sG := s23.trans sH
      have hi' : m + (tn + i) < nm.length := by omega
      have hxi : nm[m + (tn + i)]? = some nm[m + (tn + i)] := List.getElem?_eq_getElem hi'
      have hci : cs[tn + i]? = some (cs[tn + i]'(by omega)) := List.getElem?_eq_getElem (by omega)
      obtain ⟨zl, hzl, ez, lz, _⟩ := pget pl hci
      have lys := Paired.length px
      have lls : ls.length ≤ i := by
        have := congrArg List.length hy
        rw [List.length_map, List.length_take] at this
        omega
      have at1 : atI (nm.map V.str) ((m : Int) + ((tn : Int) + (i : Int))) = some (.str nm[m + (tn + i)]) := by
        rw [show (m : Int) + ((tn : Int) + (i : Int)) = ((m + (tn + i) : Nat) : Int) by omega]; exact at_str hxi
      have at2 : atI (cs.map V.ref) ((tn : Int) + (i : Int)) = some (.ref (cs[tn + i]'(by omega))) := by
        rw [show (tn : Int) + (i : Int) = ((tn + i : Nat) : Int) by omega]; exact atI_nat (by rw [List.getElem?_map, hci]; rfl)
      refine ⟨⟨rfl, rfl, rfl, True.intro⟩, _, rfl, _, rfl, _, rfl, _, _, rfl, rfl, N, _, _, _, rfl, rfl, SqL.of (sG _ _ hN), at1, ?_⟩
      refine ⟨_, rfl, _, rfl, L, _, _, _, rfl, rfl, SqL.of (sG _ _ hLs), at2, _, _, rfl, .inl (SqL.of (sG _ _ ez)), fun c hc => ⟨_, rfl, fun n dn hn hdn ndn => ?_⟩⟩
      have sc : Same H2 (upd H2 c (.lst (zl.map V.str))) := same_new hc
      have sN := same_made (x := n) (dx := dn) (o := .own n) (u := .ins t.C_Number dn []) (v := .ins t.C_Number dn [("number", .int ((tn : Int) + i))]) hn hdn
      refine ⟨n, t.C_Number, dn, .int ((tn : Int) + i), rfl, upd_same, T.cl_Number, T.na_Number_number, rfl, fun lt dl hlt hdl ndl => ?_⟩
      have sM : Same (upd (upd (upd (upd H2 c (.lst (zl.map V.str))) dn (.own n)) n (.ins t.C_Number dn [])) n (.ins t.C_Number dn [("number", .int ((tn : Int) + i))])) (upd (upd (upd (upd (upd (upd H2 c (.lst (zl.map V.str))) dn (.own n)) n (.ins t.C_Number dn [])) n (.ins t.C_Number dn [("number", .int ((tn : Int) + i))])) dl (.own lt)) lt (.ins t.C_Let dl [])) := (same_new hdl).trans (same_new (by rw [upd_ne ndl.symm]; exact hlt))
      refine ⟨lt, dl, c, n, nm[m + (tn + i)], zl, rfl, upd_same, sM _ _ (sN _ _ upd_same), by omega, fun cc H4 hcc e4 ecc kp => ⟨rfl, ?_⟩⟩
      have s34 : Same (upd (upd (upd (upd H2 c (.lst (zl.map V.str))) dn (.own n)) n (.ins t.C_Number dn [])) n (.ins t.C_Number dn [("number", .int ((tn : Int) + i))])) H4 := fun z u ez => kp z u (ne_of_none ez hlt) (sM _ _ ez)
      have ss := sc.trans (sN.trans s34)
      have h4D := ss _ _ h2
      have ncc : cc ≠ DL := (ne_of_none (sM _ _ (sN _ _ (sc _ _ h2))) hcc).symm
      have en := s34 _ _ (upd_same (H := upd (upd (upd H2 c (.lst (zl.map V.str))) dn (.own n)) n (.ins t.C_Number dn [])) (a := n) (o := .ins t.C_Number dn [("number", .int ((tn : Int) + i))]))
      refine ⟨h4D, line_lt (by omega), same_fresh (sH.trans ss) hDL, upd_same, ls ++ [(nm[m + (tn + i)], zl, (tn : Int) + i)], map_take1 hx (by rw [List.getElem?_drop, Nat.add_assoc]; exact hxi), map_take2 hy (by rw [List.getElem?_drop]; exact hzl), Paired.snoc ⟨lt, dl, cc, n, dn, rfl, ?_, ncc, ?_, ?_⟩ (Paired.mapP px fun _ _ z => z.imp (fun b C d fs e => ?_) fun b xs nb e => ⟨nb, ?_⟩)⟩
      · rw [upd_ne (ne_of e h2 (by intro z; cases z))]; exact ss _ _ e
      · rw [upd_ne nb]; exact ss _ _ e
      · rw [upd_ne (ne_of e4 h4D (by intro z; cases z))]; exact e4
      · rw [upd_ne ncc]; exact ecc
      · rw [upd_ne (ne_of en h4D (by intro z; cases z))]; exact en
    rintro ysL G4 ⟨s4, h4L, ls, hln, hlt, pls⟩
    -- the program
    have tn0 : (tn : Int).toNat = tn := by omega
    have un0 : ((tn : Int) + un - tn).toNat = un := by omega
    rw [tn0] at htb hts
    rw [un0] at hln hlt
    have har : arN tb ls = nm.drop m := by
      unfold arN
      rw [htb, hln, ← List.drop_drop]
      exact two_parts (by rw [List.length_drop]; omega)
    have hal : (arr tb ls).map (·.2) = lists := by
      unfold arr
      rw [List.map_append, List.map_map]
      show tb.map (·.2) ++ ls.map (·.2.1) = lists
      rw [hts, hlt]
      exact two_parts (by omega)
    have ltb : tb.length = tn := by
      have := congrArg List.length hts
      rw [List.length_map, List.length_take] at this
      omega
    have lls : ls.length = un := by
      have := congrArg List.length hlt
      rw [List.length_map, List.length_take, List.length_drop] at this
      omega
    have okl : ∀ ys ∈ lists, ys.length ≤ 9 ∧ OkN ys := fun ys hy => let ⟨_, _, _, l, o⟩ := pair_right pl ys hy; ⟨l, o⟩
    have nin : NmIn ax tb ls os := ⟨by omega, by omega, by omega, by omega, by rw [hax, har, List.take_append_drop]; exact on, oo, fun e he => by
      obtain ⟨l, o⟩ := okl e.2 (by rw [← hal]; exact List.mem_map.mpr ⟨e, he, rfl⟩)
      exact ⟨by omega, o⟩⟩
    have eqs := due_res (os := os) hax har hal
    have lyL := Paired.length pls
    have sG := s23.trans s4
    have w29 : (0 : Int) < 10 ^ (29 : Int).toNat := by decide +kernel
    refine ⟨_, rfl, _, _, rfl, rfl, ⟨by decide, by decide, by decide⟩, _, _, rfl, rfl, w29, _, _, rfl, rfl, ?_⟩
    dsimp only
    generalize 2 + seed % 10 ^ (29 : Int).toNat = wh
    refine ⟨_, rfl, _, rfl, _, rfl, _, rfl, O, _, rfl, .inl (SqL.of (sG _ _ hO)), fun oa hoa => fun p dp hp hdp ndp => ?_⟩
    have sO : Same G4 (upd G4 oa (.lst (os.map V.str))) := same_new hoa
    have sP : Same (upd G4 oa (.lst (os.map V.str))) (upd (upd (upd G4 oa (.lst (os.map V.str))) dp (.own p)) p (.ins t.C_Program dp [])) := (same_new hdp).trans (same_new (by rw [upd_ne ndp.symm]; exact hp))
    have sOP := sO.trans sP
    have RA : Rep (upd (upd (upd G4 oa (.lst (os.map V.str))) dp (.own p)) p (.ins t.C_Program dp [])) (.ref DA) (encIx ax) := .lst (sOP _ _ (s4 _ _ (s3 _ _ h2A))) (ax_reps (Paired.mapP pax fun _ _ ⟨b, e1, e2⟩ => ⟨b, e1, sOP _ _ (s4 _ _ (s3 _ _ e2))⟩))
    have RT : Rep (upd (upd (upd G4 oa (.lst (os.map V.str))) dp (.own p)) p (.ins t.C_Program dp [])) (.ref DT) (encTb tb) := .lst (sOP _ _ (s4 _ _ h3T)) (tba_reps (Paired.mapP ptb fun _ _ ⟨b, d, e1, e2, e3, e4⟩ => ⟨b, d, e1, sOP _ _ (s4 _ _ e2), e3, sOP _ _ (s4 _ _ e4)⟩))
    refine ⟨p, dp, DA, DT, DL, oa, wh, ax, tb, ysL, os, rfl, upd_same, RA, by omega, RT, by omega, fun e he => ?_, sOP _ _ h4L, by omega, fun x hx => ?_, S_rep (sP _ _ upd_same), by omega, fun a' t' l' o' G5 ep ra rt hl' el' ro kp => ⟨rfl, ?_⟩⟩
    · obtain ⟨l, _⟩ := okl e.2 (by rw [← hal]; exact List.mem_map.mpr ⟨e, List.mem_append_left _ he, rfl⟩)
      omega
    · obtain ⟨i, hi'⟩ := List.getElem?_of_mem hx
      obtain ⟨le, _, b, db, c, n, dn, rfl, eb, _⟩ := pget pls hi'
      exact ⟨b, db, _, rfl, ne_of_none (sO _ _ eb) hp, sOP _ _ eb⟩
    have s5 : Same G4 G5 := fun b u e => kp b u (ne_of_none (sO _ _ e) hp) (sOP _ _ e)
    have pr : PrAt t G5 p wh ax tb ls os := ⟨dp, a', t', l', o', ep, ra.same fun b o e => (restr_some e).2, rt.same fun b o e => (restr_some e).2, ⟨ysL, el', Paired.mapP pls fun _ _ z => z.imp (fun b C d fs e => s5 _ _ e) fun c xs _ e => ⟨True.intro, s5 _ _ e⟩⟩, ro.same fun b o e => (restr_some e).2⟩
    have sG5 := sG.trans s5
    -- what is due
    refine ⟨_, rfl, _, rfl, _, rfl, _, rfl, N, L, O, m, nm, os, cs, lists, rfl, sG5 _ _ hN, by omega, by omega, on, sG5 _ _ hLs, by omega, Paired.mapP pl fun _ _ ⟨e, l, _⟩ => ⟨sG5 _ _ e, by omega⟩, sG5 _ _ hO, by omega, oo, fun rr G6 dd s6 => ?_⟩
    have pr6 := pr.same s6
    refine ⟨_, rfl, p, false, wh, ax, tb, ls, os, rfl, pr6, nin, nofun, fun r1 G7 g1 s7 => ?_⟩
    rw [due_eq eqs dd g1]
    refine ⟨_, rfl, rfl, _, rfl, iteNS rfl ?_⟩
    have pr7 := pr6.same s7
    refine ⟨_, rfl, p, false, wh, ax, tb, ls, os, rfl, pr7, nin, nofun, fun r2 G8 g2 s8 => ?_⟩
    rw [due_eq eqs dd g2]
    have pr8 := pr7.same s8
    refine ⟨_, rfl, rfl, _, rfl, iteNS rfl ⟨_, rfl, rfl, _, rfl, iteD (fun _ => k _) (fun hne => ?_)⟩⟩
    have hb : ¬ (GdN ax tb ls os ∧ GdS ax tb ls) := fun ⟨z1, z2⟩ => by
      rcases dd with ⟨_, d⟩ | ⟨_, _, d⟩ | ⟨e, _⟩
      · exact d (eqs.1.mp z1)
      · exact d (eqs.2.mp z2)
      · exact hne (by rw [e])
    refine ⟨_, rfl, p, true, wh, ax, tb, ls, os, rfl, pr8, nin, fun _ => hb, fun r3 G9 g3 s9 => ?_⟩
    rw [due_eq eqs dd g3]
    exact ⟨_, rfl, rfl, _, rfl, iteYes rfl ⟨_, rfl, p, wh, ax, tb, ls, os, rfl, pr8.same s9, nin, hb, fun G10 _ => k _⟩⟩
end
end My

set_option Elab.async false
set_option linter.all false
set_option maxRecDepth 100000
set_option maxHeartbeats 4000000
/-! The head lays a twin of each constant that it meets, and of the largest ones its equation is quadratic in the constants within (some 30 MB). A constant that bears the twin's name already keeps it from laying that one. -/
def PySem.W.Fast.tw16919172684346828154 : Unit := ()
def PySem.W.Fast.tw11937105059167219529 : Unit := ()
def PySem.W.Fast.tw12539460266239385308 : Unit := ()
def PySem.W.Fast.tw15967410833760608307 : Unit := ()
def PySem.W.Fast.tw8992211810636251322 : Unit := ()
def PySem.W.Fast.tw3376955470274839731 : Unit := ()
def PySem.W.Fast.tw12780221121017408392 : Unit := ()
def PySem.W.Fast.tw18109138711512482448 : Unit := ()
def PySem.W.Fast.tw7517183275518448181 : Unit := ()
def PySem.W.Fast.tw710898414193741902 : Unit := ()
def PySem.W.Fast.tw7614875442927421610 : Unit := ()
def PySem.W.Fast.tw11442815038371544923 : Unit := ()
def PySem.W.Fast.tw12504204776191806283 : Unit := ()
def PySem.W.Fast.tw8273954240422151250 : Unit := ()
def PySem.W.Fast.tw12779104025902753095 : Unit := ()
def PySem.W.Fast.tw16454875286034602886 : Unit := ()
def PySem.W.Fast.tw8225695068886076596 : Unit := ()
def PySem.W.Fast.tw13754559947072624423 : Unit := ()
def PySem.W.Fast.tw14659416982237137894 : Unit := ()
def PySem.W.Fast.tw5818646872868713499 : Unit := ()
def PySem.W.Fast.tw9331592408008788493 : Unit := ()
def PySem.W.Fast.tw10668263071323741452 : Unit := ()
def PySem.W.Fast.tw9955491775615973346 : Unit := ()
def PySem.W.Fast.tw6171306958590787110 : Unit := ()
def PySem.W.Fast.tw13474022082801602276 : Unit := ()
def PySem.W.Fast.tw1156856128191806915 : Unit := ()
def PySem.W.Fast.tw5029694661885830936 : Unit := ()
def PySem.W.Fast.tw12165192360684915458 : Unit := ()
def PySem.W.Fast.tw10640013468767433690 : Unit := ()
def PySem.W.Fast.tw9221266729024589495 : Unit := ()
def PySem.W.Fast.tw10898478336820160575 : Unit := ()
def PySem.W.Fast.tw18104719186354033688 : Unit := ()
def PySem.W.Fast.tw16914829946087369113 : Unit := ()
def PySem.W.Fast.tw17254476951886576479 : Unit := ()
def PySem.W.Fast.tw13802824293335277606 : Unit := ()
def PySem.W.Fast.tw1182291744314392714 : Unit := ()
def PySem.W.Fast.tw6078124557985818879 : Unit := ()
def PySem.W.Fast.tw8380855183540202679 : Unit := ()
def PySem.W.Fast.tw270411581324035203 : Unit := ()
def PySem.W.Fast.tw1692017496627210303 : Unit := ()
def PySem.W.Fast.tw13227748843324744010 : Unit := ()
def PySem.W.Fast.tw10982643214304450639 : Unit := ()
def PySem.W.Fast.tw10051399287840641387 : Unit := ()
def PySem.W.Fast.tw5481393698624117494 : Unit := ()
def PySem.W.Fast.tw10576312672312479096 : Unit := ()
def PySem.W.Fast.tw16973465840552867394 : Unit := ()
def PySem.W.Fast.tw14322423161989134633 : Unit := ()
def PySem.W.Fast.tw7010681086803402788 : Unit := ()
namespace My
open PySem L2
abbrev LkF (K : PySem.W.Frag) (x q : Str) (st : Stmt) (f : Addr) : Prop := ∃ (oc : Value) (od : Option Addr) (kV dc pm : Value) (an : Option Addr) (cd ct : Value) (sl : Array (Option Value)), K.lookup f = some ⟨oc, od, .func (PySem.W.fnOf x q (defArgs st) (defBody st) (defScope st) .none kV dc pm an cd ct), sl⟩ ∧ PySem.W.codeIn K cd q = true ∧ PySem.W.keepIn K (.ref f) = true
theorem lkF_mk {K : PySem.W.Frag} {x q : Str} {st : Stmt} {f : Addr} {oc : Value} {od : Option Addr} {kV dc pm : Value} {an : Option Addr} {cd ct : Value} {sl : Array (Option Value)} (l : K.lookup f = some ⟨oc, od, .func (PySem.W.fnOf x q (defArgs st) (defBody st) (defScope st) .none kV dc pm an cd ct), sl⟩) (c : PySem.W.codeIn K cd q = true) (k : PySem.W.keepIn K (.ref f) = true) : LkF K x q st f := ⟨_, _, _, _, _, _, _, _, _, l, c, k⟩
theorem fn_mk {K : PySem.W.Frag} {x q : Str} {st : Stmt} {f : Addr} {ps : List Str} (l : LkF K x q st f) (h : ∀ (kV doc pm : Value) (an : Option Addr) (cdv ct : Value) (us : List Value), us.length = ps.length → bindArgs (PySem.W.fnOf x q (defArgs st) (defBody st) (defScope st) .none kV doc pm an cdv ct) ⟨us, []⟩ = pure (ps.zip us)) : ∃ d, Fun K x q st f d ∧ Binds K d ps [] ∧ PySem.W.keepIn K (.ref f) = true := by
  obtain ⟨_, _, _, _, _, _, _, _, _, l, c, k⟩ := l
  have F := fun_mk (st := st) l c k
  exact ⟨_, F, F.binds h, k⟩
theorem len0 {p : List Value → Prop} (h : p []) : ∀ us : List Value, us.length = 0 → p us
  | [], _ => h
theorem len1 {p : List Value → Prop} (h : ∀ a, p [a]) : ∀ us : List Value, us.length = 1 → p us
  | [a], _ => h a
theorem len2 {p : List Value → Prop} (h : ∀ a b, p [a, b]) : ∀ us : List Value, us.length = 2 → p us
  | [a, b], _ => h a b
theorem len3 {p : List Value → Prop} (h : ∀ a b c, p [a, b, c]) : ∀ us : List Value, us.length = 3 → p us
  | [a, b, c], _ => h a b c
theorem len4 {p : List Value → Prop} (h : ∀ a b c d, p [a, b, c, d]) : ∀ us : List Value, us.length = 4 → p us
  | [a, b, c, d], _ => h a b c d
theorem len5 {p : List Value → Prop} (h : ∀ a b c d e, p [a, b, c, d, e]) : ∀ us : List Value, us.length = 5 → p us
  | [a, b, c, d, e], _ => h a b c d e
theorem len6 {p : List Value → Prop} (h : ∀ a b c d e f, p [a, b, c, d, e, f]) : ∀ us : List Value, us.length = 6 → p us
  | [a, b, c, d, e, f], _ => h a b c d e f
theorem len7 {p : List Value → Prop} (h : ∀ a b c d e f g, p [a, b, c, d, e, f, g]) : ∀ us : List Value, us.length = 7 → p us
  | [a, b, c, d, e, f, g], _ => h a b c d e f g
theorem len8 {p : List Value → Prop} (h : ∀ a b c d e f g i, p [a, b, c, d, e, f, g, i]) : ∀ us : List Value, us.length = 8 → p us
  | [a, b, c, d, e, f, g, i], _ => h a b c d e f g i
theorem len9 {p : List Value → Prop} (h : ∀ a b c d e f g i j, p [a, b, c, d, e, f, g, i, j]) : ∀ us : List Value, us.length = 9 → p us
  | [a, b, c, d, e, f, g, i, j], _ => h a b c d e f g i j
theorem all_mk {l : PySem.W.OpenLaw} {w : World} {K : PySem.W.Frag} {h : Heap} {mg : Str → Option Value} {fa : Addr} (X : K.In h) (G : h.Ns mainGlobals mg) (hfa : mg "law" = some (.ref fa))
    {C_LoomError C_NoName C_NoShape C_TooMuch C_NoText C_BeyondRim C_NotYet C_Term C_Number C_Place C_Read C_Pair C_Sum C_Guard C_Part C_Let C_Program : Addr}
    (aC_LoomError : PySem.W.nsIn K mainGlobals "LoomError" = some (some (.ref C_LoomError)))
    (aC_NoName : PySem.W.nsIn K mainGlobals "NoName" = some (some (.ref C_NoName)))
    (aC_NoShape : PySem.W.nsIn K mainGlobals "NoShape" = some (some (.ref C_NoShape)))
    (aC_TooMuch : PySem.W.nsIn K mainGlobals "TooMuch" = some (some (.ref C_TooMuch)))
    (aC_NoText : PySem.W.nsIn K mainGlobals "NoText" = some (some (.ref C_NoText)))
    (aC_BeyondRim : PySem.W.nsIn K mainGlobals "BeyondRim" = some (some (.ref C_BeyondRim)))
    (aC_NotYet : PySem.W.nsIn K mainGlobals "NotYet" = some (some (.ref C_NotYet)))
    (aC_Term : PySem.W.nsIn K mainGlobals "Term" = some (some (.ref C_Term)))
    (aC_Number : PySem.W.nsIn K mainGlobals "Number" = some (some (.ref C_Number)))
    (aC_Place : PySem.W.nsIn K mainGlobals "Place" = some (some (.ref C_Place)))
    (aC_Read : PySem.W.nsIn K mainGlobals "Read" = some (some (.ref C_Read)))
    (aC_Pair : PySem.W.nsIn K mainGlobals "Pair" = some (some (.ref C_Pair)))
    (aC_Sum : PySem.W.nsIn K mainGlobals "Sum" = some (some (.ref C_Sum)))
    (aC_Guard : PySem.W.nsIn K mainGlobals "Guard" = some (some (.ref C_Guard)))
    (aC_Part : PySem.W.nsIn K mainGlobals "Part" = some (some (.ref C_Part)))
    (aC_Let : PySem.W.nsIn K mainGlobals "Let" = some (some (.ref C_Let)))
    (aC_Program : PySem.W.nsIn K mainGlobals "Program" = some (some (.ref C_Program)))
    {f0 : Addr}
    (a0 : PySem.W.nsIn K mainGlobals "copied" = some (some (.ref f0)))
    (l0 : LkF K "copied" "copied" s_copied f0)
    {f1 : Addr}
    (a1 : PySem.W.findIn K (.ref C_Number) "__init__" = some (some (.ref f1)))
    (l1 : LkF K "__init__" "Number.__init__" s_Number_init f1)
    (i1 : PySem.W.isFn K (.ref f1) = true)
    {f2 : Addr}
    (a2 : PySem.W.findIn K (.ref C_Let) "__init__" = some (some (.ref f2)))
    (l2 : LkF K "__init__" "Let.__init__" s_Let_init f2)
    (i2 : PySem.W.isFn K (.ref f2) = true)
    {f3 : Addr}
    (a3 : PySem.W.findIn K (.ref C_Program) "__init__" = some (some (.ref f3)))
    (l3 : LkF K "__init__" "Program.__init__" s_Program_init f3)
    (i3 : PySem.W.isFn K (.ref f3) = true)
    {f4 : Addr}
    (a4 : PySem.W.nsIn K mainGlobals "axis_names" = some (some (.ref f4)))
    (l4 : LkF K "axis_names" "axis_names" s_axis_names f4)
    {f5 : Addr}
    (a5 : PySem.W.nsIn K mainGlobals "table_names" = some (some (.ref f5)))
    (l5 : LkF K "table_names" "table_names" s_table_names f5)
    {f6 : Addr}
    (a6 : PySem.W.nsIn K mainGlobals "array_names" = some (some (.ref f6)))
    (l6 : LkF K "array_names" "array_names" s_array_names f6)
    {f7 : Addr}
    (a7 : PySem.W.nsIn K mainGlobals "arrays_of" = some (some (.ref f7)))
    (l7 : LkF K "arrays_of" "arrays_of" s_arrays_of f7)
    {f8 : Addr}
    (a8 : PySem.W.nsIn K mainGlobals "look_names" = some (some (.ref f8)))
    (l8 : LkF K "look_names" "look_names" s_look_names f8)
    {f9 : Addr}
    (a9 : PySem.W.nsIn K mainGlobals "look_told_names" = some (some (.ref f9)))
    (l9 : LkF K "look_told_names" "look_told_names" s_look_told_names f9)
    {f10 : Addr}
    (a10 : PySem.W.nsIn K mainGlobals "is_name" = some (some (.ref f10)))
    (l10 : LkF K "is_name" "is_name" s_is_name f10)
    {f11 : Addr}
    (a11 : PySem.W.nsIn K mainGlobals "is_of_letters" = some (some (.ref f11)))
    (l11 : LkF K "is_of_letters" "is_of_letters" s_is_of_letters f11)
    {f12 : Addr}
    (a12 : PySem.W.nsIn K mainGlobals "look_outs" = some (some (.ref f12)))
    (l12 : LkF K "look_outs" "look_outs" s_look_outs f12)
    {f13 : Addr}
    (a13 : PySem.W.nsIn K mainGlobals "look_axes" = some (some (.ref f13)))
    (l13 : LkF K "look_axes" "look_axes" s_look_axes f13)
    {f14 : Addr}
    (a14 : PySem.W.nsIn K mainGlobals "look" = some (some (.ref f14)))
    (l14 : LkF K "look" "look" s_look f14)
    {f15 : Addr}
    (a15 : PySem.W.nsIn K mainGlobals "_law_cell" = some (some (.ref f15)))
    (l15 : LkF K "_law_cell" "_law_cell" s_l_cell f15)
    {f16 : Addr}
    (a16 : PySem.W.nsIn K mainGlobals "_law_name" = some (some (.ref f16)))
    (l16 : LkF K "_law_name" "_law_name" s_l_name f16)
    {f17 : Addr}
    (a17 : PySem.W.nsIn K mainGlobals "_law_bad" = some (some (.ref f17)))
    (l17 : LkF K "_law_bad" "_law_bad" s_l_bad f17)
    {f18 : Addr}
    (a18 : PySem.W.nsIn K mainGlobals "_law_axes" = some (some (.ref f18)))
    (l18 : LkF K "_law_axes" "_law_axes" s_l_axes f18)
    {f19 : Addr}
    (a19 : PySem.W.nsIn K mainGlobals "_law_spoil_names" = some (some (.ref f19)))
    (l19 : LkF K "_law_spoil_names" "_law_spoil_names" s_l_spoil_names f19)
    {f20 : Addr}
    (a20 : PySem.W.nsIn K mainGlobals "_law_spoil_outs" = some (some (.ref f20)))
    (l20 : LkF K "_law_spoil_outs" "_law_spoil_outs" s_l_spoil_outs f20)
    {f21 : Addr}
    (a21 : PySem.W.nsIn K mainGlobals "_law_spoil_axes" = some (some (.ref f21)))
    (l21 : LkF K "_law_spoil_axes" "_law_spoil_axes" s_l_spoil_axes f21)
    {f22 : Addr}
    (a22 : PySem.W.nsIn K mainGlobals "_law_named" = some (some (.ref f22)))
    (l22 : LkF K "_law_named" "_law_named" s_l_named f22)
    {f23 : Addr}
    (a23 : PySem.W.nsIn K mainGlobals "_law_due" = some (some (.ref f23)))
    (l23 : LkF K "_law_due" "_law_due" s_l_due f23)
    {f24 : Addr}
    (a24 : PySem.W.nsIn K mainGlobals "_law_asked" = some (some (.ref f24)))
    (l24 : LkF K "_law_asked" "_law_asked" s_l_asked f24)
    {f25 : Addr}
    (a25 : PySem.W.nsIn K mainGlobals "_law_got" = some (some (.ref f25)))
    (l25 : LkF K "_law_got" "_law_got" s_l_got f25)
    {f26 : Addr}
    (a26 : PySem.W.nsIn K mainGlobals "_law_under" = some (some (.ref f26)))
    (l26 : LkF K "_law_under" "_law_under" s_l_under f26)
    {f27 : Addr}
    (a27 : PySem.W.nsIn K mainGlobals "law" = some (some (.ref f27)))
    (l27 : LkF K "law" "law" s_law f27)
    {pt_MOST_LETTERS : Tok}
    (aP_MOST_LETTERS : PySem.W.nsIn K mainGlobals "MOST_LETTERS" = some (some (.int (8) pt_MOST_LETTERS)))
    {pt_MOST_AXES : Tok}
    (aP_MOST_AXES : PySem.W.nsIn K mainGlobals "MOST_AXES" = some (some (.int (3) pt_MOST_AXES)))
    {p_WORDS_OF_TERMS : Addr} {pd_WORDS_OF_TERMS : Option Addr} {pn_WORDS_OF_TERMS : Nat} {ps_WORDS_OF_TERMS : Array (Option Value)} {pt0_WORDS_OF_TERMS pt1_WORDS_OF_TERMS : Tok}
    (aP_WORDS_OF_TERMS : PySem.W.nsIn K mainGlobals "WORDS_OF_TERMS" = some (some (.ref p_WORDS_OF_TERMS)))
    (lP_WORDS_OF_TERMS : K.lookup p_WORDS_OF_TERMS = some ⟨.type "tuple", pd_WORDS_OF_TERMS, .seq #[.str "if" pt0_WORDS_OF_TERMS, .str "sum" pt1_WORDS_OF_TERMS] pn_WORDS_OF_TERMS, ps_WORDS_OF_TERMS⟩)
    (xm_NoName_ValueError : PySem.W.mroIn K C_NoName (.type "ValueError") = some true)
    (xm_NoShape_ValueError : PySem.W.mroIn K C_NoShape (.type "ValueError") = some true)
    (xe_NoName : PySem.W.excIn K C_NoName [.type "ValueError", .type "Exception", .type "BaseException", .type "object"] "ValueError.__new__" = true)
    (xe_NoShape : PySem.W.excIn K C_NoShape [.type "ValueError", .type "Exception", .type "BaseException", .type "object"] "ValueError.__new__" = true)
    (x1_NoName : PySem.W.findIn K (.ref C_NoName) "__getattribute__" = some (some (.builtin "BaseException.__getattribute__")))
    (x2_NoName : PySem.W.findIn K (.ref C_NoName) "__getattr__" = some none)
    (x3_NoName : PySem.W.mroIn K C_NoName (.type "BaseException") = some true)
    (x4_NoName : PySem.W.mroIn K C_NoName (.type "object") = some true)
    (x5_NoName : PySem.W.findIn K (.ref C_NoName) "__class__" = some (some (.builtin "object.__class__")))
    (x6_NoName : PySem.W.specialIn K (.builtin "object.__class__") "__get__" = some (some (.builtin "getset_descriptor.__get__")))
    (x7_NoName : PySem.W.takesIn K (.builtin "object.__class__") = some true)
    (cs_NoShape : PySem.W.isClsIn K C_NoShape = true)
    (ct_NoShape : PySem.W.typeIn K (.ref C_NoShape) = some (.type "type"))
    (mr_NoName_NoShape : PySem.W.mroIn K C_NoName (.ref C_NoShape) = some false)
    (ne_NoName_NoShape : (Value.ref C_NoName == Value.ref C_NoShape) = false)
    (cs_TooMuch : PySem.W.isClsIn K C_TooMuch = true)
    (ct_TooMuch : PySem.W.typeIn K (.ref C_TooMuch) = some (.type "type"))
    (mr_NoName_TooMuch : PySem.W.mroIn K C_NoName (.ref C_TooMuch) = some false)
    (ne_NoName_TooMuch : (Value.ref C_NoName == Value.ref C_TooMuch) = false)
    (cs_BeyondRim : PySem.W.isClsIn K C_BeyondRim = true)
    (ct_BeyondRim : PySem.W.typeIn K (.ref C_BeyondRim) = some (.type "type"))
    (mr_NoName_BeyondRim : PySem.W.mroIn K C_NoName (.ref C_BeyondRim) = some false)
    (ne_NoName_BeyondRim : (Value.ref C_NoName == Value.ref C_BeyondRim) = false)
    (cs_NotYet : PySem.W.isClsIn K C_NotYet = true)
    (ct_NotYet : PySem.W.typeIn K (.ref C_NotYet) = some (.type "type"))
    (mr_NoName_NotYet : PySem.W.mroIn K C_NoName (.ref C_NotYet) = some false)
    (ne_NoName_NotYet : (Value.ref C_NoName == Value.ref C_NotYet) = false)
    (cs_NoText : PySem.W.isClsIn K C_NoText = true)
    (ct_NoText : PySem.W.typeIn K (.ref C_NoText) = some (.type "type"))
    (mr_NoName_NoText : PySem.W.mroIn K C_NoName (.ref C_NoText) = some false)
    (ne_NoName_NoText : (Value.ref C_NoName == Value.ref C_NoText) = false)
    (x1_NoShape : PySem.W.findIn K (.ref C_NoShape) "__getattribute__" = some (some (.builtin "BaseException.__getattribute__")))
    (x2_NoShape : PySem.W.findIn K (.ref C_NoShape) "__getattr__" = some none)
    (x3_NoShape : PySem.W.mroIn K C_NoShape (.type "BaseException") = some true)
    (x4_NoShape : PySem.W.mroIn K C_NoShape (.type "object") = some true)
    (x5_NoShape : PySem.W.findIn K (.ref C_NoShape) "__class__" = some (some (.builtin "object.__class__")))
    (x6_NoShape : PySem.W.specialIn K (.builtin "object.__class__") "__get__" = some (some (.builtin "getset_descriptor.__get__")))
    (x7_NoShape : PySem.W.takesIn K (.builtin "object.__class__") = some true)
    (cs_NoName : PySem.W.isClsIn K C_NoName = true)
    (ct_NoName : PySem.W.typeIn K (.ref C_NoName) = some (.type "type"))
    (mr_NoShape_NoName : PySem.W.mroIn K C_NoShape (.ref C_NoName) = some false)
    (ne_NoShape_NoName : (Value.ref C_NoShape == Value.ref C_NoName) = false)
    (mr_NoShape_TooMuch : PySem.W.mroIn K C_NoShape (.ref C_TooMuch) = some false)
    (ne_NoShape_TooMuch : (Value.ref C_NoShape == Value.ref C_TooMuch) = false)
    (mr_NoShape_BeyondRim : PySem.W.mroIn K C_NoShape (.ref C_BeyondRim) = some false)
    (ne_NoShape_BeyondRim : (Value.ref C_NoShape == Value.ref C_BeyondRim) = false)
    (mr_NoShape_NotYet : PySem.W.mroIn K C_NoShape (.ref C_NotYet) = some false)
    (ne_NoShape_NotYet : (Value.ref C_NoShape == Value.ref C_NotYet) = false)
    (mr_NoShape_NoText : PySem.W.mroIn K C_NoShape (.ref C_NoText) = some false)
    (ne_NoShape_NoText : (Value.ref C_NoShape == Value.ref C_NoText) = false)
    (mr_NoName_NoName : PySem.W.mroIn K C_NoName (.ref C_NoName) = some true)
    (eb_NoName : PySem.W.mroIn K C_NoName (.type "BaseException") = some true)
    (cs_LoomError : PySem.W.isClsIn K C_LoomError = true)
    (ct_LoomError : PySem.W.typeIn K (.ref C_LoomError) = some (.type "type"))
    (mr_NoName_LoomError : PySem.W.mroIn K C_NoName (.ref C_LoomError) = some true)
    (eb_LoomError : PySem.W.mroIn K C_LoomError (.type "BaseException") = some true)
    (mr_NoShape_NoShape : PySem.W.mroIn K C_NoShape (.ref C_NoShape) = some true)
    (eb_NoShape : PySem.W.mroIn K C_NoShape (.type "BaseException") = some true)
    (mr_NoShape_LoomError : PySem.W.mroIn K C_NoShape (.ref C_LoomError) = some true)
    (pg_Let : PySem.W.plainGet K C_Let Str.empty = true)
    (hd_Let : PySem.W.hasDictIn K C_Let = true)
    (po_Let : PySem.W.plainOver K C_Let = true)
    (sa_Let : PySem.W.findIn K (.ref C_Let) "__setattr__" = some (some (.builtin "object.__setattr__")))
    (mk_Let : PySem.W.makesIn K C_Let = true)
    (kc_Let : PySem.W.keepIn K (.ref C_Let) = true)
    (in_Let : PySem.W.findIn K (.ref C_Let) "__init__" = some (some (.ref f2)))
    (na_Let_name : PySem.W.findIn K (.ref C_Let) "name" = some none)
    (na_Let_axes : PySem.W.findIn K (.ref C_Let) "axes" = some none)
    (na_Let_term : PySem.W.findIn K (.ref C_Let) "term" = some none)
    (t1_Let : PySem.W.findIn K (.ref C_Let) "__class__" = some (some (.builtin "object.__class__")))
    (t2_Let : PySem.W.specialIn K (.builtin "object.__class__") "__get__" = some (some (.builtin "getset_descriptor.__get__")))
    (t3_Let : PySem.W.takesIn K (.builtin "object.__class__") = some true)
    (t4_Let : PySem.W.mroIn K C_Let (.type "object") = some true)
    (mb_Let_list : PySem.W.mroIn K C_Let (.type "list") = some false)
    (mb_Let_tuple : PySem.W.mroIn K C_Let (.type "tuple") = some false)
    (mb_Let_dict : PySem.W.mroIn K C_Let (.type "dict") = some false)
    (pg_Number : PySem.W.plainGet K C_Number Str.empty = true)
    (hd_Number : PySem.W.hasDictIn K C_Number = true)
    (po_Number : PySem.W.plainOver K C_Number = true)
    (sa_Number : PySem.W.findIn K (.ref C_Number) "__setattr__" = some (some (.builtin "object.__setattr__")))
    (mk_Number : PySem.W.makesIn K C_Number = true)
    (kc_Number : PySem.W.keepIn K (.ref C_Number) = true)
    (in_Number : PySem.W.findIn K (.ref C_Number) "__init__" = some (some (.ref f1)))
    (na_Number_number : PySem.W.findIn K (.ref C_Number) "number" = some none)
    (t1_Number : PySem.W.findIn K (.ref C_Number) "__class__" = some (some (.builtin "object.__class__")))
    (t2_Number : PySem.W.specialIn K (.builtin "object.__class__") "__get__" = some (some (.builtin "getset_descriptor.__get__")))
    (t3_Number : PySem.W.takesIn K (.builtin "object.__class__") = some true)
    (t4_Number : PySem.W.mroIn K C_Number (.type "object") = some true)
    (pg_Program : PySem.W.plainGet K C_Program Str.empty = true)
    (hd_Program : PySem.W.hasDictIn K C_Program = true)
    (po_Program : PySem.W.plainOver K C_Program = true)
    (sa_Program : PySem.W.findIn K (.ref C_Program) "__setattr__" = some (some (.builtin "object.__setattr__")))
    (mk_Program : PySem.W.makesIn K C_Program = true)
    (kc_Program : PySem.W.keepIn K (.ref C_Program) = true)
    (in_Program : PySem.W.findIn K (.ref C_Program) "__init__" = some (some (.ref f3)))
    (na_Program_wheel : PySem.W.findIn K (.ref C_Program) "wheel" = some none)
    (na_Program_axes : PySem.W.findIn K (.ref C_Program) "axes" = some none)
    (na_Program_tables : PySem.W.findIn K (.ref C_Program) "tables" = some none)
    (na_Program_lets : PySem.W.findIn K (.ref C_Program) "lets" = some none)
    (na_Program_outs : PySem.W.findIn K (.ref C_Program) "outs" = some none)
    (t1_Program : PySem.W.findIn K (.ref C_Program) "__class__" = some (some (.builtin "object.__class__")))
    (t2_Program : PySem.W.specialIn K (.builtin "object.__class__") "__get__" = some (some (.builtin "getset_descriptor.__get__")))
    (t3_Program : PySem.W.takesIn K (.builtin "object.__class__") = some true)
    (t4_Program : PySem.W.mroIn K C_Program (.type "object") = some true)
    (z_isinstance : PySem.W.nsIn K mainGlobals "isinstance" = some none)
    (z_list : PySem.W.nsIn K mainGlobals "list" = some none)
    (z_tuple : PySem.W.nsIn K mainGlobals "tuple" = some none)
    (z_dict : PySem.W.nsIn K mainGlobals "dict" = some none)
    (z_enumerate : PySem.W.nsIn K mainGlobals "enumerate" = some none)
    (z_len : PySem.W.nsIn K mainGlobals "len" = some none)
    (z_all : PySem.W.nsIn K mainGlobals "all" = some none)
    (z_range : PySem.W.nsIn K mainGlobals "range" = some none)
    (z_min : PySem.W.nsIn K mainGlobals "min" = some none)
    (z_ValueError : PySem.W.nsIn K mainGlobals "ValueError" = some none)
    (z_reversed : PySem.W.nsIn K mainGlobals "reversed" = some none)
    : ∃ fd : FuncData, (∀ (s : Shared) (v : Value), BindsTo s fd ⟨[v], []⟩ [("_law_script", v)]) ∧ ∀ base : Heap, K.In base → base.Ns mainGlobals mg → FnOk l.prog w K mg base CX0 8 fa fd ["_law_script"] (spLaw K) := by
  have e := hfa.symm.trans (PySem.W.mg_of X G a27)
  cases e
  obtain ⟨d0, F0, b0, k0⟩ := fn_mk (ps := ["value"]) l0 fun _ _ _ _ _ _ => len1 fun _ => rfl
  obtain ⟨d1, F1, b1, k1⟩ := fn_mk (ps := ["self", "number"]) l1 fun _ _ _ _ _ _ => len2 fun _ _ => rfl
  obtain ⟨d2, F2, b2, k2⟩ := fn_mk (ps := ["self", "name", "axes", "term"]) l2 fun _ _ _ _ _ _ => len4 fun _ _ _ _ => rfl
  obtain ⟨d3, F3, b3, k3⟩ := fn_mk (ps := ["self", "wheel", "axes", "tables", "lets", "outs"]) l3 fun _ _ _ _ _ _ => len6 fun _ _ _ _ _ _ => rfl
  obtain ⟨d4, F4, b4, k4⟩ := fn_mk (ps := ["program"]) l4 fun _ _ _ _ _ _ => len1 fun _ => rfl
  obtain ⟨d5, F5, b5, k5⟩ := fn_mk (ps := ["program"]) l5 fun _ _ _ _ _ _ => len1 fun _ => rfl
  obtain ⟨d6, F6, b6, k6⟩ := fn_mk (ps := ["program"]) l6 fun _ _ _ _ _ _ => len1 fun _ => rfl
  obtain ⟨d7, F7, b7, k7⟩ := fn_mk (ps := ["program"]) l7 fun _ _ _ _ _ _ => len1 fun _ => rfl
  obtain ⟨d8, F8, b8, k8⟩ := fn_mk (ps := ["program"]) l8 fun _ _ _ _ _ _ => len1 fun _ => rfl
  obtain ⟨d9, F9, b9, k9⟩ := fn_mk (ps := ["names"]) l9 fun _ _ _ _ _ _ => len1 fun _ => rfl
  obtain ⟨d10, F10, b10, k10⟩ := fn_mk (ps := ["text"]) l10 fun _ _ _ _ _ _ => len1 fun _ => rfl
  obtain ⟨d11, F11, b11, k11⟩ := fn_mk (ps := ["text"]) l11 fun _ _ _ _ _ _ => len1 fun _ => rfl
  obtain ⟨d12, F12, b12, k12⟩ := fn_mk (ps := ["outs", "names"]) l12 fun _ _ _ _ _ _ => len2 fun _ _ => rfl
  obtain ⟨d13, F13, b13, k13⟩ := fn_mk (ps := ["axes", "known"]) l13 fun _ _ _ _ _ _ => len2 fun _ _ => rfl
  obtain ⟨d14, F14, b14, k14⟩ := fn_mk (ps := ["program"]) l14 fun _ _ _ _ _ _ => len1 fun _ => rfl
  obtain ⟨d15, F15, b15, k15⟩ := fn_mk (ps := ["_law_rest"]) l15 fun _ _ _ _ _ _ => len1 fun _ => rfl
  obtain ⟨d16, F16, b16, k16⟩ := fn_mk (ps := ["_law_k", "_law_seed"]) l16 fun _ _ _ _ _ _ => len2 fun _ _ => rfl
  obtain ⟨d17, F17, b17, k17⟩ := fn_mk (ps := ["_law_cell_here"]) l17 fun _ _ _ _ _ _ => len1 fun _ => rfl
  obtain ⟨d18, F18, b18, k18⟩ := fn_mk (ps := ["_law_cell_here", "_law_names"]) l18 fun _ _ _ _ _ _ => len2 fun _ _ => rfl
  obtain ⟨d19, F19, b19, k19⟩ := fn_mk (ps := ["_law_way", "_law_names", "_law_place", "_law_cell_here", "_law_seed"]) l19 fun _ _ _ _ _ _ => len5 fun _ _ _ _ _ => rfl
  obtain ⟨d20, F20, b20, k20⟩ := fn_mk (ps := ["_law_way", "_law_names", "_law_outs", "_law_place", "_law_cell_here", "_law_seed"]) l20 fun _ _ _ _ _ _ => len6 fun _ _ _ _ _ _ => rfl
  obtain ⟨d21, F21, b21, k21⟩ := fn_mk (ps := ["_law_way", "_law_names", "_law_lists", "_law_place", "_law_cell_here", "_law_seed"]) l21 fun _ _ _ _ _ _ => len6 fun _ _ _ _ _ _ => rfl
  obtain ⟨d22, F22, b22, k22⟩ := fn_mk (ps := ["_law_text"]) l22 fun _ _ _ _ _ _ => len1 fun _ => rfl
  obtain ⟨d23, F23, b23, k23⟩ := fn_mk (ps := ["_law_names", "_law_many", "_law_lists", "_law_outs"]) l23 fun _ _ _ _ _ _ => len4 fun _ _ _ _ => rfl
  obtain ⟨d24, F24, b24, k24⟩ := fn_mk (ps := ["_law_program", "_law_whole"]) l24 fun _ _ _ _ _ _ => len2 fun _ _ => rfl
  obtain ⟨d25, F25, b25, k25⟩ := fn_mk (ps := ["_law_program", "_law_whole"]) l25 fun _ _ _ _ _ _ => len2 fun _ _ => rfl
  obtain ⟨d26, F26, b26, k26⟩ := fn_mk (ps := ["_law_program"]) l26 fun _ _ _ _ _ _ => len1 fun _ => rfl
  obtain ⟨_, _, _, _, _, _, _, _, _, l27, c, k27⟩ := l27
  have F27 := fun_mk (st := s_law) l27 c k27
  have b27 := F27.binds (ps := ["_law_script"]) fun _ _ _ _ _ _ => len1 fun _ => rfl
  exact ⟨_, fun s v => .of_eq rfl, fun base _ _ => ok_law (t := ⟨C_LoomError, C_NoName, C_NoShape, C_TooMuch, C_NoText, C_BeyondRim, C_NotYet, C_Term, C_Number, C_Place, C_Read, C_Pair, C_Sum, C_Guard, C_Part, C_Let, C_Program, p_WORDS_OF_TERMS, f0, _, f1, _, f2, _, f3, _, f4, _, f5, _, f6, _, f7, _, f8, _, f9, _, f10, _, f11, _, f12, _, f13, _, f14, _, f15, _, f16, _, f17, _, f18, _, f19, _, f20, _, f21, _, f22, _, f23, _, f24, _, f25, _, f26, _, fa, _⟩) ⟨F0, PySem.W.mg_of X G a0, b0, F1, b1, F2, b2, F3, b3, F4, PySem.W.mg_of X G a4, b4, F5, PySem.W.mg_of X G a5, b5, F6, PySem.W.mg_of X G a6, b6, F7, PySem.W.mg_of X G a7, b7, F8, PySem.W.mg_of X G a8, b8, F9, PySem.W.mg_of X G a9, b9, F10, PySem.W.mg_of X G a10, b10, F11, PySem.W.mg_of X G a11, b11, F12, PySem.W.mg_of X G a12, b12, F13, PySem.W.mg_of X G a13, b13, F14, PySem.W.mg_of X G a14, b14, F15, PySem.W.mg_of X G a15, b15, F16, PySem.W.mg_of X G a16, b16, F17, PySem.W.mg_of X G a17, b17, F18, PySem.W.mg_of X G a18, b18, F19, PySem.W.mg_of X G a19, b19, F20, PySem.W.mg_of X G a20, b20, F21, PySem.W.mg_of X G a21, b21, F22, PySem.W.mg_of X G a22, b22, F23, PySem.W.mg_of X G a23, b23, F24, PySem.W.mg_of X G a24, b24, F25, PySem.W.mg_of X G a25, b25, F26, PySem.W.mg_of X G a26, b26, F27, PySem.W.mg_of X G a27, b27, ⟨_, PySem.W.mg_of X G aP_MOST_LETTERS, ⟨_, rfl⟩⟩, ⟨_, PySem.W.mg_of X G aP_MOST_AXES, ⟨_, rfl⟩⟩, ⟨_, PySem.W.mg_of X G aP_WORDS_OF_TERMS, rfl⟩, ⟨_, _, _, lP_WORDS_OF_TERMS, rfl, rfl, (by show 2 ≤ sizeLine; decide), .cons ⟨_, rfl⟩ (.cons ⟨_, rfl⟩ (.nil))⟩, PySem.W.mg_of X G aC_BeyondRim, PySem.W.mg_of X G aC_LoomError, PySem.W.mg_of X G aC_NoName, PySem.W.mg_of X G aC_NoShape, PySem.W.mg_of X G aC_NoText, PySem.W.mg_of X G aC_NotYet, PySem.W.mg_of X G aC_TooMuch, xm_NoName_ValueError, xm_NoShape_ValueError, xe_NoName, xe_NoShape, ⟨x1_NoName, x2_NoName, x3_NoName, x4_NoName, x5_NoName, x6_NoName, x7_NoName⟩, kit_false ne_NoName_NoShape cs_NoShape ct_NoShape mr_NoName_NoShape, kit_false ne_NoName_TooMuch cs_TooMuch ct_TooMuch mr_NoName_TooMuch, kit_false ne_NoName_BeyondRim cs_BeyondRim ct_BeyondRim mr_NoName_BeyondRim, kit_false ne_NoName_NotYet cs_NotYet ct_NotYet mr_NoName_NotYet, kit_false ne_NoName_NoText cs_NoText ct_NoText mr_NoName_NoText, ⟨x1_NoShape, x2_NoShape, x3_NoShape, x4_NoShape, x5_NoShape, x6_NoShape, x7_NoShape⟩, kit_false ne_NoShape_NoName cs_NoName ct_NoName mr_NoShape_NoName, kit_false ne_NoShape_TooMuch cs_TooMuch ct_TooMuch mr_NoShape_TooMuch, kit_false ne_NoShape_BeyondRim cs_BeyondRim ct_BeyondRim mr_NoShape_BeyondRim, kit_false ne_NoShape_NotYet cs_NotYet ct_NotYet mr_NoShape_NotYet, kit_false ne_NoShape_NoText cs_NoText ct_NoText mr_NoShape_NoText, exm_of eb_NoName cs_NoName ct_NoName mr_NoName_NoName, exm_of eb_LoomError cs_LoomError ct_LoomError mr_NoName_LoomError, exm_of eb_NoName cs_NoName ct_NoName mr_NoShape_NoName, exm_of eb_NoShape cs_NoShape ct_NoShape mr_NoShape_NoShape, exm_of eb_LoomError cs_LoomError ct_LoomError mr_NoShape_LoomError, PySem.W.mg_of X G aC_Number, PySem.W.mg_of X G aC_Let, PySem.W.mg_of X G aC_Program, ⟨pg_Let, hd_Let, po_Let, sa_Let⟩, ⟨mk_Let, in_Let, i2, kc_Let⟩, na_Let_name, na_Let_axes, na_Let_term, ⟨t1_Let, t2_Let, t3_Let, t4_Let⟩, mb_Let_list, mb_Let_tuple, mb_Let_dict, ⟨pg_Number, hd_Number, po_Number, sa_Number⟩, ⟨mk_Number, in_Number, i1, kc_Number⟩, na_Number_number, ⟨t1_Number, t2_Number, t3_Number, t4_Number⟩, ⟨pg_Program, hd_Program, po_Program, sa_Program⟩, ⟨mk_Program, in_Program, i3, kc_Program⟩, na_Program_wheel, na_Program_axes, na_Program_tables, na_Program_lets, na_Program_outs, ⟨t1_Program, t2_Program, t3_Program, t4_Program⟩, PySem.W.mg_none_of X G z_isinstance, PySem.W.mg_none_of X G z_list, PySem.W.mg_none_of X G z_tuple, PySem.W.mg_none_of X G z_dict, PySem.W.mg_none_of X G z_enumerate, PySem.W.mg_none_of X G z_len, PySem.W.mg_none_of X G z_all, PySem.W.mg_none_of X G z_range, PySem.W.mg_none_of X G z_min, PySem.W.mg_none_of X G z_ValueError, PySem.W.mg_none_of X G z_reversed⟩⟩
theorem walk {l : PySem.W.OpenLaw} {q : Program} {loose : List Str} {XP : (Str → Option Value) → Heap → Prop} {YP : World → Heap → Prop} {d : DefRec} {K : Params → PySem.W.Frag} (hn : l.most = some 63) (hdf : d.params.defaults = [])
    (hY : ∀ (w : World) (h : Heap), YP w h → (K w.params).In h)
    (F : ∀ (w : World) (mg : Str → Option Value) (fa : Addr) (h : Heap), (K w.params).In h → h.Ns mainGlobals mg → mg d.name = some (.ref fa) →
      ∃ fd : FuncData, (∀ (s : Shared) (u : Value), BindsTo s fd ⟨[u], []⟩ [("_law_script", u)]) ∧ ∀ base : Heap, (K w.params).In base → base.Ns mainGlobals mg → FnOk l.prog w (K w.params) mg base CX0 8 fa fd ["_law_script"] (spLaw (K w.params))) :
    PySem.W.WalkO q loose XP YP l.row.toRowW d [] (fun f vs => PySem.call f vs) :=
  L2.walk_of (n := 63) (k := 8) (x := "_law_script") (CX := fun _ => CX0) (sp := fun w => spLaw (K w.params)) hn (by decide) hdf ⟨rfl, by decide, by decide, rfl⟩ hY F (fun _ _ a ns hl _ hS => ⟨a, ns, rfl, hS, hl, fun _ => rfl⟩) fun _ _ _ _ _ z => z
end My
local macro_rules | `(tactic| walk_at "kf") => `(tactic| (refine' My.lkF_mk ?l ?c ?k; (case l => k_is); (case c => k_is); (case k => k_is)))
open PySem PySem.W PyProof.Rows
set_option maxRecDepth 100000 in
set_option maxHeartbeats 0 in
theorem PySem.Challenge.cw_arrayloom_k12_names_looked_holds : PySem.Challenge.rw_arrayloom_k12_names_looked.Holds := by
  w_on; o_law; k_head; (case hw => w_witness2)
  k_fill
  refine My.walk (l := PySem.Challenge.rw_arrayloom_k12_names_looked) rfl rfl (fun w h Y => PySem.W.kIn_of Y) ?F
  case F =>
    intro w mg fa h KX G hmg
    refine' My.all_mk KX G hmg ?aC_LoomError ?aC_NoName ?aC_NoShape ?aC_TooMuch ?aC_NoText ?aC_BeyondRim ?aC_NotYet ?aC_Term ?aC_Number ?aC_Place ?aC_Read ?aC_Pair ?aC_Sum ?aC_Guard ?aC_Part ?aC_Let ?aC_Program ?a0 ?l0 ?a1 ?l1 ?i1 ?a2 ?l2 ?i2 ?a3 ?l3 ?i3 ?a4 ?l4 ?a5 ?l5 ?a6 ?l6 ?a7 ?l7 ?a8 ?l8 ?a9 ?l9 ?a10 ?l10 ?a11 ?l11 ?a12 ?l12 ?a13 ?l13 ?a14 ?l14 ?a15 ?l15 ?a16 ?l16 ?a17 ?l17 ?a18 ?l18 ?a19 ?l19 ?a20 ?l20 ?a21 ?l21 ?a22 ?l22 ?a23 ?l23 ?a24 ?l24 ?a25 ?l25 ?a26 ?l26 ?a27 ?l27 ?aP_MOST_LETTERS ?aP_MOST_AXES ?aP_WORDS_OF_TERMS ?lP_WORDS_OF_TERMS ?xm_NoName_ValueError ?xm_NoShape_ValueError ?xe_NoName ?xe_NoShape ?x1_NoName ?x2_NoName ?x3_NoName ?x4_NoName ?x5_NoName ?x6_NoName ?x7_NoName ?cs_NoShape ?ct_NoShape ?mr_NoName_NoShape ?ne_NoName_NoShape ?cs_TooMuch ?ct_TooMuch ?mr_NoName_TooMuch ?ne_NoName_TooMuch ?cs_BeyondRim ?ct_BeyondRim ?mr_NoName_BeyondRim ?ne_NoName_BeyondRim ?cs_NotYet ?ct_NotYet ?mr_NoName_NotYet ?ne_NoName_NotYet ?cs_NoText ?ct_NoText ?mr_NoName_NoText ?ne_NoName_NoText ?x1_NoShape ?x2_NoShape ?x3_NoShape ?x4_NoShape ?x5_NoShape ?x6_NoShape ?x7_NoShape ?cs_NoName ?ct_NoName ?mr_NoShape_NoName ?ne_NoShape_NoName ?mr_NoShape_TooMuch ?ne_NoShape_TooMuch ?mr_NoShape_BeyondRim ?ne_NoShape_BeyondRim ?mr_NoShape_NotYet ?ne_NoShape_NotYet ?mr_NoShape_NoText ?ne_NoShape_NoText ?mr_NoName_NoName ?eb_NoName ?cs_LoomError ?ct_LoomError ?mr_NoName_LoomError ?eb_LoomError ?mr_NoShape_NoShape ?eb_NoShape ?mr_NoShape_LoomError ?pg_Let ?hd_Let ?po_Let ?sa_Let ?mk_Let ?kc_Let ?in_Let ?na_Let_name ?na_Let_axes ?na_Let_term ?t1_Let ?t2_Let ?t3_Let ?t4_Let ?mb_Let_list ?mb_Let_tuple ?mb_Let_dict ?pg_Number ?hd_Number ?po_Number ?sa_Number ?mk_Number ?kc_Number ?in_Number ?na_Number_number ?t1_Number ?t2_Number ?t3_Number ?t4_Number ?pg_Program ?hd_Program ?po_Program ?sa_Program ?mk_Program ?kc_Program ?in_Program ?na_Program_wheel ?na_Program_axes ?na_Program_tables ?na_Program_lets ?na_Program_outs ?t1_Program ?t2_Program ?t3_Program ?t4_Program ?z_isinstance ?z_list ?z_tuple ?z_dict ?z_enumerate ?z_len ?z_all ?z_range ?z_min ?z_ValueError ?z_reversed
    (case aC_LoomError | aC_NoName | aC_NoShape | aC_TooMuch | aC_NoText | aC_BeyondRim | aC_NotYet | aC_Term | aC_Number | aC_Place | aC_Read => k_is)
    (case aC_Pair | aC_Sum | aC_Guard | aC_Part | aC_Let | aC_Program => k_is)
    (case a0 => k_is); (case l0 => walk_at "kf")
    (case a1 => k_is); (case l1 => walk_at "kf")
    (case i1 => k_is)
    (case a2 => k_is); (case l2 => walk_at "kf")
    (case i2 => k_is)
    (case a3 => k_is); (case l3 => walk_at "kf")
    (case i3 => k_is)
    (case a4 => k_is); (case l4 => walk_at "kf")
    (case a5 => k_is); (case l5 => walk_at "kf")
    (case a6 => k_is); (case l6 => walk_at "kf")
    (case a7 => k_is); (case l7 => walk_at "kf")
    (case a8 => k_is); (case l8 => walk_at "kf")
    (case a9 => k_is); (case l9 => walk_at "kf")
    (case a10 => k_is); (case l10 => walk_at "kf")
    (case a11 => k_is); (case l11 => walk_at "kf")
    (case a12 => k_is); (case l12 => walk_at "kf")
    (case a13 => k_is); (case l13 => walk_at "kf")
    (case a14 => k_is); (case l14 => walk_at "kf")
    (case a15 => k_is); (case l15 => walk_at "kf")
    (case a16 => k_is); (case l16 => walk_at "kf")
    (case a17 => k_is); (case l17 => walk_at "kf")
    (case a18 => k_is); (case l18 => walk_at "kf")
    (case a19 => k_is); (case l19 => walk_at "kf")
    (case a20 => k_is); (case l20 => walk_at "kf")
    (case a21 => k_is); (case l21 => walk_at "kf")
    (case a22 => k_is); (case l22 => walk_at "kf")
    (case a23 => k_is); (case l23 => walk_at "kf")
    (case a24 => k_is); (case l24 => walk_at "kf")
    (case a25 => k_is); (case l25 => walk_at "kf")
    (case a26 => k_is); (case l26 => walk_at "kf")
    (case a27 => k_is); (case l27 => walk_at "kf")
    (case aP_MOST_LETTERS | aP_MOST_AXES | aP_WORDS_OF_TERMS | lP_WORDS_OF_TERMS | xm_NoName_ValueError | xm_NoShape_ValueError => k_is)
    (case xe_NoName | xe_NoShape => k_exc)
    (case x1_NoName | x2_NoName | x3_NoName | x4_NoName | x5_NoName | x6_NoName | x7_NoName | cs_NoShape | ct_NoShape | mr_NoName_NoShape => k_is)
    (case ne_NoName_NoShape => first | rfl | decide)
    (case cs_TooMuch | ct_TooMuch | mr_NoName_TooMuch => k_is)
    (case ne_NoName_TooMuch => first | rfl | decide)
    (case cs_BeyondRim | ct_BeyondRim | mr_NoName_BeyondRim => k_is)
    (case ne_NoName_BeyondRim => first | rfl | decide)
    (case cs_NotYet | ct_NotYet | mr_NoName_NotYet => k_is)
    (case ne_NoName_NotYet => first | rfl | decide)
    (case cs_NoText | ct_NoText | mr_NoName_NoText => k_is)
    (case ne_NoName_NoText => first | rfl | decide)
    (case x1_NoShape | x2_NoShape | x3_NoShape | x4_NoShape | x5_NoShape | x6_NoShape | x7_NoShape | cs_NoName | ct_NoName | mr_NoShape_NoName => k_is)
    (case ne_NoShape_NoName => first | rfl | decide)
    (case mr_NoShape_TooMuch => k_is)
    (case ne_NoShape_TooMuch => first | rfl | decide)
    (case mr_NoShape_BeyondRim => k_is)
    (case ne_NoShape_BeyondRim => first | rfl | decide)
    (case mr_NoShape_NotYet => k_is)
    (case ne_NoShape_NotYet => first | rfl | decide)
    (case mr_NoShape_NoText => k_is)
    (case ne_NoShape_NoText => first | rfl | decide)
    (case mr_NoName_NoName | eb_NoName | cs_LoomError | ct_LoomError | mr_NoName_LoomError | eb_LoomError | mr_NoShape_NoShape | eb_NoShape | mr_NoShape_LoomError | pg_Let | hd_Let => k_is)
    (case po_Let | sa_Let | mk_Let | kc_Let | in_Let | na_Let_name | na_Let_axes | na_Let_term | t1_Let | t2_Let | t3_Let => k_is)
    (case t4_Let | mb_Let_list | mb_Let_tuple | mb_Let_dict | pg_Number | hd_Number | po_Number | sa_Number | mk_Number | kc_Number | in_Number => k_is)
    (case na_Number_number | t1_Number | t2_Number | t3_Number | t4_Number | pg_Program | hd_Program | po_Program | sa_Program | mk_Program | kc_Program => k_is)
    (case in_Program | na_Program_wheel | na_Program_axes | na_Program_tables | na_Program_lets | na_Program_outs | t1_Program | t2_Program | t3_Program | t4_Program | z_isinstance => k_is)
    (case z_list | z_tuple | z_dict | z_enumerate | z_len | z_all | z_range | z_min | z_ValueError | z_reversed => k_is)
