import PyProof.Rows.All
import Wide.All
import OpenK.AllK
import Wide.FinOn
import Lean
import PyProof.EqAt
import PyProof.EqKinds
import PyProof.TupleCall
import KE.KDictOf
import KE.KEqDict
import PyProof.DictItems
import PyProof.StrWalks
import KE.KDictLaws
import PyProof.AttrMissHeap
import PyProof.Walks
import PyProof.P3Eq
import PyProof.CompUse
import PyProof.SumAny
import PyProof.EnumMake
import PyProof.EnumFor
import PyProof.EnumStmt
import PyProof.ConsumeWalk
import PyProof.DictValues
import PyProof.DictWalks
import PyProof.FString5
import PyProof.Conv_int_bool
import PyProof.NeKinds
import KE.KDictList
import PyProof.FactsAll.zip
import PyProof.SetRoads
import PyProof.Rows.SetFrom
import PyProof.FactsAll.set
import PyProof.FactsAll.subtypes_5
import PySem.Challenge.RW_arrayloom_k22_turns_in_row_order
-- CHANGE: your row's module here, as the last of these rows
set_option Elab.async false
set_option linter.all false
set_option maxRecDepth 100000
/-! THE HAND LAYER, for ints, bools, texts, own classes, LISTS and tuples (index, slices, in, append, pop ..), calls, loops. Paste it whole ahead of your own text; what your proof does not reach may be deleted. -/
namespace L2
open PySem PySem.Spec PyProof.Rows

/-- a key: an int or a str -/
abbrev Key := Sum Int Str
def keyIs : Key → Value → Bool
  | .inl k, v => Value.isInt k v
  | .inr x, v => Value.isStrOf x v
def keyH (w : World) : Key → Int
  | .inl k => hashInt k
  | .inr x => hashStr w x
theorem keyIs_shape : ∀ {k : Key} {v : Value}, keyIs k v = true → (∃ i t, k = Sum.inl i ∧ v = Value.int i t) ∨ (∃ x t, k = Sum.inr x ∧ v = Value.str x t)
  | .inl i, v, h => by
    obtain ⟨t, e⟩ := Value.isInt_shape (k := i) (v := v) h
    exact .inl ⟨i, t, rfl, e⟩
  | .inr x, v, h => by
    obtain ⟨t, e⟩ := Value.isStrOf_shape (x := x) (v := v) h
    exact .inr ⟨x, t, rfl, e⟩
theorem keyIs_int (i : Int) (t : Tok) : keyIs (.inl i) (.int i t) = true := by simp [keyIs, Value.isInt]
theorem keyIs_str (x : Str) (t : Tok) : keyIs (.inr x) (.str x t) = true := by simp [keyIs, Value.isStrOf]
theorem key_ll (a b : Int) : decide ((Sum.inl a : Key) = Sum.inl b) = (a == b) := by
  by_cases e : a = b
  · subst e; simp
  · have h : ¬ (Sum.inl a : Key) = Sum.inl b := fun q => e (Sum.inl.inj q)
    rw [decide_eq_false h]
    exact (beq_eq_false_iff_ne.mpr e).symm
theorem key_rr (a b : Str) : decide ((Sum.inr a : Key) = Sum.inr b) = decide (a = b) := by
  by_cases e : a = b
  · subst e; simp
  · have h : ¬ (Sum.inr a : Key) = Sum.inr b := fun q => e (Sum.inr.inj q)
    rw [decide_eq_false h, decide_eq_false e]
theorem key_lr (a : Int) (b : Str) : decide ((Sum.inl a : Key) = Sum.inr b) = false := decide_eq_false (fun q => nomatch q)
theorem key_rl (a : Str) (b : Int) : decide ((Sum.inr a : Key) = Sum.inl b) = false := decide_eq_false (fun q => nomatch q)

def mixKind (prog : Program) (w : World) : PySem.KeyKind prog w Key where
  is := keyIs
  hash := keyH w
  inj := fun v a b ha hb => by
    rcases keyIs_shape ha with ⟨i, t, rfl, rfl⟩ | ⟨x, t, rfl, rfl⟩
    · rcases keyIs_shape hb with ⟨j, u, rfl, e⟩ | ⟨y, u, rfl, e⟩
      · injection e with e1 _; rw [e1]
      · exact nomatch e
    · rcases keyIs_shape hb with ⟨j, u, rfl, e⟩ | ⟨y, u, rfl, e⟩
      · exact nomatch e
      · injection e with e1 _; rw [e1]
  byValue := fun k v h => by
    rcases keyIs_shape h with ⟨i, t, rfl, rfl⟩ | ⟨x, t, rfl, rfl⟩ <;> rfl
  pyHash := fun hv h => by
    rcases keyIs_shape hv with ⟨i, t, rfl, rfl⟩ | ⟨x, t, rfl, rfl⟩
    · exact wpAny_pyHash_int h
    · exact wpAny_pyHash_str h
  eqBool := fun hu hv h => by
    rcases keyIs_shape hu with ⟨i, t, rfl, rfl⟩ | ⟨x, t, rfl, rfl⟩
    · rcases keyIs_shape hv with ⟨j, u, rfl, rfl⟩ | ⟨y, u, rfl, rfl⟩
      · rw [key_ll] at h; exact wpAny_eqBool_int h
      · rw [key_lr] at h; exact SeqAt.EqAt.int_str i t y u _ _ _ _ h
    · rcases keyIs_shape hv with ⟨j, u, rfl, rfl⟩ | ⟨y, u, rfl, rfl⟩
      · rw [key_rl] at h; exact SeqAt.EqAt.str_int x t j u _ _ _ _ h
      · rw [key_rr] at h; exact wpAny_eqBool_str h
  «strs» := fun k x t v h => by
    rcases keyIs_shape h with ⟨i, u, rfl, e⟩ | ⟨y, u, rfl, e⟩
    · exact nomatch e
    · injection e with e1 _
      subst e1
      cases v <;> rfl

theorem mixKind_int (prog : Program) (w : World) (i : Int) (t : Tok) : (mixKind prog w).is (.inl i) (.int i t) = true := keyIs_int i t
theorem mixKind_str (prog : Program) (w : World) (x : Str) (t : Tok) : (mixKind prog w).is (.inr x) (.str x t) = true := keyIs_str x t
end L2

namespace L2
open PySem PySem.Spec PyProof.Rows

/-- a value, without the heap -/
inductive V where
  | non | bl (b : Bool) | int (i : Int) | str (x : Str) | byt (b : Array UInt8) | flt (b : UInt64) | ref (a : Addr) | ty (n : String)
  deriving DecidableEq

def RelV : V → Value → Prop
  | .non, u => u = Value.none
  | .bl b, u => u = Value.bool b
  | .int i, u => ∃ t, u = Value.int i t
  | .str x, u => ∃ t, u = Value.str x t
  | .byt b, u => ∃ t, u = Value.bytes b t
  | .flt b, u => ∃ t, u = Value.float b t
  | .ref a, u => u = Value.ref a
  | .ty n, u => u = Value.type n

abbrev Vals : List V → List Value → Prop := Paired RelV
theorem Vals.length {xs : List V} {us : List Value} (r : Vals xs us) : xs.length = us.length := Paired.length r
theorem Vals.get : ∀ {xs : List V} {us : List Value} {i : Nat} {x : V}, Vals xs us → xs[i]? = some x → ∃ u, us[i]? = some u ∧ RelV x u
  | _, _, _, _, .nil, e => by simp at e
  | _, _, 0, _, .cons r _, e => by simp at e; subst e; exact ⟨_, rfl, r⟩
  | _, _, i + 1, x, .cons _ t, e => by
    obtain ⟨u, h1, h2⟩ := Vals.get (i := i) (x := x) t (by simpa using e)
    exact ⟨u, by simpa using h1, h2⟩
theorem Vals.append : ∀ {xs ys : List V} {us ws : List Value}, Vals xs us → Vals ys ws → Vals (xs ++ ys) (us ++ ws)
  | _, _, _, _, .nil, s => s
  | _, _, _, _, .cons r t, s => .cons r (Vals.append t s)
def RelO : Option V → Option Value → Prop
  | some v, some u => RelV v u
  | none, none => True
  | _, _ => False
def KV {κ : Type} : List (κ × V) → List (κ × Value) → Prop := Paired fun (p : κ × V) (q : κ × Value) => p.1 = q.1 ∧ RelV p.2 q.2

/-- a key of a dict (00_mix): an int or a text -/
def kV : Key → V
  | .inl i => .int i
  | .inr x => .str x

/-- what stands at a tracked address -/
inductive HO where
  /-- a list -/
  | lst (xs : List V)
  /-- a tuple (never changes) -/
  | tup (xs : List V)
  /-- a dict whose keys are ints and texts; one whose keys are tuples of ints and texts (the empty one is both) -/
  | dK (kvs : List (Key × V)) | dT (kvs : List (List Key × V))
  /-- a set of ints: its members, its size -/
  | set (S : Int → Bool) (n : Nat)
  /-- an instance of the class at C, its dict at dx, its attributes -/
  | ins (C dx : Addr) (fs : List (Str × V))
  /-- the dict of the instance at x -/
  | own (x : Addr)
  /-- the dict of an exception -/
  | xd (fs : List (Str × V))
  /-- a bound method, f of x -/
  | met (f x : Addr)
  /-- a range object lo, lo + 1, .. below hi -/
  | rng (lo hi : Int)
  /-- a thing that is known to the object (the script; a dict while a loop walks it): read, never written while it is so -/
  | frz (o : Obj) (u : HO)
  /-- a code object's table -/
  | tbl (ps : Array Value)
  /-- any other thing, by what is true of its one object (a def of one's own: SetO a S n := HO.ext fun h => ..) -/
  | ext (φ : Heap → Prop)

abbrev Hp := Addr → Option HO
def upd (H : Hp) (a : Addr) (o : HO) : Hp := fun b => if b = a then some o else H b
theorem upd_same {H : Hp} {a : Addr} {o : HO} : upd H a o a = some o := by unfold upd; rw [if_pos rfl]
theorem upd_ne {H : Hp} {a b : Addr} {o : HO} (h : b ≠ a) : upd H a o b = H b := by unfold upd; rw [if_neg h]
theorem upd_upd {H : Hp} {a : Addr} {o u : HO} : upd (upd H a o) a u = upd H a u := by
  funext b; unfold upd; split <;> rfl
/-- two objects of different content stand apart -/
theorem ne_of {H : Hp} {a b : Addr} {o u : HO} (h : H a = some o) (h' : H b = some u) (d : o ≠ u) : a ≠ b := by
  intro e; subst e; rw [h] at h'; exact d (Option.some.inj h')
theorem ne_of_none {H : Hp} {a b : Addr} {o : HO} (h : H a = some o) (h' : H b = none) : a ≠ b := by
  intro e; subst e; rw [h] at h'; cases h'

section
variable (P : Program) (w : World)
def ObjOk (H : Hp) (h : Heap) (a : Addr) : HO → Prop
  | .lst xs => xs.length ≤ sizeLine ∧ ∃ (its : List Value) (n : Nat), Vals xs its ∧ h.get? a = some { cls := .type "list", data := .seq its.toArray n }
  | .tup xs => xs.length ≤ sizeLine ∧ ∃ its : List Value, Vals xs its ∧ IsTup h a its.toArray
  | .dK kvs => kvs.length ≤ sizeLine ∧ (a == sysModules) = false ∧ ∃ vs, KV kvs vs ∧ h.DictOf (mixKind P w) a vs
  | .dT kvs => kvs.length ≤ sizeLine ∧ (a == sysModules) = false ∧ ∃ xs : List (List Key × Addr × Value),
      Paired (fun (p : List Key × V) (q : List Key × Addr × Value) => p.1 = q.1 ∧ H q.2.1 = some (.tup (p.1.map kV)) ∧ RelV p.2 q.2.2) kvs xs ∧
      ∃ o es ep, h.get? a = some o ∧ o.ExactDict ∧ o.data = .dict es ep ∧ es.toList = xs.map (entryOfKey (tupleKind (mixKind P w))) ∧ (xs.map (·.1)).Nodup
  | .set S n => h.SetOf (intKind P w) a S n
  | .ins C dx fs => H dx = some (.own a) ∧ fs.length ≤ 1000 ∧ dx ≠ a ∧ h.get? a = some (PySem.W.instObj C dx) ∧
      ∃ mA, h.Ns1 dx mA ∧ (∀ f, RelO (fs.lookup f) (mA f)) ∧ PySem.Within mA (fs.map (·.1))
  | .own _ => ∃ o, h.get? a = some o
  | .xd fs => ∃ mA, h.Ns1 a mA ∧ ∀ f, RelO (fs.lookup f) (mA f)
  | .rng lo hi => ∃ t u v, h.get? a = some { cls := .type "range", data := .fields #[.int lo t, .int hi u, .int 1 v] }
  | .frz o u => h.get? a = some o ∧ ObjOk H h a u
  | .tbl ps => h.get? a = some { cls := .none, data := .fields ps }
  | .met f x => h.get? a = some (PySem.W.methodObj (.ref f) (.ref x))
  | .ext φ => φ h ∧ (∃ o, h.get? a = some o) ∧ ∀ h1 h2 : Heap, φ h1 → (∀ o, h1.get? a = some o → h2.get? a = some o) → φ h2
/-- the abstract heap is held -/
def HOk (H : Hp) (h : Heap) : Prop := ∀ a o, H a = some o → ObjOk P w H h a o
end

section
variable {P : Program} {w : World} {H H' : Hp} {h h' : Heap} {a : Addr} {o : HO}
theorem ObjOk.lt (x : ObjOk P w H h a o) : a < h.objs.size := by
  cases o with
  | lst xs => obtain ⟨_, _, _, _, e⟩ := x; exact Heap.lt_size e
  | tup xs => obtain ⟨_, _, _, p⟩ := x; exact p.lt
  | dK kvs => obtain ⟨_, _, _, _, o, _, _, e, _⟩ := x; exact Heap.lt_size e
  | dT kvs => obtain ⟨_, _, _, _, o, _, _, e, _⟩ := x; exact Heap.lt_size e
  | set S n => obtain ⟨o, _, _, _, e, _⟩ := x; exact Heap.lt_size e
  | ins C dx fs => obtain ⟨_, _, _, e, _⟩ := x; exact Heap.lt_size e
  | own y => obtain ⟨_, e⟩ := x; exact Heap.lt_size e
  | xd fs => obtain ⟨_, ⟨_, _, _, e, _⟩, _⟩ := x; exact Heap.lt_size e
  | rng lo hi => obtain ⟨_, _, _, e⟩ := x; exact Heap.lt_size e
  | frz ob u => obtain ⟨e, _⟩ := x; exact Heap.lt_size e
  | tbl ps => exact Heap.lt_size (show h.get? a = some _ from x)
  | met f y => exact Heap.lt_size (show h.get? a = some _ from x)
  | ext φ => obtain ⟨_, ⟨_, e⟩, _⟩ := x; exact Heap.lt_size e
theorem Paired.mapP {α β : Type} {F G : α → β → Prop} : ∀ {l₁ : List α} {l₂ : List β}, Paired F l₁ l₂ → (∀ a b, F a b → G a b) → Paired G l₁ l₂
  | _, _, .nil, _ => .nil
  | _, _, .cons r t, f => .cons (f _ _ r) (Paired.mapP t f)
/-- what an object's description leans on: its own object, its own dict, the tuples -/
theorem ObjOk.stay (x : ObjOk P w H h a o) (k : ∀ b u, (b = a ∨ H b = some (.own a)) → h.get? b = some u → h'.get? b = some u)
    (ho : ∀ b, H b = some (.own a) → H' b = some (.own a)) (ht : ∀ b xs, H b = some (.tup xs) → H' b = some (.tup xs)) : ObjOk P w H' h' a o := by
  induction o with
  | lst xs => obtain ⟨z, its, n, r, e⟩ := x; exact ⟨z, its, n, r, k _ _ (.inl rfl) e⟩
  | tup xs => obtain ⟨z, its, r, ob, e, c⟩ := x; exact ⟨z, its, r, ob, k _ _ (.inl rfl) e, c⟩
  | dK kvs => obtain ⟨z, y, vs, r, ob, es, ep, e, c⟩ := x; exact ⟨z, y, vs, r, ob, es, ep, k _ _ (.inl rfl) e, c⟩
  | dT kvs =>
    obtain ⟨z, y, xs, r, ob, es, ep, e, c⟩ := x
    exact ⟨z, y, xs, Paired.mapP r fun p q z => ⟨z.1, ht _ _ z.2.1, z.2.2⟩, ob, es, ep, k _ _ (.inl rfl) e, c⟩
  | set S n => obtain ⟨ob, es, ep, t, e, c⟩ := x; exact ⟨ob, es, ep, t, k _ _ (.inl rfl) e, c⟩
  | ins C dx fs =>
    obtain ⟨d, z, ne, e, mA, ⟨od, es, ep, e2, c⟩, r⟩ := x
    exact ⟨ho _ d, z, ne, k _ _ (.inl rfl) e, mA, ⟨od, es, ep, k _ _ (.inr d) e2, c⟩, r⟩
  | own y => obtain ⟨ob, e⟩ := x; exact ⟨ob, k _ _ (.inl rfl) e⟩
  | xd fs => obtain ⟨mA, ⟨od, es, ep, e, c⟩, r⟩ := x; exact ⟨mA, ⟨od, es, ep, k _ _ (.inl rfl) e, c⟩, r⟩
  | rng lo hi => obtain ⟨t, u, v, e⟩ := x; exact ⟨t, u, v, k _ _ (.inl rfl) e⟩
  | frz ob u ih => obtain ⟨e, q⟩ := x; exact ⟨k _ _ (.inl rfl) e, ih q⟩
  | tbl ps =>
    have e : h.get? a = some { cls := .none, data := .fields ps } := x
    show h'.get? a = some { cls := .none, data := .fields ps }
    exact k a _ (.inl rfl) e
  | met f y =>
    have e : h.get? a = some (PySem.W.methodObj (.ref f) (.ref y)) := x
    show h'.get? a = some (PySem.W.methodObj (.ref f) (.ref y))
    exact k a _ (.inl rfl) e
  | ext φ => obtain ⟨p, ⟨o, e⟩, st⟩ := x; exact ⟨st _ _ p fun o q => k _ _ (.inl rfl) q, ⟨o, k _ _ (.inl rfl) e⟩, st⟩
theorem HOk.lt (x : HOk P w H h) (e : H a = some o) : a < h.objs.size := (x a o e).lt
theorem HOk.fresh (x : HOk P w H h) (e : h.objs.size ≤ a) : H a = none := by
  cases q : H a with
  | none => rfl
  | some u => exact absurd (Nat.lt_of_lt_of_le (x.lt q) e) (Nat.lt_irrefl _)
/-- every object of the heap is kept -/
theorem HOk.kept (x : HOk P w H h) (k : ∀ b u, h.get? b = some u → h'.get? b = some u) : HOk P w H h' := fun a o e =>
  (x a o e).stay (fun b u _ q => k b u q) (fun _ q => q) fun _ _ q => q
/-- a new object is laid and tracked -/
theorem HOk.laid (x : HOk P w H h) (k : ∀ b u, h.get? b = some u → h'.get? b = some u) (hp : h.objs.size ≤ a) (new : ObjOk P w (upd H a o) h' a o) : HOk P w (upd H a o) h' := fun b u e => by
  have hn := x.fresh hp
  by_cases hb : b = a
  · subst hb; rw [upd_same] at e; cases e; exact new
  · rw [upd_ne hb] at e
    exact (x b u e).stay (fun c v _ q => k c v q) (fun c q => by rw [upd_ne (ne_of_none q hn)]; exact q) fun c xs q => by rw [upd_ne (ne_of_none q hn)]; exact q
end

/-- what may be read as u: it is u, or a known u -/
def Rd (H : Hp) (a : Addr) (u : HO) : Prop := H a = some u ∨ ∃ o, H a = some (.frz o u)
theorem Rd.of {H : Hp} {a : Addr} {u : HO} (h : H a = some u) : Rd H a u := .inl h
theorem Rd.ok {P : Program} {w : World} {H : Hp} {h : Heap} {a : Addr} {u : HO} (r : Rd H a u) (x : HOk P w H h) : ObjOk P w H h a u := by
  rcases r with r | ⟨o, r⟩
  · exact x a u r
  · obtain ⟨_, q⟩ := x a _ r
    exact q
/-- what may be written -/
def Mut : Option HO → Prop
  | some (.lst _) => True
  | some (.dK _) => True
  | some (.dT _) => True
  | some (.set _ _) => True
  | some (.ins _ _ _) => True
  | some (.ext _) => True
  | _ => False
section
variable {P : Program} {w : World} {H : Hp} {h h' : Heap} {x e : Addr} {o' : HO}
/-- the object at e is changed: x itself, or the dict of the instance x -/
theorem HOk.write (ok : HOk P w H h) (mu : Mut (H x)) (he : e = x ∨ H e = some (.own x)) (k : ∀ b u, b ≠ e → h.get? b = some u → h'.get? b = some u) (heo : ∃ u, h'.get? e = some u)
    (new : ObjOk P w (upd H x o') h' x o') : HOk P w (upd H x o') h' := fun b u q => by
  have nown : ∀ c y, H c = some (.own y) → c ≠ x := fun c y r z => by subst z; rw [r] at mu; exact mu
  have ntup : ∀ c xs, H c = some (.tup xs) → c ≠ x := fun c xs r z => by subst z; rw [r] at mu; exact mu
  by_cases hb : b = x
  · subst hb; rw [upd_same] at q; cases q; exact new
  · rw [upd_ne hb] at q
    by_cases hbe : b = e
    · have q' : H b = some (.own x) := by
        rcases he with z | z
        · exact absurd (hbe.trans z) hb
        · rw [hbe]; exact z
      rw [q] at q'; cases q'
      obtain ⟨v, hv⟩ := heo
      exact ⟨v, by rw [hbe]; exact hv⟩
    · refine (ok b u q).stay (fun c v hc r => k c v ?_ r) (fun c r => by rw [upd_ne (nown c b r)]; exact r) fun c xs r => by rw [upd_ne (ntup c xs r)]; exact r
      rcases hc with rfl | hc
      · exact hbe
      · rintro rfl
        rcases he with z | z
        · exact nown c b hc z
        · rw [hc] at z; cases z; exact hb rfl
end

/-! ### kept unless tracked; of the frames at fs (the callers') the slots may change (an exception that passes writes there); of the records at ex (iterators) nothing is said -/
structure Un (fs ex : List Addr) (H H' : Hp) (h h' : Heap) : Prop where
  keep : ∀ b o, h.get? b = some o → H b = none → b ∉ fs → b ∉ ex → h'.get? b = some o
  slot : ∀ b o, h.get? b = some o → H b = none → b ∈ fs → b ∉ ex → ∃ sl, h'.get? b = some { o with slots := sl }
  free : ∀ b o, h.get? b = some o → H b = none → b ∉ ex → H' b = none
  there : ∀ b o, h.get? b = some o → b ∉ ex → ∃ o', h'.get? b = some o'
  tups : ∀ b xs, H b = some (.tup xs) → H' b = some (.tup xs)
  frzs : ∀ b o u, H b = some (.frz o u) → H' b = some (.frz o u)
  tbls : ∀ b ps, H b = some (.tbl ps) → ∃ more, H' b = some (.tbl (ps ++ more))
section
variable {fs fs' ex ex' : List Addr} {H H1 H2 : Hp} {h h1 h2 h' : Heap} {a x e : Addr} {o : HO}
theorem Un.any (u : Un fs ex H H1 h h1) {b : Addr} {ob : Obj} (q : h.get? b = some ob) (n : H b = none) (hx : b ∉ ex) : ∃ sl, h1.get? b = some { ob with slots := sl } := by
  by_cases hb : b ∈ fs
  · exact u.slot b ob q n hb hx
  · exact ⟨ob.slots, u.keep b ob q n hb hx⟩
theorem Un.kept (k : ∀ b u, h.get? b = some u → h'.get? b = some u) : Un fs ex H H h h' :=
  ⟨fun b ob q _ _ _ => k b ob q, fun b ob q _ _ _ => ⟨ob.slots, k b ob q⟩, fun _ _ _ n _ => n, fun b ob q _ => ⟨ob, k b ob q⟩, fun _ _ q => q, fun _ _ _ q => q, fun _ ps q => ⟨#[], by rw [q]; simp⟩⟩
theorem Un.refl : Un fs ex H H h h := Un.kept fun _ _ q => q
theorem Un.laid (k : ∀ b u, h.get? b = some u → h'.get? b = some u) (hp : h.objs.size ≤ a) (hn : H a = none) : Un fs ex H (upd H a o) h h' where
  keep := fun b u q _ _ _ => k b u q
  slot := fun b u q _ _ _ => ⟨u.slots, k b u q⟩
  free := fun b u q n _ => by rw [upd_ne (Nat.ne_of_lt (Nat.lt_of_lt_of_le (Heap.lt_size q) hp))]; exact n
  there := fun b u q _ => ⟨u, k b u q⟩
  tups := fun b xs q => by rw [upd_ne (ne_of_none q hn)]; exact q
  frzs := fun b u xs q => by rw [upd_ne (ne_of_none q hn)]; exact q
  tbls := fun b ps q => ⟨#[], by rw [upd_ne (ne_of_none q hn), q]; simp⟩
theorem Un.write (mu : Mut (H x)) (he : e = x ∨ H e = some (.own x)) (k : ∀ b u, b ≠ e → h.get? b = some u → h'.get? b = some u) (heo : ∃ u, h'.get? e = some u) : Un fs ex H (upd H x o) h h' := by
  have hx : ∀ b, H b = none → b ≠ x := fun b n z => by subst z; rw [n] at mu; exact mu
  have hb : ∀ b, H b = none → b ≠ e := fun b n z => by
    subst z
    rcases he with r | r
    · exact hx b n r
    · rw [n] at r; cases r
  have hm : ∀ b u, H b = some u → ¬ Mut (some u) → b ≠ x := fun b u q nm z => by subst z; rw [q] at mu; exact nm mu
  refine ⟨fun b u q n _ _ => k b u (hb b n) q, fun b u q n _ _ => ⟨u.slots, k b u (hb b n) q⟩, fun b u q n _ => by rw [upd_ne (hx b n)]; exact n, fun b u q _ => ?_,
    fun b xs q => by rw [upd_ne (hm b _ q fun z => z)]; exact q, fun b u xs q => by rw [upd_ne (hm b _ q fun z => z)]; exact q, fun b ps q => ⟨#[], by rw [upd_ne (hm b _ q fun z => z), q]; simp⟩⟩
  by_cases hbe : b = e
  · subst hbe; exact heo
  · exact ⟨u, k b u hbe q⟩
end

/-! ### the heap without what is tracked -/
def trk (h : Heap) (H : Hp) : List Addr := (List.range h.objs.size).filter fun a => (H a).isSome
def hidT (h : Heap) (H : Hp) : Heap := PySem.W.hideAll h (trk h H)
theorem hidT_size (h : Heap) (H : Hp) : (hidT h H).objs.size = h.objs.size := PySem.W.hideAll_size _ _
theorem hidT_get {h : Heap} {H : Hp} {b : Addr} {o : Obj} (e : h.get? b = some o) (n : H b = none) : (hidT h H).get? b = some o :=
  PySem.W.hideAll_get _ e fun hm => by
    have q : (H b).isSome = true := (List.mem_filter.mp hm).2
    rw [n] at q; simp at q
theorem of_hidT {h : Heap} {H : Hp} {b : Addr} {o : Obj} (e : (hidT h H).get? b = some o) : h.get? b = some o ∧ H b = none := by
  have e' : h.get? b = some o := PySem.W.of_hideAll (trk h H) e
  refine ⟨e', ?_⟩
  cases q : H b with
  | none => rfl
  | some x =>
    have hm : b ∈ trk h H := List.mem_filter.mpr ⟨List.mem_range.mpr (Heap.lt_size e'), by simp [q]⟩
    have z : (hidT h H).get? b = none := PySem.W.hideAll_none (trk h H) hm
    rw [z] at e; cases e

/-! ### OpenK's ledger, filled with every new object but one -/
end L2

namespace L2
open PySem PySem.Spec PyProof.Rows

/-- the module's facts, over the base: the heap at the law's entry without what is tracked there -/
structure Mod (K : PySem.W.Frag) (mg : Str → Option Value) (base : Heap) : Prop where
  kin : K.In base
  glob : base.Ns mainGlobals mg
  blt : ∃ mb, base.Ns builtinsNs mb ∧ ∀ x : Str, x ≠ "__name__" → mb x = bootBuiltins x
  nolimit : base.NoLimit

/-- the context: a def's body (or a comprehension's block) running. base: fixed through the whole law; s₀, H₀: the entry; outer: the frames whose slots others may change (a def's callers); stack: all frames that run;
   ex: iterators that were made ahead of the entry and are walked here (a comprehension's); fn: the names whose cells were made at the entry (a def: all; a comprehension's block: its own); calm: not within an except suite; pn: pins that every state bears; xe: what is wanted of an exception that leaves the code -/
structure Cx where
  prog : Program
  w : World
  K : PySem.W.Frag
  mg : Str → Option Value
  base : Heap
  A : Around
  N : List Str
  s₀ : Shared
  H₀ : Hp
  env : Env
  outer : List Env
  stack : List Env
  ex : List Addr
  fn : Str → Bool
  calm : Bool
  pn : List (Addr × Obj)
  xe : Value → Shared → Prop
/-- the callers' frames -/
def frs (l : List Env) : List Addr := l.filterMap (·.frame)
abbrev Cx.fs (X : Cx) : List Addr := frs X.outer

def Vis (sc : Scope) (x : Str) : Prop := sc.names.lookup x = some .local ∨ sc.names.lookup x = some .cell ∨ sc.names.lookup x = some .free
def Loc (sc : Scope) (x : Str) : Prop := sc.names.lookup x = some .local ∨ sc.names.lookup x = some .cell
def Look (env : Env) (h : Heap) (m : Str → Option Value) (x : Str) (u : Value) : Prop :=
  (env.kindOf x = some .local ∧ m x = some u) ∨ ((env.kindOf x = some .cell ∨ env.kindOf x = some .free) ∧ ∃ c, env.cells.lookup x = some c ∧ h.IsCell c (some u))

structure Cx.Ok (X : Cx) : Prop where
  mod : Mod X.K X.mg X.base
  kind : X.env.scope.kind = .function
  glob : X.env.globals = mainGlobals
  blt : X.env.builtins = builtinsNs
  above : X.s₀.heap.objs.size ≤ X.env.locals
  inj : ∀ x y c, X.env.cells.lookup x = some c → X.env.cells.lookup y = some c → x = y
  has : ∀ x, (X.env.kindOf x = some .cell ∨ X.env.kindOf x = some .free) → ∃ c, X.env.cells.lookup x = some c
  cab : ∀ x c, X.fn x = true → X.env.cells.lookup x = some c → X.s₀.heap.objs.size ≤ c
  hd : X.calm = true → X.A.handled = none
  frames : X.A.frames = some X.stack
  stk : X.stack = X.outer ∨ (X.stack = X.env :: X.outer ∧ X.env.frame = some X.env.locals)
  exf : ∀ b ∈ X.ex, b ≠ X.env.locals ∧ ∀ x c, X.env.cells.lookup x = some c → c ≠ b
  bs : ∀ b o, X.base.get? b = some o → X.s₀.heap.get? b = some o ∧ X.H₀ b = none
  bsz : X.base.objs.size ≤ X.s₀.heap.objs.size
  noex : ∀ b o, X.base.get? b = some o → b ∉ X.ex
  exfs : ∀ b ∈ X.ex, b ∉ X.fs
  funs : X.s₀.heap.FunFrames X.base X.outer
  frf : ∀ b ∈ X.fs, X.H₀ b = none

structure Inv (X : Cx) (pins : List (Addr × Obj)) (σ : List (Option V)) (H : Hp) (s : Shared) : Prop where
  ok : X.Ok
  os : s.os = X.s₀.os
  bare : AllBare s.gens
  base : Un X.fs X.ex X.H₀ H X.s₀.heap s.heap
  loc : ∃ m, s.heap.Ns X.env.locals m ∧ ∀ (i : Nat) (x : Str) (v : V), X.N[i]? = some x → σ[i]? = some (some v) → Vis X.env.scope x → ∃ u, RelV v u ∧ Look X.env s.heap m x u
  cell : ∀ x c, X.env.cells.lookup x = some c → ∃ v, s.heap.IsCell c v
  free : H X.env.locals = none
  freeC : ∀ x c, X.env.cells.lookup x = some c → H c = none
  pin : ∀ p ∈ X.pn ++ pins, s.heap.get? p.1 = some p.2 ∧ H p.1 = none ∧ p.1 ≠ X.env.locals ∧ p.1 ∉ X.fs ∧ ∀ v, p.2.data ≠ .cell v
  hok : HOk X.prog X.w H s.heap
  len : σ.length = X.N.length

section
variable {X : Cx} {pins : List (Addr × Obj)} {σ : List (Option V)} {H H' : Hp} {s : Shared} {h' : Heap}

theorem Cx.Ok.nofr (ok : X.Ok) {b : Addr} {o : Obj} (e : X.base.get? b = some o) : b ∉ X.fs := fun hb => by
  have := (ok.funs.mem hb).1
  rw [e] at this; cases this
theorem Inv.bs (I : Inv X pins σ H s) : ∀ b o, X.base.get? b = some o → s.heap.get? b = some o ∧ H b = none := fun b o e =>
  ⟨I.base.keep b o (I.ok.bs b o e).1 (I.ok.bs b o e).2 (I.ok.nofr e) (I.ok.noex b o e), I.base.free b o (I.ok.bs b o e).1 (I.ok.bs b o e).2 (I.ok.noex b o e)⟩
theorem Inv.bk (I : Inv X pins σ H s) : ∀ b o, X.base.get? b = some o → s.heap.get? b = some o := fun b o e => (I.bs b o e).1
theorem Inv.mod (I : Inv X pins σ H s) : Mod X.K X.mg X.base := I.ok.mod
theorem Inv.kIn (I : Inv X pins σ H s) : X.K.In s.heap := I.ok.mod.kin.keeps I.bk
theorem Inv.lt (I : Inv X pins σ H s) : X.env.locals < s.heap.objs.size := let ⟨_, hn, _⟩ := I.loc; hn.lt
theorem Inv.sz (I : Inv X pins σ H s) : X.s₀.heap.objs.size ≤ s.heap.objs.size := Nat.le_trans I.ok.above (Nat.le_of_lt I.lt)
theorem Inv.nofs (I : Inv X pins σ H s) {a : Addr} (h : s.heap.objs.size ≤ a) : a ∉ X.fs := fun hb => by
  obtain ⟨_, o, ho, _⟩ := I.ok.funs.mem hb
  exact absurd (Nat.lt_of_lt_of_le (Heap.lt_size ho) (Nat.le_trans I.sz h)) (Nat.lt_irrefl _)
theorem Inv.cne (I : Inv X pins σ H s) : ∀ x c, X.env.cells.lookup x = some c → c ≠ X.env.locals := fun x c e z => by
  obtain ⟨v, o, ho, hd⟩ := I.cell x c e
  obtain ⟨m, ⟨o', es, ep, ho', hd', _⟩, _⟩ := I.loc
  rw [z, ho'] at ho; cases ho; rw [hd'] at hd; cases hd
theorem Inv.funs (I : Inv X pins σ H s) : s.heap.FunFrames X.base X.outer := by
  have all : ∀ (l : List Env), (∀ b ∈ frs l, b ∈ X.fs) → X.s₀.heap.FunFrames X.base l → s.heap.FunFrames X.base l := by
    intro l
    induction l with
    | nil => intro _ _; trivial
    | cons env r ih =>
      intro hs hl
      obtain ⟨hk, ⟨L, o, hf, hn, ho, hd⟩, hr⟩ := hl
      have hL : L ∈ X.fs := hs L (by unfold frs; rw [List.filterMap_cons, hf]; exact List.mem_cons_self)
      obtain ⟨sl, e⟩ := I.base.slot L o ho (I.ok.frf L hL) hL fun z => I.ok.exfs L z hL
      exact ⟨hk, ⟨L, _, hf, hn, e, hd⟩, ih (fun b hb => hs b (by unfold frs; rw [List.filterMap_cons, hf]; exact List.mem_cons_of_mem _ hb)) hr⟩
  exact all X.outer (fun _ hb => hb) I.ok.funs

/-- the frames that run, for a call -/
theorem Inv.stack (I : Inv X pins σ H s) : s.heap.FunFrames X.base X.stack := by
  rcases I.ok.stk with e | ⟨e, hf⟩
  · rw [e]; exact I.funs
  · rw [e]
    obtain ⟨m, hn, _⟩ := I.loc
    refine .cons (by rw [I.ok.kind]; decide) hf hn ?_ I.funs
    exact Heap.get?_none_of_le (Nat.le_trans I.ok.bsz I.ok.above)
theorem Inv.stkSub (I : Inv X pins σ H s) : ∀ b ∈ frs X.stack, b ∈ X.env.locals :: X.fs := fun b hb => by
  rcases I.ok.stk with e | ⟨e, hf⟩
  · rw [e] at hb; exact List.mem_cons_of_mem _ hb
  · rw [e] at hb
    unfold frs at hb
    rw [List.filterMap_cons, hf] at hb
    exact hb
theorem Inv.stkFree (I : Inv X pins σ H s) : ∀ b ∈ frs X.stack, H b = none := fun b hb => by
  rcases List.mem_cons.mp (I.stkSub b hb) with e | hb
  · rw [e]; exact I.free
  · obtain ⟨_, o, ho, _⟩ := I.ok.funs.mem hb
    exact I.base.free b o ho (I.ok.frf b hb) fun z => I.ok.exfs b z hb

/-- THE STEP: the untracked objects but the frame and the records at ch are kept (the callers' frames up to slots), the frame's map is kept, the new abstract heap is held -/
theorem Inv.step {g' : Array GenState} {t' : Nat} {d' : Drawn} {ch : List Addr} (I : Inv X pins σ H s)
    (hch : ∀ b ∈ ch, (b ∈ X.ex ∨ X.s₀.heap.objs.size ≤ b) ∧ b ≠ X.env.locals ∧ (∀ x c, X.env.cells.lookup x = some c → c ≠ b) ∧ ∀ p ∈ X.pn ++ pins, p.1 ≠ b)
    (keep : ∀ b o, b ≠ X.env.locals → b ∉ X.fs → b ∉ ch → s.heap.get? b = some o → H b = none → h'.get? b = some o)
    (slot : ∀ b o, b ≠ X.env.locals → b ∈ X.fs → b ∉ ch → s.heap.get? b = some o → H b = none → ∃ sl, h'.get? b = some { o with slots := sl }) (free : ∀ b o, b ∉ ch → s.heap.get? b = some o → H b = none → H' b = none)
    (there : ∀ b o, b ∉ ch → s.heap.get? b = some o → ∃ o', h'.get? b = some o')
    (tups : ∀ b xs, H b = some (.tup xs) → H' b = some (.tup xs)) (frzs : ∀ b o u, H b = some (.frz o u) → H' b = some (.frz o u)) (tbls : ∀ b ps, H b = some (.tbl ps) → ∃ more, H' b = some (.tbl (ps ++ more)))
    (ns : ∀ m, s.heap.Ns X.env.locals m → h'.Ns X.env.locals m) (hok : HOk X.prog X.w H' h') (hg : AllBare g') :
    Inv X pins σ H' { s with heap := h', gens := g', drawn := d', toks := t' } := by
  have neL : ∀ b o, X.s₀.heap.get? b = some o → b ≠ X.env.locals := fun b o e => Nat.ne_of_lt (Nat.lt_of_lt_of_le (Heap.lt_size e) I.ok.above)
  have neC : ∀ b o, X.s₀.heap.get? b = some o → b ∉ X.ex → b ∉ ch := fun b o e hx hb => by
    rcases (hch b hb).1 with z | z
    · exact hx z
    · exact absurd (Nat.lt_of_lt_of_le (Heap.lt_size e) z) (Nat.lt_irrefl _)
  have cellK : ∀ x c, X.env.cells.lookup x = some c → ∀ v, s.heap.IsCell c v → h'.IsCell c v := fun x c e v ⟨o, ho, hd⟩ => by
    have nch : c ∉ ch := fun z => (hch c z).2.2.1 x c e rfl
    by_cases hc : c ∈ X.fs
    · obtain ⟨sl, q⟩ := slot c o (I.cne x c e) hc nch ho (I.freeC x c e)
      exact ⟨_, q, hd⟩
    · exact ⟨o, keep c o (I.cne x c e) hc nch ho (I.freeC x c e), hd⟩
  refine ⟨I.ok, I.os, hg, ⟨fun b o e n hb hx => ?_, fun b o e n hb hx => ?_, fun b o e n hx => ?_, fun b o e hx => ?_, fun b xs e => tups b xs (I.base.tups b xs e), fun b o xs e => frzs b o xs (I.base.frzs b o xs e), fun b ps e => ?_⟩, ?_, fun x c e => ?_, ?_, fun x c e => ?_, fun p hp => ?_, hok, I.len⟩
  · exact keep b o (neL b o e) hb (neC b o e hx) (I.base.keep b o e n hb hx) (I.base.free b o e n hx)
  · obtain ⟨sl, e1⟩ := I.base.slot b o e n hb hx
    obtain ⟨sl', e2⟩ := slot b _ (neL b o e) hb (neC b o e hx) e1 (I.base.free b o e n hx)
    exact ⟨sl', e2⟩
  · obtain ⟨o', e1⟩ := I.base.there b o e hx
    exact free b o' (neC b o e hx) e1 (I.base.free b o e n hx)
  · obtain ⟨o', e1⟩ := I.base.there b o e hx
    exact there b o' (neC b o e hx) e1
  · obtain ⟨m1, e1⟩ := I.base.tbls b ps e
    obtain ⟨m2, e2⟩ := tbls b _ e1
    exact ⟨m1 ++ m2, by rw [e2, Array.append_assoc]⟩
  · obtain ⟨m, hn, hl⟩ := I.loc
    refine ⟨m, ns m hn, fun i x v e1 e2 e3 => ?_⟩
    obtain ⟨u, r, l⟩ := hl i x v e1 e2 e3
    refine ⟨u, r, ?_⟩
    rcases l with l | ⟨k, c, e, z⟩
    · exact .inl l
    · exact .inr ⟨k, c, e, cellK x c e _ z⟩
  · obtain ⟨v, z⟩ := I.cell x c e
    exact ⟨v, cellK x c e v z⟩
  · obtain ⟨m, ⟨o, _, _, ho, _⟩, _⟩ := I.loc
    exact free _ o (fun z => (hch _ z).2.1 rfl) ho I.free
  · obtain ⟨v, o, ho, hd⟩ := I.cell x c e
    exact free c o (fun z => (hch c z).2.2.1 x c e rfl) ho (I.freeC x c e)
  · obtain ⟨e, n, ne, nf, d⟩ := I.pin p hp
    have nch : p.1 ∉ ch := fun z => (hch p.1 z).2.2.2 p hp rfl
    exact ⟨keep p.1 p.2 ne nf nch e n, free p.1 p.2 nch e n, ne, nf, d⟩
/-- .. where the frame's own object is kept too -/
theorem Inv.un {t' : Nat} (I : Inv X pins σ H s) (u : Un X.fs [] H H' s.heap h') (hok : HOk X.prog X.w H' h') : Inv X pins σ H' { s with heap := h', toks := t' } := by
  obtain ⟨m, ⟨o, es, ep, ho, r⟩, _⟩ := id I.loc
  obtain ⟨sl, hL⟩ := u.any ho I.free (by simp)
  exact I.step (g' := s.gens) (d' := s.drawn) (ch := []) (fun _ z => nomatch z) (fun b o _ hb _ e n => u.keep b o e n hb (by simp)) (fun b o _ hb _ e n => u.slot b o e n hb (by simp)) (fun b o _ e n => u.free b o e n (by simp)) (fun b o _ e => u.there b o e (by simp)) u.tups u.frzs u.tbls (fun m' hm => by
    obtain ⟨o', es', ep', ho', r'⟩ := hm
    rw [ho] at ho'; cases ho'
    exact ⟨_, es', ep', hL, r'⟩) hok I.bare
/-- behind a call (or a comprehension's block): the slots of this frame may have changed too, the records at ch may have turned -/
theorem Inv.call {g' : Array GenState} {t' : Nat} {d' : Drawn} {ch : List Addr} (I : Inv X pins σ H s) (u : Un (frs X.stack) ch H H' s.heap h') (hok : HOk X.prog X.w H' h') (hg : AllBare g')
    (hch : ∀ b ∈ ch, (b ∈ X.ex ∨ X.s₀.heap.objs.size ≤ b) ∧ b ≠ X.env.locals ∧ (∀ x c, X.env.cells.lookup x = some c → c ≠ b) ∧ ∀ p ∈ X.pn ++ pins, p.1 ≠ b) :
    Inv X pins σ H' { s with heap := h', gens := g', drawn := d', toks := t' } := by
  obtain ⟨m, ⟨o, es, ep, ho, r⟩, _⟩ := id I.loc
  obtain ⟨sl, hL⟩ := u.any ho I.free fun z => (hch _ z).2.1 rfl
  exact I.step (ch := ch) hch (fun b o hL hb hc e n => u.keep b o e n (fun z => (List.mem_cons.mp (I.stkSub b z)).elim hL hb) hc) (fun b o _ _ hc e n => u.any e n hc) (fun b o hc e n => u.free b o e n hc) (fun b o hc e => u.there b o e hc) u.tups u.frzs u.tbls (fun m' hm => by
    obtain ⟨o', es', ep', ho', r'⟩ := hm
    rw [ho] at ho'; cases ho'
    exact ⟨_, es', ep', hL, r'⟩) hok hg
/-- an untracked record of ours (an iterator) has turned -/
theorem Inv.turned {t' : Nat} {it : Addr} (I : Inv X pins σ H s) (k : ∀ b o, b ≠ it → s.heap.get? b = some o → h'.get? b = some o) (hn : H it = none) (hL : it ≠ X.env.locals)
    (h1 : it ∈ X.ex ∨ X.s₀.heap.objs.size ≤ it) (h2 : ∀ x c, X.env.cells.lookup x = some c → c ≠ it) (h3 : ∀ p ∈ X.pn ++ pins, p.1 ≠ it) : Inv X pins σ H { s with heap := h', toks := t' } := by
  have nit : ∀ b u, H b = some u → b ≠ it := fun b u e z => by rw [z, hn] at e; cases e
  refine I.step (g' := s.gens) (d' := s.drawn) (ch := [it]) (fun b hb => ?_) (fun b o _ _ hc e _ => k b o (fun z => hc (by simp [z])) e) (fun b o _ _ hc e _ => ⟨o.slots, k b o (fun z => hc (by simp [z])) e⟩) (fun _ _ _ _ n => n)
    (fun b o hc e => ⟨o, k b o (fun z => hc (by simp [z])) e⟩) (fun _ _ e => e) (fun _ _ _ e => e) (fun b ps e => ⟨#[], by rw [e]; simp⟩) (fun m hm => ?_) (fun b u e => ?_) I.bare
  · have e : b = it := by simpa using hb
    subst e
    exact ⟨h1, hL, h2, h3⟩
  · obtain ⟨o, es, ep, ho, r⟩ := hm
    exact ⟨o, es, ep, k _ o (Ne.symm hL) ho, r⟩
  · refine (I.hok b u e).stay (fun c v hc q => k c v ?_ q) (fun _ q => q) fun _ _ q => q
    rcases hc with z | z
    · rw [z]; exact nit b u e
    · exact nit c _ z
theorem Inv.tok (I : Inv X pins σ H s) (t : Nat) : Inv X pins σ H { s with toks := t } := I.un (h' := s.heap) (t' := t) Un.refl I.hok
/-- all objects kept -/
theorem Inv.kept {t' : Nat} (I : Inv X pins σ H s) (k : ∀ b u, s.heap.get? b = some u → h'.get? b = some u) : Inv X pins σ H { s with heap := h', toks := t' } := I.un (Un.kept k) (I.hok.kept k)
/-- a new object laid and tracked -/
theorem Inv.laid {a : Addr} {o : HO} {t' : Nat} (I : Inv X pins σ H s) (k : ∀ b u, s.heap.get? b = some u → h'.get? b = some u) (hp : s.heap.objs.size ≤ a) (new : ObjOk X.prog X.w (upd H a o) h' a o) :
    Inv X pins σ (upd H a o) { s with heap := h', toks := t' } := I.un (Un.laid k hp (I.hok.fresh hp)) (I.hok.laid k hp new)
/-- an object written -/
theorem Inv.write {x e : Addr} {o : HO} {t' : Nat} (I : Inv X pins σ H s) (mu : Mut (H x)) (he : e = x ∨ H e = some (.own x)) (k : ∀ b u, b ≠ e → s.heap.get? b = some u → h'.get? b = some u) (heo : ∃ u, h'.get? e = some u)
    (new : ObjOk X.prog X.w (upd H x o) h' x o) : Inv X pins σ (upd H x o) { s with heap := h', toks := t' } := I.un (Un.write mu he k heo) (I.hok.write mu he k heo new)
/-- forgetting slots, pins -/
theorem Inv.weak {σ' : List (Option V)} (I : Inv X pins σ H s) (hl : σ'.length = σ.length) (w : ∀ (i : Nat) v, σ'[i]? = some (some v) → σ[i]? = some (some v)) : Inv X pins σ' H s :=
  ⟨I.ok, I.os, I.bare, I.base, let ⟨m, hn, hl'⟩ := I.loc; ⟨m, hn, fun i x v e1 e2 e3 => hl' i x v e1 (w i v e2) e3⟩, I.cell, I.free, I.freeC, I.pin, I.hok, hl.trans I.len⟩
theorem Inv.pins_of {pins' : List (Addr × Obj)} (I : Inv X pins σ H s) (h : ∀ p ∈ pins', s.heap.get? p.1 = some p.2 ∧ H p.1 = none ∧ p.1 ≠ X.env.locals ∧ p.1 ∉ X.fs ∧ ∀ v, p.2.data ≠ .cell v) : Inv X pins' σ H s :=
  ⟨I.ok, I.os, I.bare, I.base, I.loc, I.cell, I.free, I.freeC, fun p hp => (List.mem_append.mp hp).elim (fun z => I.pin p (List.mem_append_left _ z)) (h p), I.hok, I.len⟩

theorem nodup_ix {N : List Str} (hN : N.Nodup) {i j : Nat} {x : Str} (a : N[i]? = some x) (b : N[j]? = some x) : i = j := by
  obtain ⟨h1, e1⟩ := List.getElem?_eq_some_iff.mp a
  obtain ⟨h2, e2⟩ := List.getElem?_eq_some_iff.mp b
  exact (List.getElem_inj hN).mp (e1.trans e2.symm)

/-- a name is stored; what changed -/
theorem store_ok2 {M : Model} {A : Around} {E : Value → Shared → Prop} {i : Nat} {x : Str} {v : V} {u : Value} {Q : Unit → Shared → Prop} (I : Inv X pins σ H s) (hN : X.N.Nodup) (hi : X.N[i]? = some x) (hx : Loc X.env.scope x) (r : RelV v u)
    (h : ∀ s', Inv X pins (σ.set i (some v)) H s' → (∃ a, Heap.SameBut a s.heap s'.heap ∧ (a = X.env.locals ∨ X.env.cells.lookup x = some a)) → Q () s') (hf : X.fn x = true ∨ X.env.scope.names.lookup x = some .local := by first | exact .inl rfl | exact .inr rfl | assumption) : wpAny M A (storeName X.env x u) Q E s := by
  obtain ⟨m, hn, hl⟩ := id I.loc
  have hcls : (X.env.scope.kind == .class || (X.env.scope.kind == .module && X.env.locals != X.env.globals)) = false := by rw [I.ok.kind]; rfl
  have hiσ : i < σ.length := by rw [I.len]; exact (List.getElem?_eq_some_iff.mp hi).1
  have cne := I.cne
  have tracked : ∀ {a : Addr} {h' : Heap}, (∃ o, s.heap.get? a = some o ∧ H a = none) → Heap.SameBut a s.heap h' → HOk X.prog X.w H h' := fun {a h'} ha hs b ob e => by
    obtain ⟨_, _, hfree⟩ := ha
    refine (I.hok b ob e).stay (fun c w' hc q => (hs.2 c ?_).trans q) (fun _ q => q) fun _ _ q => q
    rintro rfl
    rcases hc with rfl | hc
    · rw [hfree] at e; cases e
    · rw [hfree] at hc; cases hc
  rcases hx with hk | hk
  · refine wpAny_storeName_local hk hn (fun h' hn' hs => ?_) hcls
    obtain ⟨oL, _, _, hoL, _⟩ := id hn
    refine h _ ⟨I.ok, I.os, I.bare, ⟨fun b o e n hb hx => ?_, fun b o e n hb hx => ?_, I.base.free, fun b o e hx => ?_, I.base.tups, I.base.frzs, I.base.tbls⟩, ⟨_, hn', fun j y v' e1 e2 e3 => ?_⟩, fun y c e => ?_, I.free, I.freeC, fun p hp => ?_, tracked ⟨oL, hoL, I.free⟩ hs, by simpa using I.len⟩ ⟨_, hs, .inl rfl⟩
    · exact (hs.2 b (Nat.ne_of_lt (Nat.lt_of_lt_of_le (Heap.lt_size e) I.ok.above))).trans (I.base.keep b o e n hb hx)
    · obtain ⟨sl, e1⟩ := I.base.slot b o e n hb hx
      exact ⟨sl, (hs.2 b (Nat.ne_of_lt (Nat.lt_of_lt_of_le (Heap.lt_size e) I.ok.above))).trans e1⟩
    · obtain ⟨o', e1⟩ := I.base.there b o e hx
      exact ⟨o', (hs.2 b (Nat.ne_of_lt (Nat.lt_of_lt_of_le (Heap.lt_size e) I.ok.above))).trans e1⟩
    · by_cases hj : j = i
      · subst hj
        rw [hi] at e1; cases e1
        rw [List.getElem?_set_self hiσ] at e2
        cases e2
        exact ⟨u, r, .inl ⟨hk, by simp⟩⟩
      · rw [List.getElem?_set_ne (Ne.symm hj)] at e2
        obtain ⟨u', r', q⟩ := hl j y v' e1 e2 e3
        refine ⟨u', r', ?_⟩
        rcases q with ⟨k, e⟩ | ⟨k, c, e, z⟩
        · refine .inl ⟨k, ?_⟩
          have : y ≠ x := fun e => hj (nodup_ix hN e1 (e ▸ hi))
          simp [this, e]
        · exact .inr ⟨k, c, e, z.sameBut hs (cne y c e)⟩
    · obtain ⟨w', z⟩ := I.cell y c e
      exact ⟨w', z.sameBut hs (cne y c e)⟩
    · obtain ⟨e, n, ne, nf, d⟩ := I.pin p hp
      exact ⟨(hs.2 p.1 ne).trans e, n, ne, nf, d⟩
  · have hfn : X.fn x = true := by
      rcases hf with z | z
      · exact z
      · rw [z] at hk; cases hk
    obtain ⟨c, hc⟩ := I.ok.has x (.inl hk)
    obtain ⟨w', z⟩ := I.cell x c hc
    refine wpAny_storeName_cell I.ok.kind hk hc z (fun h' hc' hs => ?_)
    obtain ⟨oc, hoc, hocd⟩ := id z
    refine h { s with heap := h' } ⟨I.ok, I.os, I.bare, ⟨fun b o e n hb hx => ?_, fun b o e n hb hx => ?_, I.base.free, fun b o e hx => ?_, I.base.tups, I.base.frzs, I.base.tbls⟩, ⟨m, hn.sameBut hs (Ne.symm (cne x c hc)), fun j y v' e1 e2 e3 => ?_⟩, fun y c' e => ?_, I.free, I.freeC, fun p hp => ?_, tracked ⟨oc, hoc, I.freeC x c hc⟩ hs, by simpa using I.len⟩ ⟨c, hs, .inr hc⟩
    · exact (hs.2 b (Nat.ne_of_lt (Nat.lt_of_lt_of_le (Heap.lt_size e) (I.ok.cab x c hfn hc)))).trans (I.base.keep b o e n hb hx)
    · obtain ⟨sl, e1⟩ := I.base.slot b o e n hb hx
      exact ⟨sl, (hs.2 b (Nat.ne_of_lt (Nat.lt_of_lt_of_le (Heap.lt_size e) (I.ok.cab x c hfn hc)))).trans e1⟩
    · obtain ⟨o', e1⟩ := I.base.there b o e hx
      exact ⟨o', (hs.2 b (Nat.ne_of_lt (Nat.lt_of_lt_of_le (Heap.lt_size e) (I.ok.cab x c hfn hc)))).trans e1⟩
    · by_cases hj : j = i
      · subst hj
        rw [hi] at e1; cases e1
        rw [List.getElem?_set_self hiσ] at e2
        cases e2
        exact ⟨u, r, .inr ⟨.inl hk, c, hc, hc'⟩⟩
      · rw [List.getElem?_set_ne (Ne.symm hj)] at e2
        obtain ⟨u', r', q⟩ := hl j y v' e1 e2 e3
        refine ⟨u', r', ?_⟩
        rcases q with q | ⟨k, c', e, z'⟩
        · exact .inl q
        · refine .inr ⟨k, c', e, z'.sameBut hs ?_⟩
          rintro rfl
          exact hj (nodup_ix hN e1 (I.ok.inj _ _ _ e hc ▸ hi))
    · by_cases hcc : c' = c
      · subst hcc; exact ⟨_, hc'⟩
      · obtain ⟨w2, z2⟩ := I.cell y c' e
        exact ⟨w2, z2.sameBut hs hcc⟩
    · obtain ⟨e, n, ne, nf, d⟩ := I.pin p hp
      refine ⟨(hs.2 p.1 ?_).trans e, n, ne, nf, d⟩
      intro q
      rw [q, hoc] at e
      have q' : oc = p.2 := Option.some.inj e
      exact d w' (by rw [← q']; exact hocd)
theorem store_ok {M : Model} {A : Around} {E : Value → Shared → Prop} {i : Nat} {x : Str} {v : V} {u : Value} {Q : Unit → Shared → Prop} (I : Inv X pins σ H s) (hN : X.N.Nodup) (hi : X.N[i]? = some x) (hx : Loc X.env.scope x) (r : RelV v u)
    (h : ∀ s', Inv X pins (σ.set i (some v)) H s' → Q () s') (hf : X.fn x = true ∨ X.env.scope.names.lookup x = some .local := by first | exact .inl rfl | exact .inr rfl | assumption) : wpAny M A (storeName X.env x u) Q E s :=
  store_ok2 I hN hi hx r (fun s' I' _ => h s' I') hf
/-- behind a call or a block, the state as it is -/
theorem Inv.call' {s' : Shared} {ch : List Addr} (I : Inv X pins σ H s) (ho : s'.os = s.os) (u : Un (frs X.stack) ch H H' s.heap s'.heap) (hok : HOk X.prog X.w H' s'.heap) (hg : AllBare s'.gens)
    (hch : ∀ b ∈ ch, (b ∈ X.ex ∨ X.s₀.heap.objs.size ≤ b) ∧ b ≠ X.env.locals ∧ (∀ x c, X.env.cells.lookup x = some c → c ≠ b) ∧ ∀ p ∈ X.pn ++ pins, p.1 ≠ b) : Inv X pins σ H' s' := by
  obtain ⟨h', g', d', t', o'⟩ := s'
  have e : o' = s.os := ho
  subst e
  exact I.call (g' := g') (t' := t') (d' := d') u hok hg hch
end

/-! ### the judgements -/
/-- an exception: its class, its own dict's address (where it has one), the abstract heap behind it -/
abbrev XK := Value → Option Addr → Hp → Prop
abbrev St := List (Option V)
abbrev VK := V → Hp → Prop
/-- an expression's reading; a test's; an argument list's -/
abbrev TE := St → Hp → VK → Prop
abbrev TT := St → Hp → (Bool → Hp → Prop) → Prop
abbrev TA := St → Hp → (List V → Hp → Prop) → Prop
/-- what is wanted behind a statement -/
structure Ends where
  nx : St → Hp → Prop
  rt : VK
  bk : St → Hp → Prop := fun _ _ => False
  ct : St → Hp → Prop := fun _ _ => False
abbrev TS := Ends → St → Hp → Prop

def EP (X : Cx) (pins : List (Addr × Obj)) (σ : St) (Q : VK) (u : Value) (s' : Shared) : Prop := ∃ v H', Inv X pins σ H' s' ∧ RelV v u ∧ Q v H'
def TP (X : Cx) (pins : List (Addr × Obj)) (σ : St) (Q : Bool → Hp → Prop) (b : Bool) (s' : Shared) : Prop := ∃ H', Inv X pins σ H' s' ∧ Q b H'
def AP (X : Cx) (pins : List (Addr × Obj)) (σ : St) (Q : List V → Hp → Prop) (us : List Value) (s' : Shared) : Prop := ∃ vs H', Inv X pins σ H' s' ∧ Vals vs us ∧ Q vs H'
def SP (X : Cx) (pins : List (Addr × Obj)) (D : Ends) (f : Flow) (s' : Shared) : Prop :=
  match f with
  | .next => ∃ σ' H', Inv X pins σ' H' s' ∧ D.nx σ' H'
  | .brk => ∃ σ' H', Inv X pins σ' H' s' ∧ D.bk σ' H'
  | .cont => ∃ σ' H', Inv X pins σ' H' s' ∧ D.ct σ' H'
  | .ret u => ∃ v σ' H', Inv X pins σ' H' s' ∧ RelV v u ∧ D.rt v H'

def PE (X : Cx) (e : Expr) (t : TE) : Prop :=
  ∀ (pins : List (Addr × Obj)) (s : Shared) (σ : St) (H : Hp) (Q : VK), Inv X pins σ H s → t σ H Q → wpAny (model X.prog X.w) X.A (eval e X.env) (EP X pins σ Q) X.xe s
def PT (X : Cx) (e : Expr) (t : TT) : Prop :=
  ∀ (pins : List (Addr × Obj)) (s : Shared) (σ : St) (H : Hp) (Q : Bool → Hp → Prop), Inv X pins σ H s → t σ H Q → wpAny (model X.prog X.w) X.A (isTrue e X.env (eval e X.env)) (TP X pins σ Q) X.xe s
/-- a test whatever its 'whole' is (and, or) -/
def PW (X : Cx) (e : Expr) (t : TT) : Prop :=
  ∀ (whole : Sem Value) (pins : List (Addr × Obj)) (s : Shared) (σ : St) (H : Hp) (Q : Bool → Hp → Prop), Inv X pins σ H s → t σ H Q → wpAny (model X.prog X.w) X.A (isTrue e X.env whole) (TP X pins σ Q) X.xe s
theorem PW.pt {X : Cx} {e : Expr} {t : TT} (h : PW X e t) : PT X e t := h _
/-- an argument list (no star), from the left -/
def PA (X : Cx) (es : List Expr) (t : TA) : Prop :=
  ∀ (pos : Pos) (pins : List (Addr × Obj)) (s : Shared) (σ : St) (H : Hp) (Q : List V → Hp → Prop), Inv X pins σ H s → t σ H Q → wpAny (model X.prog X.w) X.A (spliced (backTo pos (starEach es X.env))) (AP X pins σ Q) X.xe s
def PS (X : Cx) (st : Stmt) (t : TS) : Prop :=
  ∀ (pins : List (Addr × Obj)) (s : Shared) (σ : St) (H : Hp) (D : Ends), Inv X pins σ H s → t D σ H → wpAny (model X.prog X.w) X.A (exec st X.env) (SP X pins D) X.xe s
def PSs (X : Cx) (st : List Stmt) (t : TS) : Prop :=
  ∀ (pins : List (Addr × Obj)) (s : Shared) (σ : St) (H : Hp) (D : Ends), Inv X pins σ H s → t D σ H → wpAny (model X.prog X.w) X.A (execs st X.env) (SP X pins D) X.xe s
/-- weaken the end -/
theorem thn {α : Type} {t : Sem α} {Q Q' : α → Shared → Prop} {M : Model} {A : Around} {E : Value → Shared → Prop} {s : Shared} (h : wpAny M A t Q E s) (hQ : ∀ a s, Q a s → Q' a s) : wpAny M A t Q' E s := wpAny_mono h hQ fun _ _ x => x
end L2

namespace L2
open PySem PySem.Spec PyProof.Rows
section
variable {X : Cx}

/-! ### names and constants -/
def tVar (i : Nat) : TE := fun σ H Q => ∃ v, σ[i]? = some (some v) ∧ Q v H
def tC (v : V) : TE := fun _ H Q => Q v H
theorem pe_var {i : Nat} {x : Str} {pos : Pos} (hN : X.N[i]? = some x) (hv : Vis X.env.scope x) (hd : (x == ("__debug__" : Str)) = false := by decide) (hcd : (x == ("__classdict__" : Str)) = false := by decide) : PE X (.Name x pos) (tVar i) := by
  intro pins s σ H Q I h
  obtain ⟨v, e, h⟩ := h
  obtain ⟨m, hn, hl⟩ := I.loc
  obtain ⟨u, r, l⟩ := hl i x v hN e hv
  have fin : EP X pins σ Q u s := ⟨v, H, I, r, h⟩
  rcases l with ⟨hk, hm⟩ | ⟨hk, c, hc, hcell⟩
  · exact wpAny_Name (wpAny_loadName_local I.ok.kind hk hn hm fin) hd
  · rcases hk with hk | hk
    · exact wpAny_Name (wpAny_loadName_cell I.ok.kind hk hc hcell fin) hd
    · exact wpAny_Name (wpAny_loadName_free I.ok.kind hk hc hcell fin hcd) hd
theorem pe_int {i j pos} : PE X (.Constant (.int i) j pos) (tC (.int i)) := fun _ _ _ H _ I h => wpAny_Constant_int ⟨.int i, H, I.tok _, ⟨_, rfl⟩, h⟩
theorem pe_bl {b j pos} : PE X (.Constant (.bool b) j pos) (tC (.bl b)) := fun _ _ _ H _ I h => Constant_bool ⟨.bl b, H, I, rfl, h⟩
theorem pe_str {x j pos} : PE X (.Constant (.str x) j pos) (tC (.str x)) := fun _ _ _ H _ I h => Calls.Constant_str ⟨.str x, H, I.tok _, ⟨_, rfl⟩, h⟩

/-- a global name of the def -/
def Gl (X : Cx) (x : Str) : Prop := X.env.kindOf x = some .globalImplicit
theorem ld_glob {E : Value → Shared → Prop} {pins : List (Addr × Obj)} {s : Shared} {σ : St} {H : Hp} {x : Str} {u : Value} {pos : Pos} {Q : Value → Shared → Prop} (I : Inv X pins σ H s) (hg : Gl X x) (hm : X.mg x = some u) (h : Q u s)
    (hd : (x == ("__debug__" : Str)) = false := by decide) : wpAny (model X.prog X.w) X.A (eval (.Name x pos) X.env) Q E s :=
  Calls.Name_function_global I.ok.kind hg (Calls.loadGlobal_global (by rw [I.ok.glob]; exact I.mod.glob.keeps I.bk) hm h) hd
theorem ld_blt {E : Value → Shared → Prop} {pins : List (Addr × Obj)} {s : Shared} {σ : St} {H : Hp} {x : Str} {u : Value} {pos : Pos} {Q : Value → Shared → Prop} (I : Inv X pins σ H s) (hg : Gl X x) (hm : X.mg x = none) (hv : bootBuiltins x = some u) (h : Q u s)
    (hn : x ≠ "__name__" := by decide) (hd : (x == ("__debug__" : Str)) = false := by decide) : wpAny (model X.prog X.w) X.A (eval (.Name x pos) X.env) Q E s := by
  obtain ⟨mb, h1, h2⟩ := I.mod.blt
  exact Calls.Name_function_global I.ok.kind hg (Calls.loadGlobal_builtin (by rw [I.ok.glob]; exact I.mod.glob.keeps I.bk) hm (by rw [I.ok.blt]; exact h1.keeps I.bk) ((h2 x hn).trans hv) h) hd
theorem pe_bltn {x : Str} {v : V} {u : Value} {pos : Pos} (hg : Gl X x) (hm : X.mg x = none) (hv : bootBuiltins x = some u) (r : RelV v u) (hn : x ≠ "__name__" := by decide) (hd : (x == ("__debug__" : Str)) = false := by decide) : PE X (.Name x pos) (tC v) :=
  fun _ _ _ H _ I h => ld_blt I hg hm hv ⟨v, H, I, r, h⟩ hn hd

/-! ### arithmetic -/
variable {a b : Expr} {ta tb : TE} {pos : Pos}
/-! ### comparisons -/
def PC (X : Cx) (op : CmpOp) (a b : Expr) (t : TE) : Prop :=
  ∀ (pins : List (Addr × Obj)) (s : Shared) (σ : St) (H : Hp) (Q : VK), Inv X pins σ H s → t σ H Q →
    wpAny (model X.prog X.w) X.A (eval a X.env) (fun v s₁ => wpAny (model X.prog X.w) X.A (eval b X.env) (fun u s₂ => wpAny (model X.prog X.w) X.A (compareOp op v u) (EP X pins σ Q) X.xe s₂) X.xe s₁) X.xe s
/-- a comparison as a value, as a test -/
def tB (t : TE) : TT := fun σ H Q => t σ H fun x H1 => ∃ c, x = .bl c ∧ Q c H1
theorem pt_cmp {op : CmpOp} {t : TE} (h : PC X op a b t) (h1 : behindInMarks op b = false := by first | exact nobehind _ (by decide) (by decide) | rfl) : PT X (.Compare a [op] [b] pos) (tB t) := by
  intro pins s σ H Q I hw
  refine wpAny_isTrue_Compare1 (thn (h pins s σ H _ I hw) fun v s1 h1 => thn h1 fun u s2 h2 => thn h2 fun c s3 ⟨x, H1, I1, r1, q1⟩ => ?_) h1
  obtain ⟨d, rfl, q⟩ := q1
  cases r1
  exact wpAny_truthy_bool ⟨H1, I1, q⟩
/-- an expression whose value is a bool, as a test -/
theorem pt_val {e : Expr} {t : TE} (h : PE X e t) (he : ∀ whole, isTrue e X.env whole = (do let v ← whole; standAt e.pos; holding [v] (truthy v)) := by intro _; rfl) : PT X e (tB t) := by
  intro pins s σ H Q I hw
  refine isTrue_plain (thn (h pins s σ H _ I hw) fun v s1 ⟨x, H1, I1, r1, q1⟩ => ?_) (he _)
  obtain ⟨d, rfl, q⟩ := q1
  cases r1
  exact wpAny_truthy_bool ⟨H1, I1, q⟩

/-! ### and, or, not -/
variable {tA tB' : TT} {rest : List Expr}
def tAnd (t u : TT) : TT := fun σ H Q => t σ H fun c H1 => if c = true then u σ H1 Q else Q false H1
def tOr (t u : TT) : TT := fun σ H Q => t σ H fun c H1 => if c = true then Q true H1 else u σ H1 Q
def tNot (t : TT) : TT := fun σ H Q => t σ H fun c H1 => Q (!c) H1
theorem pw_and1 (ha : PT X a tA) : PW X (.BoolOp .And [a] pos) tA := by
  intro wh pins s σ H Q I h
  refine isTrue_and (thn (ha pins s σ H Q I h) fun c s1 e => ?_)
  cases c with
  | true => exact isTrue_and_nil e
  | false => exact e
theorem pw_or1 (ha : PT X a tA) : PW X (.BoolOp .Or [a] pos) tA := by
  intro wh pins s σ H Q I h
  refine isTrue_or (thn (ha pins s σ H Q I h) fun c s1 e => ?_)
  cases c with
  | false => exact isTrue_or_nil e
  | true => exact e
theorem pw_and (ha : PT X a tA) (hb : PW X (.BoolOp .And (b :: rest) pos) tB') : PW X (.BoolOp .And (a :: b :: rest) pos) (tAnd tA tB') := by
  intro wh pins s σ H Q I h
  refine isTrue_and (thn (ha pins s σ H _ I h) fun c s1 ⟨H1, I1, q1⟩ => ?_)
  cases c with
  | true => exact hb wh pins s1 σ H1 Q I1 q1
  | false => exact ⟨H1, I1, q1⟩
theorem pw_or (ha : PT X a tA) (hb : PW X (.BoolOp .Or (b :: rest) pos) tB') : PW X (.BoolOp .Or (a :: b :: rest) pos) (tOr tA tB') := by
  intro wh pins s σ H Q I h
  refine isTrue_or (thn (ha pins s σ H _ I h) fun c s1 ⟨H1, I1, q1⟩ => ?_)
  cases c with
  | true => exact ⟨H1, I1, q1⟩
  | false => exact hb wh pins s1 σ H1 Q I1 q1
theorem pt_not (ha : PT X a tA) : PT X (.UnaryOp .Not a pos) (tNot tA) := by
  intro pins s σ H Q I h
  exact isTrue_not (ha pins s σ H (fun c H1 => Q (!c) H1) I h)
/-- .. as values (bools) -/
def tAndV (ta tb : TE) : TE := fun σ H Q => ta σ H fun x H1 => ∃ c, x = .bl c ∧ if c = true then tb σ H1 Q else Q (.bl false) H1
theorem pe_one {op} {t : TE} (h : PE X a t) : PE X (.BoolOp op [a] pos) t := fun pins s σ H Q I hw => BoolOp_one (h pins s σ H Q I hw)
theorem pe_and (ha : PE X a ta) (hb : PE X (.BoolOp .And (b :: rest) pos) tb) : PE X (.BoolOp .And (a :: b :: rest) pos) (tAndV ta tb) := by
  intro pins s σ H Q I h
  refine BoolOp_and (thn (ha pins s σ H _ I h) fun v s1 ⟨x, H1, I1, r1, q1⟩ => ?_)
  obtain ⟨c, rfl, q1⟩ := q1
  cases r1
  refine wpAny_truthy_bool ?_
  cases c with
  | true => exact hb pins s1 σ H1 Q I1 q1
  | false => exact ⟨.bl false, H1, I1, rfl, q1⟩
end
end L2

namespace L2
open PySem PySem.Spec PyProof.Rows

/-! ### a list, a tuple that is read: tracked, frozen, or an object of the module -/
def SqL (K : PySem.W.Frag) (H : Hp) (a : Addr) (xs : List V) : Prop :=
  Rd H a (.lst xs) ∨
    ∃ (o : Obj) (its : Array Value) (n : Nat), K.lookup a = some o ∧ o.cls = .type "list" ∧ o.dict = none ∧ o.data = .seq its n ∧ its.size ≤ sizeLine ∧ Vals xs its.toList
def SqT (K : PySem.W.Frag) (H : Hp) (a : Addr) (xs : List V) : Prop :=
  Rd H a (.tup xs) ∨
    ∃ (o : Obj) (its : Array Value) (n : Nat), K.lookup a = some o ∧ o.cls = .type "tuple" ∧ o.data = .seq its n ∧ its.size ≤ sizeLine ∧ Vals xs its.toList
def absV : Value → Option V
  | .none => some .non
  | .bool b => some (.bl b)
  | .int i _ => some (.int i)
  | .str x _ => some (.str x)
  | .bytes b _ => some (.byt b)
  | .float b _ => some (.flt b)
  | .ref a => some (.ref a)
  | .type n => some (.ty n)
  | _ => none
theorem RelV.abs {x : V} {u : Value} (r : RelV x u) : absV u = some x := by
  cases x with
  | non => cases r; rfl
  | bl _ => cases r; rfl
  | int _ => obtain ⟨t, rfl⟩ := r; rfl
  | str _ => obtain ⟨t, rfl⟩ := r; rfl
  | byt _ => obtain ⟨t, rfl⟩ := r; rfl
  | flt _ => obtain ⟨t, rfl⟩ := r; rfl
  | ref _ => cases r; rfl
  | ty _ => cases r; rfl
theorem RelV.inj {x y : V} {u : Value} (r : RelV x u) (q : RelV y u) : x = y := Option.some.inj (r.abs.symm.trans q.abs)
theorem Vals.inj : ∀ {xs ys : List V} {us : List Value}, Vals xs us → Vals ys us → xs = ys
  | _, _, _, .nil, .nil => rfl
  | _, _, _, .cons r t, .cons r' t' => by rw [r.inj r', Vals.inj t t']
section
variable {X : Cx} {pins : List (Addr × Obj)} {σ : St} {H : Hp} {s : Shared} {a : Addr} {xs ys : List V}
theorem SqL.of {K : PySem.W.Frag} (h : H a = some (.lst xs)) : SqL K H a xs := .inl (.inl h)
theorem SqT.of {K : PySem.W.Frag} (h : H a = some (.tup xs)) : SqT K H a xs := .inl (.inl h)
theorem Inv.list (I : Inv X pins σ H s) (h : SqL X.K H a xs) : ∃ its : List Value, Vals xs its ∧ PlainL s.heap a its.toArray ∧ xs.length ≤ sizeLine := by
  rcases h with h | ⟨o, its, n, hk, hc, hd, hs, hz, r⟩
  · obtain ⟨z, its, n, r, e⟩ := h.ok I.hok
    exact ⟨its, r, ⟨_, n, e, rfl, rfl, rfl⟩, z⟩
  · refine ⟨its.toList, r, ⟨o, n, I.kIn a o hk, hc, hd, by simpa using hs⟩, ?_⟩
    have e := r.length
    simp only [Array.length_toList] at e
    omega
theorem Inv.tuple (I : Inv X pins σ H s) (h : SqT X.K H a xs) : ∃ its : List Value, Vals xs its ∧ IsTup s.heap a its.toArray ∧ xs.length ≤ sizeLine := by
  rcases h with h | ⟨o, its, n, hk, hc, hs, hz, r⟩
  · obtain ⟨z, its, r, p⟩ := h.ok I.hok
    exact ⟨its, r, p, z⟩
  · refine ⟨its.toList, r, ⟨o, I.kIn a o hk, hc, n, by simpa using hs⟩, ?_⟩
    have e := r.length
    simp only [Array.length_toList] at e
    omega
theorem Inv.list_inj (I : Inv X pins σ H s) (h : SqL X.K H a xs) (h' : SqL X.K H a ys) : xs = ys := by
  obtain ⟨its, r, ⟨o, n, e, _, _, d⟩, _⟩ := I.list h
  obtain ⟨its', r', ⟨o', n', e', _, _, d'⟩, _⟩ := I.list h'
  rw [e] at e'; cases e'
  rw [d] at d'
  injection d' with d1 _
  have : its = its' := by simpa using congrArg Array.toList d1
  subst this
  exact r.inj r'
theorem Inv.tuple_inj (I : Inv X pins σ H s) (h : SqT X.K H a xs) (h' : SqT X.K H a ys) : xs = ys := by
  obtain ⟨its, r, ⟨o, e, _, n, d⟩, _⟩ := I.tuple h
  obtain ⟨its', r', ⟨o', e', _, n', d'⟩, _⟩ := I.tuple h'
  rw [e] at e'; cases e'
  rw [d] at d'
  injection d' with d1 _
  have : its = its' := by simpa using congrArg Array.toList d1
  subst this
  exact r.inj r'
end

/-! ### another wish about exceptions -/
abbrev Cx.wish (X : Cx) (E : Value → Shared → Prop) : Cx := { X with xe := E }
/-- no exception leaves -/
abbrev Cx.nox (X : Cx) : Cx := X.wish fun _ _ => False
theorem Cx.Ok.wish {X : Cx} (ok : X.Ok) (E : Value → Shared → Prop) : (X.wish E).Ok :=
  ⟨ok.mod, ok.kind, ok.glob, ok.blt, ok.above, ok.inj, ok.has, ok.cab, ok.hd, ok.frames, ok.stk, ok.exf, ok.bs, ok.bsz, ok.noex, ok.exfs, ok.funs, ok.frf⟩
theorem Cx.Ok.unwish {X : Cx} {E : Value → Shared → Prop} (ok : (X.wish E).Ok) : X.Ok :=
  ⟨ok.mod, ok.kind, ok.glob, ok.blt, ok.above, ok.inj, ok.has, ok.cab, ok.hd, ok.frames, ok.stk, ok.exf, ok.bs, ok.bsz, ok.noex, ok.exfs, ok.funs, ok.frf⟩
section
variable {X : Cx} {pins : List (Addr × Obj)} {σ : St} {H : Hp} {s : Shared} {E : Value → Shared → Prop}
theorem Inv.wish (I : Inv X pins σ H s) (E : Value → Shared → Prop) : Inv (X.wish E) pins σ H s := ⟨I.ok.wish E, I.os, I.bare, I.base, I.loc, I.cell, I.free, I.freeC, I.pin, I.hok, I.len⟩
theorem Inv.unwish (I : Inv (X.wish E) pins σ H s) : Inv X pins σ H s := ⟨I.ok.unwish, I.os, I.bare, I.base, I.loc, I.cell, I.free, I.freeC, I.pin, I.hok, I.len⟩
theorem SP.unwish {D : Ends} {f : Flow} {s' : Shared} (h : SP (X.wish E) pins D f s') : SP X pins D f s' := by
  cases f with
  | next => obtain ⟨σ', H', I, q⟩ := h; exact ⟨σ', H', I.unwish, q⟩
  | brk => obtain ⟨σ', H', I, q⟩ := h; exact ⟨σ', H', I.unwish, q⟩
  | cont => obtain ⟨σ', H', I, q⟩ := h; exact ⟨σ', H', I.unwish, q⟩
  | ret u => obtain ⟨v, σ', H', I, r, q⟩ := h; exact ⟨v, σ', H', I.unwish, r, q⟩
theorem PSs.nox {st : List Stmt} {t : TS} (h : PSs X.nox st t) : PSs X st t := fun pins s σ H D I hw =>
  wpAny_mono (h pins s σ H D (I.wish _) hw) (fun _ _ q => q.unwish) fun _ _ z => False.elim z
end

/-! ### blocks and small statements -/
section
variable {X : Cx} {st : Stmt} {rest : List Stmt} {t u : TS} {e : Expr} {te : TE} {pos : Pos}
def tNext : TS := fun D σ H => D.nx σ H
def tSeq (t u : TS) : TS := fun D σ H => t { D with nx := u D } σ H
theorem pss_nil : PSs X [] tNext := fun _ _ σ H _ I h => wpAny_execs_nil ⟨σ, H, I, h⟩
theorem pss_cons (h1 : PS X st t) (h2 : PSs X rest u) : PSs X (st :: rest) (tSeq t u) := by
  intro pins s σ H D I h
  refine wpAny_execs_cons (thn (h1 pins s σ H { D with nx := u D } I h) fun f s1 q => ?_)
  cases f with
  | next =>
    obtain ⟨σ', H', I', q⟩ := q
    exact h2 pins s1 σ' H' D I' q
  | ret v => exact q
  | brk => exact q
  | cont => exact q
theorem pss_one (h1 : PS X st t) : PSs X [st] t := by
  intro pins s σ H D I h
  refine wpAny_execs_cons (thn (h1 pins s σ H D I h) fun f s1 q => ?_)
  cases f with
  | next => exact wpAny_execs_nil q
  | ret v => exact q
  | brk => exact q
  | cont => exact q
/-- in a def's body nothing is shown -/
theorem Inv.quiet {pins : List (Addr × Obj)} {σ : St} {H : Hp} {s : Shared} (I : Inv X pins σ H s) : interactive X.env = false := by simp [interactive, I.ok.kind]
/-- an expression whose value is dropped -/
def tDrop (te : TE) : TS := fun D σ H => te σ H fun _ H1 => D.nx σ H1
theorem ps_expr (he : PE X e te) (hs : swapsWith e none pos.line X.env = pure false := by rfl) : PS X (.Expr e pos) (tDrop te) := by
  intro pins s σ H D I h
  exact wpAny_Expr_any (thn (he pins s σ H _ I h) fun v s1 ⟨x, H1, I1, r1, q1⟩ => ⟨σ, H1, I1, q1⟩) I.quiet hs
def tRet (te : TE) : TS := fun D σ H => te σ H D.rt
theorem ps_ret (he : PE X e te) : PS X (.Return (some e) pos) (tRet te) := by
  intro pins s σ H D I h
  exact wpAny_Return_some (thn (he pins s σ H _ I h) fun v s1 ⟨x, H1, I1, r1, q1⟩ => ⟨x, σ, H1, I1, r1, q1⟩)
def tIfS (c : TT) (t u : TS) : TS := fun D σ H => c σ H fun b H1 => if b = true then t D σ H1 else u D σ H1
theorem ps_if {c : Expr} {a b : List Stmt} {tc : TT} (hc : PT X c tc) (ha : PSs X a t) (hb : PSs X b u) : PS X (.If c a b pos) (tIfS tc t u) := by
  intro pins s σ H D I h
  refine wpAny_If (thn (hc pins s σ H _ I h) fun d s1 ⟨H1, I1, q1⟩ => ?_)
  cases d with
  | true => exact ha pins s1 σ H1 D I1 q1
  | false => exact hb pins s1 σ H1 D I1 q1
/-- code that the proof never comes to -/
def tNever : TS := fun _ _ _ => False
theorem ps_never : PS X st tNever := fun _ _ _ _ _ _ h => h.elim
end

/-! ### targets -/
abbrev TG := V → St → Hp → (St → Hp → Prop) → Prop
abbrev TGs := List V → St → Hp → (St → Hp → Prop) → Prop
def PG (X : Cx) (target : Expr) (t : TG) : Prop :=
  ∀ (pins : List (Addr × Obj)) (s : Shared) (σ : St) (H : Hp) (v : V) (u : Value) (Q : St → Hp → Prop), Inv X pins σ H s → RelV v u → t v σ H Q →
    wpAny (model X.prog X.w) X.A (assign target X.env u) (fun _ s' => ∃ σ' H', Inv X pins σ' H' s' ∧ Q σ' H') X.xe s
/-- several targets, one after another -/
def PGs (X : Cx) (ts : List Expr) (t : TGs) : Prop :=
  ∀ (pins : List (Addr × Obj)) (s : Shared) (σ : St) (H : Hp) (vs : List V) (us : List Value) (Q : St → Hp → Prop), Inv X pins σ H s → Vals vs us → t vs σ H Q →
    wpAny (model X.prog X.w) X.A (assignInOrder ((assignEach ts X.env).map (·.2)) us) (fun _ s' => ∃ σ' H', Inv X pins σ' H' s' ∧ Q σ' H') X.xe s
section
variable {X : Cx} {pos : Pos}
def gName (i : Nat) : TG := fun v σ H Q => Q (σ.set i (some v)) H
theorem pg_name {i : Nat} {x : Str} (hN : X.N.Nodup) (hi : X.N[i]? = some x) (hx : Loc X.env.scope x) (hf : X.fn x = true ∨ X.env.scope.names.lookup x = some .local := by first | exact .inl rfl | exact .inr rfl | assumption) : PG X (.Name x pos) (gName i) := by
  intro pins s σ H v u Q I r h
  exact wpAny_assign_Name (store_ok I hN hi hx r (fun s' I' => ⟨_, H, I', h⟩) hf)
def gNil : TGs := fun vs σ H Q => vs = [] ∧ Q σ H
def gCons (t : TG) (u : TGs) : TGs := fun vs σ H Q => ∃ v r, vs = v :: r ∧ t v σ H fun σ' H' => u r σ' H' Q
theorem pgs_nil : PGs X [] gNil := by
  intro pins s σ H vs us Q I r h
  obtain ⟨e, h⟩ := h
  subst e
  cases r
  exact assignInOrder_nil ⟨σ, H, I, h⟩
theorem pgs_cons {e : Expr} {es : List Expr} {t : TG} {u : TGs} (h1 : PG X e t) (h2 : PGs X es u)
    (hs : (assignEach (e :: es) X.env).map (·.2) = assign e X.env :: (assignEach es X.env).map (·.2) := by rfl) : PGs X (e :: es) (gCons t u) := by
  intro pins s σ H vs us Q I r h
  obtain ⟨v, vr, e1, h⟩ := h
  subst e1
  cases r with
  | cons r rr =>
    rw [hs]
    refine assignInOrder_cons (thn (h1 pins s σ H _ _ _ I r h) fun _ s1 ⟨σ1, H1, I1, q1⟩ => ?_)
    exact h2 pins s1 σ1 H1 _ _ Q I1 rr q1
/-- (a, b, ..) = a tuple of that length -/
def gTup (K : PySem.W.Frag) (n : Nat) (t : TGs) : TG := fun v σ H Q => ∃ a xs, v = .ref a ∧ SqT K H a xs ∧ xs.length = n ∧ t xs σ H Q
theorem pg_tup {es : List Expr} {k : Nat} {t : TGs} {n : Nat} (hc : X.calm = true) (h : PGs X es t)
    (hn : (assignEach es X.env).length = n := by rfl) (hst : (assignEach es X.env).findIdx? (·.1) = none := by rfl) : PG X (.Tuple es k pos) (gTup X.K n t) := by
  intro pins s σ H v u Q I r hw
  obtain ⟨a, xs, e1, hq, hl, hw⟩ := hw
  subst e1
  cases r
  obtain ⟨its, rv, ht, hz⟩ := I.tuple hq
  refine assign_Tuple_tuple (I.ok.hd hc) ht (by simp [hn, ← hl, rv.length]) hst fun h' hx => ?_
  have I1 : Inv X pins σ H { s with heap := h' } := I.kept (t' := s.toks) fun b o e => hx b o (Nat.ne_of_lt (Heap.lt_size e)) e
  exact h pins _ σ H xs _ Q I1 (by simpa using rv) hw
/-- target = value -/
def tAsg (te : TE) (g : TG) : TS := fun D σ H => te σ H fun x H1 => g x σ H1 D.nx
theorem ps_asg {tg e : Expr} {te : TE} {g : TG} (he : PE X e te) (hg : PG X tg g) (hs : swapsWithSole [tg] e pos.line X.env = pure false := by rfl) (hw : swappedStores [tg] e X.env = pure none := by rfl)
    (h1 : (assignEach [tg] X.env).map (·.2) = [assign tg X.env] := by rfl) : PS X (.Assign [tg] e pos) (tAsg te g) := by
  intro pins s σ H D I h
  refine wpAny_Assign_stores (thn (he pins s σ H _ I h) fun v s1 ⟨x, H1, I1, r1, q1⟩ => ?_) hs hw
  rw [h1]
  exact thn (hg pins s1 σ H1 x v _ I1 r1 q1) fun _ s2 q => q
/-- name = value -/
theorem ps_set {i : Nat} {x : Str} {e : Expr} {te : TE} {pos' : Pos} (hN : X.N.Nodup) (hi : X.N[i]? = some x) (hx : Loc X.env.scope x) (he : PE X e te) (hs : swapsWith e (some (.Name x pos')) pos.line X.env = pure false := by rfl) (hf : X.fn x = true ∨ X.env.scope.names.lookup x = some .local := by first | exact .inl rfl | exact .inr rfl | assumption) :
    PS X (.Assign [.Name x pos'] e pos) (tAsg te (gName i)) := by
  intro pins s σ H D I h
  refine wpAny_Assign_Name (thn (he pins s σ H _ I h) fun v s1 ⟨y, H1, I1, r1, q1⟩ => ?_) hs
  exact store_ok I1 hN hi hx r1 (fun s2 I2 => ⟨_, H1, I2, q1⟩) hf
end

/-! ### while -/
section
variable {X : Cx} {pos : Pos}
end

/-! ### what a loop or a comprehension walks -/
/-- at turn i: it yields x (the heap may grow), or it stops -/
structure It where
  go : Nat → Hp → Prop
  yld : Nat → Hp → V → Hp → Prop
  stop : Nat → Hp → Prop
/-- the iterator's own objects may turn: they are not the frame's, not pinned, younger than the entry (or a comprehension's own) -/
def FpOk (X : Cx) (pins : List (Addr × Obj)) (H : Hp) (b : Addr) : Prop :=
  H b = none ∧ b ≠ X.env.locals ∧ b ∉ X.fs ∧ (b ∈ X.ex ∨ X.s₀.heap.objs.size ≤ b) ∧ (∀ x c, X.env.cells.lookup x = some c → c ≠ b) ∧ ∀ p ∈ X.pn ++ pins, p.1 ≠ b
theorem Inv.fpOk {X : Cx} {pins : List (Addr × Obj)} {σ : St} {H H' : Hp} {s : Shared} {b : Addr} (I : Inv X pins σ H s) (hb : s.heap.objs.size ≤ b) (hn : H' b = none) : FpOk X pins H' b := by
  refine ⟨hn, Nat.ne_of_gt (Nat.lt_of_lt_of_le I.lt hb), I.nofs hb, .inr (Nat.le_trans I.sz hb), fun x c e z => ?_, fun p hp z => ?_⟩
  · obtain ⟨v, q⟩ := I.cell x c e
    exact absurd (Nat.lt_of_lt_of_le q.lt (by rw [z]; exact hb)) (Nat.lt_irrefl _)
  · exact absurd (Nat.lt_of_lt_of_le (Heap.lt_size (I.pin p hp).1) (by rw [z]; exact hb)) (Nat.lt_irrefl _)
structure Turn (P : Program) (w : World) (K : PySem.W.Frag) (tg : Expr) (J : It) (fp : List Addr) (it : Addr) (tn : Nat → Heap → Prop) : Prop where
  mem : it ∈ fp
  obj : ∀ i h, tn i h → ∀ b ∈ fp, ∃ o, h.get? b = some o ∧ ∀ v, o.data ≠ .cell v
  keep : ∀ i h h', tn i h → (∀ b ∈ fp, ∀ o, h.get? b = some o → h'.get? b = some o) → tn i h'
  item : ∀ (X : Cx), X.prog = P → X.w = w → X.K = K → X.calm = true → ∀ (i : Nat) (pins : List (Addr × Obj)) (s : Shared) (σ : St) (H : Hp) (E : Value → Shared → Prop), Inv X pins σ H s → (∀ b ∈ fp, FpOk X pins H b) → tn i s.heap → J.go i H →
    wpAny (model P w) X.A (pyNext (.ref it)) (fun r s1 => ∃ u, r = some u ∧
      wpAny (model P w) X.A (letOwnedTupleGo tg (.ref it) u) (fun _ s2 => ∃ x H', Inv X pins σ H' s2 ∧ RelV x u ∧ J.yld i H x H' ∧ tn (i + 1) s2.heap ∧ ∀ b ∈ fp, H' b = none) E s1) E s
  done : ∀ (X : Cx), X.prog = P → X.w = w → X.K = K → X.calm = true → ∀ (i : Nat) (pins : List (Addr × Obj)) (s : Shared) (σ : St) (H : Hp) (E : Value → Shared → Prop), Inv X pins σ H s → (∀ b ∈ fp, FpOk X pins H b) → tn i s.heap → J.stop i H →
    wpAny (model P w) X.A (pyNext (.ref it)) (fun r s1 => r = none ∧ Inv X pins σ H s1) E s
  self : ∀ (A : Around) (i : Nat) (s : Shared) (Q : Value → Shared → Prop) (E : Value → Shared → Prop), tn i s.heap → Q (.ref it) s → wpAny (model P w) A (pyIter (.ref it)) Q E s
abbrev TI := St → Hp → (It → Hp → Prop) → Prop
/-- an iterator has come -/
def PIE (X : Cx) (pins : List (Addr × Obj)) (σ : St) (tg : Expr) (R : It → Hp → Prop) (itv : Value) (s2 : Shared) : Prop :=
  ∃ (it : Addr) (fp : List Addr) (tn : Nat → Heap → Prop) (J : It) (H' : Hp), itv = .ref it ∧ Inv X pins σ H' s2 ∧ Turn X.prog X.w X.K tg J fp it tn ∧ tn 0 s2.heap ∧ (∀ b ∈ fp, FpOk X pins H' b) ∧ R J H'
def PI (X : Cx) (tg iter : Expr) (wi : TI) : Prop :=
  ∀ (pins : List (Addr × Obj)) (s : Shared) (σ : St) (H : Hp) (R : It → Hp → Prop), Inv X pins σ H s → wi σ H R →
    wpAny (model X.prog X.w) X.A (eval iter X.env) (fun v s1 => wpAny (model X.prog X.w) X.A (pyIter v) (PIE X pins σ tg R) X.xe s1) X.xe s

/-- the step ahead of the store is nothing for an iterator that keeps no tuple -/
theorem go_of {M : Model} {A : Around} {E : Value → Shared → Prop} {s : Shared} {tg : Expr} {it : Addr} {u : Value} {o : Obj} {n : String} {vs : Array Value} {Q : Unit → Shared → Prop} (ho : s.heap.get? it = some o) (hc : o.cls = .type n) (hd : o.data = .fields vs)
    (hn : ["enumerate", "zip", "dict_itemiterator", "dict_reverseitemiterator", "odict_iterator", "itertools.zip_longest", "itertools.pairwise"].contains n = false) (hQ : Q () s) : wpAny M A (letOwnedTupleGo tg (.ref it) u) Q E s := by
  unfold letOwnedTupleGo
  cases tg <;> first
    | exact wpAny_pure hQ
    | (cases u <;> first
        | exact wpAny_pure hQ
        | (refine wpAny_bind (wpAny_load ho ?_)
           rw [hc, hd]
           show wpAny M A (if (["enumerate", "zip", "dict_itemiterator", "dict_reverseitemiterator", "odict_iterator", "itertools.zip_longest", "itertools.pairwise"].contains n && vs[0]? == some (rawInt _)) = true then _ else _) Q E s
           rw [if_neg (by intro h; rw [hn, Bool.false_and] at h; cases h)]
           exact wpAny_pure hQ))

/-- the list at a, as it stands at each turn (a loop may append to it) -/
def Itl (K : PySem.W.Frag) (a : Addr) : It :=
  ⟨fun i H => ∃ xs x, SqL K H a xs ∧ xs[i]? = some x, fun i H x H' => H' = H ∧ ∀ xs, SqL K H a xs → xs[i]? = some x, fun i H => ∃ xs, SqL K H a xs ∧ xs.length ≤ i⟩
def Itt (K : PySem.W.Frag) (a : Addr) : It :=
  ⟨fun i H => ∃ xs x, SqT K H a xs ∧ xs[i]? = some x, fun i H x H' => H' = H ∧ ∀ xs, SqT K H a xs → xs[i]? = some x, fun i H => ∃ xs, SqT K H a xs ∧ xs.length ≤ i⟩
/-- lo, lo + 1, .. (n of them) -/
def Itr (lo : Int) (n : Nat) : It := ⟨fun i _ => i < n, fun i H x H' => H' = H ∧ x = .int (lo + i), fun i _ => n ≤ i⟩
theorem turn_list {P : Program} {w : World} {K : PySem.W.Frag} {tg : Expr} (a it : Addr) : Turn P w K tg (Itl K a) [it] it (fun i h => h.IsListIter it a i) where
  mem := by simp
  obj := fun i h st b hb => by
    have e : b = it := by simpa using hb
    subst e
    obtain ⟨o, e, c, d⟩ := st
    exact ⟨o, e, fun v z => by rw [d] at z; cases z⟩
  keep := fun i h h' st k => st.at fun o e => k it (by simp) o e
  item := by
    intro X hP hw hK hc i pins s σ H E I hf st hg
    subst hP hw hK
    obtain ⟨xs, x, hq, hx⟩ := hg
    obtain ⟨its, rv, p, hz⟩ := I.list hq
    obtain ⟨u, hu, ru⟩ := rv.get hx
    obtain ⟨f0, f1, f2, f3, f4, f5⟩ := hf it (by simp)
    refine wpAny_pyNext_list_item st p.isList (x := u) (by simpa using hu) fun h' st' sb => ?_
    have I1 : Inv X pins σ H { s with heap := h' } := I.turned (t' := s.toks) (fun b o hb e => (sb.2 b hb).trans e) f0 f1 f3 f4 f5
    obtain ⟨o, e, c, d⟩ := id st'
    exact ⟨u, rfl, go_of (s := { s with heap := h' }) e c d (by decide) ⟨x, H, I1, ru, ⟨rfl, fun ys hy => by rw [I.list_inj hy hq]; exact hx⟩, st', fun b hb => (hf b hb).1⟩⟩
  done := by
    intro X hP hw hK hc i pins s σ H E I hf st hg
    subst hP hw hK
    obtain ⟨xs, hq, hx⟩ := hg
    obtain ⟨its, rv, p, hz⟩ := I.list hq
    obtain ⟨f0, f1, f2, f3, f4, f5⟩ := hf it (by simp)
    have hl := rv.length
    exact wpAny_pyNext_list_end (I.ok.hd hc) st p.isList (by simp; omega) fun h' eb => ⟨rfl, I.turned (t' := s.toks) (fun b o hb e => eb b o hb e) f0 f1 f3 f4 f5⟩
  self := fun _ _ _ _ _ st h => wpAny_pyIter_listiter st h
theorem turn_tuple {P : Program} {w : World} {K : PySem.W.Frag} {tg : Expr} (a it : Addr) : Turn P w K tg (Itt K a) [it] it (fun i h => h.IsTupleIter it a i) where
  mem := by simp
  obj := fun i h st b hb => by
    have e : b = it := by simpa using hb
    subst e
    obtain ⟨o, e, c, d⟩ := st
    exact ⟨o, e, fun v z => by rw [d] at z; cases z⟩
  keep := fun i h h' st k => st.at fun o e => k it (by simp) o e
  item := by
    intro X hP hw hK hc i pins s σ H E I hf st hg
    subst hP hw hK
    obtain ⟨xs, x, hq, hx⟩ := hg
    obtain ⟨its, rv, p, hz⟩ := I.tuple hq
    obtain ⟨u, hu, ru⟩ := rv.get hx
    obtain ⟨f0, f1, f2, f3, f4, f5⟩ := hf it (by simp)
    refine wpAny_pyNext_tuple_item st (show s.heap.IsTuple a its.toArray from p) (x := u) (by simpa using hu) fun h' st' sb => ?_
    have I1 : Inv X pins σ H { s with heap := h' } := I.turned (t' := s.toks) (fun b o hb e => (sb.2 b hb).trans e) f0 f1 f3 f4 f5
    obtain ⟨o, e, c, d⟩ := id st'
    exact ⟨u, rfl, go_of (s := { s with heap := h' }) e c d (by decide) ⟨x, H, I1, ru, ⟨rfl, fun ys hy => by rw [I.tuple_inj hy hq]; exact hx⟩, st', fun b hb => (hf b hb).1⟩⟩
  done := by
    intro X hP hw hK hc i pins s σ H E I hf st hg
    subst hP hw hK
    obtain ⟨xs, hq, hx⟩ := hg
    obtain ⟨its, rv, p, hz⟩ := I.tuple hq
    obtain ⟨f0, f1, f2, f3, f4, f5⟩ := hf it (by simp)
    have hl := rv.length
    exact wpAny_pyNext_tuple_end (I.ok.hd hc) st (show s.heap.IsTuple a its.toArray from p) (by simp; omega) fun h' eb => ⟨rfl, I.turned (t' := s.toks) (fun b o hb e => eb b o hb e) f0 f1 f3 f4 f5⟩
  self := fun _ _ _ _ _ st h => wpAny_pyIter_tupleiter st h
theorem turn_range {P : Program} {w : World} {K : PySem.W.Frag} {tg : Expr} (it : Addr) (lo : Int) (n : Nat) : Turn P w K tg (Itr lo n) [it] it (fun i h => IsRangeIter h it (lo + (i : Nat) * 1) ((n : Int) - (i : Nat)) 1) where
  mem := by simp
  obj := fun i h st b hb => by
    have e : b = it := by simpa using hb
    subst e
    exact ⟨_, st, fun v z => by
      have z' : Data.fields _ = Data.cell v := z
      cases z'⟩
  keep := fun i h h' st k => k it (by simp) _ st
  item := by
    intro X hP hw hK hc i pins s σ H E I hf st hg
    subst hP hw hK
    obtain ⟨f0, f1, f2, f3, f4, f5⟩ := hf it (by simp)
    have W := Walks.range (prog := X.prog) (w := X.w) (I.ok.hd hc) it lo 1 n
    refine W.item i s _ _ hg st fun v h' tk hv st' kk => ?_
    obtain ⟨t, rfl⟩ := hv
    have I1 : Inv X pins σ H { s with heap := h', toks := tk } := I.turned (fun b o hb e => kk b o (by simpa using hb) e) f0 f1 f3 f4 f5
    refine ⟨_, rfl, go_of (s := { s with heap := h', toks := tk }) (n := "range_iterator") st' rfl rfl (by decide) ⟨.int (lo + i), H, I1, ⟨t, ?_⟩, ⟨rfl, rfl⟩, st', fun b hb => (hf b hb).1⟩⟩
    rw [Int.mul_one]
  done := by
    intro X hP hw hK hc i pins s σ H E I hf st hg
    subst hP hw hK
    obtain ⟨f0, f1, f2, f3, f4, f5⟩ := hf it (by simp)
    exact wpAny_pyNext_range_end (I.ok.hd hc) st (by have : n ≤ i := hg; omega) fun h' eb => ⟨rfl, I.turned (t' := s.toks) (fun b o hb e => eb b o hb e) f0 f1 f3 f4 f5⟩
  self := fun _ _ _ _ _ st h => wpAny_pyIter_rangeiter st h
end L2

namespace L2
open PySem PySem.Spec PyProof.Rows
section
variable {X : Cx} {tg : Expr}
def iList (K : PySem.W.Frag) (tl : TE) : TI := fun σ H R => tl σ H fun x H1 => ∃ a, x = .ref a ∧ (∃ xs, SqL K H1 a xs) ∧ R (Itl K a) H1
def iTup (K : PySem.W.Frag) (tl : TE) : TI := fun σ H R => tl σ H fun x H1 => ∃ a, x = .ref a ∧ (∃ xs, SqT K H1 a xs) ∧ R (Itt K a) H1
theorem pi_list {l : Expr} {tl : TE} (hl : PE X l tl) : PI X tg l (iList X.K tl) := by
  intro pins s σ H R I h
  refine thn (hl pins s σ H _ I h) fun v s1 ⟨x, H1, I1, r1, q1⟩ => ?_
  obtain ⟨a, e, ⟨xs, hq⟩, q⟩ := q1
  subst e
  cases r1
  obtain ⟨its, rv, p, hz⟩ := I1.list hq
  refine wpAny_pyIter_list p.isList ?_
  refine ⟨s1.heap.objs.size, [s1.heap.objs.size], _, _, H1, rfl, I1.kept (t' := s1.toks) fun b o e => Heap.get?_push_of_some _ e, turn_list a _, ⟨_, Heap.get?_push_size _ rfl, rfl, rfl⟩, fun b hb => ?_, q⟩
  have e : b = s1.heap.objs.size := by simpa using hb
  subst e
  exact I1.fpOk (Nat.le_refl _) (I1.hok.fresh (Nat.le_refl _))
theorem pi_tup {l : Expr} {tl : TE} (hl : PE X l tl) : PI X tg l (iTup X.K tl) := by
  intro pins s σ H R I h
  refine thn (hl pins s σ H _ I h) fun v s1 ⟨x, H1, I1, r1, q1⟩ => ?_
  obtain ⟨a, e, ⟨xs, hq⟩, q⟩ := q1
  subst e
  cases r1
  obtain ⟨its, rv, p, hz⟩ := I1.tuple hq
  refine wpAny_pyIter_tuple (show s1.heap.IsTuple a its.toArray from p) ?_
  refine ⟨s1.heap.objs.size, [s1.heap.objs.size], _, _, H1, rfl, I1.kept (t' := s1.toks) fun b o e => Heap.get?_push_of_some _ e, turn_tuple a _, ⟨_, Heap.get?_push_size _ rfl, rfl, rfl⟩, fun b hb => ?_, q⟩
  have e : b = s1.heap.objs.size := by simpa using hb
  subst e
  exact I1.fpOk (Nat.le_refl _) (I1.hok.fresh (Nat.le_refl _))
/-- a range object just made, walked -/
theorem range_it {pins : List (Addr × Obj)} {σ : St} {H : Hp} {s : Shared} {R : It → Hp → Prop} {E : Value → Shared → Prop} {lo hi : Int} {t u v : Tok} {tk : Nat} (I : Inv X pins σ H s) (h1 : -(2 ^ 62) ≤ lo) (h2 : lo < 2 ^ 62) (h3 : -(2 ^ 62) ≤ hi) (h4 : hi < 2 ^ 62)
    (q : R (Itr lo (hi - lo).toNat) H) : wpAny (model X.prog X.w) X.A (pyIter (.ref s.heap.objs.size)) (PIE X pins σ tg R) E { s with heap := s.heap.push { cls := .type "range", data := .fields #[.int lo t, .int hi u, .int 1 v] }, toks := tk } := by
  refine wpAny_pyIter_range (IsRange.new ..) (small_one h1 h2 h3 h4) ?_
  have I1 : Inv X pins σ H { s with heap := s.heap.push { cls := .type "range", data := .fields #[.int lo t, .int hi u, .int 1 v] }, toks := tk } := I.kept fun b o e => Heap.get?_push_of_some _ e
  refine ⟨(s.heap.push { cls := .type "range", data := .fields #[.int lo t, .int hi u, .int 1 v] }).objs.size, [(s.heap.push { cls := .type "range", data := .fields #[.int lo t, .int hi u, .int 1 v] }).objs.size], _, _, H, rfl,
    I1.kept (t' := tk) fun b o e => Heap.get?_push_of_some _ e, turn_range _ lo (hi - lo).toNat, ?_, fun b hb => ?_, q⟩
  · have e1 : lo + ((0 : Nat) : Int) * 1 = lo := by simp
    have e2 : (((hi - lo).toNat : Nat) : Int) - ((0 : Nat) : Int) = Builtin.Range.rangeSize lo hi 1 := by rw [rangeSize_one]; split <;> omega
    show IsRangeIter _ _ (lo + ((0 : Nat) : Int) * 1) ((((hi - lo).toNat : Nat) : Int) - ((0 : Nat) : Int)) 1
    rw [e1, e2]
    exact Heap.get?_push_size _ rfl
  · have e : b = (s.heap.push { cls := .type "range", data := .fields #[.int lo t, .int hi u, .int 1 v] }).objs.size := by simpa using hb
    subst e
    exact I1.fpOk (Nat.le_refl _) (I1.hok.fresh (Nat.le_refl _))
def iRng1 (ta : TA) : TI := fun σ H R => ta σ H fun vs H1 => ∃ j : Int, vs = [.int j] ∧ -(2 ^ 62) ≤ j ∧ j < 2 ^ 62 ∧ R (Itr 0 j.toNat) H1
theorem pi_range1 {a : Expr} {ta : TA} {p pos : Pos} (hg : Gl X "range") (hm : X.mg "range" = none) (ha : PA X [a] ta) (hs : starEach [a] X.env = [(false, eval a X.env)] := by rfl) : PI X tg (.Call (.Name "range" p) [a] [] pos) (iRng1 ta) := by
  intro pins s σ H R I h
  refine Call_ (ld_blt I hg hm boot_range (PyProof.Rows.callWith_type1 (thn (ha pos pins s σ H _ I h) fun us s1 ⟨vs, H1, I1, r1, q1⟩ => ?_) hs rfl))
  obtain ⟨j, e, q1, q2, q⟩ := q1
  subst e
  cases r1 with
  | cons r rr =>
    cases rr
    obtain ⟨t, rfl⟩ := r
    exact call_range_1 (range_it I1 (by omega) (by omega) q1 q2 (by simpa using q))
/-! ### for -/
/-- W: the invariant by the turn and a measure; N: what the body is to reach -/
def tFor (wi : TI) (g : TG) (tb : TS) : TS := fun D σ H => wi σ H fun J H1 => ∃ W : Nat → Nat → St → Hp → Prop, (∃ m, W 0 m σ H1) ∧ ∀ i m σ H, W i m σ H →
  (J.stop i H ∧ D.nx σ H) ∨ (J.go i H ∧ ∃ N : St → Hp → Prop, (∀ σ' H', N σ' H' → ∃ m', m' < m ∧ W (i + 1) m' σ' H') ∧ ∀ x H', J.yld i H x H' → g x σ H' fun σ2 H2 => tb { D with nx := N, ct := N, bk := D.nx } σ2 H2)
/-- the records at fp as they stand -/
def pinsAt (fp : List Addr) (h : Heap) : List (Addr × Obj) := fp.filterMap fun b => (h.get? b).map fun o => (b, o)
theorem mem_pinsAt {fp : List Addr} {h : Heap} {b : Addr} {o : Obj} (hb : b ∈ fp) (e : h.get? b = some o) : (b, o) ∈ pinsAt fp h := List.mem_filterMap.mpr ⟨b, hb, by rw [e]; rfl⟩
theorem of_pinsAt {fp : List Addr} {h : Heap} {p : Addr × Obj} (hp : p ∈ pinsAt fp h) : p.1 ∈ fp ∧ h.get? p.1 = some p.2 := by
  obtain ⟨b, hb, e⟩ := List.mem_filterMap.mp hp
  cases q : h.get? b with
  | none => rw [q] at e; cases e
  | some o =>
    rw [q] at e
    have e' : (b, o) = p := Option.some.inj e
    subst e'
    exact ⟨hb, q⟩
theorem Inv.pinned {pins : List (Addr × Obj)} {σ : St} {H : Hp} {s : Shared} {fp : List Addr} (I : Inv X pins σ H s) (hf : ∀ b ∈ fp, FpOk X pins H b) (ho : ∀ b ∈ fp, ∃ o, s.heap.get? b = some o ∧ ∀ v, o.data ≠ .cell v) : Inv X (pins ++ pinsAt fp s.heap) σ H s :=
  I.pins_of fun p hp => (List.mem_append.mp hp).elim (fun z => I.pin p (List.mem_append_right _ z)) fun z => by
    obtain ⟨hb, e⟩ := of_pinsAt z
    obtain ⟨f0, f1, f2, _⟩ := hf p.1 hb
    obtain ⟨o, e', d⟩ := ho p.1 hb
    rw [e] at e'; cases e'
    exact ⟨e, f0, f1, f2, d⟩
theorem Inv.unpinned {pins pl : List (Addr × Obj)} {σ : St} {H : Hp} {s : Shared} (I : Inv X (pins ++ pl) σ H s) : Inv X pins σ H s := I.pins_of fun p hp => I.pin p (List.mem_append_right _ (List.mem_append_left _ hp))
theorem ps_for {iter : Expr} {body : List Stmt} {wi : TI} {g : TG} {tb : TS} {pos : Pos} (hp : PassesOwn (model X.prog X.w) X.A X.env X.xe) (hc : X.calm = true) (hi : PI X tg iter wi) (hg : PG X tg g) (hb : PSs X body tb)
    (hs : ∀ x, foldedSetIterable iter X.env x = pure x := by intro _; rfl) : PS X (.For tg iter body [] pos) (tFor wi g tb) := by
  intro pins s σ H D I h
  refine wpAny_For (thn (hi pins s σ H _ I h) fun v s1 h1 => thn h1 fun itv s2 h2 => ?_) hs
  obtain ⟨it, fp, tn, J, H2, e, I2, T, st2, f2, W, ⟨m0, w0⟩, turn⟩ := h2
  subst e
  -- what stays true of the iterator's objects through the loop
  have stat : ∀ {H' : Hp}, (∀ b ∈ fp, H' b = none) → ∀ b ∈ fp, FpOk X pins H' b := fun hn b hb => ⟨hn b hb, (f2 b hb).2⟩
  refine codeAny_forLoop_any (fun n s' => ∃ i σ' H', Inv X pins σ' H' s' ∧ tn i s'.heap ∧ (∀ b ∈ fp, H' b = none) ∧ W i n σ' H') ?_ m0 ⟨0, σ, H2, I2, st2, fun b hb => (f2 b hb).1, w0⟩
  rintro n s3 ⟨i, σ3, H3, I3, st3, fr3, w3⟩
  rcases turn i n σ3 H3 w3 with ⟨stop, qn⟩ | ⟨go, N, hN, step⟩
  · refine wpAny_passesOwn hp (thn (T.done X rfl rfl rfl hc i pins s3 σ3 H3 X.xe I3 (stat fr3) st3 stop) fun r s4 ⟨hr, I4⟩ => ?_)
    subst hr
    exact wpAny_execs_nil ⟨σ3, H3, I4, qn⟩
  · refine wpAny_passesOwn hp (thn (T.item X rfl rfl rfl hc i pins s3 σ3 H3 X.xe I3 (stat fr3) st3 go) fun r s4 ⟨u, hr, h4⟩ => ?_)
    subst hr
    refine wpAny_passesOwn hp (thn h4 fun _ s5 ⟨x, H5, I5, r5, y5, st5, fr5⟩ => ?_)
    have I5' := I5.pinned (stat fr5) (T.obj _ _ st5)
    refine wpAny_passesOwn hp (thn (hg _ s5 σ3 H5 x u _ I5' r5 (step x H5 y5)) fun _ s6 ⟨σ6, H6, I6, q6⟩ => ?_)
    refine wpAny_passesOwn hp (thn (hb _ s6 σ6 H6 _ I6 q6) fun f s7 q7 => ?_)
    have again : ∀ {σ7 : St} {H7 : Hp}, Inv X (pins ++ pinsAt fp s5.heap) σ7 H7 s7 → N σ7 H7 → ∃ m, m < n ∧ ∃ i σ' H', Inv X pins σ' H' s7 ∧ tn i s7.heap ∧ (∀ b ∈ fp, H' b = none) ∧ W i m σ' H' := fun {σ7 H7} I7 n7 => by
      obtain ⟨m', hm, w7⟩ := hN σ7 H7 n7
      refine ⟨m', hm, i + 1, σ7, H7, I7.unpinned, T.keep _ _ _ st5 fun b hb o e => (I7.pin (b, o) (List.mem_append_right _ (List.mem_append_right _ (mem_pinsAt hb e)))).1, fun b hb => ?_, w7⟩
      obtain ⟨o, e, d⟩ := T.obj _ _ st5 b hb
      exact (I7.pin (b, o) (List.mem_append_right _ (List.mem_append_right _ (mem_pinsAt hb e)))).2.1
    cases f with
    | next => obtain ⟨σ7, H7, I7, n7⟩ := q7; exact again I7 n7
    | cont => obtain ⟨σ7, H7, I7, n7⟩ := q7; exact again I7 n7
    | brk => obtain ⟨σ7, H7, I7, q7⟩ := q7; exact ⟨σ7, H7, I7.unpinned, q7⟩
    | ret v => obtain ⟨x7, σ7, H7, I7, r7, q7⟩ := q7; exact ⟨x7, σ7, H7, I7.unpinned, r7, q7⟩
end

/-! ### the forms one uses -/
/-- over a list that the body leaves as it is -/
theorem for_list {K : PySem.W.Frag} {a : Addr} {xs : List V} {g : TG} {tb : TS} {D : Ends} {σ : St} {H : Hp} (Pv : Nat → St → Hp → Prop) (h0 : Pv 0 σ H) (hl : ∀ i σ H, i ≤ xs.length → Pv i σ H → SqL K H a xs)
    (hs : ∀ i x σ H, xs[i]? = some x → Pv i σ H → g x σ H fun σ2 H2 => tb { D with nx := Pv (i + 1), ct := Pv (i + 1), bk := D.nx } σ2 H2) (hd : ∀ σ H, Pv xs.length σ H → D.nx σ H) :
    ∃ W : Nat → Nat → St → Hp → Prop, (∃ m, W 0 m σ H) ∧ ∀ i m σ H, W i m σ H →
      ((Itl K a).stop i H ∧ D.nx σ H) ∨ ((Itl K a).go i H ∧ ∃ N : St → Hp → Prop, (∀ σ' H', N σ' H' → ∃ m', m' < m ∧ W (i + 1) m' σ' H') ∧ ∀ x H', (Itl K a).yld i H x H' → g x σ H' fun σ2 H2 => tb { D with nx := N, ct := N, bk := D.nx } σ2 H2) := by
  refine ⟨fun i m σ H => m = xs.length - i ∧ i ≤ xs.length ∧ Pv i σ H, ⟨xs.length, by simp, Nat.zero_le _, h0⟩, ?_⟩
  rintro i m σ H ⟨rfl, hi, p⟩
  have q := hl i σ H hi p
  by_cases hlt : i < xs.length
  · refine .inr ⟨⟨xs, xs[i], q, by simp [hlt]⟩, Pv (i + 1), fun σ' H' p' => ⟨xs.length - (i + 1), by omega, rfl, hlt, p'⟩, fun x H' y => ?_⟩
    obtain ⟨e, y⟩ := y
    subst e
    exact hs i x σ _ (y xs q) p
  · have e : i = xs.length := by omega
    subst e
    exact .inl ⟨⟨xs, q, Nat.le_refl _⟩, hd σ H p⟩
theorem for_range {lo : Int} {n : Nat} {g : TG} {tb : TS} {D : Ends} {σ : St} {H : Hp} (Pv : Nat → St → Hp → Prop) (h0 : Pv 0 σ H)
    (hs : ∀ i σ H, i < n → Pv i σ H → g (.int (lo + i)) σ H fun σ2 H2 => tb { D with nx := Pv (i + 1), ct := Pv (i + 1), bk := D.nx } σ2 H2) (hd : ∀ σ H, Pv n σ H → D.nx σ H) :
    ∃ W : Nat → Nat → St → Hp → Prop, (∃ m, W 0 m σ H) ∧ ∀ i m σ H, W i m σ H →
      ((Itr lo n).stop i H ∧ D.nx σ H) ∨ ((Itr lo n).go i H ∧ ∃ N : St → Hp → Prop, (∀ σ' H', N σ' H' → ∃ m', m' < m ∧ W (i + 1) m' σ' H') ∧ ∀ x H', (Itr lo n).yld i H x H' → g x σ H' fun σ2 H2 => tb { D with nx := N, ct := N, bk := D.nx } σ2 H2) := by
  refine ⟨fun i m σ H => m = n - i ∧ i ≤ n ∧ Pv i σ H, ⟨n, by simp, Nat.zero_le _, h0⟩, ?_⟩
  rintro i m σ H ⟨rfl, hi, p⟩
  by_cases hlt : i < n
  · refine .inr ⟨hlt, Pv (i + 1), fun σ' H' p' => ⟨n - (i + 1), by omega, rfl, hlt, p'⟩, fun x H' y => ?_⟩
    obtain ⟨e, y⟩ := y
    subst e y
    exact hs i σ _ hlt p
  · have e : i = n := by omega
    subst e
    exact .inl ⟨Nat.le_refl _, hd σ H p⟩
end L2

namespace L2
open PySem PySem.Spec PyProof.Rows

abbrev R2 := V → V → Hp → VK → Prop
/-- a two-place operation on values: f is binaryOp op, inplaceOp op or compareOp op -/
def OpR (X : Cx) (f : Value → Value → Sem Value) (r : R2) : Prop :=
  ∀ (pins : List (Addr × Obj)) (s : Shared) (σ : St) (H : Hp) (x y : V) (v u : Value) (Q : VK), Inv X pins σ H s → RelV x v → RelV y u → r x y H Q →
    wpAny (model X.prog X.w) X.A (f v u) (EP X pins σ Q) X.xe s
/-- a one-place operation -/
def UnR (X : Cx) (f : Value → Sem Value) (r : V → Hp → VK → Prop) : Prop :=
  ∀ (pins : List (Addr × Obj)) (s : Shared) (σ : St) (H : Hp) (x : V) (v : Value) (Q : VK), Inv X pins σ H s → RelV x v → r x H Q →
    wpAny (model X.prog X.w) X.A (f v) (EP X pins σ Q) X.xe s
/-- a call of a value that is known (a builtin, a type) with values -/
def CallR (X : Cx) (f : Value) (r : List V → Hp → VK → Prop) : Prop :=
  ∀ (pins : List (Addr × Obj)) (s : Shared) (σ : St) (H : Hp) (xs : List V) (us : List Value) (Q : VK), Inv X pins σ H s → Vals xs us → r xs H Q →
    wpAny (model X.prog X.w) X.A (call f us) (EP X pins σ Q) X.xe s
def tOp (r : R2) (ta tb : TE) : TE := fun σ H Q => ta σ H fun x H1 => tb σ H1 fun y H2 => r x y H2 Q
def tUn (r : V → Hp → VK → Prop) (ta : TE) : TE := fun σ H Q => ta σ H fun x H1 => r x H1 Q
/-- ints in, under C, and a value out -/
def rI (C : Int → Int → Prop) (g : Int → Int → V) : R2 := fun x y H Q => ∃ i j, x = .int i ∧ y = .int j ∧ C i j ∧ Q (g i j) H
def rI0 (g : Int → Int → V) : R2 := fun x y H Q => ∃ i j, x = .int i ∧ y = .int j ∧ Q (g i j) H
def rU (g : Int → V) : V → Hp → VK → Prop := fun x H Q => ∃ i, x = .int i ∧ Q (g i) H

section
variable {X : Cx} {a b c : Expr} {ta tb tc : TE} {pos : Pos}

theorem binT (ha : PE X a ta) (hb : PE X b tb) {pins : List (Addr × Obj)} {s : Shared} {σ : St} {H : Hp} {R : V → V → Hp → Prop} (I : Inv X pins σ H s)
    (h : ta σ H fun x H1 => tb σ H1 fun y H2 => R x y H2) {Q : Value → Shared → Prop} {f : Value → Value → Sem Value}
    (hf : ∀ v u s2 x y H2, Inv X pins σ H2 s2 → RelV x v → RelV y u → R x y H2 → wpAny (model X.prog X.w) X.A (f v u) Q X.xe s2) :
    wpAny (model X.prog X.w) X.A (eval a X.env) (fun v s₁ => wpAny (model X.prog X.w) X.A (eval b X.env) (fun u s₂ => wpAny (model X.prog X.w) X.A (f v u) Q X.xe s₂) X.xe s₁) X.xe s := by
  refine thn (ha pins s σ H _ I h) fun v s1 ⟨x, H1, I1, r1, q1⟩ => ?_
  refine thn (hb pins s1 σ H1 _ I1 q1) fun u s2 ⟨y, H2, I2, r2, q2⟩ => ?_
  exact hf v u s2 x y H2 I2 r1 r2 q2

theorem pe_op {op : Operator} {r : R2} (ho : OpR X (binaryOp op) r) (ha : PE X a ta) (hb : PE X b tb) : PE X (.BinOp a op b pos) (tOp r ta tb) := by
  intro pins s σ H Q I h
  exact wpAny_BinOp (binT ha hb I h fun v u s2 x y H2 I2 rx ry q => ho pins s2 σ H2 x y v u Q I2 rx ry q)
theorem pe_un {op : UnaryOp} {r : V → Hp → VK → Prop} (ho : UnR X (unaryOp op) r) (ha : PE X a ta) : PE X (.UnaryOp op a pos) (tUn r ta) := by
  intro pins s σ H Q I h
  exact UnaryOp_ (thn (ha pins s σ H _ I h) fun v s1 ⟨x, H1, I1, r1, q1⟩ => ho pins s1 σ H1 x v Q I1 r1 q1)
/-! ### ints -/
theorem opI {f : Value → Value → Sem Value} {C : Int → Int → Prop} {g : Int → Int → Int}
    (rule : ∀ (i j : Int) (t u : Tok) (s : Shared) (Q : Value → Shared → Prop) (E : Value → Shared → Prop), C i j → Q (.int (g i j) s.toks) { s with toks := s.toks + 1 } → wpAny (model X.prog X.w) X.A (f (.int i t) (.int j u)) Q E s) :
    OpR X f (rI C fun i j => .int (g i j)) := by
  intro pins s σ H x y v u Q I rx ry h
  obtain ⟨i, j, rfl, rfl, hc, q⟩ := h
  obtain ⟨t, rfl⟩ := rx
  obtain ⟨t', rfl⟩ := ry
  exact rule i j t t' s _ _ hc ⟨.int (g i j), H, I.tok _, ⟨_, rfl⟩, q⟩
theorem opI0 {f : Value → Value → Sem Value} {g : Int → Int → Int}
    (rule : ∀ (i j : Int) (t u : Tok) (s : Shared) (Q : Value → Shared → Prop) (E : Value → Shared → Prop), Q (.int (g i j) s.toks) { s with toks := s.toks + 1 } → wpAny (model X.prog X.w) X.A (f (.int i t) (.int j u)) Q E s) :
    OpR X f (rI0 fun i j => .int (g i j)) := by
  intro pins s σ H x y v u Q I rx ry h
  obtain ⟨i, j, rfl, rfl, q⟩ := h
  obtain ⟨t, rfl⟩ := rx
  obtain ⟨t', rfl⟩ := ry
  exact rule i j t t' s _ _ ⟨.int (g i j), H, I.tok _, ⟨_, rfl⟩, q⟩
theorem opB0 {f : Value → Value → Sem Value} {g : Int → Int → Bool}
    (rule : ∀ (i j : Int) (t u : Tok) (s : Shared) (Q : Value → Shared → Prop) (E : Value → Shared → Prop), Q (.bool (g i j)) s → wpAny (model X.prog X.w) X.A (f (.int i t) (.int j u)) Q E s) :
    OpR X f (rI0 fun i j => .bl (g i j)) := by
  intro pins s σ H x y v u Q I rx ry h
  obtain ⟨i, j, rfl, rfl, q⟩ := h
  obtain ⟨t, rfl⟩ := rx
  obtain ⟨t', rfl⟩ := ry
  exact rule i j t t' s _ _ ⟨.bl (g i j), H, I, rfl, q⟩

def CPow (i j : Int) : Prop := 0 ≤ j ∧ j ≤ 1000000 ∧ i.natAbs < 2 ^ 64
def CMul (i j : Int) : Prop := (-(2 ^ 64) < i ∧ i < 2 ^ 64) ∨ (-(2 ^ 64) < j ∧ j < 2 ^ 64)
theorem CMul.ok {i j : Int} (h : CMul i j) : IntMulOk i j := by
  rcases h with ⟨h1, h2⟩ | ⟨h1, h2⟩
  · exact .of_left (intBits_le_64 h1 h2)
  · exact .of_right (intBits_le_64 h1 h2)
theorem op_add : OpR X (binaryOp .Add) (rI0 fun i j => .int (i + j)) := opI0 fun _ _ _ _ _ _ _ q => add_int q
theorem op_sub : OpR X (binaryOp .Sub) (rI0 fun i j => .int (i - j)) := opI0 fun _ _ _ _ _ _ _ q => sub_int q
theorem op_mul : OpR X (binaryOp .Mult) (rI CMul fun i j => .int (i * j)) := opI fun _ _ _ _ _ _ _ hc q => mul_int q hc.ok
/-- % by a positive divisor of any size -/
theorem op_mod : OpR X (binaryOp .Mod) (rI (fun _ j => 0 < j) fun i j => .int (i % j)) := opI fun i j _ _ _ _ _ hc q => by
  have h1 : (0 : Int) < j := hc
  exact mod_int' (by omega) (by rw [Int.fmod_eq_emod_of_nonneg i (by omega)]; exact q)
theorem op_pow : OpR X (binaryOp .Pow) (rI CPow fun i j => .int (i ^ j.toNat)) := opI fun _ _ _ _ _ _ _ hc q => pow_int_small hc.1 hc.2.1 hc.2.2 q
theorem unI {f : Value → Sem Value} {g : Int → Int}
    (rule : ∀ (i : Int) (t : Tok) (s : Shared) (Q : Value → Shared → Prop) (E : Value → Shared → Prop), Q (.int (g i) s.toks) { s with toks := s.toks + 1 } → wpAny (model X.prog X.w) X.A (f (.int i t)) Q E s) :
    UnR X f (rU fun i => .int (g i)) := by
  intro pins s σ H x v Q I rx h
  obtain ⟨i, rfl, q⟩ := h
  obtain ⟨t, rfl⟩ := rx
  exact rule i t s _ _ ⟨.int (g i), H, I.tok _, ⟨_, rfl⟩, q⟩
theorem un_neg : UnR X (unaryOp .USub) (rU fun i => .int (-i)) := unI fun _ _ _ _ _ q => neg_int q
/-! ### bools among ints: n += (a < b) -/
end

/-! ### comparisons -/
/-- the scalars that == tells apart as data does -/
def scal : V → V → Bool
  | .non, .non => true | .non, .int _ => true | .int _, .non => true | .non, .bl _ => true | .bl _, .non => true | .non, .str _ => true | .str _, .non => true
  | .int _, .int _ => true | .bl _, .bl _ => true | .str _, .str _ => true | .byt _, .byt _ => true
  | .int _, .str _ => true | .str _, .int _ => true | .bl _, .str _ => true | .str _, .bl _ => true
  | _, _ => false
def rEq : R2 := fun x y H Q => scal x y = true ∧ Q (.bl (decide (x = y))) H
def rNe : R2 := fun x y H Q => scal x y = true ∧ Q (.bl (!decide (x = y))) H

theorem dec_int {i j : Int} : decide (V.int i = V.int j) = (i == j) := by
  rw [Bool.eq_iff_iff]
  simp
theorem dec_bl {i j : Bool} : decide (V.bl i = V.bl j) = (i == j) := by
  rw [Bool.eq_iff_iff]
  simp
theorem dec_str {i j : Str} : decide (V.str i = V.str j) = (i == j) := by
  rw [Bool.eq_iff_iff]
  simp
theorem dec_byt {i j : Array UInt8} : decide (V.byt i = V.byt j) = (i.toList == j.toList) := by
  rw [Bool.eq_iff_iff]
  cases i
  cases j
  simp

section
variable {X : Cx} {a b c : Expr} {ta tb tc : TE} {pos : Pos}
theorem fin_bl {pins : List (Addr × Obj)} {σ : St} {H : Hp} {s : Shared} {Q : VK} {k k' : Bool} (I : Inv X pins σ H s) (q : Q (.bl k) H) (e : k = k') : EP X pins σ Q (.bool k') s := by
  subst e
  exact ⟨.bl k, H, I, rfl, q⟩
theorem op_eq : OpR X (compareOp .Eq) rEq := by
  intro pins s σ H x y v u Q I rx ry h
  obtain ⟨hs, q⟩ := h
  cases x with
  | non =>
    cases rx
    cases y with
    | non => cases ry; exact PySem.EqNone.eq_none_none (fin_bl I q (by simp))
    | bl j => cases ry; exact PySem.EqNone.eq_none_bool (fin_bl I q (by simp))
    | int j => obtain ⟨t', rfl⟩ := ry; exact PySem.EqNone.eq_none_int (fin_bl I q (by simp))
    | str j => obtain ⟨t', rfl⟩ := ry; exact PySem.EqNone.eq_none_str (fin_bl I q (by simp))
    | _ => exact absurd (show false = true from hs) Bool.false_ne_true
  | bl i =>
    cases rx
    cases y with
    | non => cases ry; exact PySem.EqNone.eq_bool_none (fin_bl I q (by simp))
    | bl j => cases ry; exact eq_bool (fin_bl I q dec_bl)
    | str j => obtain ⟨t', rfl⟩ := ry; exact PySem.EqMixed.eq_bool_str (fin_bl I q (by simp))
    | _ => exact absurd (show false = true from hs) Bool.false_ne_true
  | int i =>
    obtain ⟨t, rfl⟩ := rx
    cases y with
    | non => cases ry; exact PySem.EqNone.eq_int_none (fin_bl I q (by simp))
    | int j => obtain ⟨t', rfl⟩ := ry; exact eq_int (fin_bl I q dec_int)
    | str j => obtain ⟨t', rfl⟩ := ry; exact PySem.EqMixed.eq_int_str (fin_bl I q (by simp))
    | _ => exact absurd (show false = true from hs) Bool.false_ne_true
  | str i =>
    obtain ⟨t, rfl⟩ := rx
    cases y with
    | non => cases ry; exact PySem.EqNone.eq_str_none (fin_bl I q (by simp))
    | bl j => cases ry; exact PySem.EqMixed.eq_str_bool (fin_bl I q (by simp))
    | int j => obtain ⟨t', rfl⟩ := ry; exact PySem.EqMixed.eq_str_int (fin_bl I q (by simp))
    | str j => obtain ⟨t', rfl⟩ := ry; exact eq_str (fin_bl I q dec_str)
    | _ => exact absurd (show false = true from hs) Bool.false_ne_true
  | byt i =>
    obtain ⟨t, rfl⟩ := rx
    cases y with
    | byt j => obtain ⟨t', rfl⟩ := ry; exact PySem.W.eq_bytes (fin_bl I q dec_byt)
    | _ => exact absurd (show false = true from hs) Bool.false_ne_true
  | _ => cases y <;> exact absurd (show false = true from hs) Bool.false_ne_true
theorem op_ne : OpR X (compareOp .NotEq) rNe := by
  intro pins s σ H x y v u Q I rx ry h
  obtain ⟨hs, q⟩ := h
  cases x with
  | non =>
    cases rx
    cases y with
    | non => cases ry; exact PySem.EqNone.ne_none_none (fin_bl I q (by simp))
    | bl j => cases ry; exact PySem.EqNone.ne_none_bool (fin_bl I q (by simp))
    | int j => obtain ⟨t', rfl⟩ := ry; exact PySem.EqNone.ne_none_int (fin_bl I q (by simp))
    | str j => obtain ⟨t', rfl⟩ := ry; exact PySem.EqNone.ne_none_str (fin_bl I q (by simp))
    | _ => exact absurd (show false = true from hs) Bool.false_ne_true
  | bl i =>
    cases rx
    cases y with
    | non => cases ry; exact PySem.EqNone.ne_bool_none (fin_bl I q (by simp))
    | bl j => cases ry; exact ne_bool (fin_bl I q (congrArg not dec_bl))
    | str j => obtain ⟨t', rfl⟩ := ry; exact PySem.EqMixed.ne_bool_str (fin_bl I q (by simp))
    | _ => exact absurd (show false = true from hs) Bool.false_ne_true
  | int i =>
    obtain ⟨t, rfl⟩ := rx
    cases y with
    | non => cases ry; exact PySem.EqNone.ne_int_none (fin_bl I q (by simp))
    | int j => obtain ⟨t', rfl⟩ := ry; exact ne_int (fin_bl I q (congrArg not dec_int))
    | str j => obtain ⟨t', rfl⟩ := ry; exact PySem.EqMixed.ne_int_str (fin_bl I q (by simp))
    | _ => exact absurd (show false = true from hs) Bool.false_ne_true
  | str i =>
    obtain ⟨t, rfl⟩ := rx
    cases y with
    | non => cases ry; exact PySem.EqNone.ne_str_none (fin_bl I q (by simp))
    | bl j => cases ry; exact PySem.EqMixed.ne_str_bool (fin_bl I q (by simp))
    | int j => obtain ⟨t', rfl⟩ := ry; exact PySem.EqMixed.ne_str_int (fin_bl I q (by simp))
    | str j => obtain ⟨t', rfl⟩ := ry; exact ne_str (fin_bl I q (congrArg not dec_str))
    | _ => exact absurd (show false = true from hs) Bool.false_ne_true
  | byt i =>
    obtain ⟨t, rfl⟩ := rx
    cases y with
    | byt j => obtain ⟨t', rfl⟩ := ry; exact PySem.W.ne_bytes (fin_bl I q (congrArg not dec_byt))
    | _ => exact absurd (show false = true from hs) Bool.false_ne_true
  | _ => cases y <;> exact absurd (show false = true from hs) Bool.false_ne_true

theorem op_lt : OpR X (compareOp .Lt) (rI0 fun i j => .bl (decide (i < j))) := opB0 fun _ _ _ _ _ _ _ q => lt_int q
theorem op_le : OpR X (compareOp .LtE) (rI0 fun i j => .bl (decide (i ≤ j))) := opB0 fun _ _ _ _ _ _ _ q => le_int q
theorem op_ge : OpR X (compareOp .GtE) (rI0 fun i j => .bl (decide (j ≤ i))) := opB0 fun _ _ _ _ _ _ _ q => ge_int q
theorem nomark (b : Expr) {op : CmpOp} (h : op ≠ .In := by decide) (h2 : op ≠ .NotIn := by decide) : behindInMarks op b = false := by
  have e1 : (op == CmpOp.In) = false := by cases op <;> first | rfl | exact absurd rfl h
  have e2 : (op == CmpOp.NotIn) = false := by cases op <;> first | rfl | exact absurd rfl h2
  cases b <;> simp [behindInMarks, e1, e2]
/-- a comparison as a value; hm: nomark b, or (for in, not in) by with_unfolding_all rfl -/
theorem pe_cmpR {op : CmpOp} {r : R2} (ho : OpR X (compareOp op) r) (ha : PE X a ta) (hb : PE X b tb) (hm : behindInMarks op b = false) : PE X (.Compare a [op] [b] pos) (tOp r ta tb) := by
  intro pins s σ H Q I h
  exact wpAny_Compare1 (binT ha hb I h fun v u s2 x y H2 I2 rx ry q => ho pins s2 σ H2 x y v u Q I2 rx ry q) hm
/-- a reading of a value as a test -/
def tTest (t : TE) : TT := fun σ H Q => t σ H fun x H' => ∃ k, x = .bl k ∧ Q k H'
theorem pt_cmpR {op : CmpOp} {r : R2} (ho : OpR X (compareOp op) r) (ha : PE X a ta) (hb : PE X b tb) (hm : behindInMarks op b = false) : PT X (.Compare a [op] [b] pos) (tTest (tOp r ta tb)) := by
  intro pins s σ H Q I h
  refine wpAny_isTrue_Compare1 (thn (ha pins s σ H _ I h) fun v s1 ⟨x, H1, I1, r1, q1⟩ => thn (hb pins s1 σ H1 _ I1 q1) fun u s2 ⟨y, H2, I2, r2, q2⟩ =>
    thn (ho pins s2 σ H2 x y v u _ I2 r1 r2 q2) fun c s3 ⟨z, H3, I3, r3, k, e, q3⟩ => ?_) hm
  subst e
  cases r3
  exact wpAny_truthy_bool ⟨H3, I3, q3⟩
/-- a op1 b op2 c -/
def tChain (r r' : R2) (ta tb tc : TE) : TE := fun σ H Q => ta σ H fun x H1 => tb σ H1 fun y H2 => r x y H2 fun z H3 => ∃ k, z = .bl k ∧
  (if k = true then tc σ H3 fun w' H4 => r' y w' H4 Q else Q (.bl false) H3)
theorem pe_chain {op op' : CmpOp} {r r' : R2} (ho : OpR X (compareOp op) r) (ho' : OpR X (compareOp op') r') (ha : PE X a ta) (hb : PE X b tb) (hc : PE X c tc)
    (hm : lastMarks [op, op'] [b, c] = false := by with_unfolding_all rfl) : PE X (.Compare a [op, op'] [b, c] pos) (tChain r r' ta tb tc) := by
  intro pins s σ H Q I h
  refine Compare_chain (thn (ha pins s σ H _ I h) fun v s1 ⟨x, H1, I1, r1, q1⟩ => chain_link (thn (hb pins s1 σ H1 _ I1 q1) fun u s2 ⟨y, H2, I2, r2, q2⟩ =>
    thn (ho pins s2 σ H2 x y v u _ I2 r1 r2 q2) fun d s3 ⟨z, H3, I3, r3, k, e, q3⟩ => ?_)) hm
  subst e
  cases r3
  refine wpAny_truthy_bool ?_
  cases k with
  | false => exact ite_ff ⟨.bl false, H3, I3, rfl, q3⟩
  | true => exact ite_tt (chain_last (thn (hc pins s3 σ H3 _ I3 q3) fun w' s4 ⟨z', H4, I4, r4, q4⟩ => ho' pins s4 σ H4 y z' u w' Q I4 r2 r4 q4))
/-! ### truth -/
theorem line63 : (sizeLine : Nat) < 2 ^ 63 := by rw [sizeLine_eq]; decide
/-! ### strs and bytes -/
/-! ### scalar builtins, by CallR -/
theorem vals1 {x : V} {us : List Value} (r : Vals [x] us) : ∃ u, us = [u] ∧ RelV x u := by
  cases r with
  | cons r1 r2 => cases r2; exact ⟨_, rfl, r1⟩
theorem vals2 {x y : V} {us : List Value} (r : Vals [x, y] us) : ∃ u w', us = [u, w'] ∧ RelV x u ∧ RelV y w' := by
  cases r with
  | cons r1 r2 =>
    cases r2 with
    | cons r3 r4 => cases r4; exact ⟨_, _, rfl, r1, r3⟩
end
end L2

namespace L2
open PySem PySem.Spec PyProof.Rows

/-! ### an instance, its attributes a map -/
structure ObjM (h : Heap) (x dx C : Addr) (mA : Str → Option Value) : Prop where
  obj : h.get? x = some (PySem.W.instObj C dx)
  ns : h.Ns1 dx mA
  ne : dx ≠ x

theorem lookIn_ns {h : Heap} {dx : Addr} {mA : Str → Option Value} (n : h.Ns1 dx mA) : ∃ od, h.get? dx = some od ∧ ∀ name, PySem.W.lookIn name od = some (mA name) := by
  obtain ⟨o, es, ep, ho, hd, hk, _, hm⟩ := n
  refine ⟨o, ho, fun name => ?_⟩
  have e := hm name
  unfold nsFind findBy at e
  rw [← Array.find?_toList] at e
  unfold PySem.W.lookIn
  rw [hd]
  dsimp only
  split
  · rename_i y q
    rw [q] at e
    exact congrArg some e
  · rename_i q
    rw [q] at e
    have a : es.toList.any (·.refKey) = false := by
      rw [List.any_eq_false]
      intro y hy
      obtain ⟨z, t, hkey⟩ := hk y (Array.mem_toList_iff.mp hy)
      simp [DictEntry.refKey, hkey]
    have a' : ¬ es.toList.any (·.refKey) = true := by rw [a]; exact Bool.false_ne_true
    rw [if_neg a']
    exact congrArg some e

theorem ObjM.look {h : Heap} {x dx C : Addr} {mA : Str → Option Value} (I : ObjM h x dx C mA) : ∃ od, PySem.W.InstAt h x (PySem.W.instObj C dx) C (some od) ∧ ∀ name, PySem.W.lookIn name od = some (mA name) :=
  let ⟨od, ho, hl⟩ := lookIn_ns I.ns
  ⟨od, ⟨I.obj, rfl, rfl, ho⟩, hl⟩

section
variable {prog : Program} {w : World} {A : Around} {E : Value → Shared → Prop} {s : Shared} {K : PySem.W.Frag} {x dx C f : Addr} {mA : Str → Option Value} {name : Str} {v : Value}

theorem get_map {expr : Bool} {Q : Value → Shared → Prop} (X : K.In s.heap) (I : ObjM s.heap x dx C mA) (hg : PySem.W.plainGet K C name = true) (hh : PySem.W.hasDictIn K C = true)
    (ha : PySem.W.findIn K (.ref C) name = some none) (hv : mA name = some v) (hv' : PySem.W.handedIn v = true) (h : Q v { s with toks := s.toks + 1 }) :
    wpAny (model prog w) A (getAttr (.ref x) name expr) Q E s := by
  obtain ⟨od, J, hl⟩ := I.look
  exact PySem.W.get_value X J (PySem.W.plainGet_of hg).1 (PySem.W.findObj_own hh ha rfl (by rw [hl, hv])) hv' h

theorem get_meth {pl : Sem Bool} {Q : Value × List Value → Shared → Prop} (X : K.In s.heap) (I : ObjM s.heap x dx C mA) (hg : PySem.W.plainGet K C name = true)
    (hf : PySem.W.findIn K (.ref C) name = some (some (.ref f))) (ht : PySem.W.isFn K (.ref f) = true) (hv : mA name = none) (h : Q (.ref f, [.ref x]) s) :
    wpAny (model prog w) A (getMethod (.ref x) name pl) Q E s := by
  obtain ⟨od, J, hl⟩ := I.look
  exact PySem.W.method_fn X J (PySem.W.plainGet_of hg).1 (PySem.W.plainGet_of hg).2 hf (beq_iff_eq.mp ht) (by show (PySem.W.lookIn name od).map (·.isSome) = some false; rw [hl, hv]; rfl) h

theorem set_map {ns : List Str} {Q : Unit → Shared → Prop} (X : K.In s.heap) (I : ObjM s.heap x dx C mA)
    (hs : PySem.W.findIn K (.ref C) "__setattr__" = some (some (.builtin "object.__setattr__"))) (hp : PySem.W.plainOver K C = true) (ht : PySem.W.takerIn K C name = some none) (hh : PySem.W.hasDictIn K C = true)
    (hw : PySem.Within mA ns) (hsz : ns.length ≤ sizeLine)
    (h : ∀ h', ObjM h' x dx C (fun y => if y = name then some v else mA y) → Heap.SameBut dx s.heap h' → Q () { s with heap := h', toks := s.toks + 2 }) :
    wpAny (model prog w) A (setAttr (.ref x) name v) Q E s := by
  obtain ⟨od, J, hl⟩ := I.look
  refine PySem.W.set_plain X J hs (PySem.W.osa_open (s := { s with toks := s.toks + 1 }) (r := none) X J hp ht fun b => ?_)
  obtain ⟨cd, hc, hd'⟩ := PySem.W.any_some hh
  have hx : s.heap.get? x = some ⟨.ref C, some dx, .plain, #[]⟩ := I.obj
  refine wpAny_bind (wpAny_pure (wpAny_bind (wpAny_bind (wpAny_loadPart hx (wpAny_bind (PySem.W.Looks.here (s := { s with toks := s.toks + 1 }) (PySem.W.looks_clsIn X hc) ?_))))))
  rw [hd']
  refine wpAny_pure (a := some dx) (wpAny_bind (wpAny_pure (wpAny_bind ?_)))
  refine wpAny_nsSet1 (s := { s with toks := s.toks + 1 }) I.ns fun h' hn2 hs2 => ?_
  obtain ⟨oD, esD, epD, hoD, hdD, hcD⟩ := hn2.count (PySem.Within.cons name v hw)
  refine wpAny_bind (wpAny_lookBehind hoD (by rw [hdD]; exact pastItsLine_dict (Nat.le_trans hcD (by rw [List.length_cons]; omega))) ?_)
  exact wpAny_pure (h _ ⟨(hs2.2 _ (Ne.symm I.ne)).trans I.obj, hn2, I.ne⟩ hs2)

/-- C(..): the dict at the heap's end, the instance behind it; then its __init__ -/
theorem make_map {R : Result → Shared → Prop} {vs : List Value} {kw : List (Str × Value)} (X : K.In s.heap) (hm : PySem.W.makesIn K C = true)
    (hi : PySem.W.findIn K (.ref C) "__init__" = some (some (.ref f))) (hf : PySem.W.typeIn K (.ref f) = some (.type "function"))
    (h : codeAny (model prog w) (A.under (.builtin "type.__call__" ⟨.ref C :: vs, kw⟩)) (.call (.ref f) ⟨.ref (s.heap.objs.size + 1) :: vs, kw⟩) (PySem.W.InitBack (s.heap.objs.size + 1) R)
      { s with heap := (s.heap.push PySem.W.emptyDict).push (PySem.W.instObj C s.heap.objs.size) }) :
    codeAny (model prog w) A (.call (.ref C) ⟨vs, kw⟩) R s := by
  obtain ⟨hh, g, d, t, os⟩ := s
  exact PySem.W.make_core (PySem.W.makes_of X hm) (PySem.W.looks_findIn X hi) (fun self => PySem.W.bind_fn X self hf) (.inl rfl) h
end

/-! ### the attributes as a list of pairs -/
def putF (f : Str) (v : V) : List (Str × V) → List (Str × V)
  | [] => [(f, v)]
  | (g, x) :: r => if g = f then (g, v) :: r else (g, x) :: putF f v r
theorem lookup_putF (f g : Str) (v : V) : ∀ fs : List (Str × V), (putF f v fs).lookup g = if g = f then some v else fs.lookup g
  | [] => by
    show List.lookup g [(f, v)] = _
    by_cases h : g = f
    · have hb : (g == f) = true := beq_iff_eq.mpr h
      simp only [List.lookup, hb, if_pos h]
    · have hb : (g == f) = false := beq_eq_false_iff_ne.mpr h
      simp only [List.lookup, hb, if_neg h]
  | (k, x) :: r => by
    have ih := lookup_putF f g v r
    rw [show putF f v ((k, x) :: r) = (if k = f then (k, v) :: r else (k, x) :: putF f v r) from rfl]
    by_cases hk : k = f
    · rw [if_pos hk]
      by_cases h : g = k
      · have hb : (g == k) = true := beq_iff_eq.mpr h
        simp only [List.lookup, hb, if_pos (h.trans hk)]
      · have hb : (g == k) = false := beq_eq_false_iff_ne.mpr h
        simp only [List.lookup, hb, if_neg (fun e : g = f => h (e.trans hk.symm))]
    · rw [if_neg hk]
      by_cases h : g = k
      · have hb : (g == k) = true := beq_iff_eq.mpr h
        simp only [List.lookup, hb, if_neg (fun e : g = f => hk (h.symm.trans e))]
      · have hb : (g == k) = false := beq_eq_false_iff_ne.mpr h
        simp only [List.lookup, hb]
        exact ih
theorem keys_putF (f : Str) (v : V) : ∀ fs : List (Str × V), f ∈ (putF f v fs).map (·.1) ∧ ∀ g, g ∈ fs.map (·.1) → g ∈ (putF f v fs).map (·.1)
  | [] => ⟨by simp [putF], fun g h => by simp at h⟩
  | (k, x) :: r => by
    obtain ⟨i1, i2⟩ := keys_putF f v r
    rw [show putF f v ((k, x) :: r) = (if k = f then (k, v) :: r else (k, x) :: putF f v r) from rfl]
    by_cases hk : k = f
    · rw [if_pos hk]
      subst hk
      exact ⟨by simp, fun g h => by simpa using h⟩
    · rw [if_neg hk]
      refine ⟨?_, fun g h => ?_⟩
      · rw [List.map_cons]
        exact List.mem_cons_of_mem _ i1
      · rw [List.map_cons] at h ⊢
        rcases List.mem_cons.mp h with e | e
        · exact List.mem_cons.mpr (.inl e)
        · exact List.mem_cons_of_mem _ (i2 g e)
theorem length_putF (f : Str) (v : V) : ∀ fs : List (Str × V), (putF f v fs).length ≤ fs.length + 1
  | [] => by simp [putF]
  | (k, x) :: r => by
    have ih := length_putF f v r
    rw [show putF f v ((k, x) :: r) = (if k = f then (k, v) :: r else (k, x) :: putF f v r) from rfl]
    by_cases hk : k = f
    · rw [if_pos hk, List.length_cons, List.length_cons]; omega
    · rw [if_neg hk, List.length_cons, List.length_cons]; omega

theorem RelO.some_of {v : V} {o : Option Value} (r : RelO (some v) o) : ∃ u, o = some u ∧ RelV v u := by
  cases o with
  | none => exact (show False from r).elim
  | some u => exact ⟨u, rfl, r⟩
theorem RelO.none_of {o : Option Value} (r : RelO none o) : o = none := by
  cases o with
  | none => rfl
  | some u => exact (show False from r).elim
theorem handed_of {v : V} {u : Value} (r : RelV v u) : PySem.W.handedIn u = true := by
  cases v with
  | non => cases (show u = Value.none from r); rfl
  | bl b => cases (show u = Value.bool b from r); rfl
  | int i => obtain ⟨t, e⟩ := (show ∃ t, u = Value.int i t from r); cases e; rfl
  | str x => obtain ⟨t, e⟩ := (show ∃ t, u = Value.str x t from r); cases e; rfl
  | byt b => obtain ⟨t, e⟩ := (show ∃ t, u = Value.bytes b t from r); cases e; rfl
  | flt b => obtain ⟨t, e⟩ := (show ∃ t, u = Value.float b t from r); cases e; rfl
  | ref a => cases (show u = Value.ref a from r); rfl
  | ty n => cases (show u = Value.type n from r); rfl

section
variable {P : Program} {w : World} {H H' : Hp} {h h' : Heap} {a C dx : Addr} {fs fs' : List (Str × V)}
theorem ins_get (hok : HOk P w H h) (e : H a = some (.ins C dx fs)) : ∃ mA, ObjM h a dx C mA ∧ (∀ f, RelO (fs.lookup f) (mA f)) ∧ PySem.Within mA (fs.map (·.1)) ∧ fs.length ≤ 1000 ∧ H dx = some (.own a) := by
  obtain ⟨d, z, ne, ob, mA, n, r, q⟩ := (show ObjOk P w H h a (.ins C dx fs) from hok a _ e)
  exact ⟨mA, ⟨ob, n, ne⟩, r, q, z, d⟩
end

/-! ### what of the text a class must have -/
structure Cls (K : PySem.W.Frag) (C : Addr) : Prop where
  pg : PySem.W.plainGet K C Str.empty = true
  hd : PySem.W.hasDictIn K C = true
  po : PySem.W.plainOver K C = true
  sa : PySem.W.findIn K (.ref C) "__setattr__" = some (some (.builtin "object.__setattr__"))
theorem Cls.get {K : PySem.W.Frag} {C : Addr} (c : Cls K C) (f : Str) : PySem.W.plainGet K C f = true := c.pg
/-- no class of it has the name -/
def NoAttr (K : PySem.W.Frag) (C : Addr) (f : Str) : Prop := PySem.W.findIn K (.ref C) f = some none
theorem NoAttr.taker {K : PySem.W.Frag} {C : Addr} {f : Str} (n : NoAttr K C f) : PySem.W.takerIn K C f = some none := by
  unfold PySem.W.takerIn
  rw [show PySem.W.findIn K (.ref C) f = some none from n]
  rfl
/-- a method: a plain def of the class or of one above it -/
structure Meth (K : PySem.W.Frag) (C : Addr) (m : Str) (f : Addr) : Prop where
  at_ : PySem.W.findIn K (.ref C) m = some (some (.ref f))
  fn : PySem.W.isFn K (.ref f) = true
  kp : PySem.W.keepIn K (.ref f) = true

section
variable {X : Cx} {pins : List (Addr × Obj)} {σ : St} {H : Hp} {s : Shared} {a C dx : Addr} {fs : List (Str × V)} {f : Str} {v : V} {A : Around} {E : Value → Shared → Prop}

theorem getattr_ok {b : Bool} {Q : Value → Shared → Prop} (I : Inv X pins σ H s) (e : H a = some (.ins C dx fs)) (c : Cls X.K C) (n : NoAttr X.K C f) (l : fs.lookup f = some v)
    (h : ∀ u s', Inv X pins σ H s' → RelV v u → Q u s') : wpAny (model X.prog X.w) A (getAttr (.ref a) f b) Q E s := by
  obtain ⟨mA, O, r, _, _, _⟩ := ins_get I.hok e
  obtain ⟨u, hu, ru⟩ := RelO.some_of (v := v) (o := mA f) (by rw [← l]; exact r f)
  exact get_map I.kIn O (c.get f) c.hd n hu (handed_of ru) (h u _ (I.tok _) ru)

theorem getmeth_ok {m : Str} {g : Addr} {pl : Sem Bool} {Q : Value × List Value → Shared → Prop} (I : Inv X pins σ H s) (e : H a = some (.ins C dx fs)) (c : Cls X.K C) (k : Meth X.K C m g) (l : fs.lookup m = none)
    (h : Q (.ref g, [.ref a]) s) : wpAny (model X.prog X.w) A (getMethod (.ref a) m pl) Q E s := by
  obtain ⟨mA, O, r, _, _, _⟩ := ins_get I.hok e
  have hn : mA m = none := RelO.none_of (by rw [← l]; exact r m)
  exact get_meth I.kIn O (c.get m) k.at_ k.fn hn h

theorem setattr_ok {y : V} {u : Value} {Q : Unit → Shared → Prop} (I : Inv X pins σ H s) (e : H a = some (.ins C dx fs)) (c : Cls X.K C) (n : NoAttr X.K C f) (hl : fs.length < 1000) (ry : RelV y u)
    (h : ∀ s', Inv X pins σ (upd H a (.ins C dx (putF f y fs))) s' → Q () s') : wpAny (model X.prog X.w) A (setAttr (.ref a) f u) Q E s := by
  obtain ⟨mA, O, r, wi, _, ho⟩ := ins_get I.hok e
  have hz : (fs.map (·.1)).length ≤ sizeLine := by rw [List.length_map, sizeLine_eq]; omega
  refine set_map I.kIn O c.sa c.po n.taker c.hd wi hz fun h' O' sb => h _ ?_
  have hd : ∃ o, h'.get? dx = some o := let ⟨o, _, _, e', _⟩ := O'.ns; ⟨o, e'⟩
  refine I.write (x := a) (e := dx) (by rw [e]; exact True.intro) (.inr ho) (fun b q hb z => (sb.2 b hb).trans z) hd ?_
  refine ⟨by rw [upd_ne O.ne]; exact ho, ?_, O.ne, O'.obj, _, O'.ns, fun g => ?_, fun g hg => ?_⟩
  · have := length_putF f y fs; omega
  · show RelO ((putF f y fs).lookup g) (if g = f then some u else mA g)
    rw [lookup_putF]
    by_cases q : g = f
    · rw [if_pos q, if_pos q]; exact ry
    · rw [if_neg q, if_neg q]; exact r g
  · by_cases q : g = f
    · rw [q]; exact (keys_putF f y fs).1
    · refine (keys_putF f y fs).2 g (wi g fun z => hg ?_)
      show (if g = f then some u else mA g) = none
      rw [if_neg q]; exact z

/-- a new instance, tracked, without attributes -/
theorem Inv.made (I : Inv X pins σ H s) : Inv X pins σ (upd (upd H s.heap.objs.size (.own (s.heap.objs.size + 1))) (s.heap.objs.size + 1) (.ins C s.heap.objs.size []))
    { s with heap := (s.heap.push PySem.W.emptyDict).push (PySem.W.instObj C s.heap.objs.size) } := by
  have e1 : (s.heap.push PySem.W.emptyDict).get? s.heap.objs.size = some PySem.W.emptyDict := Heap.get?_push_size s.heap rfl
  have e2 : ((s.heap.push PySem.W.emptyDict).push (PySem.W.instObj C s.heap.objs.size)).get? (s.heap.objs.size + 1) = some (PySem.W.instObj C s.heap.objs.size) := by
    have := Heap.get?_push_size (s.heap.push PySem.W.emptyDict) (o := PySem.W.instObj C s.heap.objs.size) rfl
    rwa [Heap.size_push] at this
  have e3 : (s.heap.push PySem.W.emptyDict).Ns s.heap.objs.size (fun _ => none) := ⟨PySem.W.emptyDict, #[], _, e1, rfl, (fun e he => absurd he (by simp)), fun _ => rfl⟩
  have I1 := I.laid (a := s.heap.objs.size) (o := .own (s.heap.objs.size + 1)) (h' := s.heap.push PySem.W.emptyDict) (t' := s.toks) (fun b u q => Heap.get?_push_of_some _ q) (Nat.le_refl _) ⟨_, e1⟩
  refine I1.laid (a := s.heap.objs.size + 1) (o := .ins C s.heap.objs.size []) (t' := s.toks) (fun b u q => Heap.get?_push_of_some _ q) (Nat.le_of_eq (Heap.size_push _ _)) ?_
  have ne : s.heap.objs.size ≠ s.heap.objs.size + 1 := Nat.ne_of_lt (Nat.lt_succ_self _)
  refine ⟨by rw [upd_ne ne, upd_same], Nat.zero_le _, ne, e2, fun _ => none, (Heap.Ns1.of_empty e3).at fun o q => Heap.get?_push_of_some _ q, fun _ => True.intro, fun y hy => absurd rfl hy⟩

/-- e.f where nothing but the object is asked: through attributeBase (super) and the last hold -/
theorem attr_of {prog : Program} {w : World} {env : Env} {e : Expr} {f : Str} {pos : Pos} {s : Shared} {Q : Value → Shared → Prop} (hb : attributeBase e f env (eval e env) = eval e env)
    (h : wpAny (model prog w) A (eval e env) (fun o s₁ => wpAny (model prog w) A (getAttr o f true) Q E s₁) E s) : wpAny (model prog w) A (eval (.Attribute e f pos) env) Q E s :=
  Attribute_any_ h (by rw [arm_eval_Attribute, hb])
end

/-! ### readings and rules -/
/-- e.f, an attribute of the instance -/
def tFld (K : PySem.W.Frag) (ta : TE) (f : Str) : TE := fun σ H Q => ta σ H fun x H1 => ∃ a C dx fs v, x = .ref a ∧ H1 a = some (.ins C dx fs) ∧ Cls K C ∧ NoAttr K C f ∧ fs.lookup f = some v ∧ Q v H1
/-- e.f = value -/
def sFld (K : PySem.W.Frag) (ta tv : TE) (f : Str) : TS := fun D σ H => tv σ H fun y H1 => ta σ H1 fun x H2 => ∃ a C dx fs, x = .ref a ∧ H2 a = some (.ins C dx fs) ∧ Cls K C ∧ NoAttr K C f ∧ fs.length < 1000 ∧
  D.nx σ (upd H2 a (.ins C dx (putF f y fs)))
section
variable {X : Cx} {o e value : Expr} {f : Str} {pos pos' tpos : Pos} {ta tv : TE}
theorem pe_fld (he : PE X e ta) (hb : attributeBase e f X.env (eval e X.env) = eval e X.env) : PE X (.Attribute e f pos) (tFld X.K ta f) := by
  intro pins s σ H Q I h
  refine attr_of hb (thn (he pins s σ H _ I h) fun u s1 ⟨x, H1, I1, rx, a, C, dx, fs, v, ex, ea, c, n, l, q⟩ => ?_)
  subst ex
  obtain rfl : u = Value.ref a := rx
  exact getattr_ok I1 ea c n l fun u' s2 I2 ru => ⟨v, H1, I2, ru, q⟩
theorem ps_fld (ha : PE X o ta) (hv : PE X value tv) (hs : swapsWith value (some (.Attribute o f pos')) pos.line X.env = pure false) : PS X (.Assign [.Attribute o f pos'] value pos) (sFld X.K ta tv f) := by
  intro pins s σ H D I h
  refine plainObj_wpAny_Assign_Attribute (thn (hv pins s σ H _ I h) fun u s1 ⟨y, H1, I1, ry, q⟩ => thn (ha pins s1 σ H1 _ I1 q) fun ov s2 ⟨x, H2, I2, rx, a, C, dx, fs, ex, ea, c, n, l, q2⟩ => ?_) hs
  subst ex
  obtain rfl : ov = Value.ref a := rx
  exact setattr_ok I2 ea c n l ry fun s3 I3 => ⟨σ, _, I3, q2⟩
end

/-! ### isinstance -/
section
variable {X : Cx} {pins : List (Addr × Obj)} {σ : St} {H : Hp} {s : Shared} {A : Around} {E : Value → Shared → Prop} {Q : Value → Shared → Prop} {c : Value} {b : Bool}
/-- the type of a value, as the fragment's deciders take it; for an instance its class -/
inductive TyOf (K : PySem.W.Frag) (H : Hp) : V → Value → Prop where
  | non : TyOf K H .non (.type "NoneType")
  | bl (x : Bool) : TyOf K H (.bl x) (.type "bool")
  | int (i : Int) : TyOf K H (.int i) (.type "int")
  | str (x : Str) : TyOf K H (.str x) (.type "str")
  | flt (x : UInt64) : TyOf K H (.flt x) (.type "float")
  | lst {a : Addr} {xs : List V} (e : H a = some (.lst xs)) : TyOf K H (.ref a) (.type "list")
  | frz {a : Addr} {o : Obj} {xs : List V} (e : H a = some (.frz o (.lst xs))) : TyOf K H (.ref a) (.type "list")
  | tup {a : Addr} {xs : List V} (e : H a = some (.tup xs)) : TyOf K H (.ref a) (.type "tuple")
  | dK {a : Addr} {kvs : List (Key × V)} (e : H a = some (.dK kvs)) : TyOf K H (.ref a) (.type "dict")
  | dT {a : Addr} {kvs : List (List Key × V)} (e : H a = some (.dT kvs)) : TyOf K H (.ref a) (.type "dict")
  | ins {a C dx : Addr} {fs : List (Str × V)} (e : H a = some (.ins C dx fs)) (cl : Cls K C) (ha : PySem.W.findIn K (.ref C) "__class__" = some (some (.builtin "object.__class__")))
      (hn : PySem.W.specialIn K (.builtin "object.__class__") "__get__" = some (some (.builtin "getset_descriptor.__get__"))) (htk : PySem.W.takesIn K (.builtin "object.__class__") = some true)
      (hm : PySem.W.mroIn K C (.type "object") = some true) : TyOf K H (.ref a) (.ref C)
/-- isinstance(x, c) for one class c, a built-in or an own one: kitOne's answer -/
theorem isinst_ok {x : V} {u t : Value} (I : Inv X pins σ H s) (rx : RelV x u) (ty : TyOf X.K H x t) (e : PySem.W.kitOne X.K t c = some b) (h : ∀ tk, Q (.bool b) { s with toks := tk }) :
    wpAny (model X.prog X.w) A (call (.builtin "isinstance") [u, c]) Q E s := by
  cases ty with
  | non => cases (show u = Value.none from rx); exact PySem.W.kia_one PySem.W.kitx_none I.kIn True.intro e (fun z => nomatch z) h
  | bl y => cases (show u = Value.bool y from rx); exact PySem.W.kia_one PySem.W.kitx_bool I.kIn True.intro e (fun z => nomatch z) h
  | int i => obtain ⟨t, q⟩ := (show ∃ t, u = Value.int i t from rx); cases q; exact PySem.W.kia_one PySem.W.kitx_int I.kIn True.intro e (fun z => nomatch z) h
  | str y => obtain ⟨t, q⟩ := (show ∃ t, u = Value.str y t from rx); cases q; exact PySem.W.kia_one PySem.W.kitx_str I.kIn True.intro e (fun z => nomatch z) h
  | flt y => obtain ⟨t, q⟩ := (show ∃ t, u = Value.float y t from rx); cases q; exact PySem.W.kia_one PySem.W.kitx_float I.kIn True.intro e (fun z => nomatch z) h
  | @lst a xs ea =>
    cases (show u = Value.ref a from rx)
    obtain ⟨_, _, n, _, h1⟩ := (show ObjOk X.prog X.w H s.heap a (.lst xs) from I.hok a _ ea)
    exact PySem.W.kia_one PySem.W.kitx_list I.kIn ⟨_, h1, rfl⟩ e (fun z => nomatch z) h
  | @frz a ob xs ea =>
    cases (show u = Value.ref a from rx)
    obtain ⟨_, _, _, n, _, h1⟩ := (show ObjOk X.prog X.w H s.heap a (.frz ob (.lst xs)) from I.hok a _ ea)
    exact PySem.W.kia_one PySem.W.kitx_list I.kIn ⟨_, h1, rfl⟩ e (fun z => nomatch z) h
  | @tup a xs ea =>
    cases (show u = Value.ref a from rx)
    obtain ⟨_, _, _, p⟩ := (show ObjOk X.prog X.w H s.heap a (.tup xs) from I.hok a _ ea)
    obtain ⟨o, h1, h2, _⟩ := p
    exact PySem.W.kia_one PySem.W.kitx_tuple I.kIn ⟨o, h1, h2⟩ e (fun z => nomatch z) h
  | @dK a kvs ea =>
    cases (show u = Value.ref a from rx)
    obtain ⟨_, _, vs, _, p⟩ := (show ObjOk X.prog X.w H s.heap a (.dK kvs) from I.hok a _ ea)
    obtain ⟨o, es, ep, h1, h2, _⟩ := p
    exact PySem.W.kia_one PySem.W.kitx_dict I.kIn ⟨o, h1, h2.1⟩ e (fun z => nomatch z) h
  | @dT a kvs ea =>
    cases (show u = Value.ref a from rx)
    obtain ⟨_, _, xs, _, o, es, ep, h1, h2, _⟩ := (show ObjOk X.prog X.w H s.heap a (.dT kvs) from I.hok a _ ea)
    exact PySem.W.kia_one PySem.W.kitx_dict I.kIn ⟨o, h1, h2.1⟩ e (fun z => nomatch z) h
  | @ins a C dx fs ea cl ha hn htk hm =>
    cases (show u = Value.ref a from rx)
    obtain ⟨mA, O, _⟩ := ins_get I.hok ea
    obtain ⟨od, J, _⟩ := O.look
    exact PySem.W.kia_one (PySem.W.kitx_own (cl.get _) cl.hd ha hn htk hm) I.kIn J e (fun z => nomatch z) h
end
end L2

namespace L2
open PySem PySem.Spec PyProof.Rows

/-! ### room -/
structure Room (k : Nat) (A : Around) : Prop where
  hd : A.handled = none
  dp : A.depth + 3 * k + 5 < recursionLimit
  un : A.units + 16 * k + 200 < cLine
theorem Room.mono {j k : Nat} {A : Around} (r : Room k A) (h : j ≤ k) : Room j A := ⟨r.hd, by have := r.dp; omega, by have := r.un; omega⟩
theorem Room.deeper {k : Nat} {A : Around} (r : Room (k + 1) A) (env : Env) : Room k (A.deeper env) :=
  ⟨r.hd, by have := r.dp; show A.depth + 1 + 3 * k + 5 < _; omega, by have := r.un; show A.units + 3 + 16 * k + 200 < _; omega⟩
theorem make_depth {A : Around} {C : Addr} {us : List Value} {kw : List (Str × Value)} : (A.under (.builtin "type.__call__" ⟨.ref C :: us, kw⟩)).depth = A.depth + 1 := by
  first | rfl | simp [Around.under, Code.weight, Code.isCreation, Code.isGuard, Code.isCaller, Code.frames, Code.isFrame, guardIds]
theorem make_units {A : Around} {C : Addr} {us : List Value} {kw : List (Str × Value)} : (A.under (.builtin "type.__call__" ⟨.ref C :: us, kw⟩)).units = A.units + 1 := by
  first | rfl | simp [Around.under, Code.cUnits, Code.frames, Code.isFrame]
theorem Room.make {k : Nat} {A : Around} (r : Room (k + 1) A) (C : Addr) (us : List Value) (kw : List (Str × Value)) : Room k (A.under (.builtin "type.__call__" ⟨.ref C :: us, kw⟩)) :=
  ⟨r.hd, by have := r.dp; rw [make_depth]; omega, by have := r.un; rw [make_units]; omega⟩
theorem Room.depth {k : Nat} {A : Around} (r : Room k A) : A.depth < recursionLimit := by have := r.dp; omega
theorem Room.units {k : Nat} {A : Around} (r : Room k A) : A.units + 64 < cLine := by have := r.un; omega
theorem Room.units0 {k : Nat} {A : Around} (r : Room k A) : A.units < cLine := by have := r.un; omega

/-! ### argument lists and displays -/
def tNil : TA := fun _ H Q => Q [] H
def tCons (ta : TE) (tr : TA) : TA := fun σ H Q => ta σ H fun x H1 => tr σ H1 fun xs H2 => Q (x :: xs) H2
section
variable {X : Cx} {e : Expr} {es : List Expr} {te : TE} {t : TA} {pos : Pos}
theorem pa_nil : PA X [] tNil := fun _ _ _ _ H Q I h => Calls.spliced_nil ⟨[], H, I, .nil, h⟩
theorem pa_cons (ha : PE X e te) (hr : PA X es t) (hs : starEach (e :: es) X.env = (false, eval e X.env) :: starEach es X.env := by rfl) : PA X (e :: es) (tCons te t) := by
  intro pos pins s σ H Q I h
  rw [hs]
  show wpAny _ _ (spliced ((false, eval e X.env) :: backTo pos (starEach es X.env))) _ _ s
  refine Calls.spliced_cons (thn (ha pins s σ H _ I h) fun u s1 ⟨x, H1, I1, r1, q1⟩ => ?_)
  exact thn (hr pos pins s1 σ H1 _ I1 q1) fun us s2 ⟨xs, H2, I2, r2, q2⟩ => ⟨x :: xs, H2, I2, .cons r1 r2, q2⟩

/-- a tuple, a list of written items -/
def tTup (t : TA) : TE := fun σ H Q => t σ H fun xs H1 => xs.length ≤ sizeLine ∧ ∀ p, H1 p = none → Q (.ref p) (upd H1 p (.tup xs))
def tLst (t : TA) : TE := fun σ H Q => t σ H fun xs H1 => xs.length ≤ sizeLine ∧ ∀ p, H1 p = none → Q (.ref p) (upd H1 p (.lst xs))
theorem pe_tup {x1} (h : PA X es t) : PE X (.Tuple es x1 pos) (tTup t) := by
  intro pins s σ H Q I hq
  refine wpAny_Tuple_spliced (thn (h pos pins s σ H _ I hq) fun us s1 ⟨xs, H1, I1, r, z, q⟩ => ⟨by rw [← r.length]; exact z, ?_⟩)
  have hf : H1 s1.heap.objs.size = none := I1.hok.fresh (Nat.le_refl _)
  refine ⟨.ref s1.heap.objs.size, upd H1 s1.heap.objs.size (.tup xs), I1.laid (t' := s1.toks) (fun b u e => Heap.get?_push_of_some _ e) (Nat.le_refl _) ?_, rfl, q _ hf⟩
  exact ⟨z, us, r, ⟨_, Heap.get?_push_size _ rfl, rfl, _, rfl⟩⟩
theorem pe_lst (h : PA X es t) : PE X (.List es pos) (tLst t) := by
  intro pins s σ H Q I hq
  refine wpAny_List_spliced (thn (h pos pins s σ H _ I hq) fun us s1 ⟨xs, H1, I1, r, z, q⟩ => ⟨by rw [← r.length]; exact z, ?_⟩)
  have hf : H1 s1.heap.objs.size = none := I1.hok.fresh (Nat.le_refl _)
  refine ⟨.ref s1.heap.objs.size, upd H1 s1.heap.objs.size (.lst xs), I1.laid (t' := s1.toks) (fun b u e => Heap.get?_push_of_some _ e) (Nat.le_refl _) ?_, rfl, q _ hf⟩
  exact ⟨z, us, 0, r, Heap.get?_push_size _ rfl⟩
end

/-! ### what a def promises -/
/-- a def's promise: the bound arguments in the parameters' order, the heap, the wanted end, the wanted exception -/
abbrev Sp := List V → Hp → VK → XK → Prop
/-- how an exception lies behind a call (file 08 gives it): the callers' frames, abstract heap and state ahead of the call, the wish, the exception, the state -/
abbrev CXT := List Env → Hp → Shared → XK → Value → Shared → Prop

/-- the state at a call -/
structure Env0 (P : Program) (w : World) (K : PySem.W.Frag) (mg : Str → Option Value) (base : Heap) (A : Around) (outer : List Env) (s : Shared) (H : Hp) : Prop where
  frames : A.frames = some outer
  mod : Mod K mg base
  bs : ∀ b o, base.get? b = some o → s.heap.get? b = some o ∧ H b = none
  bsz : base.objs.size ≤ s.heap.objs.size
  funs : s.heap.FunFrames base outer
  frf : ∀ b ∈ frs outer, H b = none
  hok : HOk P w H s.heap
  bare : AllBare s.gens
/-- a call's end -/
def CE (outer : List Env) (P : Program) (w : World) (H : Hp) (s : Shared) (Q : VK) (u : Value) (s' : Shared) : Prop :=
  ∃ v H', s'.os = s.os ∧ AllBare s'.gens ∧ Un (frs outer) [] H H' s.heap s'.heap ∧ HOk P w H' s'.heap ∧ RelV v u ∧ Q v H'
def CR (CX : CXT) (outer : List Env) (P : Program) (w : World) (H : Hp) (s : Shared) (Q : VK) (E : XK) (r : Result) (s' : Shared) : Prop :=
  match r with
  | .ok (.ret u) => CE outer P w H s Q u s'
  | .ok _ => False
  | .error e => CX outer H s E e s'
structure FnOk (P : Program) (w : World) (K : PySem.W.Frag) (mg : Str → Option Value) (base : Heap) (CX : CXT) (k : Nat) (f : Addr) (fd : FuncData) (ps : List Str) (sp : Sp) : Prop where
  len : ∀ vs H Q E, sp vs H Q E → vs.length = ps.length
  run : ∀ (A : Around) (outer : List Env) (s : Shared) (H : Hp) (args : Args) (us : List Value) (vs : List V) (Q : VK) (E : XK), Room k A → Env0 P w K mg base A outer s H → BindsTo s fd args (ps.zip us) → Vals vs us → sp vs H Q E →
    codeAny (model P w) A (.call (.ref f) args) (CR CX outer P w H s Q E) s
theorem FnOk.mono {P : Program} {w : World} {K : PySem.W.Frag} {mg : Str → Option Value} {base : Heap} {CX : CXT} {j k : Nat} {f : Addr} {fd : FuncData} {ps : List Str} {sp : Sp} (F : FnOk P w K mg base CX j f fd ps sp) (h : j ≤ k) :
    FnOk P w K mg base CX k f fd ps sp := ⟨F.len, fun A outer s H args us vs Q E hr => F.run A outer s H args us vs Q E (hr.mono h)⟩
theorem Env0.make {P : Program} {w : World} {K : PySem.W.Frag} {mg : Str → Option Value} {base : Heap} {A : Around} {outer : List Env} {s : Shared} {H : Hp} (e : Env0 P w K mg base A outer s H) (C : Addr) (us : List Value) (kw : List (Str × Value)) :
    Env0 P w K mg base (A.under (.builtin "type.__call__" ⟨.ref C :: us, kw⟩)) outer s H := ⟨by first | exact e.frames | (simpa [Around.under, Code.envs, Code.isFrame, pushEnvs] using e.frames), e.mod, e.bs, e.bsz, e.funs, e.frf, e.hok, e.bare⟩
section
variable {X : Cx} {pins : List (Addr × Obj)} {σ : St} {H : Hp} {s s' : Shared}
/-- from a body: what a callee wants -/
theorem Inv.env0 (I : Inv X pins σ H s) : Env0 X.prog X.w X.K X.mg X.base X.A X.stack s H :=
  ⟨I.ok.frames, I.ok.mod, I.bs, Nat.le_trans I.ok.bsz I.sz, I.stack, I.stkFree, I.hok, I.bare⟩
/-- behind a call -/
theorem Inv.after {Q : VK} {u : Value} (I : Inv X pins σ H s) (h : CE X.stack X.prog X.w H s Q u s') : EP X pins σ Q u s' := by
  obtain ⟨v, H', os, bare, un, hok, r, q⟩ := h
  obtain ⟨hh, g, d, t, os'⟩ := s'
  obtain rfl : os' = s.os := os
  exact ⟨v, H', I.call (h' := hh) (g' := g) (d' := d) (t' := t) (ch := []) un hok bare (fun b z => absurd z (by simp)), r, q⟩
end

/-! ### calls -/
/-- f(..): the written arguments, then the defaults dvs; E: what is wanted of an exception -/
def tCall (sp : Sp) (dvs : List V) (E : XK) (t : TA) : TE := fun σ H Q => t σ H fun vs H1 => sp (vs ++ dvs) H1 Q E
/-- o.m(..) of an instance of the class at C -/
def tMeth (C : Addr) (m : Str) (sp : Sp) (dvs : List V) (E : XK) (ta : TE) (t : TA) : TE := fun σ H Q => ta σ H fun x H1 => ∃ a dx fs, x = .ref a ∧ H1 a = some (.ins C dx fs) ∧ fs.lookup m = none ∧
  t σ H1 fun vs H2 => sp (x :: (vs ++ dvs)) H2 Q E
/-- C(..): a new instance and its dict, then __init__ -/
def tMake (C : Addr) (sp : Sp) (dvs : List V) (E : XK) (t : TA) : TE := fun σ H Q => t σ H fun vs H1 => ∀ x dx, H1 x = none → H1 dx = none → dx ≠ x →
  sp (.ref x :: (vs ++ dvs)) (upd (upd H1 dx (.own x)) x (.ins C dx [])) (fun v H2 => v = .non ∧ Q (.ref x) H2) E

/-- how the parameters are bound: us the positional arguments, kw the keywords' values by name, ds the defaults that fill up -/
def Binds (K : PySem.W.Frag) (fd : FuncData) (ps : List Str) (ds : List Value) : Prop :=
  ∀ (s : Shared) (us : List Value), K.In s.heap → (us ++ ds).length = ps.length → BindsTo s fd ⟨us, []⟩ (ps.zip (us ++ ds))
/-- every parameter is given -/
theorem Binds.all {K : PySem.W.Frag} {fd : FuncData} {ps : List Str} (h : ∀ us : List Value, us.length = ps.length → bindArgs fd ⟨us, []⟩ = pure (ps.zip us)) : Binds K fd ps [] := fun s us _ hl => by
  rw [List.append_nil] at hl ⊢
  exact .of_eq (h us hl)

/-- an exception of a callee reaches what this body wants of exceptions -/
def Passes (CX : CXT) (X : Cx) (E : XK) : Prop := ∀ (pins : List (Addr × Obj)) (σ : St) (H : Hp) (s : Shared) (e : Value) (s' : Shared), Inv X pins σ H s → CX X.stack H s E e s' → X.xe e s'

section
variable {X : Cx} {CX : CXT} {k : Nat} {f C : Addr} {fd : FuncData} {ps : List Str} {sp : Sp} {dvs : List V} {ds : List Value} {E : XK} {x m : Str} {p pos apos : Pos} {e o : Expr} {es : List Expr} {ta : TE} {t : TA}

/-- the callee runs -/
theorem run_fn {pins : List (Addr × Obj)} {σ : St} {H : Hp} {s : Shared} {Q : VK} {us : List Value} {vs : List V} (F : FnOk X.prog X.w X.K X.mg X.base CX k f fd ps sp) (hr : Room k X.A) (hb : Binds X.K fd ps ds) (hd : Vals dvs ds) (hx : Passes CX X E)
    (I : Inv X pins σ H s) (r : Vals vs us) (h : sp (vs ++ dvs) H Q E) : wpAny (model X.prog X.w) X.A (call (.ref f) us) (EP X pins σ Q) X.xe s := by
  have r2 : Vals (vs ++ dvs) (us ++ ds) := r.append hd
  have hl : (us ++ ds).length = ps.length := by rw [← r2.length]; exact F.len _ _ _ _ h
  refine wpAny_call (codeAny_mono (F.run X.A X.stack s H ⟨us, []⟩ (us ++ ds) (vs ++ dvs) Q E hr I.env0 (hb s us I.kIn hl) r2 h) fun r s' hq => ?_)
  cases r with
  | error e => exact hx pins σ H s e s' I hq
  | ok fl =>
    cases fl with
    | ret u => exact I.after hq
    | next => exact False.elim hq
    | brk => exact False.elim hq
    | cont => exact False.elim hq

theorem pe_call (F : FnOk X.prog X.w X.K X.mg X.base CX k f fd ps sp) (hr : Room k X.A) (hg : Gl X x) (hm : X.mg x = some (.ref f)) (hk : PySem.W.keepIn X.K (.ref f) = true) (hb : Binds X.K fd ps ds) (hd : Vals dvs ds) (hx : Passes CX X E)
    (ha : PA X (e :: es) t) (hdb : (x == ("__debug__" : Str)) = false := by decide) (he : starEach (e :: es) X.env = (false, eval e X.env) :: starEach es X.env := by rfl) (hpl : (backTo pos (starEach es X.env)).any (·.1) = false := by rfl) :
    PE X (.Call (.Name x p) (e :: es) [] pos) (tCall sp dvs E t) := by
  intro pins s σ H Q I h
  refine wpAny_Call_Name_kw (ld_glob I hg hm ?_ hdb)
  refine PySem.W.callWith_K (h₀ := X.base) I.ok.mod.kin hk (thn (ha pos pins s σ H _ I h) fun us s1 ⟨vs, H1, I1, r, q⟩ => ⟨I1.kIn, ?_⟩) he hpl
  exact run_fn F hr hb hd hx I1 r q
/-- o.m(e, ..) -/
theorem pe_meth {pl : Sem Bool} (he : PE X o ta) (c : Cls X.K C) (hm : Meth X.K C m f) (F : FnOk X.prog X.w X.K X.mg X.base CX k f fd ps sp) (hr : Room k X.A) (hb : Binds X.K fd ps ds) (hd : Vals dvs ds) (hx : Passes CX X E) (ha : PA X (e :: es) t)
    (hst : starEach (e :: es) X.env = (false, eval e X.env) :: starEach es X.env := by rfl) (hpl : (backTo pos (starEach es X.env)).any (·.1) = false := by rfl)
    (ht : eval (.Call (.Attribute o m apos) (e :: es) [] pos) X.env = (do
      let ov ← eval o X.env
      standAt apos.atName
      let (f, first) ← holding [ov] (getMethod ov m pl)
      callWith pos f first (backTo pos (starEach (e :: es) X.env)) (backToKw pos (keywordEach [] X.env))) := by rfl) :
    PE X (.Call (.Attribute o m apos) (e :: es) [] pos) (tMeth C m sp dvs E ta t) := by
  intro pins s σ H Q I h
  refine PySem.W.methodCall_KW (pl := pl) (thn (he pins s σ H _ I h) fun u s1 ⟨x, H1, I1, rx, a, dx, fs, ex, ea, l, q⟩ => ?_) ht
  subst ex
  obtain rfl : u = Value.ref a := rx
  refine getmeth_ok I1 ea c hm l ?_
  refine PySem.W.callWith_K (first := [.ref a]) (h₀ := X.base) I.ok.mod.kin hm.kp (thn (ha pos pins s1 σ H1 _ I1 q) fun us s2 ⟨vs, H2, I2, r, q2⟩ => ⟨I2.kIn, ?_⟩) hst hpl
  exact run_fn (us := .ref a :: us) (vs := .ref a :: vs) F hr hb hd hx I2 (.cons rfl r) q2
/-- what a class must have to be made -/
structure Mk (K : PySem.W.Frag) (C f : Addr) : Prop where
  makes : PySem.W.makesIn K C = true
  init : PySem.W.findIn K (.ref C) "__init__" = some (some (.ref f))
  fn : PySem.W.isFn K (.ref f) = true
  kp : PySem.W.keepIn K (.ref C) = true

theorem run_make {pins : List (Addr × Obj)} {σ : St} {H : Hp} {s : Shared} {Q : VK} {us : List Value} {vs : List V} (M : Mk X.K C f) (F : FnOk X.prog X.w X.K X.mg X.base CX k f fd ps sp) (hr : Room (k + 1) X.A) (hb : Binds X.K fd ps ds) (hd : Vals dvs ds)
    (hx : Passes CX X E) (I : Inv X pins σ H s) (r : Vals vs us)
    (h : ∀ x dx, H x = none → H dx = none → dx ≠ x → sp (.ref x :: (vs ++ dvs)) (upd (upd H dx (.own x)) x (.ins C dx [])) (fun v H2 => v = .non ∧ Q (.ref x) H2) E) :
    wpAny (model X.prog X.w) X.A (call (.ref C) us) (EP X pins σ Q) X.xe s := by
  have hq := h (s.heap.objs.size + 1) s.heap.objs.size (I.hok.fresh (Nat.le_succ _)) (I.hok.fresh (Nat.le_refl _)) (Nat.ne_of_lt (Nat.lt_succ_self _))
  have I2 := Inv.made (C := C) I
  have r2 : Vals (V.ref (s.heap.objs.size + 1) :: (vs ++ dvs)) (Value.ref (s.heap.objs.size + 1) :: (us ++ ds)) := .cons rfl (r.append hd)
  have hl : (Value.ref (s.heap.objs.size + 1) :: us ++ ds).length = ps.length := by
    have e := r2.length
    rw [F.len _ _ _ _ hq] at e
    exact e.symm
  refine wpAny_call (make_map (f := f) I.kIn M.makes M.init (beq_iff_eq.mp M.fn) (codeAny_mono (F.run _ X.stack _ _ ⟨Value.ref (s.heap.objs.size + 1) :: us, []⟩ (Value.ref (s.heap.objs.size + 1) :: (us ++ ds)) _ _ E (hr.make C us [])
    (I2.env0.make C us []) (hb _ (Value.ref (s.heap.objs.size + 1) :: us) I2.kIn hl) r2 hq) fun r s' hq' => ?_))
  cases r with
  | error e => exact hx pins σ _ _ e s' I2 hq'
  | ok fl =>
    cases fl with
    | ret u =>
      obtain ⟨v, H', I3, rv, ev, q3⟩ := I2.after hq'
      subst ev
      exact ⟨rv, ⟨V.ref (s.heap.objs.size + 1), H', I3, rfl, q3⟩⟩
    | next => exact False.elim hq'
    | brk => exact False.elim hq'
    | cont => exact False.elim hq'
theorem pe_make (M : Mk X.K C f) (F : FnOk X.prog X.w X.K X.mg X.base CX k f fd ps sp) (hr : Room (k + 1) X.A) (hg : Gl X x) (hm : X.mg x = some (.ref C)) (hb : Binds X.K fd ps ds) (hd : Vals dvs ds) (hx : Passes CX X E)
    (ha : PA X (e :: es) t) (hdb : (x == ("__debug__" : Str)) = false := by decide) (he : starEach (e :: es) X.env = (false, eval e X.env) :: starEach es X.env := by rfl) (hpl : (backTo pos (starEach es X.env)).any (·.1) = false := by rfl) :
    PE X (.Call (.Name x p) (e :: es) [] pos) (tMake C sp dvs E t) := by
  intro pins s σ H Q I h
  refine wpAny_Call_Name_kw (ld_glob I hg hm ?_ hdb)
  refine PySem.W.callWith_K (h₀ := X.base) I.ok.mod.kin M.kp (thn (ha pos pins s σ H _ I h) fun us s1 ⟨vs, H1, I1, r, q⟩ => ⟨I1.kIn, ?_⟩) he hpl
  exact run_make M F hr hb hd hx I1 r q
end

/-! ### keywords -/
section
variable {X : Cx} {CX : CXT} {k : Nat} {f C : Addr} {fd : FuncData} {ps ks : List Str} {sp : Sp} {E : XK} {x m : Str} {p pos apos kpos : Pos} {e o : Expr} {es : List Expr} {kws : List Keyword} {te ta : TE} {t tk : TA} {nm : Option Str}
variable {g : List Value → List Value → List Value} {gV : List V → List V → List V}
end

/-! ### a def's body keeps its promise -/
/-- names: the parameters first -/
structure FnScope (N P : List Str) (sc : Scope) : Prop where
  kind : sc.kind = .function
  co : sc.isCoroutine = false
  gen : sc.isGenerator = false
  nd : N.Nodup
  pre : N.take P.length = P
  par : ∀ x ∈ P, sc.names.lookup x = some .local ∨ sc.names.lookup x = some .cell
  nofree : ∀ y ∈ sc.names, y.2 ≠ .free

theorem bindL_out {kindOf : Str → Option NameKind} {x : Str} : ∀ {binds : List (Str × Value)} {m : Str → Option Value}, (∀ v, (x, v) ∉ binds) → bindL kindOf binds m x = m x
  | [], _, _ => rfl
  | (n, v) :: r, m, h => by
    unfold bindL
    rw [bindL_out fun w hw => h w (List.mem_cons_of_mem _ hw)]
    split
    · have : x ≠ n := by rintro rfl; exact h v List.mem_cons_self
      simp [this]
    · rfl
theorem bindC_out {kindOf : Str → Option NameKind} {x : Str} : ∀ {binds : List (Str × Value)} {m : Str → Option Value}, (∀ v, (x, v) ∉ binds) → bindC kindOf binds m x = m x
  | [], _, _ => rfl
  | (n, v) :: r, m, h => by
    unfold bindC
    rw [bindC_out fun w hw => h w (List.mem_cons_of_mem _ hw)]
    split
    · rfl
    · have : x ≠ n := by rintro rfl; exact h v List.mem_cons_self
      simp [this]
theorem bindL_get {kindOf : Str → Option NameKind} {x : Str} {v : Value} : ∀ {P : List Str} {vs : List Value} {i : Nat} {m : Str → Option Value}, P.Nodup → P[i]? = some x → vs[i]? = some v → kindOf x = some .local →
    bindL kindOf (P.zip vs) m x = some v
  | [], _, _, _, _, h, _, _ => by simp at h
  | _ :: _, [], _, _, _, _, h, _ => by simp at h
  | p :: P, w :: vs, 0, m, nd, h1, h2, hk => by
    simp at h1 h2; subst h1; subst h2
    show bindL kindOf ((p, w) :: P.zip vs) m p = _
    unfold bindL
    rw [bindL_out fun v hv => (List.nodup_cons.mp nd).1 (List.of_mem_zip hv).1, if_pos hk]
    simp
  | p :: P, w :: vs, i + 1, m, nd, h1, h2, hk => by
    show bindL kindOf ((p, w) :: P.zip vs) m x = _
    unfold bindL
    exact bindL_get (i := i) (List.nodup_cons.mp nd).2 (by simpa using h1) (by simpa using h2) hk
theorem bindC_get {kindOf : Str → Option NameKind} {x : Str} {v : Value} : ∀ {P : List Str} {vs : List Value} {i : Nat} {m : Str → Option Value}, P.Nodup → P[i]? = some x → vs[i]? = some v → kindOf x ≠ some .local →
    bindC kindOf (P.zip vs) m x = some v
  | [], _, _, _, _, h, _, _ => by simp at h
  | _ :: _, [], _, _, _, _, h, _ => by simp at h
  | p :: P, w :: vs, 0, m, nd, h1, h2, hk => by
    simp at h1 h2; subst h1; subst h2
    show bindC kindOf ((p, w) :: P.zip vs) m p = _
    unfold bindC
    rw [bindC_out fun v hv => (List.nodup_cons.mp nd).1 (List.of_mem_zip hv).1, if_neg hk]
    simp
  | p :: P, w :: vs, i + 1, m, nd, h1, h2, hk => by
    show bindC kindOf ((p, w) :: P.zip vs) m x = _
    unfold bindC
    exact bindC_get (i := i) (List.nodup_cons.mp nd).2 (by simpa using h1) (by simpa using h2) hk

/-- the names' values at the entry -/
def start (N : List Str) (vs : List V) : St := vs.map some ++ List.replicate (N.length - vs.length) none

/-- the context of a def's body, at its entry; an exception leaves the frame, then lies as CX says -/
def cxOf (CX : CXT) (P : Program) (w : World) (K : PySem.W.Frag) (mg : Str → Option Value) (base : Heap) (N : List Str) (qual : Str) (scope : Scope) (f : Addr) (cd : Value) (A : Around) (outer : List Env) (s : Shared) (H : Hp) (E : XK) : Cx where
  prog := P
  w := w
  K := K
  mg := mg
  base := base
  A := A.deeper (envOfC qual scope s.heap.objs.size f cd)
  N := N
  s₀ := s
  H₀ := H
  env := envOfC qual scope s.heap.objs.size f cd
  outer := outer
  stack := envOfC qual scope s.heap.objs.size f cd :: outer
  ex := []
  calm := true
  fn := fun _ => true
  pn := []
  xe := fun e s' => wpAny (model P w) (A.deeper (envOfC qual scope s.heap.objs.size f cd)) (leaving (envOfC qual scope s.heap.objs.size f cd) e) (fun _ s'' => CX outer H s E e s'') (fun e' s'' => CX outer H s E e' s'') s'

theorem cell_has {sc : Scope} {n : Nat} {x : Str} (h : sc.names.lookup x = some .cell) : ∃ c, (cellsFrom n sc.names []).lookup x = some c := by
  have q := PySem.W.cellsFrom_some sc.names n [] (.inl h)
  exact Option.isSome_iff_exists.mp q

theorem inv_start {CX : CXT} {P : Program} {w : World} {K : PySem.W.Frag} {mg : Str → Option Value} {base : Heap} {N ps : List Str} {qual : Str} {scope : Scope} {f : Addr} {cd : Value} {A : Around} {outer : List Env} {s s1 : Shared} {H : Hp} {E : XK} {us : List Value} {vs : List V}
    (S : FnScope N ps scope) (hd : A.handled = none) (e0 : Env0 P w K mg base A outer s H) (hl : vs.length = ps.length) (r : Vals vs us)
    (x : InCallC s s.heap.objs.size (bindL (envOfC qual scope s.heap.objs.size f cd).kindOf (ps.zip us) fun _ => none) (cellsFrom (s.heap.objs.size + 1) scope.names []) (bindC (envOfC qual scope s.heap.objs.size f cd).kindOf (ps.zip us) fun _ => none) s1) :
    Inv (cxOf CX P w K mg base N qual scope f cd A outer s H E) [] (start N vs) H s1 := by
  have hpl : ps.length ≤ N.length := by have := congrArg List.length S.pre; rw [List.length_take] at this; omega
  obtain ⟨h1, tk, rfl, hk⟩ := x.done
  have noA : ∀ b : Addr, b ∉ (cxOf CX P w K mg base N qual scope f cd A outer s H E).ex := fun b z => absurd (show b ∈ ([] : List Addr) from z) (by simp)
  refine ⟨⟨e0.mod, S.kind, rfl, rfl, Nat.le_refl _, fun y z c h1 h2 => ?_, fun y hy => ?_, fun y c _ h => ?_, fun _ => hd, Around.frames_deeper e0.frames, .inr ⟨rfl, rfl⟩, fun b z => absurd z (noA b), e0.bs, e0.bsz, fun b _ _ => noA b, fun b z => absurd z (noA b), e0.funs, e0.frf⟩,
    rfl, e0.bare, Un.kept hk, ⟨_, x.toInCall.ns, fun i y v h1 h2 h3 => ?_⟩, fun y c h => ⟨_, x.cell y c h⟩, e0.hok.fresh (Nat.le_refl _), fun y c h => ?_, fun p hp => absurd (show p ∈ ([] : List (Addr × Obj)) from hp) (by simp), e0.hok.kept hk, ?_⟩
  · exact name_of_addr x.apart (PySem.mem_of_lookup h1) (PySem.mem_of_lookup h2)
  · have hy : scope.names.lookup y = some .cell ∨ scope.names.lookup y = some .free := hy
    rcases hy with hy | hy
    · exact cell_has hy
    · exact absurd rfl (S.nofree _ (PySem.mem_of_lookup hy))
  · exact Nat.le_of_lt (x.above y c (PySem.mem_of_lookup h))
  · have hi : i < vs.length := by
      unfold start at h2
      by_cases hi : i < vs.length
      · exact hi
      · rw [List.getElem?_append_right (by simpa using hi)] at h2
        rw [List.getElem?_replicate] at h2
        split at h2 <;> cases h2
    have ha : vs[i]? = some v := by
      unfold start at h2
      rw [List.getElem?_append_left (by simpa using hi), List.getElem?_map] at h2
      cases e : vs[i]? with
      | none => rw [e] at h2; cases h2
      | some a => rw [e] at h2; cases h2; rfl
    obtain ⟨u, hu, rv⟩ := r.get ha
    have hp : ps[i]? = some y := by
      rw [← S.pre, List.getElem?_take_of_lt (by omega)]; exact h1
    have ndP : ps.Nodup := by rw [← S.pre]; exact S.nd.sublist (List.take_sublist _ _)
    refine ⟨u, rv, ?_⟩
    rcases S.par y (List.mem_of_getElem? hp) with k | k
    · exact .inl ⟨k, bindL_get ndP hp hu k⟩
    · obtain ⟨c, e⟩ := cell_has (n := s.heap.objs.size + 1) k
      refine .inr ⟨.inl k, c, e, ?_⟩
      have q := x.cell y c e
      rw [bindC_get ndP hp hu (by show scope.names.lookup y ≠ _; rw [k]; decide)] at q
      exact q
  · exact e0.hok.fresh (Nat.le_of_lt (x.above y c (PySem.mem_of_lookup h)))
  · unfold start
    show _ = N.length
    rw [List.length_append, List.length_map, List.length_replicate]
    omega

/-- THE RULE: a def (or a method) of the text, by its body. The body's reading t is chosen for each entry; it is run at the parameters' values -/
theorem fn_of {CX : CXT} {P : Program} {w : World} {K : PySem.W.Frag} {mg : Str → Option Value} {base : Heap} {k : Nat} {f : Addr} {name qual : Str} {params : Arguments} {body : List Stmt} {scope : Scope} {dV kV doc pm cdv ct oc : Value} {an od : Option Addr}
    {osl : Array (Option Value)} {N ps : List Str} {sp : Sp} (lk : K.lookup f = some ⟨oc, od, .func (PySem.W.fnOf name qual params body scope dV kV doc pm an cdv ct), osl⟩) (hcd : PySem.W.codeIn K cdv qual = true) (S : FnScope N ps scope)
    (len : ∀ vs H Q E, sp vs H Q E → vs.length = ps.length)
    (hbody : ∀ (A : Around) (outer : List Env) (s : Shared) (H : Hp) (vs : List V) (Q : VK) (E : XK), Room k (A.deeper (envOfC qual scope s.heap.objs.size f cdv)) → sp vs H Q E →
      ∃ t, PSs (cxOf CX P w K mg base N qual scope f cdv A outer s H E) body t ∧ t { nx := fun _ H' => Q .non H', rt := Q } (start N vs) H) :
    FnOk P w K mg base CX (k + 1) f (PySem.W.fnOf name qual params body scope dV kV doc pm an cdv ct) ps sp := by
  refine ⟨len, fun A outer s H args us vs Q E hr e0 hb r hsp => ?_⟩
  have hl := len _ _ _ _ hsp
  have KX : K.In s.heap := e0.mod.kin.keeps fun b o e => (e0.bs b o e).1
  have lim : s.heap.NoLimit := e0.mod.nolimit.keeps fun b o e => (e0.bs b o e).1
  have hkind : ∀ y ∈ ps.zip us, scope.names.lookup y.1 = some .local ∨ (scope.names.lookup y.1 = some .cell ∧ ((cellsFrom (s.heap.objs.size + 1) scope.names []).lookup y.1).isSome = true) := fun ⟨n, v⟩ hy => by
    rcases S.par n (List.of_mem_zip hy).1 with q | q
    · exact .inl q
    · exact .inr ⟨q, PySem.W.cellsFrom_some _ _ _ (.inl q)⟩
  refine codeAny_call_function hr.depth (KX _ _ lk) rfl S.co S.gen rfl (PySem.W.codeRec_of KX hcd) (hb _ _ _ _ ?_)
  refine wpAny_newFunctionEnv_cells S.kind hkind fun env he s1 x => ?_
  subst he
  refine ⟨lim.keeps x.toInCall.keep, codeAny_func ?_⟩
  obtain ⟨t, ht, hq⟩ := hbody A outer s H vs Q E (hr.deeper _) hsp
  have I : Inv (cxOf CX P w K mg base N qual scope f cdv A outer s H E) [] (start N vs) H s1 := inv_start S hr.hd e0 hl r x
  refine wpAny_mono (ht [] s1 (start N vs) H _ I hq) (fun fl s' hs => ?_) fun e s' hs => hs
  have fin : ∀ {σ' : St} {H' : Hp} {v : V} {u : Value}, Inv (cxOf CX P w K mg base N qual scope f cdv A outer s H E) [] σ' H' s' → RelV v u → Q v H' → CE outer P w H s Q u s' :=
    fun {σ' H' v u} J rv q => ⟨v, H', J.os, J.bare, J.base, J.hok, rv, q⟩
  cases fl with
  | ret u =>
    obtain ⟨v, σ', H', J, rv, q⟩ := hs
    exact fin J rv q
  | next =>
    obtain ⟨σ', H', J, q⟩ := hs
    exact fin (v := V.non) (u := Value.none) J rfl q
  | brk =>
    obtain ⟨_, _, _, q⟩ := hs
    exact False.elim q
  | cont =>
    obtain ⟨_, _, _, q⟩ := hs
    exact False.elim q
end L2

namespace L2
open PySem PySem.Spec PyProof.Rows
section
variable {X : Cx} {x : Str} {p pos : Pos} {e : Expr} {es : List Expr} {t : TA} {id T : String} {r : List V → Hp → VK → Prop}

def tCB (r : List V → Hp → VK → Prop) (t : TA) : TE := fun σ H Q => t σ H fun vs H1 => r vs H1 Q
/-- f(e, ..), f a built-in function -/
theorem pe_callB (hc : CallR X (.builtin id) r) (hg : Gl X x) (hm : X.mg x = none) (hv : bootBuiltins x = some (.builtin id)) (ha : PA X (e :: es) t) (hn : x ≠ "__name__" := by decide) (hdb : (x == ("__debug__" : Str)) = false := by decide)
    (he : starEach (e :: es) X.env = (false, eval e X.env) :: starEach es X.env := by rfl) (hpl : (backTo pos (starEach es X.env)).any (·.1) = false := by rfl) : PE X (.Call (.Name x p) (e :: es) [] pos) (tCB r t) := by
  intro pins s σ H Q I h
  refine wpAny_Call_Name_kw (ld_blt I hg hm hv ?_ hn hdb)
  exact PyProof.Rows.callWith_builtin1 (thn (ha pos pins s σ H _ I h) fun us s1 ⟨vs, H1, I1, r1, q1⟩ => hc pins s1 σ H1 vs us Q I1 r1 q1) he hpl
/-- T(e, ..), T a built-in type -/
theorem pe_callTy (hc : CallR X (.type T) r) (hg : Gl X x) (hm : X.mg x = none) (hv : bootBuiltins x = some (.type T)) (ha : PA X (e :: es) t) (hn : x ≠ "__name__" := by decide) (hdb : (x == ("__debug__" : Str)) = false := by decide)
    (he : starEach (e :: es) X.env = (false, eval e X.env) :: starEach es X.env := by rfl) (hpl : (backTo pos (starEach es X.env)).any (·.1) = false := by rfl) : PE X (.Call (.Name x p) (e :: es) [] pos) (tCB r t) := by
  intro pins s σ H Q I h
  refine wpAny_Call_Name_kw (ld_blt I hg hm hv ?_ hn hdb)
  exact PyProof.Rows.callWith_type1 (thn (ha pos pins s σ H _ I h) fun us s1 ⟨vs, H1, I1, r1, q1⟩ => hc pins s1 σ H1 vs us Q I1 r1 q1) he hpl
end
end L2

namespace HT
open PySem PyProof.Rows

section
open PySem.SeqAt
open PySem.AutoSeq1 (wpAny_loadPart')
open PySem.MeetsSeq PySem.MeetsSeq2 PySem.MeetsSeq3

end

section
variable {prog : Program} {w : World} {A : Around} {E : Value → Shared → Prop} {s : Shared}

/-- t + u, t not empty -/
theorem cat_tup {t b : Addr} {vs ws : List Value} {Q : Value → Shared → Prop} (ht : IsTup s.heap t vs.toArray) (hb : IsTup s.heap b ws.toArray) (hv : vs ≠ [])
    (h1 : ws = [] → Q (.ref t) s) (h2 : ws ≠ [] → Q (.ref s.heap.objs.size) { s with heap := s.heap.push { cls := .type "tuple", data := .seq (vs ++ ws).toArray } })
    (hsz : vs.length + ws.length ≤ sizeLine) : wpAny (model prog w) A (binaryOp .Add (.ref t) (.ref b)) Q E s := by
  obtain ⟨⟨cls, dd, data, sl⟩, ho, hc, n, hd⟩ := id ht
  obtain ⟨⟨cls2, dd2, data2, sl2⟩, ho2, hc2, n2, hd2⟩ := id hb
  simp only at hc hd hc2 hd2
  subst hc hd hc2 hd2
  have e : vs.toArray ++ ws.toArray = (vs ++ ws).toArray := by simp
  by_cases hw : ws = []
  · exact concat_meets ⟨_, ho, rfl⟩ ⟨_, ho2, rfl⟩ noFill_tuple_add seq_tuple_add PySem.F.slot_tuple_add PySem.F.entry_tuple_add (PySem.F.args_tuple_add_2 _ _)
      (tuple_addW1 t b vs.toArray ws.toArray n n2 dd dd2 sl sl2 (by simpa using hv) (by simp [hw])) ⟨ho, ho2, h1 hw⟩
  · refine concat_meets ⟨_, ho, rfl⟩ ⟨_, ho2, rfl⟩ noFill_tuple_add seq_tuple_add PySem.F.slot_tuple_add PySem.F.entry_tuple_add (PySem.F.args_tuple_add_2 _ _)
      (tuple_addW2 t b vs.toArray ws.toArray n n2 dd dd2 sl sl2 (by simpa using hv) (by simpa using hw) (by rw [List.size_toArray, List.size_toArray]; exact hsz)) ⟨ho, ho2, ?_⟩
    rw [e]
    exact h2 hw

/-! ### t[a:b], not the whole -/
end
end HT

namespace L2
open PySem PySem.Spec PyProof.Rows

/-! ### the parts of a slice -/
section
variable {X : Cx} {e : Expr} {te : TE} {lo hi : Option Expr} {tl th : TO} {pos p2 : Pos}

/-! ### t < u, t + u -/
/-- t + u, t not empty: u empty gives t itself -/
def rCatT (K : PySem.W.Frag) : R2 := fun x y H Q => ∃ a b xs ys, x = .ref a ∧ y = .ref b ∧ SqT K H a xs ∧ SqT K H b ys ∧ xs ≠ [] ∧ xs.length + ys.length ≤ sizeLine ∧
  (ys = [] → Q (.ref a) H) ∧ (ys ≠ [] → ∀ p, H p = none → Q (.ref p) (upd H p (.tup (xs ++ ys))))
theorem Vals.nil_iff {xs : List V} {us : List Value} (r : Vals xs us) : us = [] ↔ xs = [] := by
  cases r with
  | nil => simp
  | cons _ _ => simp
theorem op_catT : OpR X (binaryOp .Add) (rCatT X.K) := by
  intro pins s σ H x y v u Q I rx ry h
  obtain ⟨a, b, xs, ys, rfl, rfl, ha, hb, hx, hz, q1, q2⟩ := h
  cases rx
  cases ry
  obtain ⟨its, r1, p1, _⟩ := I.tuple ha
  obtain ⟨its2, r2, p2, _⟩ := I.tuple hb
  refine HT.cat_tup p1 p2 (fun z => hx (r1.nil_iff.mp z)) (fun z => ⟨.ref a, H, I, rfl, q1 (r2.nil_iff.mp z)⟩) (fun z => ?_) (by rw [← r1.length, ← r2.length]; exact hz)
  refine ⟨.ref s.heap.objs.size, _, I.laid (t' := s.toks) (o := .tup (xs ++ ys)) (fun b ob q => Heap.get?_push_of_some _ q) (Nat.le_refl _) ?_, rfl, q2 (fun w => z (r2.nil_iff.mpr w)) _ (I.hok.fresh (Nat.le_refl _))⟩
  exact ⟨by rw [List.length_append]; exact hz, _, r1.append r2, IsTup.new _ _⟩
end
end L2

namespace L2
open PySem PySem.Spec PyProof.Rows

/-! ### places -/
/-- the place that an index of any sign means -/
def ixN (n : Nat) (i : Int) : Option Nat := if 0 ≤ i then (if i < n then some i.toNat else none) else if -(n : Int) ≤ i then some (i + n).toNat else none
def atI {α : Type} (xs : List α) (i : Int) : Option α := (ixN xs.length i).bind fun j => xs[j]?
theorem ixN_seq {n : Nat} {i : Int} {j : Nat} (h : ixN n i = some j) : seqIndex? i n = some j ∧ j < n ∧ -(n : Int) ≤ i ∧ i < n := by
  unfold ixN at h
  by_cases h0 : 0 ≤ i
  · rw [if_pos h0] at h
    by_cases h1 : i < n
    · rw [if_pos h1] at h
      have e : i.toNat = j := Option.some.inj h
      exact ⟨by rw [seqIndex_of h0 h1, e], by omega, by omega, h1⟩
    · rw [if_neg h1] at h; cases h
  · rw [if_neg h0] at h
    by_cases h1 : -(n : Int) ≤ i
    · rw [if_pos h1] at h
      have e : (i + n).toNat = j := Option.some.inj h
      exact ⟨by rw [seqIndex_neg (by omega) h1, e], by omega, h1, by omega⟩
    · rw [if_neg h1] at h; cases h
theorem atI_get {α : Type} {xs : List α} {i : Int} {v : α} (h : atI xs i = some v) : ∃ j, seqIndex? i xs.length = some j ∧ xs[j]? = some v ∧ j < xs.length ∧ -(xs.length : Int) ≤ i ∧ i < xs.length := by
  unfold atI at h
  cases e : ixN xs.length i with
  | none => rw [e] at h; cases h
  | some j =>
    rw [e] at h
    obtain ⟨h1, h2, h3, h4⟩ := ixN_seq e
    exact ⟨j, h1, h, h2, h3, h4⟩
theorem atI_nat {α : Type} {xs : List α} {j : Nat} {v : α} (h : xs[j]? = some v) : atI xs (j : Int) = some v := by
  have hj : j < xs.length := (List.getElem?_eq_some_iff.mp h).1
  have e : ixN xs.length (j : Int) = some j := by
    unfold ixN
    rw [if_pos (by omega), if_pos (by omega)]; simp
  unfold atI; rw [e]; exact h
/-! ### what may be subscripted -/
/-- what stands as an index of a plain subscript -/
def PlainIx (b : Expr) : Prop := ∀ o i, subscripted b false o i = operate [o, i] (getItem o i)
/-- a subscript by values -/
def IxR (X : Cx) (r : R2) : Prop :=
  ∀ (value slice : Expr) (pins : List (Addr × Obj)) (s : Shared) (σ : St) (H : Hp) (x y : V) (v u : Value) (Q : VK), Inv X pins σ H s → RelV x v → RelV y u → r x y H Q →
    subscripted slice false v u = operate [v, u] (getItem v u) → wpAny (model X.prog X.w) X.A (subscriptTail value slice v u) (EP X pins σ Q) X.xe s
/-- a call of a builtin's method by values: the receiver, the arguments -/
def MtR (X : Cx) (id : String) (r : V → List V → Hp → VK → Prop) : Prop :=
  ∀ (pins : List (Addr × Obj)) (s : Shared) (σ : St) (H : Hp) (x : V) (xs : List V) (v : Value) (us : List Value) (Q : VK), Inv X pins σ H s → RelV x v → Vals xs us → r x xs H Q →
    wpAny (model X.prog X.w) X.A (call (.builtin id) (v :: us)) (EP X pins σ Q) X.xe s
section
variable {X : Cx} {a b : Expr} {ta tb : TE} {pos : Pos}
/-- a[b] -/
theorem pe_ix {r : R2} (hr : IxR X r) (ha : PE X a ta) (hb : PE X b tb) (hs : PlainIx b) : PE X (.Subscript a b pos) (tOp r ta tb) := by
  intro pins s σ H Q I h
  exact Subscript_ (binT ha hb I h fun v u s2 x y H2 I2 rx ry q => hr a b pins s2 σ H2 x y v u Q I2 rx ry q (hs _ _))

def rIxL (K : PySem.W.Frag) : R2 := fun x y H Q => ∃ p xs i v, x = .ref p ∧ y = .int i ∧ SqL K H p xs ∧ atI xs i = some v ∧ Q v H
theorem ix_list : IxR X (rIxL X.K) := by
  intro value slice pins s σ H x y v u Q I rx ry h hs
  obtain ⟨p, xs, i, z, rfl, rfl, hq, he, q⟩ := h
  cases rx
  obtain ⟨t, rfl⟩ := ry
  obtain ⟨its, r, pl, hz⟩ := I.list hq
  obtain ⟨j, h1, h2, h3, h4, h5⟩ := atI_get he
  obtain ⟨w, ew, rw'⟩ := r.get h2
  have hl := r.length
  have hn := line63
  have fin : EP X pins σ Q w s := ⟨z, H, I, rw', q⟩
  by_cases h0 : 0 ≤ i
  · have hj : i.toNat = j := by
      rw [seqIndex_of h0 h5] at h1
      exact Option.some.inj h1
    exact item_listR pl.isList h0 (by omega) (by rw [hj]; simpa using ew) fin hs
  · have hj : (i + (its.toArray.size : Int)).toNat = j := by
      rw [seqIndex_neg (by omega) h4] at h1
      rw [List.size_toArray, ← hl]
      exact Option.some.inj h1
    exact subscriptTail_builtinR (x := w) pl.isList.typeIs slot_list_getitem.lookup
      (wpAny_getItem_list_neg (Q := fun r s' => r = w ∧ EP X pins σ Q r s') pl.isList (by omega) (by rw [List.size_toArray] <;> omega) (by omega) (by rw [hj]; simpa using ew) ⟨rfl, fin⟩) hs
/-! ### xs[i] = v, any sign -/
/-! ### slices -/
/-! ### in, not in: flat items -/
/-! ### len, list(x), tuple(x) of any list or tuple that is read -/
theorem call_len_seq : CallR X (.builtin "len") (fun xs H Q => ∃ p ys, xs = [.ref p] ∧ (SqL X.K H p ys ∨ SqT X.K H p ys) ∧ Q (.int ys.length) H) := by
  intro pins s σ H xs us Q I r h
  obtain ⟨p, ys, rfl, hq, q⟩ := h
  obtain ⟨u, rfl, rx⟩ := vals1 r
  cases rx
  have hn := line63
  rcases hq with hq | hq
  · obtain ⟨its, r', pl, hz⟩ := I.list hq
    have hlen := r'.length
    exact Calls.call_len_list pl.isList (by simp only [List.size_toArray] <;> omega) ⟨.int ys.length, H, I.tok _, ⟨s.toks + 1, by rw [List.size_toArray, hlen]⟩, q⟩
  · obtain ⟨its, r', pl, hz⟩ := I.tuple hq
    have hlen := r'.length
    exact len_tuple pl (by simp only [List.size_toArray] <;> omega) ⟨.int ys.length, H, I.tok _, ⟨s.toks + 1, by rw [List.size_toArray, hlen]⟩, q⟩
theorem call_list_of : CallR X (.type "list") (fun xs H Q => ∃ p ys, xs = [.ref p] ∧ (SqL X.K H p ys ∨ SqT X.K H p ys) ∧ ∀ l, H l = none → Q (.ref l) (upd H l (.lst ys))) := by
  intro pins s σ H xs us Q I r h
  obtain ⟨p, ys, rfl, hq, q⟩ := h
  obtain ⟨u, rfl, rx⟩ := vals1 r
  cases rx
  have fin : ∀ (its : List Value), Vals ys its → ys.length ≤ sizeLine → ∀ (h' : Heap) (c' : Nat), (∀ b o', s.heap.get? b = some o' → h'.get? b = some o') →
      h'.get? s.heap.objs.size = some { cls := .type "list", dict := none, data := .seq its.toArray c', slots := #[] } → EP X pins σ Q (.ref s.heap.objs.size) { s with heap := h' } := fun its r' hz h' c' kp e =>
    ⟨.ref s.heap.objs.size, _, I.laid (t' := s.toks) kp (Nat.le_refl _) (show ObjOk X.prog X.w _ h' _ (.lst ys) from ⟨hz, its, c', r', e⟩), rfl, q _ (I.hok.fresh (Nat.le_refl _))⟩
  rcases hq with hq | hq
  · obtain ⟨its, r', pl, hz⟩ := I.list hq
    have hlen := r'.length
    obtain ⟨o, ho, hc, n, hd⟩ := pl.isList
    exact call_list_seq p (.inl rfl) ho hc hd (fun h' c' kp e => fin its r' hz h' c' kp e) (by simp only [List.size_toArray] <;> omega)
  · obtain ⟨its, r', pl, hz⟩ := I.tuple hq
    have hlen := r'.length
    obtain ⟨o, ho, hc, n, hd⟩ := pl
    exact call_list_seq p (.inr rfl) ho hc hd (fun h' c' kp e => fin its r' hz h' c' kp e) (by simp only [List.size_toArray] <;> omega)
theorem call_tuple_of : CallR X (.type "tuple") (fun xs H Q => ∃ p ys, xs = [.ref p] ∧ ((SqL X.K H p ys ∧ ∀ l, H l = none → Q (.ref l) (upd H l (.tup ys))) ∨ (SqT X.K H p ys ∧ Q (.ref p) H))) := by
  intro pins s σ H xs us Q I r h
  obtain ⟨p, ys, rfl, h⟩ := h
  obtain ⟨u, rfl, rx⟩ := vals1 r
  cases rx
  rcases h with ⟨hq, q⟩ | ⟨hq, q⟩
  · obtain ⟨its, r', pl, hz⟩ := I.list hq
    have hlen := r'.length
    refine call_tuple_list pl.isList (fun h' kp => ?_) (by simp only [List.size_toArray] <;> omega)
    have I1 : Inv X pins σ H { s with heap := h' } := I.kept (t' := s.toks) kp
    have I2 : Inv X pins σ (upd H h'.objs.size (.tup ys)) { s with heap := h'.push { cls := .type "tuple", data := .seq its.toArray } } :=
      I1.laid (t' := s.toks) (fun b o e => Heap.get?_push_of_some _ e) (Nat.le_refl _) (show ObjOk X.prog X.w _ _ _ (.tup ys) from ⟨hz, its, r', IsTup.new _ _⟩)
    exact ⟨.ref h'.objs.size, _, I2, rfl, q _ (I1.hok.fresh (Nat.le_refl _))⟩
  · obtain ⟨its, r', pl, hz⟩ := I.tuple hq
    exact call_tuple_same pl ⟨.ref p, H, I, rfl, q⟩

/-! ### the call of a builtin's method: o.m(..) -/
/-- the value is of that builtin type -/
def tyV (K : PySem.W.Frag) (T : String) (x : V) (H : Hp) : Prop := match x with
  | .str _ => T = "str"
  | .int _ => T = "int"
  | .ref p => (T = "list" ∧ ∃ xs, SqL K H p xs) ∨ (T = "tuple" ∧ ∃ o, K.lookup p = some o ∧ o.cls = .type "tuple" ∧ o.dict = none) ∨
      (T = "dict" ∧ ((∃ kvs, H p = some (.dK kvs)) ∨ ∃ kvs, H p = some (.dT kvs))) ∨ (T = "set" ∧ ∃ S n, H p = some (.set S n))
  | _ => False
theorem tyV_is {pins : List (Addr × Obj)} {σ : St} {H : Hp} {s : Shared} {T : String} {x : V} {v : Value} (I : Inv X pins σ H s) (r : RelV x v) (ty : tyV X.K T x H) :
    s.TypeIs v T ∧ ∀ a, v = .ref a → ∃ ob, s.heap.get? a = some ob ∧ ob.dict = none := by
  cases x with
  | str z =>
    obtain ⟨t, rfl⟩ := r
    cases (show T = "str" from ty)
    exact ⟨typeIs_str s z t, fun _ e => nomatch e⟩
  | int i =>
    obtain ⟨t, rfl⟩ := r
    cases (show T = "int" from ty)
    exact ⟨typeIs_int s i t, fun _ e => nomatch e⟩
  | ref p =>
    cases r
    rcases ty with ⟨rfl, xs, hq⟩ | ⟨rfl, o, hk, hc, hd⟩ | ⟨rfl, hk⟩ | ⟨rfl, S, n, hk⟩
    · obtain ⟨its, _, pl, _⟩ := I.list hq
      refine ⟨pl.isList.typeIs, fun a e => ?_⟩
      cases e
      obtain ⟨o, n, e, c, hd, _⟩ := pl
      exact ⟨o, e, hd⟩
    · refine ⟨⟨o, I.kIn p o hk, hc⟩, fun a e => ?_⟩
      cases e
      exact ⟨o, I.kIn _ o hk, hd⟩
    · have z : ∃ o, s.heap.get? p = some o ∧ o.ExactDict := by
        rcases hk with ⟨kvs, hk⟩ | ⟨kvs, hk⟩
        · obtain ⟨_, _, _, _, o, _, _, e, ex, _⟩ := I.hok p _ hk
          exact ⟨o, e, ex⟩
        · obtain ⟨_, _, _, _, o, _, _, e, ex, _⟩ := I.hok p _ hk
          exact ⟨o, e, ex⟩
      obtain ⟨o, e, ex⟩ := z
      refine ⟨⟨o, e, ex.1⟩, fun a e2 => ?_⟩
      cases e2
      exact ⟨o, e, ex.2.1⟩
    · obtain ⟨o, _, _, _, e, ex, _⟩ := I.hok p _ hk
      refine ⟨⟨o, e, ex.1⟩, fun a e2 => ?_⟩
      cases e2
      exact ⟨o, e, ex.2.1⟩
  | _ => exact False.elim ty
def tBM0 (K : PySem.W.Frag) (T : String) (r : V → List V → Hp → VK → Prop) (to : TE) : TE := fun σ H Q => to σ H fun x H1 => tyV K T x H1 ∧ r x [] H1 Q
def tBM (K : PySem.W.Frag) (T : String) (r : V → List V → Hp → VK → Prop) (to : TE) (t : TA) : TE := fun σ H Q => to σ H fun x H1 => tyV K T x H1 ∧ t σ H1 fun xs H2 => r x xs H2 Q
variable {o e : Expr} {es : List Expr} {to : TE} {t : TA} {name : Str} {apos cpos : Pos} {T id : String} {r : V → List V → Hp → VK → Prop}
theorem pe_bm0 (pa : PlainAttrs T) (slot : Slot T name id) (hty : typeOf (.builtin id) = pure (.type "method_descriptor")) (hm : MtR X id r) (ho : PE X o to)
    (hbase : attributeBase o name X.env (eval o X.env) = eval o X.env := by rfl) (hline : (apos.endLine == cpos.line) = true := by rfl) : PE X (.Call (.Attribute o name apos) [] [] cpos) (tBM0 X.K T r to) := by
  intro pins s σ H Q I h
  refine wpAny_Call_method0_late hbase hline (thn (ho pins s σ H _ I h) fun v s1 ⟨x, H1, I1, r1, ty, q1⟩ => ?_)
  obtain ⟨h1, h2⟩ := tyV_is I1 r1 ty
  exact ⟨T, id, pa, slot, hty, h1, h2, Calls.callWith_builtin rfl (PySem.evalArgs_none (hm pins s1 σ H1 x [] v [] Q I1 r1 .nil q1))⟩
theorem pe_bm (pa : PlainAttrs T) (slot : Slot T name id) (hty : typeOf (.builtin id) = pure (.type "method_descriptor")) (hm : MtR X id r) (ho : PE X o to) (ha : PA X (e :: es) t)
    (hbase : attributeBase o name X.env (eval o X.env) = eval o X.env := by rfl)
    (hfew : ((backTo cpos (starEach (e :: es) X.env)).all (fun x => !x.1) && (backToKw cpos (keywordEach [] X.env)).all (fun x => x.1.isSome)
      && decide ((e :: es).length + ([] : List Keyword).length + (if ([] : List Keyword).isEmpty then 0 else 1) < 30)) = true := by rfl)
    (hline : (apos.endLine == cpos.line) = true := by rfl) (hs : starEach (e :: es) X.env = (false, eval e X.env) :: starEach es X.env := by rfl) (hplain : (backTo cpos (starEach es X.env)).any (·.1) = false := by rfl) :
    PE X (.Call (.Attribute o name apos) (e :: es) [] cpos) (tBM X.K T r to t) := by
  intro pins s σ H Q I h
  refine wpAny_Call_method_late hbase hfew hline rfl (thn (ho pins s σ H _ I h) fun v s1 ⟨x, H1, I1, r1, ty, q1⟩ => ?_)
  obtain ⟨h1, h2⟩ := tyV_is I1 r1 ty
  refine ⟨T, id, pa, slot, hty, h1, h2, ?_⟩
  have hA := ha cpos pins s1 σ H1 _ I1 q1
  rw [hs] at hA ⊢
  refine Calls.callWith_builtin (by show (false || (backTo cpos (starEach es X.env)).any (·.1)) = false; rw [hplain] <;> rfl) (Calls.evalArgs_plain ?_)
  exact thn hA fun us s2 ⟨vs, H2, I2, r2, q2⟩ => hm pins s2 σ H2 x vs v us Q I2 r1 r2 q2
/- xs.append(e), list.index on a module's tuple .. are MtR facts of 06m -/
end
end L2

namespace L2
open PySem PySem.Spec PyProof.Rows

def MtM (X : Cx) (id : String) (r : V → List V → Hp → VK → Prop) : Prop :=
  ∀ (pins : List (Addr × Obj)) (s : Shared) (σ : St) (H : Hp) (x : V) (xs : List V) (v : Value) (us : List Value) (Q : VK), Inv X pins σ H s → RelV x v → Vals xs us → r x xs H Q →
    wpAny (model X.prog X.w) X.A (call (.builtin id) (v :: us)) (EP X pins σ Q) X.xe s

/-! ### lists of values -/
theorem Vals.one : ∀ {x : V} {us : List Value}, Vals [x] us → ∃ u, us = [u] ∧ RelV x u
  | _, _, .cons r .nil => ⟨_, rfl, r⟩
theorem Vals.zero : ∀ {us : List Value}, Vals [] us → us = []
  | _, .nil => rfl
section
variable {X : Cx} {pins : List (Addr × Obj)} {σ : St} {H : Hp} {s : Shared} {l b : Addr} {xs ys zs : List V}

/-! ### the two steps: a tracked list is rewritten, a new list is laid -/
theorem Inv.lset {its its' : List Value} {n : Nat} {f : Array Value → Array Value} {t' : Nat} (I : Inv X pins σ H s) (hH : H l = some (.lst xs))
    (e : s.heap.get? l = some { cls := .type "list", data := .seq its.toArray n }) (hf : f its.toArray = its'.toArray) (hv : Vals ys its') (hz : ys.length ≤ sizeLine) :
    Inv X pins σ (upd H l (.lst ys)) { s with heap := s.heap.update l (Obj.mapSeq f), toks := t' } := by
  have q := PySem.IsL.update e f
  rw [hf] at q
  refine I.write (x := l) (e := l) (by rw [hH]; exact trivial) (.inl rfl) (fun b' u hb hu => (Heap.get?_update_other s.heap (Obj.mapSeq f) (Ne.symm hb)).trans hu) ⟨_, q⟩ ?_
  exact ⟨hz, its', _, hv, q⟩
theorem Inv.lnew {its : List Value} {t' : Nat} (I : Inv X pins σ H s) (hv : Vals ys its) (hz : ys.length ≤ sizeLine) :
    Inv X pins σ (upd H s.heap.objs.size (.lst ys)) { s with heap := s.heap.push { cls := .type "list", data := .seq its.toArray }, toks := t' } :=
  I.laid (fun _ _ q => Heap.get?_push_of_some _ q) (Nat.le_refl _) ⟨hz, its, 0, hv, Heap.get?_push_size _ rfl⟩
theorem Inv.lstM (I : Inv X pins σ H s) (hH : H l = some (.lst xs)) : xs.length ≤ sizeLine ∧ ∃ (its : List Value) (n : Nat), Vals xs its ∧ xs.length = its.length ∧ s.heap.get? l = some { cls := .type "list", data := .seq its.toArray n } := by
  obtain ⟨z, its, n, r, e⟩ := I.hok l _ hH
  exact ⟨z, its, n, r, r.length, e⟩

end

section
variable {X : Cx}

/-! ### methods -/
def rAppend : V → List V → Hp → VK → Prop := fun x vs H Q => ∃ l xs y, x = .ref l ∧ vs = [y] ∧ H l = some (.lst xs) ∧ xs.length < sizeLine ∧ Q .non (upd H l (.lst (xs ++ [y])))
theorem mt_append : MtM X "list.append" rAppend := by
  intro pins s σ H x vs v us Q I rx rv h
  obtain ⟨l, xs, y, rfl, rfl, hH, hz, q⟩ := h
  cases rx
  obtain ⟨u, rfl, ru⟩ := rv.one
  obtain ⟨z, its, n, r, hl, e⟩ := I.lstM hH
  refine call_meets F.slot_list_append ⟨_, e, rfl⟩ F.entry_list_append (F.args_list_append_2 _ _) (PySem.list_append l its.toArray n u (by rw [List.size_toArray]; omega)) ⟨e, ?_⟩
  refine ⟨.non, _, I.lset (its' := its ++ [u]) hH e (by simp) (r.append (.cons ru .nil)) ?_, rfl, q⟩
  rw [List.length_append, List.length_singleton]
  omega

def rClear : V → List V → Hp → VK → Prop := fun x vs H Q => ∃ l xs, x = .ref l ∧ vs = [] ∧ H l = some (.lst xs) ∧ Q .non (upd H l (.lst []))
theorem mt_clear : MtM X "list.clear" rClear := by
  intro pins s σ H x vs v us Q I rx rv h
  obtain ⟨l, xs, rfl, rfl, hH, q⟩ := h
  cases rx
  have hus := rv.zero
  subst hus
  obtain ⟨z, its, n, r, hl, e⟩ := I.lstM hH
  refine call_meets F.slot_list_clear ⟨_, e, rfl⟩ F.entry_list_clear (F.args_list_clear_1 _) (AutoSeq1.list_clear_list_0 l its.toArray n (by rw [List.size_toArray]; omega)) ⟨e, ?_⟩
  exact ⟨.non, _, I.lset (its' := []) (ys := []) hH e rfl .nil (Nat.zero_le _), rfl, q⟩

/-! ### list + list, list += list, list * int -/
/-! ### del xs[i] -/
end

/-! ### xs[a:b] = ys -/
section
variable {prog : Program} {w : World} {A : Around} {E : Value → Shared → Prop} {s : Shared}
set_option maxRecDepth 100000 in
end

section
variable {X : Cx}
end
end L2

namespace L2
open PySem PySem.Spec PyProof.Rows

/-! ### lists of pairs as tables -/
section
variable {κ : Type} [DecidableEq κ]
def valV (kvs : List (κ × V)) (k : κ) : Option V := (kvs.find? fun kv => decide (kv.1 = k)).map (·.2)
/-- in its place, or at the end -/
def putK (kvs : List (κ × V)) (k : κ) (v : V) : List (κ × V) :=
  if (kvs.any fun kv => decide (kv.1 = k)) = true then kvs.map (fun kv => if kv.1 = k then (kv.1, v) else kv) else kvs ++ [(k, v)]
theorem valV_pos {p : κ × V} {r : List (κ × V)} {k : κ} (e : p.1 = k) : valV (p :: r) k = some p.2 := by simp [valV, List.find?_cons, e]
theorem valV_neg {p : κ × V} {r : List (κ × V)} {k : κ} (e : ¬ p.1 = k) : valV (p :: r) k = valV r k := by simp [valV, List.find?_cons, e]
theorem valV_any (k : κ) : ∀ kvs : List (κ × V), (kvs.any fun kv => decide (kv.1 = k)) = (valV kvs k).isSome
  | [] => rfl
  | p :: r => by
    rw [List.any_cons]
    by_cases e : p.1 = k
    · simp only [valV_pos e, decide_eq_true e, Bool.true_or, Option.isSome_some]
    · rw [valV_neg e, decide_eq_false e, Bool.false_or]; exact valV_any k r
theorem length_putK (kvs : List (κ × V)) (k : κ) (v : V) : (putK kvs k v).length ≤ kvs.length + 1 := by
  unfold putK
  split
  · rw [List.length_map]; omega
  · rw [List.length_append, List.length_cons, List.length_nil]; omega
theorem RelO.isSome_eq {o : Option V} {u : Option Value} (r : RelO o u) : o.isSome = u.isSome := by
  cases o with
  | none => cases u with
    | none => rfl
    | some _ => exact (show False from r).elim
  | some _ => cases u with
    | none => exact (show False from r).elim
    | some _ => rfl
/-- raw tables of the same keys -/
theorem KV.val {kvs : List (κ × V)} {vs : List (κ × Value)} (r : KV kvs vs) (k : κ) : RelO (valV kvs k) (valueAt vs k) := by
  unfold KV at r
  induction r with
  | nil => exact True.intro
  | @cons p q ps qs h t ih =>
    obtain ⟨h1, h2⟩ := h
    by_cases e : p.1 = k
    · have e' : q.1 = k := h1.symm.trans e
      have b : valueAt (q :: qs) k = some q.2 := by simp [valueAt, List.find?_cons, e']
      rw [valV_pos e, b]; exact h2
    · have e' : ¬ q.1 = k := fun z => e (h1.trans z)
      have b : valueAt (q :: qs) k = valueAt qs k := by simp [valueAt, List.find?_cons, e']
      rw [valV_neg e, b]; exact ih
theorem KV.any {kvs : List (κ × V)} {vs : List (κ × Value)} (r : KV kvs vs) (k : κ) : (kvs.any fun kv => decide (kv.1 = k)) = vs.any fun kv => decide (kv.1 = k) := by
  unfold KV at r
  induction r with
  | nil => rfl
  | cons h t ih => rw [List.any_cons, List.any_cons, ih, h.1]
theorem KV.repl {kvs : List (κ × V)} {vs : List (κ × Value)} (r : KV kvs vs) (k : κ) {y : V} {u : Value} (ry : RelV y u) :
    KV (kvs.map fun kv => if kv.1 = k then (kv.1, y) else kv) (vs.map fun kv => if kv.1 = k then (kv.1, u) else kv) := by
  unfold KV at r ⊢
  induction r with
  | nil => exact .nil
  | @cons p q ps qs h t ih =>
    rw [List.map_cons, List.map_cons]
    refine .cons ?_ ih
    obtain ⟨h1, h2⟩ := h
    by_cases e : p.1 = k
    · rw [if_pos e, if_pos (h1.symm.trans e)]; exact ⟨h1, ry⟩
    · rw [if_neg e, if_neg (fun z => e (h1.trans z))]; exact ⟨h1, h2⟩
theorem KV.put {kvs : List (κ × V)} {vs : List (κ × Value)} (r : KV kvs vs) (k : κ) {y : V} {u : Value} (ry : RelV y u) : KV (putK kvs k y) (stored vs k u) := by
  unfold putK stored
  rw [r.any k]
  by_cases e : (vs.any fun kv => decide (kv.1 = k)) = true
  · rw [if_pos e, if_pos e]; exact r.repl k ry
  · rw [if_neg e, if_neg e]; exact Paired.snoc r ⟨rfl, ry⟩
theorem KV.length {kvs : List (κ × V)} {vs : List (κ × Value)} (r : KV kvs vs) : kvs.length = vs.length := Paired.length r
end


/-! ### a tracked dict, its keys ints and texts or tuples of these -/
theorem kV_is {P : Program} {w : World} {k : Key} {u : Value} (r : RelV (kV k) u) : (mixKind P w).is k u = true := by
  cases k with
  | inl i => obtain ⟨t, e⟩ := (show ∃ t, u = Value.int i t from r); subst e; exact mixKind_int P w i t
  | inr x => obtain ⟨t, e⟩ := (show ∃ t, u = Value.str x t from r); subst e; exact mixKind_str P w x t
theorem items_are {P : Program} {w : World} : ∀ {ks : List Key} {us : List Value}, Vals (ks.map kV) us → ItemsAre (mixKind P w) ks us
  | [], _, r => by rw [List.map_nil] at r; cases r; exact .nil
  | k :: ks, _, r => by
    rw [List.map_cons] at r
    cases r with
    | cons h t => exact .cons (kV_is h) (items_are t)

/-- raw entries of a dict with tuple keys -/
abbrev KT (H : Hp) : List (List Key × V) → List (List Key × Addr × Value) → Prop := Paired fun p q => p.1 = q.1 ∧ H q.2.1 = some (.tup (p.1.map kV)) ∧ RelV p.2 q.2.2
theorem KT.val {H : Hp} {kvs : List (List Key × V)} {xs : List (List Key × Addr × Value)} (r : KT H kvs xs) (k : List Key) : RelO (valV kvs k) ((atKey xs k).map (·.2)) := by
  induction r with
  | nil => exact True.intro
  | @cons p q ps qs h t ih =>
    obtain ⟨h1, _, h2⟩ := h
    by_cases e : p.1 = k
    · have e' : q.1 = k := h1.symm.trans e
      have b : atKey (q :: qs) k = some q.2 := by simp [atKey, List.find?_cons, e']
      rw [valV_pos e, b]; exact h2
    · have e' : ¬ q.1 = k := fun z => e (h1.trans z)
      have b : atKey (q :: qs) k = atKey qs k := by simp [atKey, List.find?_cons, e']
      rw [valV_neg e, b]; exact ih
theorem KT.repl {H : Hp} {kvs : List (List Key × V)} {xs : List (List Key × Addr × Value)} (r : KT H kvs xs) (k : List Key) {y : V} {u : Value} (ry : RelV y u) :
    KT H (kvs.map fun kv => if kv.1 = k then (kv.1, y) else kv) (xs.map (putAt k u)) := by
  induction r with
  | nil => exact .nil
  | @cons p q ps qs h t ih =>
    rw [List.map_cons, List.map_cons]
    refine .cons ?_ ih
    obtain ⟨h1, h2, h3⟩ := h
    unfold putAt
    by_cases e : p.1 = k
    · rw [if_pos e, if_pos (h1.symm.trans e)]; exact ⟨h1, h2, ry⟩
    · rw [if_neg e, if_neg (fun z => e (h1.trans z))]; exact ⟨h1, h2, h3⟩
theorem KT.put {H : Hp} {kvs : List (List Key × V)} {xs : List (List Key × Addr × Value)} (r : KT H kvs xs) (k : List Key) {b : Addr} {y : V} {u : Value} (hb : H b = some (.tup (k.map kV))) (ry : RelV y u) :
    KT H (putK kvs k y) (storedH xs k b u) := by
  have e : (kvs.any fun kv => decide (kv.1 = k)) = (atKey xs k).isSome := by
    rw [valV_any, (r.val k).isSome_eq, Option.isSome_map]
  unfold putK storedH
  rw [e]
  by_cases q : (atKey xs k).isSome = true
  · rw [if_pos q, if_pos q]; exact r.repl k ry
  · rw [if_neg q, if_neg q]; exact Paired.snoc r ⟨rfl, hb, ry⟩
theorem KT.keeps {H H' : Hp} {kvs : List (List Key × V)} {xs : List (List Key × Addr × Value)} (r : KT H kvs xs) (ht : ∀ b ys, H b = some (.tup ys) → H' b = some (.tup ys)) : KT H' kvs xs :=
  Paired.mapP r fun _ _ z => ⟨z.1, ht _ _ z.2.1, z.2.2⟩

section
variable {P : Program} {w : World} {H : Hp} {h : Heap} {a : Addr}
theorem rd_of {u : HO} (ok : HOk P w H h) (e : Rd H a u) : ObjOk P w H h a u := e.ok ok
theorem dk_rd {kvs : List (Key × V)} (ok : HOk P w H h) (e : Rd H a (.dK kvs)) : kvs.length ≤ sizeLine ∧ (a == sysModules) = false ∧ ∃ vs, KV kvs vs ∧ h.DictOf (mixKind P w) a vs :=
  show ObjOk P w H h a (.dK kvs) from rd_of ok e
theorem dk_of {kvs : List (Key × V)} (ok : HOk P w H h) (e : H a = some (.dK kvs)) : kvs.length ≤ sizeLine ∧ (a == sysModules) = false ∧ ∃ vs, KV kvs vs ∧ h.DictOf (mixKind P w) a vs := dk_rd ok (.inl e)
/-- a tracked tuple of ints and texts is a key -/
theorem key_of {ks : List Key} (ok : HOk P w H h) (e : H a = some (.tup (ks.map kV))) : (tupleKind (mixKind P w)).is h ks a := by
  obtain ⟨_, its, r, o, h1, h2, n, h3⟩ := (show ObjOk P w H h a (.tup (ks.map kV)) from ok a _ e)
  exact ⟨o, its.toArray, n, h1, h2, h3, by simpa using items_are r⟩
theorem dt_rd {kvs : List (List Key × V)} (ok : HOk P w H h) (e : Rd H a (.dT kvs)) : kvs.length ≤ sizeLine ∧ (a == sysModules) = false ∧
    ∃ xs, KT H kvs xs ∧ h.DictOfH (tupleKind (mixKind P w)) a xs := by
  obtain ⟨z, y, xs, r, o, es, ep, h1, h2, h3, h4, h5⟩ := (show ObjOk P w H h a (.dT kvs) from rd_of ok e)
  refine ⟨z, y, xs, r, o, es, ep, h1, h2, h3, h4, fun x hx => ?_, h5⟩
  have all : ∀ {l : List (List Key × V)} {m : List (List Key × Addr × Value)}, KT H l m → ∀ x ∈ m, (tupleKind (mixKind P w)).is h x.1 x.2.1 := by
    intro l m q
    induction q with
    | nil => intro x hx; exact nomatch hx
    | @cons p q ps qs hq t ih =>
      intro x hx
      rcases List.mem_cons.mp hx with e | hx
      · subst e
        exact key_of ok (by rw [← hq.1]; exact hq.2.1)
      · exact ih x hx
  exact all r x hx
theorem dt_of {kvs : List (List Key × V)} (ok : HOk P w H h) (e : H a = some (.dT kvs)) : kvs.length ≤ sizeLine ∧ (a == sysModules) = false ∧
    ∃ xs, KT H kvs xs ∧ h.DictOfH (tupleKind (mixKind P w)) a xs := dt_rd ok (.inl e)
end

/-- what the dict at a holds at the key y -/
def DGet (H : Hp) (a : Addr) (y : V) (r : Option V) : Prop :=
  (∃ kvs k, Rd H a (.dK kvs) ∧ y = kV k ∧ r = valV kvs k) ∨ ∃ kvs k b, Rd H a (.dT kvs) ∧ y = .ref b ∧ H b = some (.tup (k.map kV)) ∧ r = valV kvs k
/-- the heap behind a[y] = v -/
def DPut (H : Hp) (a : Addr) (y v : V) (H' : Hp) : Prop :=
  (∃ kvs k, H a = some (.dK kvs) ∧ y = kV k ∧ kvs.length < sizeLine ∧ H' = upd H a (.dK (putK kvs k v))) ∨
  ∃ kvs k b, H a = some (.dT kvs) ∧ y = .ref b ∧ H b = some (.tup (k.map kV)) ∧ kvs.length < sizeLine ∧ H' = upd H a (.dT (putK kvs k v))
theorem DGet.k {H : Hp} {a : Addr} {kvs : List (Key × V)} {k : Key} (e : H a = some (.dK kvs)) : DGet H a (kV k) (valV kvs k) := .inl ⟨kvs, k, .inl e, rfl, rfl⟩
theorem DGet.t {H : Hp} {a b : Addr} {kvs : List (List Key × V)} {k : List Key} (e : H a = some (.dT kvs)) (eb : H b = some (.tup (k.map kV))) : DGet H a (.ref b) (valV kvs k) := .inr ⟨kvs, k, b, .inl e, rfl, eb, rfl⟩
theorem DPut.k {H : Hp} {a : Addr} {kvs : List (Key × V)} {k : Key} {v : V} (e : H a = some (.dK kvs)) (hl : kvs.length < sizeLine) : DPut H a (kV k) v (upd H a (.dK (putK kvs k v))) := .inl ⟨kvs, k, e, rfl, hl, rfl⟩
theorem DPut.t {H : Hp} {a b : Addr} {kvs : List (List Key × V)} {k : List Key} {v : V} (e : H a = some (.dT kvs)) (eb : H b = some (.tup (k.map kV))) (hl : kvs.length < sizeLine) :
    DPut H a (.ref b) v (upd H a (.dT (putK kvs k v))) := .inr ⟨kvs, k, b, e, rfl, eb, hl, rfl⟩


section
variable {X : Cx} {pins : List (Addr × Obj)} {σ : St} {H : Hp} {s : Shared} {a : Addr} {y v : V} {u r : Value} {o : Option V} {A : Around} {E : Value → Shared → Prop}

theorem Inv.big (I : Inv X pins σ H s) : sysModules < s.heap.objs.size := by
  have h : mainGlobals < s.heap.objs.size := (I.mod.glob.keeps I.bk).lt
  exact Nat.lt_trans (by decide) h

/-- d[y], there -/
theorem d_getItem {Q : Value → Shared → Prop} (hu : A.units + 1 < cLine) (I : Inv X pins σ H s) (g : DGet H a y (some v)) (ry : RelV y u) (h : ∀ w' s', Inv X pins σ H s' → RelV v w' → Q w' s') :
    wpAny (model X.prog X.w) A (getItem (.ref a) u) Q E s := by
  rcases g with ⟨kvs, k, e, ey, l⟩ | ⟨kvs, k, b, e, ey, eb, l⟩
  · subst ey
    obtain ⟨z, hd, vs, rel, dd⟩ := dk_rd I.hok e
    obtain ⟨w', hw, rw'⟩ := RelO.some_of (v := v) (o := valueAt vs k) (by rw [l]; exact rel.val k)
    exact wpAny_getItem_of (kV_is ry) dd.mapOf hw (h w' _ (I.tok _) rw')
  · subst ey
    cases (show u = Value.ref b from ry)
    obtain ⟨z, hd, xs, rel, dd⟩ := dt_rd I.hok e
    obtain ⟨w', hw, rw'⟩ := RelO.some_of (v := v) (o := (atKey xs k).map (·.2)) (by rw [l]; exact rel.val k)
    obtain ⟨p, hp, hp2⟩ := Option.map_eq_some_iff.mp hw
    refine wpAny_getItem_heap (tupleKind_room_in1 hu) (key_of I.hok eb) dd hp ?_
    rw [hp2]
    exact h w' _ (I.tok _) rw'
theorem d_notIn {Q : Value → Shared → Prop} (hu : A.units + 1 < cLine) (I : Inv X pins σ H s) (g : DGet H a y o) (ry : RelV y u) (h : ∀ s', Inv X pins σ H s' → Q (.bool (!o.isSome)) s') :
    wpAny (model X.prog X.w) A (compareOp .NotIn u (.ref a)) Q E s := by
  rcases g with ⟨kvs, k, e, ey, l⟩ | ⟨kvs, k, b, e, ey, eb, l⟩
  · subst ey
    obtain ⟨z, hd, vs, rel, dd⟩ := dk_rd I.hok e
    refine wpAny_notIn_of (kV_is ry) hd dd.mapOf ?_
    rw [← (rel.val k).isSome_eq, ← l]
    exact h _ (I.tok _)
  · subst ey
    cases (show u = Value.ref b from ry)
    obtain ⟨z, hd, xs, rel, dd⟩ := dt_rd I.hok e
    refine wpAny_notIn_heap (tupleKind_room_in1 hu) (key_of I.hok eb) hd dd ?_
    have q := (rel.val k).isSome_eq
    rw [Option.isSome_map] at q
    rw [← q, ← l]
    exact h _ (I.tok _)
/-- a dict's object is replaced -/
theorem d_write {h' : Heap} {t' : Nat} {ob : HO} (I : Inv X pins σ H s) (mu : Mut (H a)) (hs : Heap.SameBut a s.heap h') (he : ∃ q, h'.get? a = some q) (new : ObjOk X.prog X.w (upd H a ob) h' a ob) :
    Inv X pins σ (upd H a ob) { s with heap := h', toks := t' } :=
  I.write (x := a) (e := a) mu (.inl rfl) (fun b q hb z => (hs.2 b hb).trans z) he new
theorem dk_new {P : Program} {w : World} {H' : Hp} {h' : Heap} {kvs : List (Key × V)} {vs : List (Key × Value)} (z : kvs.length ≤ sizeLine) (hd : (a == sysModules) = false) (rel : KV kvs vs) (dd : h'.DictOf (mixKind P w) a vs) :
    ObjOk P w H' h' a (.dK kvs) := ⟨z, hd, vs, rel, dd⟩
/-- d[y] = v -/
theorem d_setItem {H' : Hp} {Q : Unit → Shared → Prop} (hu : A.units + 1 < cLine) (I : Inv X pins σ H s) (g : DPut H a y v H') (ry : RelV y u) (rv : RelV v r) (h : ∀ s', Inv X pins σ H' s' → Q () s') :
    wpAny (model X.prog X.w) A (setItem (.ref a) u r) Q E s := by
  rcases g with ⟨kvs, k, e, ey, l, eH⟩ | ⟨kvs, k, b, e, ey, eb, l, eH⟩
  · subst ey eH
    obtain ⟨z, hd, vs, rel, dd⟩ := dk_of I.hok e
    have hz : vs.length ≤ sizeLine := by rw [← rel.length]; exact z
    have hl : (putK kvs k v).length ≤ sizeLine := by have := length_putK kvs k v; omega
    refine wpAny_setItem_pairs (hsz := hz) (kV_is ry) dd fun h' dd' hs => h _ ?_
    have he : ∃ q, h'.get? a = some q := let ⟨q, _, _, hq, _⟩ := dd'; ⟨q, hq⟩
    exact d_write I (by rw [e]; exact True.intro) hs he (dk_new hl hd (rel.put k rv) dd')
  · subst ey eH
    cases (show u = Value.ref b from ry)
    obtain ⟨z, hd, xs, rel, dd⟩ := dt_of I.hok e
    have hz : xs.length ≤ sizeLine := by rw [← Paired.length rel]; exact z
    have hl : (putK kvs k v).length ≤ sizeLine := by have := length_putK kvs k v; omega
    refine wpAny_setItem_heap (hsz := hz) (tupleKind_room_in1 hu) (key_of I.hok eb) dd fun h' dd' hs => h _ ?_
    obtain ⟨q, es, ep, hq, h2, h3, h4, _, h5⟩ := dd'
    refine d_write I (by rw [e]; exact True.intro) hs ⟨q, hq⟩ ⟨hl, hd, _, (rel.put k eb rv).keeps fun c ys ec => ?_, q, es, ep, hq, h2, h3, h4, h5⟩
    rw [upd_ne (ne_of ec e (fun z => nomatch z))]
    exact ec
end

section
variable {X : Cx} {pins : List (Addr × Obj)} {σ : St} {H : Hp} {s : Shared} {a : Addr} {kvs : List (Key × V)} {k : Key} {u : Value} {A : Around} {E : Value → Shared → Prop}
/-- len(d) -/
theorem d_len {Q : Value → Shared → Prop} (I : Inv X pins σ H s) (e : Rd H a (.dK kvs)) (h : ∀ t s', Inv X pins σ H s' → Q (.int kvs.length t) s') : wpAny (model X.prog X.w) A (call (.builtin "len") [.ref a]) Q E s := by
  obtain ⟨z, hd, vs, rel, dd⟩ := dk_rd I.hok e
  refine call_len_dict hd dd (by rw [← rel.length]; rw [sizeLine_eq] at z; omega) ?_
  rw [← rel.length]
  exact h _ _ (I.tok _)
end


/-! ### readings and rules -/
/-- the element of a subscription, not a slice -/
def NoSl (i : Expr) : Prop := ∀ ov iv, subscripted i false ov iv = operate [ov, iv] (getItem ov iv)
theorem subD_of {prog : Program} {w : World} {A : Around} {E : Value → Shared → Prop} {s : Shared} {env : Env} {value slice : Expr} {pos : Pos} {T id : String} {Q : Value → Shared → Prop}
    (hl : typeLookup (.type T) "__getitem__" = pure (some (.builtin id))) (hs : NoSl slice)
    (h : wpAny (model prog w) A (eval value env) (fun o s₁ => wpAny (model prog w) A (eval slice env) (fun i s₂ => s₂.TypeIs o T ∧ wpAny (model prog w) A (getItem o i) Q E s₂) E s₁) E s) :
    wpAny (model prog w) A (eval (.Subscript value slice pos) env) Q E s := by
  refine Subscript_ (wpAny_mono h (fun o s₁ h₁ => wpAny_mono h₁ (fun i s₂ h₂ => ?_) fun _ _ x => x) fun _ _ x => x)
  obtain ⟨hT, h₂⟩ := h₂
  unfold subscriptTail
  refine wpAny_bind ?_
  rw [getitemInPython_of_ne hT.not_modules]
  refine wpAny_bind (wpAny_specialOf hT hl ?_)
  have fin : wpAny (model prog w) A (subscripted slice false o i) (fun r s₃ => wpAny (model prog w) A (letTemporaryGo value o r >>= fun _ => pure r) Q E s₃) E s₂ := by
    rw [hs o i]
    exact wpAny_operating (wpAny_mono h₂ (fun r s₃ h₃ => wpAny_bind (wpAny_letTemporaryGo (wpAny_pure h₃))) fun _ _ x => x)
  first
    | exact wpAny_pure (wpAny_bind fin)
    | exact wpAny_bind (wpAny_pure (wpAny_bind fin))
    | exact wpAny_bind fin

theorem dict_typeIs {X : Cx} {pins : List (Addr × Obj)} {σ : St} {H : Hp} {s : Shared} {a : Addr} {y : V} {o : Option V} (I : Inv X pins σ H s) (g : DGet H a y o) : s.TypeIs (.ref a) "dict" := by
  rcases g with ⟨kvs, k, e, _, _⟩ | ⟨kvs, k, b, e, _, _, _⟩
  · obtain ⟨_, _, vs, _, dd⟩ := dk_rd I.hok e
    exact dd.typeIs
  · obtain ⟨_, _, xs, _, dd⟩ := dt_rd I.hok e
    exact dd.typeIs
/-- d[y] -/
def tDGet (td ty : TE) : TE := fun σ H Q => td σ H fun x H1 => ty σ H1 fun y H2 => ∃ a v, x = .ref a ∧ DGet H2 a y (some v) ∧ Q v H2
def tDNotIn (ty td : TE) : TE := fun σ H Q => ty σ H fun y H1 => td σ H1 fun x H2 => ∃ a o, x = .ref a ∧ DGet H2 a y o ∧ Q (.bl (!o.isSome)) H2
/-- d[y] = v -/
def sDPut (td ty tv : TE) : TS := fun D σ H => tv σ H fun v H1 => td σ H1 fun x H2 => ty σ H2 fun y H3 => ∃ a H4, x = .ref a ∧ DPut H3 a y v H4 ∧ D.nx σ H4
section
variable {X : Cx} {o i e value : Expr} {pos pos' tpos : Pos} {td ty tv : TE}
theorem pe_dget (hu : X.A.units + 1 < cLine) (ho : PE X o td) (hi : PE X i ty) (hs : NoSl i) : PE X (.Subscript o i pos) (tDGet td ty) := by
  intro pins s σ H Q I h
  refine subD_of PySem.F.slot_dict_getitem.lookup hs (thn (ho pins s σ H _ I h) fun u s1 ⟨x, H1, I1, rx, q1⟩ => thn (hi pins s1 σ H1 _ I1 q1) fun iv s2 ⟨y, H2, I2, ry, a, v, ex, g, q2⟩ => ?_)
  subst ex
  obtain rfl : u = Value.ref a := rx
  exact ⟨dict_typeIs I2 g, d_getItem hu I2 g ry fun w' s3 I3 rw' => ⟨v, H2, I3, rw', q2⟩⟩
theorem pc_dnotin (hu : X.A.units + 1 < cLine) (hi : PE X i ty) (ho : PE X o td) : PC X .NotIn i o (tDNotIn ty td) := by
  intro pins s σ H Q I h
  refine thn (hi pins s σ H _ I h) fun iv s1 ⟨y, H1, I1, ry, q1⟩ => thn (ho pins s1 σ H1 _ I1 q1) fun u s2 ⟨x, H2, I2, rx, a, ov, ex, g, q2⟩ => ?_
  subst ex
  obtain rfl : u = Value.ref a := rx
  exact d_notIn hu I2 g ry fun s3 I3 => ⟨.bl (!ov.isSome), H2, I3, rfl, q2⟩
theorem ps_dput (hu : X.A.units + 1 < cLine) (ho : PE X o td) (hi : PE X i ty) (hv : PE X value tv) (hs : swapsWith value (some (.Subscript o i pos')) pos.line X.env = pure false) :
    PS X (.Assign [.Subscript o i pos'] value pos) (sDPut td ty tv) := by
  intro pins s σ H D I h
  refine wpAny_Assign_Subscript (thn (hv pins s σ H _ I h) fun r s1 ⟨v, H1, I1, rv, q1⟩ => thn (ho pins s1 σ H1 _ I1 q1) fun u s2 ⟨x, H2, I2, rx, q2⟩ => thn (hi pins s2 σ H2 _ I2 q2) fun iv s3 ⟨y, H3, I3, ry, a, H4, ex, g, q3⟩ => ?_) hs
  subst ex
  obtain rfl : u = Value.ref a := rx
  exact d_setItem hu I3 g ry rv fun s4 I4 => ⟨σ, H4, I4, q3⟩
end


/-! ### displays -/
theorem dk_empty {P : Program} {w : World} {H : Hp} (h : Heap) (hb : sysModules < h.objs.size) : ObjOk P w H (h.push { cls := .type "dict", data := .dict #[] }) h.objs.size (.dK []) :=
  ⟨Nat.zero_le _, beq_eq_false_iff_ne.mpr (Ne.symm (Nat.ne_of_lt hb)), [], .nil, Heap.DictOf.new h⟩
theorem dt_empty {P : Program} {w : World} {H : Hp} (h : Heap) (hb : sysModules < h.objs.size) : ObjOk P w H (h.push { cls := .type "dict", data := .dict #[] }) h.objs.size (.dT []) :=
  ⟨Nat.zero_le _, beq_eq_false_iff_ne.mpr (Ne.symm (Nat.ne_of_lt hb)), [], .nil, _, #[], 0, Heap.get?_push_size _ rfl, ⟨rfl, rfl, rfl⟩, rfl, rfl, List.nodup_nil⟩
/-- {}, to be a dict of the kind that is wanted -/
def tDNewK : TE := fun _ H Q => ∀ p, H p = none → Q (.ref p) (upd H p (.dK []))
def tDNewT : TE := fun _ H Q => ∀ p, H p = none → Q (.ref p) (upd H p (.dT []))
section
variable {X : Cx} {pos : Pos}
theorem pe_dnewK : PE X (.Dict [] [] pos) tDNewK := fun pins s σ H Q I h =>
  wpAny_Dict_empty ⟨.ref s.heap.objs.size, _, I.laid (a := s.heap.objs.size) (o := .dK []) (t' := s.toks) (fun _ _ q => Heap.get?_push_of_some _ q) (Nat.le_refl _) (dk_empty s.heap I.big), rfl, h _ (I.hok.fresh (Nat.le_refl _))⟩
theorem pe_dnewT : PE X (.Dict [] [] pos) tDNewT := fun pins s σ H Q I h =>
  wpAny_Dict_empty ⟨.ref s.heap.objs.size, _, I.laid (a := s.heap.objs.size) (o := .dT []) (t' := s.toks) (fun _ _ q => Heap.get?_push_of_some _ q) (Nat.le_refl _) (dt_empty s.heap I.big), rfl, h _ (I.hok.fresh (Nat.le_refl _))⟩
end

/-- the pairs of a display, from the left -/
def tPairs : List (TE × TE) → St → Hp → (List (V × V) → Hp → Prop) → Prop
  | [], _, H, Q => Q [] H
  | (tk, tv) :: r, σ, H, Q => tk σ H fun x H1 => tv σ H1 fun y H2 => tPairs r σ H2 fun ps H3 => Q ((x, y) :: ps) H3
abbrev VV : List (V × V) → List (Value × Value) → Prop := Paired fun p q => RelV p.1 q.1 ∧ RelV p.2 q.2
def PPs (X : Cx) (pos : Pos) (keys : List (Option Expr)) (values : List Expr) (trs : List (TE × TE)) : Prop :=
  ∀ (pins : List (Addr × Obj)) (s : Shared) (σ : St) (H : Hp) (Q : List (V × V) → Hp → Prop), Inv X pins σ H s → tPairs trs σ H Q →
    wpAny (model X.prog X.w) X.A (evalPairs (pairTrees keys values X.env pos)) (fun vs s' => ∃ ps H', Inv X pins σ H' s' ∧ VV ps vs ∧ Q ps H') X.xe s
theorem pps_nil {X : Cx} {pos : Pos} : PPs X pos [] [] [] := fun pins s σ H Q I h => pairTrees_nil_walk ⟨[], H, I, .nil, h⟩
theorem pps_cons {X : Cx} {pos : Pos} {k v : Expr} {ks : List (Option Expr)} {vs : List Expr} {tk tv : TE} {trs : List (TE × TE)} (hk : PE X k tk) (hv : PE X v tv) (hr : PPs X pos ks vs trs) :
    PPs X pos (some k :: ks) (v :: vs) ((tk, tv) :: trs) := fun pins s σ H Q I h =>
  pairTrees_cons_walk (thn (hk pins s σ H _ I h) fun u s1 ⟨x, H1, I1, rx, q1⟩ => thn (hv pins s1 σ H1 _ I1 q1) fun w2 s2 ⟨y, H2, I2, ry, q2⟩ =>
    thn (hr pins s2 σ H2 _ I2 q2) fun ws s3 ⟨ps, H3, I3, rel, q3⟩ => ⟨(x, y) :: ps, H3, I3, .cons ⟨rx, ry⟩ rel, q3⟩)

def mergeK (kvs more : List (Key × V)) : List (Key × V) := more.foldl (fun acc kv => putK acc kv.1 kv.2) kvs
theorem KV.merge : ∀ {more : List (Key × V)} {rs : List (Key × Value)} {kvs : List (Key × V)} {vs : List (Key × Value)}, KV more rs → KV kvs vs → KV (mergeK kvs more) (merged vs rs) := by
  intro more rs kvs vs r
  unfold KV at r
  induction r generalizing kvs vs with
  | nil => intro q; exact q
  | @cons p q ps qs h t ih =>
    intro r0
    have e : KV (putK kvs p.1 p.2) (stored vs q.1 q.2) := by
      have := r0.put p.1 h.2
      rw [← h.1]; exact this
    exact ih e
theorem length_mergeK : ∀ (more kvs : List (Key × V)), (mergeK kvs more).length ≤ kvs.length + more.length
  | [], kvs => by show kvs.length ≤ kvs.length + 0; omega
  | p :: r, kvs => by
    have h1 := length_mergeK r (putK kvs p.1 p.2)
    have h2 := length_putK kvs p.1 p.2
    show (mergeK (putK kvs p.1 p.2) r).length ≤ _
    rw [List.length_cons]; omega
theorem carries_of {P : Program} {w : World} : ∀ {kvs : List (Key × V)} {ws : List (Value × Value)}, VV (kvs.map fun kv => (kV kv.1, kv.2)) ws → ∃ rs, Carries (mixKind P w) ws rs ∧ KV kvs rs
  | [], _, r => by rw [List.map_nil] at r; cases r; exact ⟨[], True.intro, .nil⟩
  | p :: kvs, _, r => by
    rw [List.map_cons] at r
    cases r with
    | @cons a b as bs h t =>
      obtain ⟨rs, c, q⟩ := carries_of (P := P) (w := w) t
      obtain ⟨b1, b2⟩ := b
      exact ⟨(p.1, b2) :: rs, ⟨kV_is h.1, rfl, c⟩, .cons ⟨rfl, h.2⟩ q⟩
/-- {k: v, ..} with keys ints and texts; the new dict stands empty while the pairs are made -/
def tDisp (trs : List (TE × TE)) : TE := fun σ H Q => ∀ p, H p = none → tPairs trs σ (upd H p (.dK [])) fun ps H2 => H2 p = some (.dK []) ∧ ∃ kvs : List (Key × V), ps = kvs.map (fun kv => (kV kv.1, kv.2)) ∧ kvs.length ≤ 15 ∧ Q (.ref p) (upd H2 p (.dK (mergeK [] kvs)))
theorem pe_disp {X : Cx} {pos : Pos} {keys : List (Option Expr)} {values : List Expr} {trs : List (TE × TE)} (h : PPs X pos keys values trs) (hall : keys.all (·.isSome) = true) (hl : keys.length = values.length) (h0 : keys ≠ [])
    (h15 : keys.length ≤ 15) : PE X (.Dict keys values pos) (tDisp trs) := by
  intro pins s σ H Q I q
  have hn := I.hok.fresh (Nat.le_refl s.heap.objs.size)
  have I1 := I.laid (a := s.heap.objs.size) (o := .dK []) (h' := s.heap.push { cls := .type "dict", data := .dict #[] }) (t' := s.toks) (fun _ _ q => Heap.get?_push_of_some _ q) (Nat.le_refl _) (dk_empty s.heap I.big)
  refine wpAny_Dict_walk (knd := mixKind X.prog X.w) hall hl h0 h15 (thn (h pins _ σ _ _ I1 (q _ hn)) fun ws s2 ⟨ps, H2, I2, rel, e, kvs, ep, lk, q2⟩ => ?_)
  subst ep
  obtain ⟨rs, c, rk⟩ := carries_of (P := X.prog) (w := X.w) rel
  obtain ⟨z, hd, vs0, r0, dd⟩ := dk_of I2.hok e
  cases r0
  refine ⟨rs, c, dd, fun h' dd' hs => ⟨.ref s.heap.objs.size, _, ?_, rfl, q2⟩⟩
  have hz : (mergeK [] kvs).length ≤ sizeLine := by
    have h1 := length_mergeK kvs []
    rw [List.length_nil] at h1
    rw [sizeLine_eq]; omega
  have he : ∃ q, h'.get? s.heap.objs.size = some q := let ⟨q, _, _, hq, _⟩ := dd'; ⟨q, hq⟩
  exact d_write I2 (by rw [e]; exact True.intro) hs he (dk_new hz hd (rk.merge .nil) dd')


/-! ### methods -/
section
variable {X : Cx} {pins : List (Addr × Obj)} {σ : St} {H : Hp} {s : Shared} {a : Addr} {y d : V} {u r : Value} {o : Option V} {A : Around} {E : Value → Shared → Prop}
end

section
variable {X : Cx} {o e f : Expr} {apos cpos : Pos} {td ty tx : TE}
end

/-! ### dict(d): a copy -/
section
variable {X : Cx} {pins : List (Addr × Obj)} {σ : St} {H : Hp} {s : Shared} {a : Addr} {kvs : List (Key × V)} {A : Around} {E : Value → Shared → Prop}
end


section
variable {X : Cx} {pins : List (Addr × Obj)} {σ : St} {H : Hp} {s : Shared} {a : Addr} {y : V} {u : Value} {A : Around} {E : Value → Shared → Prop}
end
end L2

namespace Att
open PySem PySem.W PySem.Calls PyProof.Rows

/-! ### the script -/
theorem ints_of_wellAll {P : Params} {h : Heap} : ∀ (ns : List Int) (vs : List Value), WellAll P h vs (ns.map WData.int) → IntsAre vs ns := by
  intro ns
  induction ns with
  | nil =>
    intro vs w
    rw [List.map_nil] at w
    cases w
    exact .nil
  | cons n ns ih =>
    intro vs w
    rw [List.map_cons] at w
    cases w with
    | cons a b =>
      cases a
      exact .cons _ _ (ih _ b)

theorem script_of {l : OpenLaw} {n : Nat} (hn : l.most = some n) {P : Params} {h : Heap} {args : List WData} {vals : List Value}
    (hpre : l.row.toRowW.claim.pre args = true) (hwl : WellAll P h vals args) :
    ∃ a vs ns, vals = [Value.ref a] ∧ args = [WData.list (ns.map WData.int)] ∧ h.get? a = some { cls := .type "list", data := .seq vs.toArray } ∧ IntsAre vs ns ∧ ns.length ≤ n := by
  have hsh : WShape.hasAll [] args [.list .int] = true := (pre_splitW hpre).1
  have hc : l.pre.holds [] { args := args } = true := (pre_splitW hpre).2
  obtain ⟨d, r, rfl, h1, h2⟩ := hasAllW_cons hsh
  obtain rfl := hasAllW_nil h2
  obtain ⟨xs, rfl, h3⟩ := hasW_list h1
  obtain ⟨ns, rfl⟩ := items_int h3
  have hlen : ns.length ≤ n := by
    unfold OpenLaw.pre at hc
    have h4 : (WTm.not (.lt (.lit (.int (n : Int))) (.len (.arg 0)))).holds [] { args := [.list (ns.map .int)] } = true := by
      have h4 := (holds_andW hc).1
      rw [hn] at h4
      exact h4
    have h5 := condW_of h4 (w_not (w_lt w_lit (w_len_list (w_arg rfl))))
    rw [List.length_map] at h5
    refine Nat.le_of_not_lt fun q => ?_
    have q' : (n : Int) < ((ns.length : Nat) : Int) := by omega
    first
      | (rw [decide_eq_true q'] at h5; exact absurd h5 (by decide))
      | (simp at h5; omega)
  cases hwl with
  | cons w1 w2 =>
    cases w2
    cases w1 with
    | list ho hall => exact ⟨_, _, ns, rfl, rfl, ho, ints_of_wellAll ns _ hall, hlen⟩

theorem post_true (l : OpenLaw) (args : List WData) : l.row.toRowW.claim.post args (.bool true) args = true :=
  postW_of (r := l.row.toRowW) (X := (true == true))
    (show WShape.has [] (.bool true) .bool = true by first | rfl | decide | simp [WShape.has, WShape.arms, WShape.armsAll])
    (show (WTm.eq .res (.lit (.bool true))).value [] { args := args, res := some (.bool true), after := args } = some (.bool (true == true)) from w_eq_bool (w_res rfl) w_lit) rfl

/-! ### the attachment: holds_open's last premise (the goal 'hc' behind k_head) from a wpAny of the law's body -/
/-- the same from a codeAny of the CALL (for a layer whose function contracts speak of calls) -/
theorem attach_call {l : OpenLaw} {n : Nat} {q : Program} {loose : List Str} {XP : (Str → Option Value) → Heap → Prop} {YP : World → Heap → Prop} {d : DefRec}
    (hn : l.most = some n) (hdf : d.params.defaults = [])
    (call : ∀ (w : World) (s₀ s₁ : Shared) (mg mb : Str → Option Value) (fa : Addr) (o : Obj) (pm cd doc : Value) (a : Addr) (vs : List Value) (ns : List Int),
      Ground q loose [] XP w s₀ mg mb s₁.heap → YP w s₁.heap →
      s₁.heap.get? fa = some o → o.data = .func (docDef d.name d.params d.body d.scope pm cd doc) → s₁.heap.CodeRec cd d.name → mg d.name = some (.ref fa) →
      s₁.heap.get? a = some { cls := .type "list", data := .seq vs.toArray } → IntsAre vs ns → ns.length ≤ n → s₁.gens = #[] →
      codeAny (model l.prog w) callerA (.call (.ref fa) ⟨[.ref a], []⟩) (fun r s' => r = .ok (.ret (.bool true)) ∧ OldK s₁.heap s'.heap ∧ s'.os = s₁.os ∧ AllBare s'.gens) s₁) :
    WalkO q loose XP YP l.row.toRowW d [] (fun f vs => PySem.call f vs) := by
  intro w s₀ s₁ mg mb G Y fa o pm cd doc dV kV ho hd hcd hD hmg hg args vals as hpre hlay hrd hwl hlo
  obtain rfl : dV = .none := Dflts.none hD hdf
  obtain rfl : kV = .none := Dflts.noKw hD
  obtain ⟨a, vs, ns, rfl, rfl, hobj, hints, hlen⟩ := script_of hn hpre hwl
  refine enter_call (codeAny_mono (call w s₀ s₁ mg mb fa o pm cd doc a vs ns G Y ho (fd_plain hd) hcd hmg hobj hints hlen hg) fun r s' hq => ?_)
  obtain ⟨rfl, h2, h3, h4⟩ := hq
  exact ⟨.inl ⟨.bool true, .bool true, [], rfl, fun _ => rfl, .bool true, post_true l _, fun _ => ⟨List.Pairwise.nil, fun _ hm => (nomatch hm)⟩⟩, h2, h3, h4⟩

/-! ### rules over ANY heap (no ledger) from facts about the written part K: the library's own take a ledger (News) for what they write -/
section
variable {prog : Program} {w : World} {A : Around} {E : Value → Shared → Prop} {s : Shared} {K : Frag}

/-! the whole heap as the ledger: makes every rule that writes through a ledger a rule over any heap -/
end
end Att

namespace L2
open PySem PySem.Spec PyProof.Rows

theorem vals_ints : ∀ {vs : List Value} {ns : List Int}, IntsAre vs ns → Vals (ns.map V.int) vs
  | _, _, .nil => .nil
  | _, _, .cons n t h => .cons ⟨t, rfl⟩ (vals_ints h)

/-- nothing is tracked but the script, known to the object (or it is an object of the module) -/
def Only (H : Hp) : Prop := ∀ b, H b = none ∨ ∃ o xs, H b = some (.frz o (.lst xs))

/-- THE HEAD: the law's promise, at the heap behind the top. F, the promise of the law's def, may use that base is part of the heap (so K.In base, base.Ns mainGlobals mg stand in Mod) -/
theorem law_call {P : Program} {w : World} {K : PySem.W.Frag} {mg mb : Str → Option Value} {CX : CXT} {k : Nat} {fa a : Addr} {fd : FuncData} {x : Str} {sp : Sp} {s₁ : Shared} {vs : List Value} {ns : List Int}
    (KX : K.In s₁.heap) (hns : s₁.heap.Ns mainGlobals mg) (hb : s₁.heap.Ns builtinsNs mb) (hbb : ∀ x : Str, x ≠ "__name__" → mb x = bootBuiltins x) (hlim : s₁.heap.NoLimit) (hg : s₁.gens = #[])
    (ha : s₁.heap.get? a = some { cls := .type "list", data := .seq vs.toArray }) (hi : IntsAre vs ns) (hl : ns.length ≤ sizeLine) (hr : Room k callerA)
    (F : ∀ base : Heap, K.In base → base.Ns mainGlobals mg → FnOk P w K mg base CX k fa fd [x] sp) (hbind : ∀ (s : Shared) (u : Value), BindsTo s fd ⟨[u], []⟩ [(x, u)])
    (hsp : ∀ H : Hp, Only H → SqL K H a (ns.map V.int) → sp [.ref a] H (fun v _ => v = .bl true) fun _ _ _ => False)
    (hCX : ∀ H e s', CX [] H s₁ (fun _ _ _ => False) e s' → False) :
    codeAny (model P w) callerA (.call (.ref fa) ⟨[.ref a], []⟩) (fun r s' => r = .ok (.ret (.bool true)) ∧ OldK s₁.heap s'.heap ∧ s'.os = s₁.os ∧ AllBare s'.gens) s₁ := by
  have rv := vals_ints hi
  have lenV := hi.length
  -- from an abstract heap in which nothing but the script may be tracked
  have core : ∀ H : Hp, Only H → SqL K H a (ns.map V.int) → HOk P w H s₁.heap → (∀ b, H b ≠ none → b = a) → (H a ≠ none → K.lookup a = none) →
      codeAny (model P w) callerA (.call (.ref fa) ⟨[.ref a], []⟩) (fun r s' => r = .ok (.ret (.bool true)) ∧ OldK s₁.heap s'.heap ∧ s'.os = s₁.os ∧ AllBare s'.gens) s₁ := by
    intro H hO hS hok hA hK
    have base_of : ∀ {b : Addr} {o : Obj}, s₁.heap.get? b = some o → H b = none → (hidT s₁.heap H).get? b = some o := fun e n => hidT_get e n
    have noA : ∀ {b : Addr} {o : Obj} {es : Array DictEntry} {ep : Nat}, s₁.heap.get? b = some o → o.data = .dict es ep → H b = none := fun {b o es ep} e d => by
      cases q : H b with
      | none => rfl
      | some u =>
        have e' : b = a := hA b (by rw [q]; simp)
        subst e'
        rw [ha] at e; cases e
        have d' : Data.seq vs.toArray _ = Data.dict es ep := d
        cases d'
    have nsK : ∀ {b : Addr} {m : Str → Option Value}, s₁.heap.Ns b m → (hidT s₁.heap H).Ns b m := fun {b m} ⟨o, es, ep, e, d, r⟩ => ⟨o, es, ep, base_of e (noA e d), d, r⟩
    have hKb : K.In (hidT s₁.heap H) := fun b o e => base_of (KX b o e) (by
      cases q : H b with
      | none => rfl
      | some u =>
        have e' : b = a := hA b (by rw [q]; simp)
        subst e'
        rw [hK (by rw [q]; simp)] at e; cases e)
    have hM : Mod K mg (hidT s₁.heap H) := ⟨hKb, nsK hns, ⟨mb, nsK hb, hbb⟩, let ⟨mc, h1, h2⟩ := hlim; ⟨mc, nsK h1, h2⟩⟩
    have e0 : Env0 P w K mg (hidT s₁.heap H) callerA [] s₁ H := ⟨rfl, hM, fun b o e => of_hidT e, Nat.le_of_eq (hidT_size _ _), trivial, fun b hb => absurd (show b ∈ ([] : List Addr) from hb) (by simp), hok, .of_eq hg⟩
    refine codeAny_mono ((F _ hKb (nsK hns)).run callerA [] s₁ H ⟨[.ref a], []⟩ [.ref a] [.ref a] _ _ hr e0 (hbind s₁ (.ref a)) (.cons rfl .nil) (hsp H hO hS)) fun r s' h => ?_
    cases r with
    | error e => exact (hCX H e s' h).elim
    | ok fl =>
      cases fl with
      | next => exact False.elim h
      | brk => exact False.elim h
      | cont => exact False.elim h
      | ret u =>
        obtain ⟨v, H', os, bare, un, hok', r', q⟩ := h
        have q' : v = .bl true := q
        subst q'
        obtain rfl : u = Value.bool true := r'
        refine ⟨rfl, OldK.of_keep fun b o e => ?_, os, bare⟩
        cases q : H b with
        | none => exact un.keep b o e q (by intro z; exact absurd (show b ∈ ([] : List Addr) from z) (by simp)) (by simp)
        | some u =>
          rcases hO b with z | ⟨ob, xs, z⟩
          · rw [q] at z; cases z
          · have z2 := un.frzs b ob _ z
            obtain ⟨e1, _⟩ := hok b _ z
            obtain ⟨e2, _⟩ := hok' b _ z2
            rw [e] at e1; cases e1
            exact e2
  cases hk : K.lookup a with
  | some o =>
    -- the script is one of the module's own objects
    have e := KX a o hk
    rw [ha] at e
    cases e
    refine core (fun _ => none) (fun _ => .inl rfl) (.inr ⟨_, vs.toArray, _, hk, rfl, rfl, rfl, by rw [List.size_toArray, lenV]; exact hl, by simpa using rv⟩) (fun b u z => by have z' : (none : Option HO) = some u := z; cases z') (fun b z => absurd rfl z) fun z => absurd rfl z
  | none =>
    refine core (fun b => if b = a then some (.frz { cls := .type "list", data := .seq vs.toArray } (.lst (ns.map V.int))) else none) (fun b => ?_) (.inl (.inr ⟨{ cls := .type "list", data := .seq vs.toArray }, if_pos rfl⟩)) (fun b u z => ?_) (fun b z => ?_) fun _ => hk
    · by_cases hb : b = a
      · exact .inr ⟨_, _, if_pos hb⟩
      · exact .inl (if_neg hb)
    · by_cases hb : b = a
      · have z' := (if_pos hb).symm.trans z
        cases z'
        subst hb
        exact ⟨ha, by rw [List.length_map]; exact hl, vs, _, rv, ha⟩
      · have z' := (if_neg hb).symm.trans z
        cases z'
    · by_cases hb : b = a
      · exact hb
      · exact absurd (if_neg hb) z
end L2

namespace L2
open PySem PySem.Spec PyProof.Rows

/-- the goal that k_head leaves (case hc), from the law's promise. F gives the function object fd (K's own) once, then the promise over every base -/
theorem walk_of {l : PySem.W.OpenLaw} {n k : Nat} {q : Program} {loose : List Str} {XP : (Str → Option Value) → Heap → Prop} {YP : World → Heap → Prop} {d : DefRec} {K : Params → PySem.W.Frag} {CX : World → CXT} {sp : World → Sp} {x : Str}
    (hn : l.most = some n) (hn2 : n ≤ sizeLine) (hdf : d.params.defaults = []) (hr : Room k callerA)
    (hY : ∀ (w : World) (h : Heap), YP w h → (K w.params).In h)
    (F : ∀ (w : World) (mg : Str → Option Value) (fa : Addr) (h : Heap), (K w.params).In h → h.Ns mainGlobals mg → mg d.name = some (.ref fa) →
      ∃ fd : FuncData, (∀ (s : Shared) (u : Value), BindsTo s fd ⟨[u], []⟩ [(x, u)]) ∧
        ∀ base : Heap, (K w.params).In base → base.Ns mainGlobals mg → FnOk l.prog w (K w.params) mg base (CX w) k fa fd [x] (sp w))
    (hsp : ∀ (w : World) (H : Hp) (a : Addr) (ns : List Int), ns.length ≤ n → Only H → SqL (K w.params) H a (ns.map V.int) → sp w [.ref a] H (fun v _ => v = .bl true) fun _ _ _ => False)
    (hCX : ∀ (w : World) (H : Hp) (s : Shared) (e : Value) (s' : Shared), CX w [] H s (fun _ _ _ => False) e s' → False) :
    PySem.W.WalkO q loose XP YP l.row.toRowW d [] (fun f vs => PySem.call f vs) := by
  refine Att.attach_call hn hdf fun w s₀ s₁ mg mb fa o pm cd doc a vs ns G Y ho hd hcd hmg hobj hints hlen hg => ?_
  have KX := hY w _ Y
  obtain ⟨fd, hb, hF⟩ := F w mg fa _ KX G.T.g hmg
  exact law_call KX G.T.g G.T.b G.T.builtins G.T.nolimit hg hobj hints (Nat.le_trans hlen hn2) hr hF hb (fun H hO hS => hsp w H a ns hlen hO hS) fun H e s' => hCX w H s₁ e s'
end L2

/- THE LAST THEOREM (shape; LID, My.* are yours):
   My.Adr: a structure of the addresses that your layer names (classes, functions); My.Txt K t: a structure (Prop) of the equations over K;
   My.txt_mk : {K} {implicit addresses ..} (e1 : nsIn K mainGlobals "law" = some (some (.ref f))) (e2 : K.lookup f = some ⟨oc, od, .func (fnOf "law" "law" params body scope dV kV doc pm an cdv ct), sl⟩) (e3 : codeIn K cdv "law" = true) .. : ∃ t, My.Txt K t

set_option maxRecDepth 100000 in
set_option maxHeartbeats 0 in
theorem PySem.Challenge.cw_LID_holds : PySem.Challenge.rw_LID.Holds := by
  w_on; o_law; k_head; (case hw => w_witness2)
  k_fill
  refine L2.walk_of (l := PySem.Challenge.rw_LID) (n := 63) (k := 40) (x := "script") (CX := fun w => ..) (sp := fun _ => My.sp_law) rfl (by decide) rfl ⟨rfl, by decide, by decide⟩ (fun w h Y => PySem.W.kIn_of Y) ?F ?S ?C
  case F =>
    intro w mg fa h KX G hmg
    have T : ∃ t, My.Txt (L2.KOf KX) t := by
      dsimp only [L2.KOf]                          -- K must stand as «<heap const> w.params» for k_is
      refine' My.txt_mk ?e1 ?e2 ?e3 ..
      (case e1 => PySem.W.k_is)                    -- in the order: a name -> its address -> its object -> its parts
      (case e2 => PySem.W.k_is)
      ..
    obtain ⟨t, T⟩ := T
    have e0 := hmg.symm.trans (PySem.W.mg_of KX G T.law)
    cases e0                                       -- fa is the law's own address
    exact ⟨_, fun s u => .of_eq rfl, fun base kb nb => My.law_fn T kb nb⟩     -- if «.of_eq rfl» comes too early: refine' ⟨_, ?b, fun base kb nb => My.law_fn T kb nb⟩; exact fun s u => .of_eq rfl
  case S => exact fun w H a ns hl hO hS => ..
  case C => exact ..
(the tactic k_is has no namespace: write k_is) -/

/-! SHORT WORDS over the layer: a def of the text, its body, what a loop and a test want. -/
namespace L2
open PySem PySem.Spec PyProof.Rows

/-! ### the text by places -/
/-- the j-th statement of a class's body -/
def inClass (s : Stmt) (j : Nat) : Stmt := match s with
  | .ClassDef _ _ _ body _ _ _ _ _ _ _ => body.getD j (.Pass ⟨0, 0, 0, 0⟩)
  | _ => .Pass ⟨0, 0, 0, 0⟩
def defArgs (s : Stmt) : Arguments := match s with
  | .FunctionDef _ a _ _ _ _ _ _ _ _ => a
  | _ => { posonlyargs := [], args := [], vararg := none, kwonlyargs := [], kw_defaults := [], kwarg := none, defaults := [] }
def defBody (s : Stmt) : List Stmt := match s with
  | .FunctionDef _ _ b _ _ _ _ _ _ _ => b
  | _ => []
def defScope (s : Stmt) : Scope := match s with
  | .FunctionDef _ _ _ _ _ _ sc _ _ _ => sc
  | _ => { kind := .function, names := [], isGenerator := false, isCoroutine := false }

/-! ### no exception leaves a def -/
abbrev CX0 : CXT := fun _ _ _ _ _ _ => False
abbrev E0 : XK := fun _ _ _ => False
theorem pass0 {X : Cx} : Passes CX0 X E0 := fun _ _ _ _ _ _ _ h => h.elim

/-! ### a def (or method) of the text as it stands behind the top -/
structure Fun (K : PySem.W.Frag) (x qual : Str) (st : Stmt) (f : Addr) (fd : FuncData) : Prop where
  ex : ∃ (oc : Value) (od : Option Addr) (kV doc pm : Value) (an : Option Addr) (cdv ct : Value) (osl : Array (Option Value)),
    fd = PySem.W.fnOf x qual (defArgs st) (defBody st) (defScope st) .none kV doc pm an cdv ct ∧ K.lookup f = some ⟨oc, od, .func fd, osl⟩ ∧ PySem.W.codeIn K cdv qual = true
  kp : PySem.W.keepIn K (.ref f) = true
section
variable {P : Program} {w : World} {K : PySem.W.Frag} {mg : Str → Option Value} {base : Heap}
/-- THE RULE for a def: its body as a term of rules, and the reading of that term -/
theorem Fun.ok {x qual : Str} {st : Stmt} {f : Addr} {fd : FuncData} {N ps : List Str} {k : Nat} {sp : Sp} (F : Fun K x qual st f fd) (S : FnScope N ps (defScope st)) (len : ∀ vs H Q E, sp vs H Q E → vs.length = ps.length)
    (hbody : ∀ (cdv : Value) (A : Around) (outer : List Env) (s : Shared) (H : Hp) (vs : List V) (Q : VK) (E : XK), Room k (A.deeper (envOfC qual (defScope st) s.heap.objs.size f cdv)) → sp vs H Q E →
      ∃ t, PSs (cxOf CX0 P w K mg base N qual (defScope st) f cdv A outer s H E).nox (defBody st) t ∧ t { nx := fun _ H' => Q .non H', rt := Q } (start N vs) H) : FnOk P w K mg base CX0 (k + 1) f fd ps sp := by
  obtain ⟨oc, od, kV, doc, pm, an, cdv, ct, osl, rfl, lk, hcd⟩ := F.ex
  refine fn_of lk hcd S len fun A outer s H vs Q E hr hsp => ?_
  obtain ⟨t, h, q⟩ := hbody cdv A outer s H vs Q E hr hsp
  exact ⟨t, h.nox, q⟩
/-- how its arguments bind (no defaults): h is «fun _ _ _ _ _ _ us hl => match us, hl with | [_, _], _ => rfl», one _ a parameter -/
theorem Fun.binds {x qual : Str} {st : Stmt} {f : Addr} {fd : FuncData} {ps : List Str} (F : Fun K x qual st f fd)
    (h : ∀ (kV doc pm : Value) (an : Option Addr) (cdv ct : Value) (us : List Value), us.length = ps.length → bindArgs (PySem.W.fnOf x qual (defArgs st) (defBody st) (defScope st) .none kV doc pm an cdv ct) ⟨us, []⟩ = pure (ps.zip us)) : Binds K fd ps [] := by
  obtain ⟨oc, od, kV, doc, pm, an, cdv, ct, osl, rfl, lk, hcd⟩ := F.ex
  exact .all (h kV doc pm an cdv ct)
theorem fun_mk {x qual : Str} {st : Stmt} {f : Addr} {oc : Value} {od an : Option Addr} {osl : Array (Option Value)} {kV doc pm cdv ct : Value} (l : K.lookup f = some ⟨oc, od, .func (PySem.W.fnOf x qual (defArgs st) (defBody st) (defScope st) .none kV doc pm an cdv ct), osl⟩)
    (c : PySem.W.codeIn K cdv qual = true) (k : PySem.W.keepIn K (.ref f) = true) : Fun K x qual st f (PySem.W.fnOf x qual (defArgs st) (defBody st) (defScope st) .none kV doc pm an cdv ct) := ⟨⟨oc, od, kV, doc, pm, an, cdv, ct, osl, rfl, l, c⟩, k⟩
end
theorem hu_of {A : Around} {k : Nat} (hr : Room k A) : A.units + 1 < cLine := Nat.lt_of_le_of_lt (Nat.add_le_add_left (by decide : 1 ≤ 64) _) hr.units
/-! ### expressions in short: the name that stands in the i-th slot -/
section
variable {X : Cx}
theorem pv (i : Nat) {x : Str} {pos : Pos} (hN : X.N[i]? = some x := by rfl) (hv : Vis X.env.scope x := by first | exact Or.inl rfl | exact Or.inr (Or.inl rfl) | exact Or.inr (Or.inr rfl)) (hd : (x == ("__debug__" : Str)) = false := by decide)
    (hcd : (x == ("__classdict__" : Str)) = false := by decide) : PE X (.Name x pos) (tVar i) := pe_var hN hv hd hcd
/-- len of a dict -/
theorem call_lenD : CallR X (.builtin "len") (fun xs H Q => ∃ a kvs, xs = [V.ref a] ∧ H a = some (.dK kvs) ∧ Q (.int kvs.length) H) := by
  intro pins s σ H xs us Q I r h
  obtain ⟨a, kvs, rfl, ha, q⟩ := h
  obtain ⟨u, rfl, ru⟩ := vals1 r
  cases ru
  exact d_len I (.inl ha) fun t s' I' => ⟨.int kvs.length, H, I', ⟨t, rfl⟩, q⟩
end

/-! ### tests -/
theorem iteF {A B : Prop} (h : B) : if false = true then A else B := by
  rw [if_neg Bool.false_ne_true]
  exact h
theorem iteT {A B : Prop} (h : A) : if true = true then A else B := by
  rw [if_pos rfl]
  exact h
theorem ite2 {c A B : Prop} [Decidable c] (h1 : c → A) (h2 : ¬ c → B) : if c then A else B := by
  by_cases h : c
  · rw [if_pos h]
    exact h1 h
  · rw [if_neg h]
    exact h2 h
theorem iteNS {c A B : Prop} [Decidable c] (hc : c) (h : B) : if (!decide c) = true then A else B := by
  rw [decide_eq_true hc]
  exact iteF h

/-! ### heaps -/
/-- all that was tracked is as it was -/
def Same (H H' : Hp) : Prop := ∀ b o, H b = some o → H' b = some o
theorem Same.refl (H : Hp) : Same H H := fun _ _ h => h
theorem Same.trans {H H1 H2 : Hp} (a : Same H H1) (b : Same H1 H2) : Same H H2 := fun c o h => b c o (a c o h)
theorem Same.free {H H' : Hp} (e : Same H H') {l : Addr} (h : H' l = Option.none) : H l = Option.none := by
  cases q : H l with
  | none => rfl
  | some o =>
    rw [e l o q] at h
    cases h
theorem Same.seq {K : PySem.W.Frag} {H H' : Hp} {a : Addr} {xs : List V} (e : Same H H') (h : SqL K H a xs) : SqL K H' a xs := by
  rcases h with (h | ⟨o, h⟩) | h
  · exact .inl (.inl (e _ _ h))
  · exact .inl (.inr ⟨o, e _ _ h⟩)
  · exact .inr h

/-! ### a dict's pairs: keys that differ -/
section
variable {κ : Type} [DecidableEq κ]
end
end L2

/-! MY RULES over the hand layer: isinstance, == and != of lists of ints, t + u with an empty t, products and quotients of long ints. -/
namespace L2
open PySem PySem.Spec PyProof.Rows
section
variable {X : Cx}
/-- a statement, then the rest, with a word between them -/
def tCut (t u : TS) : TS := fun D σ H => ∃ M : St → Hp → Prop, t { D with nx := M } σ H ∧ ∀ σ' H', M σ' H' → u D σ' H'
theorem pss_cut {st : Stmt} {rest : List Stmt} {t u : TS} (h1 : PS X st t) (h2 : PSs X rest u) : PSs X (st :: rest) (tCut t u) := by
  intro pins s σ H D I h
  obtain ⟨M, h, hm⟩ := h
  refine wpAny_execs_cons (thn (h1 pins s σ H { D with nx := M } I h) fun f s1 q => ?_)
  cases f with
  | next =>
    obtain ⟨σ', H', I', q⟩ := q
    exact h2 pins s1 σ' H' D I' (hm _ _ q)
  | ret v => exact q
  | brk => exact q
  | cont => exact q
/-- isinstance(x, c) -/
def rIsi (K : PySem.W.Frag) : List V → Hp → VK → Prop := fun xs H Q => ∃ x c t b, xs = [x, c] ∧ TyOf K H x t ∧ (∀ u, RelV c u → PySem.W.kitOne K t u = some b) ∧ Q (.bl b) H
theorem call_isinst : CallR X (.builtin "isinstance") (rIsi X.K) := by
  intro pins s σ H xs us Q I r h
  obtain ⟨x, c, t, b, rfl, ty, e, q⟩ := h
  obtain ⟨u, w', rfl, ru, rw'⟩ := vals2 r
  exact isinst_ok I ru ty (e w' rw') fun tk => ⟨.bl b, H, I.tok tk, rfl, q⟩
theorem isi_same {K : PySem.W.Frag} (T : String) : ∀ u, RelV (.ty T) u → PySem.W.kitOne K (.type T) u = some true := by
  intro u h
  cases (show u = Value.type T from h)
  unfold PySem.W.kitOne
  rw [if_pos (beq_self_eq_true _)]
theorem isi_by {K : PySem.W.Frag} {T U : String} {b : Bool} (h : (Value.type T == Value.type U) = false) (hm : PySem.W.kitMeta U = true) (hs : (PySem.fastBuiltinMro T).map (·.contains (Value.type U)) = some b) :
    ∀ u, RelV (.ty U) u → PySem.W.kitOne K (.type T) u = some b := by
  intro u z
  cases (show u = Value.type U from z)
  unfold PySem.W.kitOne
  rw [if_neg (by rw [h]; exact Bool.false_ne_true)]
  show (if PySem.W.kitMeta U = true then PySem.W.subIn K (.type T) (.type U) else none) = some b
  rw [if_pos hm]
  exact hs
/-- t + u, u not empty: t empty gives u itself -/
def rCatT2 (K : PySem.W.Frag) : R2 := fun x y H Q => ∃ a b xs ys, x = .ref a ∧ y = .ref b ∧ SqT K H a xs ∧ SqT K H b ys ∧ ys ≠ [] ∧ xs.length + ys.length ≤ sizeLine ∧
  (xs = [] → Q (.ref b) H) ∧ (xs ≠ [] → ∀ p, H p = none → Q (.ref p) (upd H p (.tup (xs ++ ys))))
theorem op_catT2 : OpR X (binaryOp .Add) (rCatT2 X.K) := by
  intro pins s σ H x y v u Q I rx ry h
  obtain ⟨a, b, xs, ys, rfl, rfl, ha, hb, hy, hz, q1, q2⟩ := h
  by_cases hx : xs = []
  · subst hx
    cases rx
    cases ry
    obtain ⟨its, r1, p1, _⟩ := I.tuple ha
    obtain ⟨its2, r2, p2, _⟩ := I.tuple hb
    have e1 : its = [] := r1.nil_iff.mpr rfl
    obtain ⟨⟨cls, dd, data, sl⟩, ho, hc, n, hd⟩ := id p1
    obtain ⟨⟨cls2, dd2, data2, sl2⟩, ho2, hc2, n2, hd2⟩ := id p2
    simp only at hc hd hc2 hd2
    subst hc hd hc2 hd2
    exact concat_meets ⟨_, ho, rfl⟩ ⟨_, ho2, rfl⟩ noFill_tuple_add seq_tuple_add PySem.F.slot_tuple_add PySem.F.entry_tuple_add (PySem.F.args_tuple_add_2 _ _)
      (tuple_addW0 a b its.toArray its2.toArray n n2 dd dd2 sl sl2 (by simp [e1])) ⟨ho, ho2, ⟨.ref b, H, I, rfl, q1 rfl⟩⟩
  · exact op_catT pins s σ H _ _ v u Q I rx ry ⟨a, b, xs, ys, rfl, rfl, ha, hb, hx, hz, fun z => absurd z hy, fun _ => q2 hx⟩
/-- products of long ints -/
def CBig (i j : Int) : Prop := i.natAbs < 2 ^ 4000 ∧ j.natAbs < 2 ^ 4000
theorem op_mulB : OpR X (binaryOp .Mult) (rI CBig fun i j => .int (i * j)) := opI fun _ _ _ _ _ _ _ hc q =>
  mul_int q (IntMulOk.of_le (m := 4000) (n := 4000) (intBits_le_iff.mpr hc.1) (intBits_le_iff.mpr hc.2) (by decide))
end
end L2

/-! MY RULES: zip over two sources of any kind that is walked (list, tuple), reversed(list) walked, tuple(reversed(list)). -/
namespace L2
open PySem PySem.Spec PyProof.Rows
/-- a source that is drawn from by its own iterator: at the k-th draw it stands at st k -/
structure Nx (it l : Addr) (st : Nat → Heap → Prop) (src : Array Value → Heap → Prop) : Prop where
  item : ∀ {prog : Program} {w : World} {A : Around} {E : Value → Shared → Prop} {s : Shared} {k : Nat} {xs : Array Value} {x : Value} {Q : Value → Shared → Prop}, st k s.heap → src xs s.heap → xs[k]? = some x →
    (∀ h', st (k + 1) h' → Heap.SameBut it s.heap h' → Q x { s with heap := h' }) → wpAny (model prog w) A (Builtin.SmallTypes.nextOf (.ref it)) Q E s
  fin : ∀ {prog : Program} {w : World} {A : Around} {E : Value → Shared → Prop} {s : Shared} {k : Nat} {xs : Array Value} {Q : Value → Shared → Prop}, A.handled = none → st k s.heap → src xs s.heap → xs[k]? = none →
    (∀ h' e, Heap.ExtBut it s.heap h' → (∃ o, h'.get? e = some o ∧ o.cls = .type "StopIteration") → E (.ref e) { s with heap := h' }) → wpAny (model prog w) A (Builtin.SmallTypes.nextOf (.ref it)) Q E s
  mv : ∀ {k : Nat} {h h' : Heap}, st k h → (∀ o, h.get? it = some o → h'.get? it = some o) → st k h'
  mvS : ∀ {xs : Array Value} {h h' : Heap}, src xs h → (∀ o, h.get? l = some o → h'.get? l = some o) → src xs h'
  ob : ∀ {k : Nat} {h : Heap}, st k h → ∃ o, h.get? it = some o ∧ ∀ v, o.data ≠ .cell v
theorem nx_list (it l : Addr) : Nx it l (fun k h => h.IsListIter it l k) (fun xs h => h.IsList l xs) where
  item := wpAny_nextOf_list_item
  fin := wpAny_nextOf_list_end
  mv := fun x e => x.at e
  mvS := fun x e => x.at e
  ob := fun ⟨o, e, _, d⟩ => ⟨o, e, fun v z => by rw [d] at z; cases z⟩
section
variable {prog : Program} {w : World} {A : Around} {E : Value → Shared → Prop} {s : Shared}
theorem nextOf_tuple_item {it l : Addr} {k : Nat} {xs : Array Value} {x : Value} {Q : Value → Shared → Prop} (hi : s.heap.IsTupleIter it l k) (hl : s.heap.IsTuple l xs) (hx : xs[k]? = some x)
    (hQ : ∀ h', h'.IsTupleIter it l (k + 1) → Heap.SameBut it s.heap h' → Q x { s with heap := h' }) : wpAny (model prog w) A (Builtin.SmallTypes.nextOf (.ref it)) Q E s := by
  obtain ⟨o, ho, hc, hd⟩ := id hi
  obtain ⟨ol, hol, _, nl, hdl⟩ := hl
  unfold Builtin.SmallTypes.nextOf
  refine wpAny_bind (wpAny_callSpecial?_slot (name := Str.ofString "__next__") hi.typeIs F.slot_tuple_iterator_next (wpAny_call_entry F.slot_tuple_iterator_next hi.typeIs F.entry_tuple_iterator_next ?_ (F.args_tuple_iterator_next_1 _)))
  show wpAny _ _ (field (.ref it) 0 >>= _) _ _ s
  refine wpAny_bind (wpAny_field ho hd (x := .ref l) rfl ?_)
  show wpAny _ _ (if (Value.ref l == Value.none) = true then _ else _) _ _ s
  rw [if_neg (show ¬ ((Value.ref l == Value.none) = true) from Bool.false_ne_true)]
  show wpAny _ _ (field (.ref it) 1 >>= _) _ _ s
  refine wpAny_bind (wpAny_field ho hd (x := .int k 0) rfl ?_)
  show wpAny _ _ (seqItems? (.ref l) >>= _) _ _ s
  refine wpAny_bind (wpAny_seqItems hol hdl ?_)
  simp only [Int.toNat_natCast, hx]
  refine wpAny_bind (wpAny_setField ho hd (by simp) (wpAny_pure ⟨x, rfl, wpAny_pure (hQ _ ?_ (Heap.SameBut.update ..))⟩))
  exact ⟨_, Heap.get?_update_self _ ho (Obj.isFreed_of_fields (Obj.data_mapFields hd _)), (Obj.cls_mapFields ..).trans hc, by rw [Obj.data_mapFields hd]; simp [rawInt]⟩
theorem nextOf_tuple_end {it l : Addr} {k : Nat} {xs : Array Value} {Q : Value → Shared → Prop} (hh : A.handled = none) (hi : s.heap.IsTupleIter it l k) (hl : s.heap.IsTuple l xs) (hx : xs[k]? = none)
    (hE : ∀ h' e, Heap.ExtBut it s.heap h' → (∃ o, h'.get? e = some o ∧ o.cls = .type "StopIteration") → E (.ref e) { s with heap := h' }) : wpAny (model prog w) A (Builtin.SmallTypes.nextOf (.ref it)) Q E s := by
  obtain ⟨o, ho, hc, hd⟩ := id hi
  obtain ⟨ol, hol, _, nl, hdl⟩ := hl
  unfold Builtin.SmallTypes.nextOf
  refine wpAny_bind (wpAny_callSpecial?_slot (name := Str.ofString "__next__") hi.typeIs F.slot_tuple_iterator_next (wpAny_call_entry F.slot_tuple_iterator_next hi.typeIs F.entry_tuple_iterator_next ?_ (F.args_tuple_iterator_next_1 _)))
  show wpAny _ _ (field (.ref it) 0 >>= _) _ _ s
  refine wpAny_bind (wpAny_field ho hd (x := .ref l) rfl ?_)
  show wpAny _ _ (if (Value.ref l == Value.none) = true then _ else _) _ _ s
  rw [if_neg (show ¬ ((Value.ref l == Value.none) = true) from Bool.false_ne_true)]
  show wpAny _ _ (field (.ref it) 1 >>= _) _ _ s
  refine wpAny_bind (wpAny_field ho hd (x := .int k 0) rfl ?_)
  show wpAny _ _ (seqItems? (.ref l) >>= _) _ _ s
  refine wpAny_bind (wpAny_seqItems hol hdl ?_)
  simp only [Int.toNat_natCast, hx]
  refine wpAny_bind (wpAny_rule (wpAny_bind (wpAny_setField ho hd (by simp) ?_)))
  show wpAny _ _ (newExc (.type "StopIteration") [] >>= _) _ _ _
  refine wpAny_bind ?_
  simp only [newExc, newTuple]
  refine wpAny_bind (wpAny_newObj_type ?_ (by size_fits))
  refine wpAny_bind (m := firstArgMember _ _) (wpAny_of_eq (a := Value.none) (by first | rfl | (simp only [firstArgMember]; rfl)) ?_)
  refine wpAny_newObj_type ?_ (by size_fits)
  simp only [raiseNew]
  refine wpAny_bind (wpAny_handled ?_)
  first | rw [show A.in1.handled = none from hh] | rw [hh]
  refine wpAny_bind (wpAny_pure (wpAny_throw ?_))
  exact hE _ _ (((Heap.SameBut.update ..).extBut.push _).push _) ⟨_, Heap.get?_push_size _ rfl, rfl⟩
end
theorem nx_tuple (it l : Addr) : Nx it l (fun k h => h.IsTupleIter it l k) (fun xs h => h.IsTuple l xs) where
  item := nextOf_tuple_item
  fin := nextOf_tuple_end
  mv := fun ⟨o, e, r⟩ f => ⟨o, f _ e, r⟩
  mvS := fun ⟨o, e, r⟩ f => ⟨o, f _ e, r⟩
  ob := fun ⟨o, e, _, d⟩ => ⟨o, e, fun v z => by rw [d] at z; cases z⟩
section
variable {z TI TO i1 i2 l1 l2 : Addr} {st1 st2 : Nat → Heap → Prop} {src1 src2 : Array Value → Heap → Prop} {prog : Program} {w : World} {A : Around} {E : Value → Shared → Prop} {s : Shared}
/-- a zip's draw -/
theorem zip_item (N1 : Nx i1 l1 st1 src1) (N2 : Nx i2 l2 st2 src2) {k1 k2 : Nat} {xs ys : Array Value} {x y a b : Value} {Q : Option Value → Shared → Prop} (D : ZipApart z TI TO i1 i2 l1 l2)
    (hz : IsZip s.heap z TI TO .none) (hTI : IsPair s.heap TI (.ref i1) (.ref i2)) (hTO : IsPair s.heap TO a b) (h1 : st1 k1 s.heap) (h2 : st2 k2 s.heap) (hl1 : src1 xs s.heap) (hl2 : src2 ys s.heap) (hx : xs[k1]? = some x) (hy : ys[k2]? = some y)
    (hQ : ∀ h', IsZip h' z TI TO (rawInt s.heap.objs.size) → IsPair h' TO x y → st1 (k1 + 1) h' → st2 (k2 + 1) h' → IsPair h' s.heap.objs.size x y →
      (∀ c o, c ≠ z → c ≠ TO → c ≠ i1 → c ≠ i2 → s.heap.get? c = some o → h'.get? c = some o) → Q (some (.ref s.heap.objs.size)) { s with heap := h' }) : wpAny (model prog w) A (pyNext (.ref z)) Q E s := by
  have hT : s.TypeIs (.ref z) "zip" := ⟨_, hz, rfl⟩
  unfold pyNext
  refine wpAny_bind (wpAny_attempt (wpAny_callSpecial?_slot (name := Str.ofString "__next__") hT F.slot_zip_next (wpAny_call_entry F.slot_zip_next hT F.entry_zip_next ?_ (F.args_zip_next_1 _))))
  show wpAny _ _ (field (.ref z) 2 >>= _) _ _ _
  refine wpAny_bind (wpAny_field hz rfl (x := .bool false) rfl ?_)
  show wpAny _ _ (field (.ref z) 3 >>= _) _ _ _
  refine wpAny_bind (wpAny_field hz rfl (x := .ref TI) rfl ?_)
  refine wpAny_bind (wpAny_seqItems hTI rfl ?_)
  show wpAny _ _ (Builtin.SmallTypes.ownedTupleIsFree (.ref z) >>= _) _ _ _
  refine wpAny_bind ?_
  unfold Builtin.SmallTypes.ownedTupleIsFree
  refine wpAny_bind (wpAny_field hz rfl (x := .none) rfl (wpAny_pure ?_))
  simp only [if_true]
  refine wpAny_bind (wpAny_rule ?_)
  refine wpAny_bind (wpAny_field hz rfl (x := .ref TO) rfl ?_)
  refine wpAny_bind (wpAny_setField_rec hz (by simp) fun g1 z1 b1 => ?_)
  replace z1 : IsZip g1 z TI TO .ellipsis := z1
  refine wpAny_bind ?_
  simp only [List.zipIdx_cons, List.zipIdx_nil, List.forIn_cons, List.forIn_nil]
  -- the first source
  refine wpAny_bind (wpAny_bind (wpAny_onRaise ?_))
  show wpAny _ _ (Builtin.SmallTypes.nextOf (.ref i1) >>= _) _ _ _
  refine wpAny_bind (N1.item (N1.mv h1 fun o e => b1.extBut _ _ D.i1z e) (N1.mvS hl1 fun o e => b1.extBut _ _ D.l1z e) hx fun g2 t2 b2 => wpAny_pure ?_)
  have p2 : IsPair g2 TO a b := b2.extBut _ _ D.TOi1 (b1.extBut _ _ D.TOz hTO)
  refine wpAny_bind (wpAny_seqItems p2 rfl ?_)
  refine wpAny_bind (wpAny_updateSeq_pair p2 fun g3 p3 b3 => ?_)
  replace p3 : IsPair g3 TO x b := p3
  refine wpAny_bind (wpAny_letGo (wpAny_pure ?_))
  -- the second one
  refine wpAny_bind (wpAny_bind (wpAny_onRaise ?_))
  show wpAny _ _ (Builtin.SmallTypes.nextOf (.ref i2) >>= _) _ _ _
  refine wpAny_bind (N2.item (N2.mv h2 fun o e => b3.extBut _ _ D.TOi2.symm (b2.extBut _ _ D.i12.symm (b1.extBut _ _ D.i2z e))) (N2.mvS hl2 fun o e => b3.extBut _ _ D.l2TO (b2.extBut _ _ D.l2i1 (b1.extBut _ _ D.l2z e))) hy fun g4 t4 b4 => wpAny_pure ?_)
  have p4 : IsPair g4 TO x b := b4.extBut _ _ D.TOi2 p3
  refine wpAny_bind (wpAny_seqItems p4 rfl ?_)
  refine wpAny_bind (wpAny_updateSeq_pair p4 fun g5 p5 b5 => ?_)
  replace p5 : IsPair g5 TO x y := p5
  refine wpAny_bind (wpAny_letGo (wpAny_pure (wpAny_pure ?_)))
  -- the pair that is handed out
  refine wpAny_bind (wpAny_seqItems p5 rfl ?_)
  refine wpAny_bind (wpAny_newTuple ?_)
  have hsz : g5.objs.size = s.heap.objs.size := by rw [b5.1, b4.1, b3.1, b2.1, b1.1]
  have z5 : IsZip g5 z TI TO .ellipsis := b5.extBut _ _ D.TOz.symm (b4.extBut _ _ D.i2z.symm (b3.extBut _ _ D.TOz.symm (b2.extBut _ _ D.i1z.symm z1)))
  have k5 : ∀ c o, c ≠ z → c ≠ TO → c ≠ i1 → c ≠ i2 → s.heap.get? c = some o → g5.get? c = some o := fun c o c1 c2 c3 c4 e => b5.extBut _ _ c2 (b4.extBut _ _ c4 (b3.extBut _ _ c2 (b2.extBut _ _ c3 (b1.extBut _ _ c1 e))))
  have s1 : st1 (k1 + 1) g5 := N1.mv t2 fun o e => b5.extBut _ _ D.TOi1.symm (b4.extBut _ _ D.i12 (b3.extBut _ _ D.TOi1.symm e))
  have s2 : st2 (k2 + 1) g5 := N2.mv t4 fun o e => b5.extBut _ _ D.TOi2.symm e
  have zlt : z < g5.objs.size := Heap.lt_size z5
  show wpAny _ _ (Builtin.SmallTypes.ownedTupleHandOut (.ref z) (.ref g5.objs.size) >>= _) _ _ _
  refine wpAny_bind ?_
  unfold Builtin.SmallTypes.ownedTupleHandOut
  have z6 : IsZip (g5.push { cls := .type "tuple", data := .seq #[x, y] }) z TI TO .ellipsis := Heap.get?_push_of_some _ z5
  refine wpAny_bind (wpAny_setField_rec z6 (by simp) fun g7 z7 b7 => ?_)
  replace z7 : IsZip g7 z TI TO (rawInt g5.objs.size) := z7
  refine wpAny_setField_rec z7 (by simp) fun g8 z8 b8 => ?_
  replace z8 : IsZip g8 z TI TO (rawInt g5.objs.size) := z8
  have up : ∀ c o, c ≠ z → g5.get? c = some o → g8.get? c = some o := fun c o c1 e => b8.extBut _ _ c1 (b7.extBut _ _ c1 (Heap.get?_push_of_some _ e))
  have p8 : IsPair g8 g5.objs.size x y := b8.extBut _ _ (Nat.ne_of_gt zlt) (b7.extBut _ _ (Nat.ne_of_gt zlt) (Heap.get?_push_size _ rfl))
  rw [hsz] at z8 p8
  refine wpAny_pure ⟨_, rfl, wpAny_pure ?_⟩
  show Q (some (.ref g5.objs.size)) _
  rw [hsz]
  exact hQ g8 z8 (up _ _ D.TOz p5) (N1.mv s1 fun o e => up _ o D.i1z e) (N2.mv s2 fun o e => up _ o D.i2z e) p8 fun c o c1 c2 c3 c4 e => up c o c1 (k5 c o c1 c2 c3 c4 e)
/-- .. and its end -/
theorem zip_end (N1 : Nx i1 l1 st1 src1) (N2 : Nx i2 l2 st2 src2) {k1 k2 : Nat} {xs ys : Array Value} {a b : Value} {Q : Option Value → Shared → Prop} (hh : A.handled = none) (D : ZipApart z TI TO i1 i2 l1 l2)
    (hz : IsZip s.heap z TI TO .none) (hTI : IsPair s.heap TI (.ref i1) (.ref i2)) (hTO : IsPair s.heap TO a b) (h1 : st1 k1 s.heap) (h2 : st2 k2 s.heap) (hl1 : src1 xs s.heap) (hl2 : src2 ys s.heap) (hend : xs[k1]? = none ∨ ys[k2]? = none)
    (hQ : ∀ h', (∀ c o, c ≠ z → c ≠ TO → c ≠ i1 → c ≠ i2 → s.heap.get? c = some o → h'.get? c = some o) → Q none { s with heap := h' }) : wpAny (model prog w) A (pyNext (.ref z)) Q E s := by
  have hT : s.TypeIs (.ref z) "zip" := ⟨_, hz, rfl⟩
  unfold pyNext
  have fin : ∀ (h' : Heap) (e : Addr), (∀ c o, c ≠ z → c ≠ TO → c ≠ i1 → c ≠ i2 → s.heap.get? c = some o → h'.get? c = some o) → (∃ o, h'.get? e = some o ∧ o.cls = .type "StopIteration") →
      wpAny (model prog w) A (isInstance (.ref e) (.type "StopIteration") >>= fun b => if b = true then pure none else throw (.ref e)) Q E { s with heap := h' } := fun h' e hk ⟨o, ho, hc⟩ =>
    wpAny_bind (wpAny_isInstance (T := "StopIteration") (b := true) ⟨o, ho, hc⟩ isSubtype_stop (wpAny_pure (hQ _ hk)))
  refine wpAny_bind (wpAny_attempt (wpAny_callSpecial?_slot (name := Str.ofString "__next__") hT F.slot_zip_next (wpAny_call_entry F.slot_zip_next hT F.entry_zip_next ?_ (F.args_zip_next_1 _))))
  show wpAny _ _ (field (.ref z) 2 >>= _) _ _ _
  refine wpAny_bind (wpAny_field hz rfl (x := .bool false) rfl ?_)
  show wpAny _ _ (field (.ref z) 3 >>= _) _ _ _
  refine wpAny_bind (wpAny_field hz rfl (x := .ref TI) rfl ?_)
  refine wpAny_bind (wpAny_seqItems hTI rfl ?_)
  show wpAny _ _ (Builtin.SmallTypes.ownedTupleIsFree (.ref z) >>= _) _ _ _
  refine wpAny_bind ?_
  unfold Builtin.SmallTypes.ownedTupleIsFree
  refine wpAny_bind (wpAny_field hz rfl (x := .none) rfl (wpAny_pure ?_))
  simp only [if_true]
  refine wpAny_bind (wpAny_rule ?_)
  refine wpAny_bind (wpAny_field hz rfl (x := .ref TO) rfl ?_)
  refine wpAny_bind (wpAny_setField_rec hz (by simp) fun g1 z1 b1 => ?_)
  replace z1 : IsZip g1 z TI TO .ellipsis := z1
  refine wpAny_bind ?_
  simp only [List.zipIdx_cons, List.zipIdx_nil, List.forIn_cons, List.forIn_nil]
  refine wpAny_bind (wpAny_bind (wpAny_onRaise ?_))
  show wpAny _ _ (Builtin.SmallTypes.nextOf (.ref i1) >>= _) _ _ _
  have u1 := N1.mv h1 fun o e => b1.extBut _ _ D.i1z e
  have v1 := N1.mvS hl1 fun o e => b1.extBut _ _ D.l1z e
  cases hx : xs[k1]? with
  | none =>
    refine wpAny_bind (N1.fin hh u1 v1 hx fun g2 e b2 he => ?_)
    obtain ⟨oe, hoe, hce⟩ := he
    have z2 : IsZip g2 z TI TO .ellipsis := b2 _ _ D.i1z.symm z1
    have ez : e ≠ z := fun x => by subst x; rw [z2] at hoe; cases hoe; simp at hce
    exact wpAny_setField_rec z2 (by simp) fun g3 _ b3 => fin g3 e (fun c o c1 _ c3 _ x => b3.extBut _ _ c1 (b2 _ _ c3 (b1.extBut _ _ c1 x))) ⟨oe, b3.extBut _ _ ez hoe, hce⟩
  | some x =>
    have hy : ys[k2]? = none := by
      rcases hend with h | h
      · rw [hx] at h; cases h
      · exact h
    refine wpAny_bind (N1.item u1 v1 hx fun g2 t2 b2 => wpAny_pure ?_)
    have p2 : IsPair g2 TO a b := b2.extBut _ _ D.TOi1 (b1.extBut _ _ D.TOz hTO)
    refine wpAny_bind (wpAny_seqItems p2 rfl ?_)
    refine wpAny_bind (wpAny_updateSeq_pair p2 fun g3 p3 b3 => ?_)
    refine wpAny_bind (wpAny_letGo (wpAny_pure ?_))
    refine wpAny_bind (wpAny_bind (wpAny_onRaise ?_))
    show wpAny _ _ (Builtin.SmallTypes.nextOf (.ref i2) >>= _) _ _ _
    refine wpAny_bind (N2.fin hh (N2.mv h2 fun o e => b3.extBut _ _ D.TOi2.symm (b2.extBut _ _ D.i12.symm (b1.extBut _ _ D.i2z e))) (N2.mvS hl2 fun o e => b3.extBut _ _ D.l2TO (b2.extBut _ _ D.l2i1 (b1.extBut _ _ D.l2z e))) hy fun g4 e b4 he => ?_)
    obtain ⟨oe, hoe, hce⟩ := he
    have z4 : IsZip g4 z TI TO .ellipsis := b4 _ _ D.i2z.symm (b3.extBut _ _ D.TOz.symm (b2.extBut _ _ D.i1z.symm z1))
    have ez : e ≠ z := fun x => by subst x; rw [z4] at hoe; cases hoe; simp at hce
    exact wpAny_setField_rec z4 (by simp) fun g5 _ b5 => fin g5 e (fun c o c1 c2 c3 c4 x => b5.extBut _ _ c1 (b4 _ _ c4 (b3.extBut _ _ c2 (b2.extBut _ _ c3 (b1.extBut _ _ c1 x))))) ⟨oe, b5.extBut _ _ ez hoe, hce⟩
end
section
variable {X : Cx} {pins : List (Addr × Obj)} {σ : St} {H : Hp} {s : Shared} {h' : Heap}
/-- untracked records of ours (iterators) have turned, a new object is laid and tracked -/
theorem Inv.turnedNew {t' : Nat} {ts : List Addr} {a : Addr} {o : HO} (I : Inv X pins σ H s) (k : ∀ b u, b ∉ ts → s.heap.get? b = some u → h'.get? b = some u) (f : ∀ b ∈ ts, FpOk X pins H b) (hp : s.heap.objs.size ≤ a)
    (new : ObjOk X.prog X.w (upd H a o) h' a o) : Inv X pins σ (upd H a o) { s with heap := h', toks := t' } := by
  have nt : ∀ b u, H b = some u → b ∉ ts := fun b u e z => by have := (f b z).1; rw [e] at this; cases this
  have na : ∀ b u, s.heap.get? b = some u → b ≠ a := fun b u e => Nat.ne_of_lt (Nat.lt_of_lt_of_le (Heap.lt_size e) hp)
  have ha : H a = none := I.hok.fresh hp
  refine I.step (g' := s.gens) (d' := s.drawn) (ch := ts) (fun b hb => ⟨(f b hb).2.2.2.1, (f b hb).2.1, (f b hb).2.2.2.2.1, (f b hb).2.2.2.2.2⟩) (fun b u _ _ hc e _ => k b u hc e) (fun b u _ _ hc e _ => ⟨u.slots, k b u hc e⟩)
    (fun b u _ e n => by rw [upd_ne (na b u e)]; exact n) (fun b u hc e => ⟨u, k b u hc e⟩) (fun b xs e => by rw [upd_ne (ne_of_none e ha)]; exact e) (fun b u xs e => by rw [upd_ne (ne_of_none e ha)]; exact e)
    (fun b ps e => ⟨#[], by rw [upd_ne (ne_of_none e ha), e]; simp⟩) (fun m hm => ?_) (fun b u e => ?_) I.bare
  · obtain ⟨ob, es, ep, ho, r⟩ := hm
    exact ⟨ob, es, ep, k _ ob (fun z => (f _ z).2.1 rfl) ho, r⟩
  · by_cases hb : b = a
    · subst hb
      rw [upd_same] at e
      cases e
      exact new
    · rw [upd_ne hb] at e
      refine (I.hok b u e).stay (fun c v hc q => k c v ?_ q) (fun c q => by rw [upd_ne (ne_of_none q ha)]; exact q) fun c xs q => by rw [upd_ne (ne_of_none q ha)]; exact q
      rcases hc with rfl | hc
      · exact nt _ _ e
      · exact nt _ _ hc
/-- untracked records of ours have turned -/
theorem Inv.turnedL {t' : Nat} {ts : List Addr} (I : Inv X pins σ H s) (k : ∀ b u, b ∉ ts → s.heap.get? b = some u → h'.get? b = some u) (f : ∀ b ∈ ts, FpOk X pins H b) : Inv X pins σ H { s with heap := h', toks := t' } := by
  have nt : ∀ b u, H b = some u → b ∉ ts := fun b u e z => by have := (f b z).1; rw [e] at this; cases this
  refine I.step (g' := s.gens) (d' := s.drawn) (ch := ts) (fun b hb => ⟨(f b hb).2.2.2.1, (f b hb).2.1, (f b hb).2.2.2.2.1, (f b hb).2.2.2.2.2⟩) (fun b u _ _ hc e _ => k b u hc e) (fun b u _ _ hc e _ => ⟨u.slots, k b u hc e⟩)
    (fun b u _ e n => n) (fun b u hc e => ⟨u, k b u hc e⟩) (fun b xs e => e) (fun b u xs e => e) (fun b ps e => ⟨#[], by rw [e]; simp⟩) (fun m hm => ?_) (fun b u e => ?_) I.bare
  · obtain ⟨ob, es, ep, ho, r⟩ := hm
    exact ⟨ob, es, ep, k _ ob (fun z => (f _ z).2.1 rfl) ho, r⟩
  · refine (I.hok b u e).stay (fun c v hc q => k c v ?_ q) (fun c q => q) fun c xs q => q
    rcases hc with rfl | hc
    · exact nt _ _ e
    · exact nt _ _ hc
end
def ZipSt (z TI TO i1 i2 a b : Addr) (i : Nat) (h : Heap) : Prop := IsZip h z TI TO .none ∧ IsPair h TI (.ref i1) (.ref i2) ∧ (∃ u v, IsPair h TO u v) ∧ h.IsListIter i1 a i ∧ h.IsTupleIter i2 b i
/-! ### zip(list, tuple) is made -/
abbrev zpH2 (h : Heap) (l1 l2 : Addr) : Heap := (zipH1 h l1).push { cls := .type "tuple_iterator", data := .fields #[.ref l2, .int 0 0] }
abbrev zpH3 (h : Heap) (l1 l2 : Addr) : Heap := (zpH2 h l1 l2).push { cls := .type "tuple", data := .seq #[.ref h.objs.size, .ref (zipH1 h l1).objs.size] }
abbrev zpH4 (h : Heap) (l1 l2 : Addr) : Heap := (zpH3 h l1 l2).push { cls := .type "tuple", data := .seq #[.none, .none] }
abbrev zpH5 (h : Heap) (l1 l2 : Addr) : Heap := (zpH4 h l1 l2).push { cls := .type "zip", data := .fields #[.none, .bool false, .bool false, .ref (zpH2 h l1 l2).objs.size, .ref (zpH3 h l1 l2).objs.size] }
theorem meets_zip_lt (l1 l2 : Addr) (xs ys : Array Value) : Meets (Builtin.«zip.__new__» ⟨[.type "zip", .ref l1, .ref l2], []⟩) (fun _ R s => s.heap.IsList l1 xs ∧ s.heap.IsTuple l2 ys ∧
    R (.ok (.ret (.ref (zpH4 s.heap l1 l2).objs.size))) { s with heap := zpH5 s.heap l1 l2 }) :=
  .of_wp fun prog w A R s h => by
    obtain ⟨hp, g, d, tk, os⟩ := s; obtain ⟨hl1, hl2, h⟩ := h
    have hsub := sub_zip
    have hL1 : Heap.IsList (Shared.heap ⟨hp, g, d, tk, os⟩) l1 xs := hl1
    have hL2 : Heap.IsTuple (Shared.heap ⟨hp.push { cls := .type "list_iterator", data := .fields #[.ref l1, .int 0 0] }, g, d, tk, os⟩) l2 ys := Heap.IsTuple.push hl2 _
    wp_walk using wpAny_pyIter_list hL1, wpAny_pyIter_tuple hL2
    exact ⟨_, rfl, h⟩
theorem call_zip_lt {prog : Program} {w : World} {A : Around} {E : Value → Shared → Prop} {s : Shared} {l1 l2 : Addr} {xs ys : Array Value} {Q : Value → Shared → Prop} (hl1 : s.heap.IsList l1 xs) (hl2 : s.heap.IsTuple l2 ys)
    (h : ∀ h', ZipSt (s.heap.objs.size + 4) (s.heap.objs.size + 2) (s.heap.objs.size + 3) s.heap.objs.size (s.heap.objs.size + 1) l1 l2 0 h' → (∀ c o, s.heap.get? c = some o → h'.get? c = some o) → Q (.ref (s.heap.objs.size + 4)) { s with heap := h' }) :
    wpAny (model prog w) A (call (.type "zip") [.ref l1, .ref l2]) Q E s := by
  refine callType_new F.called_zip (by decide) (F.typeCall_zip_2 _ _) (F.newCall_zip_2 _ _) (fun obj => F.args_object_init_3 obj _ _) F.entry_zip_new (meets_zip_lt l1 l2 xs ys) ⟨hl1, hl2, ?_⟩
  have z1 : (zipH1 s.heap l1).objs.size = s.heap.objs.size + 1 := Heap.size_push ..
  have z2 : (zpH2 s.heap l1 l2).objs.size = s.heap.objs.size + 2 := by rw [Heap.size_push, z1]
  have z3 : (zpH3 s.heap l1 l2).objs.size = s.heap.objs.size + 3 := by rw [Heap.size_push, z2]
  have z4 : (zpH4 s.heap l1 l2).objs.size = s.heap.objs.size + 4 := by rw [Heap.size_push, z3]
  have q5 : (zpH5 s.heap l1 l2).get? (zpH4 s.heap l1 l2).objs.size = some _ := Heap.get?_push_size _ rfl
  have q4 : (zpH5 s.heap l1 l2).get? (zpH3 s.heap l1 l2).objs.size = some _ := Heap.get?_push_of_some _ (Heap.get?_push_size _ rfl)
  have q3 : (zpH5 s.heap l1 l2).get? (zpH2 s.heap l1 l2).objs.size = some _ := Heap.get?_push_of_some _ (Heap.get?_push_of_some _ (Heap.get?_push_size _ rfl))
  have q2 : (zpH5 s.heap l1 l2).get? (zipH1 s.heap l1).objs.size = some _ := Heap.get?_push_of_some _ (Heap.get?_push_of_some _ (Heap.get?_push_of_some _ (Heap.get?_push_size _ rfl)))
  have q1 : (zpH5 s.heap l1 l2).get? s.heap.objs.size = some _ := Heap.get?_push_of_some _ (Heap.get?_push_of_some _ (Heap.get?_push_of_some _ (Heap.get?_push_of_some _ (Heap.get?_push_size _ rfl))))
  show _ ∧ _
  rw [z2, z3, z4] at q5
  rw [z1, z2] at q3
  rw [z3] at q4
  rw [z1] at q2
  rw [z4]
  exact ⟨⟨_, q5, rfl⟩, h _ ⟨q5, q3, ⟨_, _, q4⟩, ⟨_, q1, rfl, rfl⟩, ⟨_, q2, rfl, rfl⟩⟩ fun c o x => Heap.get?_push_of_some _ (Heap.get?_push_of_some _ (Heap.get?_push_of_some _ (Heap.get?_push_of_some _ (Heap.get?_push_of_some _ x))))⟩
/-! ### reversed(list) -/
end L2

/-! MY RULES: reversed(list) as a value, tuple(..) of it. -/
namespace L2
open PySem PySem.Spec PyProof.Rows
section
variable {prog : Program} {w : World} {A : Around} {E : Value → Shared → Prop} {s : Shared} {I : Addr} {fp wr : List Addr} {G : Array GenState → Array GenState → Prop} {n : Nat} {P : Nat → Value → Prop} {St : Nat → Shared → Prop}
end
section
variable {X : Cx}
end
end L2

/-! MY RULES: a list comprehension of one clause, with no test or one. -/
namespace L2
open PySem PySem.Spec PyProof.Rows
/-- what the comprehension's own scope and the cells that it takes over must be -/
structure ClOk (X : Cx) (scope : Scope) (cl : List (Str × Addr)) : Prop where
  eq : closureFor scope X.env = pure cl
  sub : ∀ x c, cl.lookup x = some c → X.env.cells.lookup x = some c
  has : ∀ x, ((relabel scope X.env).names.lookup x = some .cell ∨ (relabel scope X.env).names.lookup x = some .free) → ∃ c, cl.lookup x = some c
  kind : scope.kind = .function
  ncell : ∀ y ∈ scope.names, y.2 ≠ .cell
  names : ∀ y ∈ scope.names, y.2 = .local → scope.names.lookup y.1 = some .local
/-- the block's context: its names, its own dict at C, the state at its entry, the iterator that it walks -/
def blk (X : Cx) (N' : List Str) (scope : Scope) (cl : List (Str × Addr)) (C : Addr) (s₀ : Shared) (H₀ : Hp) (fp : List Addr) : Cx :=
  { X with N := N', s₀ := s₀, H₀ := H₀, env := compEnvC scope cl C X.env, outer := X.stack, ex := fp, fn := fun _ => false, pn := [], xe := fun _ _ => False }
/-- the names' values at the block's entry: those that are taken over -/
def blkSt (ix : List (Option Nat)) (σ : St) : St := ix.map fun o => o.bind fun j => (σ[j]?).bind id
section
variable {X : Cx} {pins : List (Addr × Obj)} {σ : St} {H : Hp} {s : Shared} {N' : List Str} {scope : Scope} {cl : List (Str × Addr)} {fp : List Addr} {ix : List (Option Nat)}
/-- which outer slots stand for the names that are taken over -/
def IxOk (X : Cx) (N' : List Str) (scope : Scope) (ix : List (Option Nat)) : Prop :=
  ix.length = N'.length ∧ ∀ i j : Nat, ix[i]? = some (some j) → ∃ x, N'[i]? = some x ∧ X.N[j]? = some x ∧ (X.env.scope.names.lookup x = some .cell ∨ X.env.scope.names.lookup x = some .free) ∧
    ((relabel scope X.env).names.lookup x = some .cell ∨ (relabel scope X.env).names.lookup x = some .free)
theorem blk_ok (I : Inv X pins σ H s) (ck : ClOk X scope cl) (f : ∀ b ∈ fp, FpOk X pins H b) (hlt : ∀ b ∈ fp, b < s.heap.objs.size) : (blk X N' scope cl s.heap.objs.size s H fp).Ok where
  mod := I.ok.mod
  kind := ck.kind
  glob := I.ok.glob
  blt := I.ok.blt
  above := Nat.le_refl _
  inj := fun x y c h1 h2 => I.ok.inj x y c (ck.sub x c h1) (ck.sub y c h2)
  has := fun x h => ck.has x h
  cab := fun x c h => by cases h
  hd := I.ok.hd
  frames := I.ok.frames
  stk := .inl rfl
  exf := fun b hb => ⟨Nat.ne_of_lt (hlt b hb), fun x c h => (f b hb).2.2.2.2.1 x c (ck.sub x c h)⟩
  bs := I.bs
  bsz := Nat.le_trans I.ok.bsz I.sz
  noex := fun b o e hb => by
    rcases (f b hb).2.2.2.1 with z | z
    · exact I.ok.noex b o e z
    · exact absurd (Nat.lt_of_lt_of_le (Heap.lt_size (I.ok.bs b o e).1) z) (Nat.lt_irrefl _)
  exfs := fun b hb hs => by
    rcases List.mem_cons.mp (I.stkSub b hs) with z | z
    · exact (f b hb).2.1 z
    · exact (f b hb).2.2.1 z
  funs := I.stack
  frf := I.stkFree
theorem blk_start (I : Inv X pins σ H s) (ck : ClOk X scope cl) (io : IxOk X N' scope ix) (f : ∀ b ∈ fp, FpOk X pins H b) (hlt : ∀ b ∈ fp, b < s.heap.objs.size) {h' : Heap} {m : Str → Option Value} {t' : Nat}
    (hn : h'.Ns s.heap.objs.size m) (k : ∀ b o, s.heap.get? b = some o → h'.get? b = some o) : Inv (blk X N' scope cl s.heap.objs.size s H fp) [] (blkSt ix σ) H { s with heap := h', toks := t' } := by
  have cl' : ∀ x c, cl.lookup x = some c → ∃ v, s.heap.IsCell c v := fun x c h => I.cell x c (ck.sub x c h)
  refine ⟨blk_ok I ck f hlt, rfl, I.bare, Un.kept k, ⟨m, hn, fun i x v e1 e2 e3 => ?_⟩, fun x c e => ?_, I.hok.fresh (Nat.le_refl _), fun x c e => I.freeC x c (ck.sub x c e), (fun p hp => by cases hp), I.hok.kept k, ?_⟩
  · unfold blkSt at e2
    rw [List.getElem?_map] at e2
    cases hi : ix[i]? with
    | none => rw [hi] at e2; cases e2
    | some o =>
      rw [hi] at e2
      cases o with
      | none => cases Option.some.inj e2
      | some j =>
        have e2' : (σ[j]?).bind id = some v := Option.some.inj e2
        obtain ⟨x', n1, n2, k1, k2⟩ := io.2 i j hi
        have ex : x' = x := Option.some.inj (n1.symm.trans e1)
        subst ex
        have es : σ[j]? = some (some v) := by
          cases q : σ[j]? with
          | none => rw [q] at e2'; cases e2'
          | some w =>
            rw [q] at e2'
            exact congrArg some e2'
        obtain ⟨m0, _, hl⟩ := I.loc
        obtain ⟨u, ru, lo⟩ := hl j x' v n2 es (k1.elim (fun z => .inr (.inl z)) fun z => .inr (.inr z))
        refine ⟨u, ru, .inr ⟨k2, ?_⟩⟩
        obtain ⟨c, hc⟩ := ck.has x' k2
        refine ⟨c, hc, ?_⟩
        rcases lo with ⟨z, _⟩ | ⟨_, c', hc', ic⟩
        · exfalso
          have z' : X.env.scope.names.lookup x' = some .local := z
          rcases k1 with k1 | k1 <;> (rw [z'] at k1; cases k1)
        · have ec : c' = c := Option.some.inj (hc'.symm.trans (ck.sub x' c hc))
          subst ec
          obtain ⟨o, ho, hd⟩ := ic
          exact ⟨o, k _ _ ho, hd⟩
  · obtain ⟨v, o, ho, hd⟩ := cl' x c e
    exact ⟨v, o, k _ _ ho, hd⟩
  · unfold blkSt
    rw [List.length_map]
    exact io.1
/-- behind the block: the frame's own words stand again -/
theorem blk_end (I : Inv X pins σ H s) (f : ∀ b ∈ fp, FpOk X pins H b) {σ' : St} {H' : Hp} {s' : Shared} {pl : List (Addr × Obj)} (J : Inv (blk X N' scope cl s.heap.objs.size s H fp) pl σ' H' s') {h' : Heap} (sb : Heap.SameBut s.heap.objs.size s'.heap h') :
    Inv X pins σ H' { s' with heap := h' } := by
  have nC : ∀ b o, s.heap.get? b = some o → b ≠ s.heap.objs.size := fun b o e => Nat.ne_of_lt (Heap.lt_size e)
  have hC : H' s.heap.objs.size = none := J.free
  have u : Un (frs X.stack) fp H H' s.heap s'.heap := J.base
  refine I.call' (ch := fp) (s' := { s' with heap := h' }) J.os ⟨fun b o e n hb hx => (sb.2 b (nC b o e)).trans (u.keep b o e n hb hx), fun b o e n hb hx => ?_, u.free, fun b o e hx => ?_, u.tups, u.frzs, u.tbls⟩ (fun b o e => ?_) J.bare
    (fun b hb => ⟨(f b hb).2.2.2.1, (f b hb).2.1, (f b hb).2.2.2.2.1, (f b hb).2.2.2.2.2⟩)
  · obtain ⟨sl, q⟩ := u.slot b o e n hb hx
    exact ⟨sl, (sb.2 b (nC b o e)).trans q⟩
  · obtain ⟨o', q⟩ := u.there b o e hx
    exact ⟨o', (sb.2 b (nC b o e)).trans q⟩
  · refine (J.hok b o e).stay (fun c v hc q => (sb.2 c ?_).trans q) (fun c q => q) fun c xs q => q
    rcases hc with rfl | hc
    · exact ne_of_none e hC
    · exact ne_of_none hc hC
end
/-- what the one knows the other one knows too -/
def StKeep : St → St → Prop
  | [], _ => True
  | none :: r, _ :: r' => StKeep r r'
  | none :: r, [] => StKeep r []
  | some v :: r, w :: r' => w = some v ∧ StKeep r r'
  | some _ :: _, [] => False
theorem StKeep.get : ∀ {a b : St}, StKeep a b → ∀ (j : Nat) v, a[j]? = some (some v) → b[j]? = some (some v)
  | [], _, _, _, _, e => by simp at e
  | none :: r, _ :: r', h, 0, v, e => by simp at e
  | none :: r, _ :: r', h, j + 1, v, e => by simpa using StKeep.get (a := r) (b := r') h j v (by simpa using e)
  | none :: r, [], h, 0, v, e => by simp at e
  | none :: r, [], h, j + 1, v, e => by have := StKeep.get (a := r) (b := []) h j v (by simpa using e); simp at this
  | some w :: r, _ :: r', h, 0, v, e => by
    have e' : w = v := by simpa using e
    subst e'
    simpa using h.1
  | some _ :: r, _ :: r', h, j + 1, v, e => by simpa using StKeep.get (a := r) (b := r') h.2 j v (by simpa using e)
section
variable {X : Cx}
/-- [elt for tg in iter]: D the list that grows -/
def tComp (ix : List (Option Nat)) (wi : TI) (g : TG) (te : TE) : TE := fun σ H Q => wi σ H fun J H1 => ∀ D, H1 D = none → ∃ W : Nat → Nat → Hp → Prop, (∃ m, W 0 m (upd H1 D (.lst []))) ∧ ∀ i m H2, W i m H2 →
  (J.stop i H2 ∧ Q (.ref D) H2) ∨ (J.go i H2 ∧ ∃ N : VK, (∀ y H5, N y H5 → ∃ xs, H5 D = some (.lst xs) ∧ xs.length < sizeLine ∧ ∃ m', m' < m ∧ W (i + 1) m' (upd H5 D (.lst (xs ++ [y])))) ∧ ∀ x H3, J.yld i H2 x H3 → g x (blkSt ix σ) H3 fun σ4 H4 => StKeep (blkSt ix σ) σ4 ∧ te σ4 H4 N)
theorem pe_comp {elt iter tg : Expr} {scope : Scope} {pos : Pos} {N' : List Str} {ix : List (Option Nat)} {cl : List (Str × Addr)} {wi : TI} {g : TG} {te : TE} (hc : X.calm = true) (ck : ClOk X scope cl) (io : IxOk X N' scope ix) (hi : PI X tg iter wi)
    (hg : ∀ C s₀ H₀ fp, PG (blk X N' scope cl C s₀ H₀ fp) tg g) (he : ∀ C s₀ H₀ fp, PE (blk X N' scope cl C s₀ H₀ fp) elt te) (hs : ∀ x, foldedSetIterable iter X.env x = pure x := by intro _; rfl) :
    PE X (.ListComp elt [⟨tg, iter, [], 0⟩] scope pos) (tComp ix wi g te) := by
  intro pins s σ H Q I h
  rw [eval_ListComp]
  refine wpAny_comprehension_free (use := none) rfl hs ck.eq ck.kind ck.names (thn (hi pins s σ H _ I h) fun xv s1 h1 => thn h1 fun itv s2 h2 => ?_)
  obtain ⟨it, fp, tn, J, H1, rfl, I1, T, st1, f1, R⟩ := h2
  -- the list
  refine wpAny_newObj_type ?_
  have hD : H1 s2.heap.objs.size = none := I1.hok.fresh (Nat.le_refl _)
  obtain ⟨W, ⟨m0, w0⟩, turn⟩ := R _ hD
  have hfD : ∀ b ∈ fp, b < s2.heap.objs.size := fun b hb => let ⟨o, e, _⟩ := T.obj _ _ st1 b hb; Heap.lt_size e
  have I2 : Inv X pins σ (upd H1 s2.heap.objs.size (.lst [])) { s2 with heap := s2.heap.push { cls := .type "list", data := .seq ([] : List Value).toArray }, toks := s2.toks } := I1.lnew (its := []) .nil (Nat.zero_le _)
  have f2 : ∀ b ∈ fp, FpOk X pins (upd H1 s2.heap.objs.size (.lst [])) b := fun b hb => ⟨by rw [upd_ne (Nat.ne_of_lt (hfD b hb))]; exact (f1 b hb).1, (f1 b hb).2⟩
  have lt2 : ∀ b ∈ fp, b < (s2.heap.push { cls := .type "list", data := .seq ([] : List Value).toArray }).objs.size := fun b hb => by rw [Heap.size_push]; exact Nat.lt_succ_of_lt (hfD b hb)
  -- the block's own dict
  refine wpAny_newFunctionEnv ck.ncell (by intro y hy; simp at hy) (fun h3 hns sb3 => ?_) ck.kind
  dsimp only at hns sb3 ⊢
  have k3 : ∀ b o, (s2.heap.push { cls := .type "list", data := .seq ([] : List Value).toArray }).get? b = some o → h3.get? b = some o := fun b o e => (sb3.2 b (Nat.ne_of_lt (Heap.lt_size e))).trans (Heap.get?_push_of_some _ e)
  generalize hs2 : ({ s2 with heap := s2.heap.push { cls := .type "list", data := .seq ([] : List Value).toArray }, toks := s2.toks } : Shared) = s3 at I2
  have e3 : s2.heap.push { cls := .type "list", data := .seq ([] : List Value).toArray } = s3.heap := by rw [← hs2]
  rw [e3] at hns k3 lt2
  have I3 := blk_start (N' := N') (ix := ix) I2 ck io f2 lt2 (h' := h3) (t' := s2.toks + ([] : List (Str × Value)).length) hns k3
  have e4 : ({ s3 with heap := h3, toks := s2.toks + ([] : List (Str × Value)).length } : Shared) = { s2 with heap := h3, toks := s2.toks + ([] : List (Str × Value)).length } := by rw [← hs2]
  rw [e4] at I3
  have st3 : tn 0 h3 := T.keep _ _ _ st1 fun b hb o e => k3 b o (by rw [← e3]; exact Heap.get?_push_of_some _ e)
  have loop : ∀ s4 : Shared, s4 = { s2 with heap := h3, toks := s2.toks + ([] : List (Str × Value)).length } →
      codeAny (model X.prog X.w) X.A (.compLoop (.ListComp elt [⟨tg, iter, [], 0⟩] scope pos) 0 (.ref it) (.ref s2.heap.objs.size) (compEnvC scope cl s3.heap.objs.size X.env))
        (compPost (model X.prog X.w) X.A X.xe none (EP X pins σ Q) (.ref s2.heap.objs.size) s3.heap.objs.size) s4 := by
    rintro s4 rfl
    have stat : ∀ {H' : Hp}, (∀ b ∈ fp, H' b = none) → ∀ b ∈ fp, FpOk (blk X N' scope cl s3.heap.objs.size s3 (upd H1 s2.heap.objs.size (.lst [])) fp) [] H' b := fun hn b hb =>
      ⟨hn b hb, Nat.ne_of_lt (lt2 b hb), fun hs => I3.ok.exfs b hb hs, .inl hb, fun x c e => (f2 b hb).2.2.2.2.1 x c (ck.sub x c e), (fun p hp => by cases hp)⟩
    refine codeAny_loop rfl (fun n s' => ∃ i σ' H', Inv (blk X N' scope cl s3.heap.objs.size s3 (upd H1 s2.heap.objs.size (.lst [])) fp) [] σ' H' s' ∧ (∀ (j : Nat) v, (blkSt ix σ)[j]? = some (some v) → σ'[j]? = some (some v)) ∧ tn i s'.heap ∧ (∀ b ∈ fp, H' b = none) ∧ W i n H')
      (fun n s' hI => ?_) m0 ⟨0, _, _, I3, fun _ _ z => z, st3, fun b hb => (f2 b hb).1, w0⟩
    obtain ⟨i, σ5, H5, I5, wk, st5, fr5, w5⟩ := hI
    show wpAny _ _ ((compTurn (.ListComp elt [⟨tg, iter, [], 0⟩] scope pos) 0 (.ref it) (.ref s2.heap.objs.size) (compEnvC scope cl s3.heap.objs.size X.env)).onRaise (fun x => do noteFrame x (compEnvC scope cl s3.heap.objs.size X.env); theTreesLotGoes x)) _ _ s'
    refine wpAny_noted ?_
    rw [compTurn_list1]
    refine wpAny_bind (wpAny_standAt ?_)
    rcases turn i n H5 w5 with ⟨stop, qn⟩ | ⟨go, NN, hNN, step⟩
    · refine wpAny_bind (wpAny_mono (T.done (blk X N' scope cl s3.heap.objs.size s3 (upd H1 s2.heap.objs.size (.lst [])) fp) rfl rfl rfl hc i [] s' σ5 H5 (fun _ _ => False) I5 (stat fr5) st5 stop) (fun r s6 h6 => ?_) fun _ _ z => z.elim)
      obtain ⟨rfl, I6⟩ := h6
      refine wpAny_pure ?_
      obtain ⟨mm, hm, _⟩ := id I6.loc
      exact ⟨mm, hm, fun h' sb => ⟨.ref s2.heap.objs.size, H5, blk_end I2 f2 I6 sb, rfl, qn⟩⟩
    · refine wpAny_bind (wpAny_mono (T.item (blk X N' scope cl s3.heap.objs.size s3 (upd H1 s2.heap.objs.size (.lst [])) fp) rfl rfl rfl hc i [] s' σ5 H5 (fun _ _ => False) I5 (stat fr5) st5 go) (fun r s6 h6 => ?_) fun _ _ z => z.elim)
      obtain ⟨u, rfl, h6⟩ := h6
      refine wpAny_bind (wpAny_mono h6 (fun _ s7 h7 => ?_) fun _ _ z => z.elim)
      obtain ⟨x, H7, I7, r7, y7, st7, fr7⟩ := h7
      have I7w : Inv (blk X N' scope cl s3.heap.objs.size s3 (upd H1 s2.heap.objs.size (.lst [])) fp) [] (blkSt ix σ) H7 s7 := I7.weak (by rw [I7.len]; unfold blkSt; rw [List.length_map]; exact io.1) wk
      have I7p := I7w.pinned (stat fr7) (T.obj _ _ st7)
      refine wpAny_bind (wpAny_mono (hg _ _ _ _ _ s7 _ H7 x u _ I7p r7 (step x H7 y7)) (fun _ s8 h8 => ?_) fun _ _ z => z.elim)
      obtain ⟨σ8, H8, I8, kp8, q8⟩ := h8
      refine wpAny_bind (wpAny_bind (wpAny_mono (he _ _ _ _ _ s8 σ8 H8 _ I8 q8) (fun yv s9 h9 => ?_) fun _ _ z => z.elim))
      obtain ⟨y, H9, I9, r9, n9⟩ := h9
      obtain ⟨xs, hx9, hz9, m', hm', w9⟩ := hNN _ _ n9
      refine wpAny_bind (wpAny_mono (mt_append (X := blk X N' scope cl s3.heap.objs.size s3 (upd H1 s2.heap.objs.size (.lst [])) fp) _ s9 σ8 H9 (.ref s2.heap.objs.size) [y] (.ref s2.heap.objs.size) [yv] (fun _ H' => W (i + 1) m' H') I9 rfl (.cons r9 .nil) ⟨_, xs, y, rfl, rfl, hx9, hz9, w9⟩) (fun _ s10 h10 => ?_) fun _ _ z => z.elim)
      obtain ⟨_, H10, I10, _, w10⟩ := h10
      refine wpAny_pure (wpAny_pure ⟨rfl, m', hm', i + 1, σ8, H10, I10.unpinned, ?_, T.keep _ _ _ st7 fun b hb o e => (I10.pin (b, o) (List.mem_append_right _ (List.mem_append_right _ (mem_pinsAt hb e)))).1, fun b hb => ?_, w10⟩)
      · exact kp8.get
      · obtain ⟨o, e, d⟩ := T.obj _ _ st7 b hb
        exact (I10.pin (b, o) (List.mem_append_right _ (List.mem_append_right _ (mem_pinsAt hb e)))).2.1
  have e5 : s3.heap.objs.size = (s2.heap.push { cls := .type "list", data := .seq ([] : List Value).toArray }).objs.size := by rw [e3]
  rw [e5] at loop
  exact codeAny_compStart_list (loop _ rfl) (T.self X.A 0 _ _ _ st3 (loop _ rfl))
end
end L2

/-! MY RULES: a method by the object's own class; data (ints, texts, tuples, lists within one another) and their ==; texts; comprehensions over lists and tuples. -/
namespace L2
open PySem PySem.Spec PyProof.Rows
/-! ### o.m(..), the class and the method found where the object stands -/
section
variable {X : Cx} {m : Str} {pos apos : Pos} {e o : Expr} {es : List Expr} {ta : TE} {t : TA}
def tMethD (X : Cx) (m : Str) (ta : TE) (t : TA) : TE := fun σ H Q => ta σ H fun x H1 => ∃ (a C dx : Addr) (fs : List (Str × V)) (k : Nat) (f : Addr) (fd : FuncData) (ps : List Str) (sp : Sp), x = .ref a ∧ H1 a = some (.ins C dx fs) ∧ Cls X.K C ∧ Meth X.K C m f ∧ fs.lookup m = none ∧
  FnOk X.prog X.w X.K X.mg X.base CX0 k f fd ps sp ∧ Room k X.A ∧ Binds X.K fd ps [] ∧ t σ H1 fun vs H2 => sp (x :: vs) H2 Q E0
theorem pe_methD {pl : Sem Bool} (he : PE X o ta) (ha : PA X (e :: es) t)
    (hst : starEach (e :: es) X.env = (false, eval e X.env) :: starEach es X.env := by rfl) (hpl : (backTo pos (starEach es X.env)).any (·.1) = false := by rfl)
    (ht : eval (.Call (.Attribute o m apos) (e :: es) [] pos) X.env = (do
      let ov ← eval o X.env
      standAt apos.atName
      let (f, first) ← holding [ov] (getMethod ov m pl)
      callWith pos f first (backTo pos (starEach (e :: es) X.env)) (backToKw pos (keywordEach [] X.env))) := by rfl) :
    PE X (.Call (.Attribute o m apos) (e :: es) [] pos) (tMethD X m ta t) := by
  intro pins s σ H Q I h
  refine PySem.W.methodCall_KW (pl := pl) (thn (he pins s σ H _ I h) fun u s1 ⟨x, H1, I1, rx, a, C, dx, fs, k, f, fd, ps, sp, ex, ea, c, hm, l, F, hr, hb, q⟩ => ?_) ht
  subst ex
  obtain rfl : u = Value.ref a := rx
  refine getmeth_ok I1 ea c hm l ?_
  refine PySem.W.callWith_K (first := [.ref a]) (h₀ := X.base) I.ok.mod.kin hm.kp (thn (ha pos pins s1 σ H1 _ I1 q) fun us s2 ⟨vs, H2, I2, r, q2⟩ => ⟨I2.kIn, ?_⟩) hst hpl
  exact run_fn (us := .ref a :: us) (vs := .ref a :: vs) (dvs := []) F hr hb .nil pass0 I2 (.cons rfl r) (by rw [List.append_nil]; exact q2)
end
/-! ### data -/
mutual
inductive Rep (H : Hp) : V → PyData → Prop
  | non : Rep H .non .none
  | bl (b : Bool) : Rep H (.bl b) (.bool b)
  | int (i : Int) : Rep H (.int i) (.int i)
  | str (x : Str) : Rep H (.str x) (.str x)
  | lst {p : Addr} {xs : List V} {ds : List PyData} : H p = some (.lst xs) → Reps H xs ds → Rep H (.ref p) (.list ds)
  | tup {p : Addr} {xs : List V} {ds : List PyData} : H p = some (.tup xs) → Reps H xs ds → Rep H (.ref p) (.tuple ds)
inductive Reps (H : Hp) : List V → List PyData → Prop
  | nil : Reps H [] []
  | cons {v : V} {vs : List V} {d : PyData} {ds : List PyData} : Rep H v d → Reps H vs ds → Reps H (v :: vs) (d :: ds)
end
mutual
theorem Rep.imp {H H' : Hp} (f : ∀ p o, H p = some o → H' p = some o) : ∀ {v : V} {d : PyData}, Rep H v d → Rep H' v d
  | _, _, .non => .non
  | _, _, .bl b => .bl b
  | _, _, .int i => .int i
  | _, _, .str x => .str x
  | _, _, .lst e r => .lst (f _ _ e) (Reps.imp f r)
  | _, _, .tup e r => .tup (f _ _ e) (Reps.imp f r)
theorem Reps.imp {H H' : Hp} (f : ∀ p o, H p = some o → H' p = some o) : ∀ {vs : List V} {ds : List PyData}, Reps H vs ds → Reps H' vs ds
  | _, _, .nil => .nil
  | _, _, .cons a r => .cons (Rep.imp f a) (Reps.imp f r)
end
theorem Rep.same {H H' : Hp} {v : V} {d : PyData} (h : Rep H v d) (s : Same H H') : Rep H' v d := h.imp s
theorem Reps.same {H H' : Hp} {v : List V} {d : List PyData} (h : Reps H v d) (s : Same H H') : Reps H' v d := h.imp s
theorem Reps.len {H : Hp} : ∀ {vs : List V} {ds : List PyData}, Reps H vs ds → vs.length = ds.length
  | _, _, .nil => rfl
  | _, _, .cons _ r => by rw [List.length_cons, List.length_cons, Reps.len r]
theorem Reps.snoc {H : Hp} {v : V} {d : PyData} (a : Rep H v d) : ∀ {vs : List V} {ds : List PyData}, Reps H vs ds → Reps H (vs ++ [v]) (ds ++ [d])
  | _, _, .nil => .cons a .nil
  | _, _, .cons b r => .cons b (Reps.snoc a r)
theorem Reps.strs {H : Hp} : ∀ xs : List Str, Reps H (xs.map V.str) (xs.map PyData.str)
  | [] => .nil
  | x :: r => .cons (.str x) (Reps.strs r)
section
variable {X : Cx} {pins : List (Addr × Obj)} {σ : St} {H : Hp} {s : Shared}
mutual
theorem rep_reads (I : Inv X pins σ H s) : ∀ {v : V} {d : PyData} {u : Value}, Rep H v d → RelV v u → ∃ as, Reads s.heap u d as
  | _, _, u, .non, r => by cases (show u = Value.none from r); exact ⟨_, .none⟩
  | _, _, u, .bl b, r => by cases (show u = Value.bool b from r); exact ⟨_, .bool b⟩
  | _, _, u, .int i, r => by obtain ⟨t, q⟩ := (show ∃ t, u = Value.int i t from r); cases q; exact ⟨_, .int i t⟩
  | _, _, u, .str x, r => by obtain ⟨t, q⟩ := (show ∃ t, u = Value.str x t from r); cases q; exact ⟨_, .str x t⟩
  | _, _, u, @Rep.lst _ p xs ds e q, r => by
    cases (show u = Value.ref p from r)
    obtain ⟨_, its, n, rv, ho⟩ := (show ObjOk X.prog X.w H s.heap p (.lst xs) from I.hok p _ e)
    obtain ⟨as, z⟩ := reps_reads I q rv
    exact ⟨_, Reads.list ho rfl rfl (by simpa using z)⟩
  | _, _, u, @Rep.tup _ p xs ds e q, r => by
    cases (show u = Value.ref p from r)
    obtain ⟨_, its, rv, o, ho, hc, n, hd⟩ := (show ObjOk X.prog X.w H s.heap p (.tup xs) from I.hok p _ e)
    obtain ⟨as, z⟩ := reps_reads I q rv
    exact ⟨_, Reads.tuple ho hc hd (by simpa using z)⟩
theorem reps_reads (I : Inv X pins σ H s) : ∀ {vs : List V} {ds : List PyData} {us : List Value}, Reps H vs ds → Vals vs us → ∃ as, ReadsAll s.heap us ds as
  | _, _, _, .nil, .nil => ⟨_, .nil⟩
  | _, _, _, .cons a r, .cons q rv => by
    obtain ⟨as, z⟩ := rep_reads I a q
    obtain ⟨bs, y⟩ := reps_reads I r rv
    exact ⟨_, .cons z y⟩
end
end
section
variable {X : Cx}
/-! ### texts -/
end
/-! ### comprehensions -/
theorem clok_none {X : Cx} {scope : Scope} (hk : scope.kind = .function) (hn : ∀ y ∈ scope.names, y.2 ≠ .free ∧ y.2 ≠ .cell) (hl : ∀ y ∈ scope.names, y.2 = .local → scope.names.lookup y.1 = some .local) : ClOk X scope [] where
  eq := closureFor_none fun y hy => (hn y hy).1
  sub := fun x c h => by cases h
  has := fun x h => by
    exfalso
    have e : (relabel scope X.env).names = scope.names := map_eq_self fun y hy => by
      obtain ⟨n, k⟩ := y
      have z := (hn _ hy).1
      have z' : (k == NameKind.free) = false := by simpa using z
      simp [z']
    rw [e] at h
    have mem : ∀ {k : NameKind}, scope.names.lookup x = some k → (x, k) ∈ scope.names := fun {k} q => by
      generalize scope.names = l at q
      induction l with
      | nil => cases q
      | cons a r ih =>
        obtain ⟨n, k'⟩ := a
        rw [List.lookup_cons] at q
        split at q
        · rename_i hb
          have hb' : x = n := by simpa using hb
          cases q
          subst hb'
          exact .head _
        · exact .tail _ (ih q)
    rcases h with h | h
    · exact (hn _ (mem h)).2 rfl
    · exact (hn _ (mem h)).1 rfl
  kind := hk
  ncell := fun y hy => (hn y hy).2
  names := hl
theorem ixok_none {X : Cx} {N' : List Str} {scope : Scope} {n : Nat} (h : n = N'.length) : IxOk X N' scope (List.replicate n none) := ⟨by rw [List.length_replicate]; exact h, fun i j e => by
  rw [List.getElem?_replicate] at e
  split at e <;> cases e⟩
section
variable {K : PySem.W.Frag} {a D : Addr} {xs : List V} {g : TG} {te : TE} {Q : VK} {σ₀ : St} {H : Hp}
theorem comp_list (Pv : Nat → List V → Hp → Prop) (h0 : Pv 0 [] (upd H D (.lst []))) (hl : ∀ i ys H, Pv i ys H → SqL K H a xs)
    (hs : ∀ i x ys H, xs[i]? = some x → Pv i ys H → g x σ₀ H fun σ4 H4 => StKeep σ₀ σ4 ∧ te σ4 H4 fun y H5 => H5 D = some (.lst ys) ∧ ys.length < sizeLine ∧ Pv (i + 1) (ys ++ [y]) (upd H5 D (.lst (ys ++ [y])))) (hd : ∀ ys H, Pv xs.length ys H → Q (.ref D) H) :
    ∃ W : Nat → Nat → Hp → Prop, (∃ m, W 0 m (upd H D (.lst []))) ∧ ∀ i m H2, W i m H2 →
      ((Itl K a).stop i H2 ∧ Q (.ref D) H2) ∨ ((Itl K a).go i H2 ∧ ∃ N : VK, (∀ y H5, N y H5 → ∃ xs, H5 D = some (.lst xs) ∧ xs.length < sizeLine ∧ ∃ m', m' < m ∧ W (i + 1) m' (upd H5 D (.lst (xs ++ [y])))) ∧
        ∀ x H3, (Itl K a).yld i H2 x H3 → g x σ₀ H3 fun σ4 H4 => StKeep σ₀ σ4 ∧ te σ4 H4 N) := by
  refine ⟨fun i m H => m = xs.length - i ∧ i ≤ xs.length ∧ ∃ ys, Pv i ys H, ⟨xs.length, by simp, Nat.zero_le _, [], h0⟩, ?_⟩
  rintro i m H2 ⟨rfl, hi, ys, p⟩
  have q := hl i ys H2 p
  by_cases hlt : i < xs.length
  · refine .inr ⟨⟨xs, xs[i], q, by simp [hlt]⟩, fun y H5 => H5 D = some (.lst ys) ∧ ys.length < sizeLine ∧ Pv (i + 1) (ys ++ [y]) (upd H5 D (.lst (ys ++ [y]))), fun y H5 n => ⟨ys, n.1, n.2.1, xs.length - (i + 1), by omega, rfl, hlt, _, n.2.2⟩, fun x H3 z => ?_⟩
    obtain ⟨e, z⟩ := z
    subst e
    exact hs i x ys _ (z xs q) p
  · have e : i = xs.length := by omega
    subst e
    exact .inl ⟨⟨xs, q, Nat.le_refl _⟩, hd ys H2 p⟩
theorem comp_tup (Pv : Nat → List V → Hp → Prop) (h0 : Pv 0 [] (upd H D (.lst []))) (hl : ∀ i ys H, Pv i ys H → SqT K H a xs)
    (hs : ∀ i x ys H, xs[i]? = some x → Pv i ys H → g x σ₀ H fun σ4 H4 => StKeep σ₀ σ4 ∧ te σ4 H4 fun y H5 => H5 D = some (.lst ys) ∧ ys.length < sizeLine ∧ Pv (i + 1) (ys ++ [y]) (upd H5 D (.lst (ys ++ [y])))) (hd : ∀ ys H, Pv xs.length ys H → Q (.ref D) H) :
    ∃ W : Nat → Nat → Hp → Prop, (∃ m, W 0 m (upd H D (.lst []))) ∧ ∀ i m H2, W i m H2 →
      ((Itt K a).stop i H2 ∧ Q (.ref D) H2) ∨ ((Itt K a).go i H2 ∧ ∃ N : VK, (∀ y H5, N y H5 → ∃ xs, H5 D = some (.lst xs) ∧ xs.length < sizeLine ∧ ∃ m', m' < m ∧ W (i + 1) m' (upd H5 D (.lst (xs ++ [y])))) ∧
        ∀ x H3, (Itt K a).yld i H2 x H3 → g x σ₀ H3 fun σ4 H4 => StKeep σ₀ σ4 ∧ te σ4 H4 N) := by
  refine ⟨fun i m H => m = xs.length - i ∧ i ≤ xs.length ∧ ∃ ys, Pv i ys H, ⟨xs.length, by simp, Nat.zero_le _, [], h0⟩, ?_⟩
  rintro i m H2 ⟨rfl, hi, ys, p⟩
  have q := hl i ys H2 p
  by_cases hlt : i < xs.length
  · refine .inr ⟨⟨xs, xs[i], q, by simp [hlt]⟩, fun y H5 => H5 D = some (.lst ys) ∧ ys.length < sizeLine ∧ Pv (i + 1) (ys ++ [y]) (upd H5 D (.lst (ys ++ [y]))), fun y H5 n => ⟨ys, n.1, n.2.1, xs.length - (i + 1), by omega, rfl, hlt, _, n.2.2⟩, fun x H3 z => ?_⟩
    obtain ⟨e, z⟩ := z
    subst e
    exact hs i x ys _ (z xs q) p
  · have e : i = xs.length := by omega
    subst e
    exact .inl ⟨⟨xs, q, Nat.le_refl _⟩, hd ys H2 p⟩
end
end L2

/-! MY RULES: f-strings of texts and ints. -/
namespace L2
open PySem PySem.Spec PyProof.Rows
section
variable {X : Cx} {e : Expr} {es : List Expr} {te : TE} {tr : TJ} {pos p2 : Pos}
end
end L2

/-! MY RULES: a comprehension that takes one name over; range(a, b, c). -/
namespace L2
open PySem PySem.Spec PyProof.Rows
theorem lookup_mem {x : Str} {k : NameKind} : ∀ {l : List (Str × NameKind)}, l.lookup x = some k → (x, k) ∈ l
  | [], q => by cases q
  | (n, k') :: r, q => by
    rw [List.lookup_cons] at q
    split at q
    · rename_i hb
      have hb' : x = n := by simpa using hb
      cases q
      subst hb'
      exact .head _
    · exact .tail _ (lookup_mem q)
theorem clok_one {X : Cx} {scope : Scope} {x : Str} {c : Addr} (he : closureFor scope X.env = pure [(x, c)]) (hc : X.env.cells.lookup x = some c) (hk : scope.kind = .function) (hn : ∀ y ∈ scope.names, y.2 ≠ .cell ∧ (y.2 = .free → y.1 = x))
    (hl : ∀ y ∈ scope.names, y.2 = .local → scope.names.lookup y.1 = some .local) : ClOk X scope [(x, c)] where
  eq := he
  sub := fun y d h => by
    rw [List.lookup_cons] at h
    split at h
    · rename_i hb
      have hb' : y = x := by simpa using hb
      cases h
      subst hb'
      exact hc
    · cases h
  has := fun y h => by
    have key : y = x := by
      have m : ∃ k, (y, k) ∈ (relabel scope X.env).names ∧ (k = .cell ∨ k = .free) := h.elim (fun z => ⟨_, lookup_mem z, .inl rfl⟩) fun z => ⟨_, lookup_mem z, .inr rfl⟩
      obtain ⟨k, hm, hk⟩ := m
      obtain ⟨⟨n, k0⟩, h0, e⟩ := List.mem_map.mp hm
      dsimp only at e
      by_cases hf : k0 = .free
      · have en : n = y := by
          split at e
          · exact congrArg Prod.fst e
          · exact congrArg Prod.fst e
        rw [← en]
        exact (hn _ h0).2 hf
      · have hb : (k0 == NameKind.free) = false := by simpa using hf
        simp only [hb, Bool.false_and, Bool.false_eq_true, if_false] at e
        have e2 : k0 = k := congrArg Prod.snd e
        subst e2
        rcases hk with hk | hk
        · exact absurd hk (hn _ h0).1
        · exact absurd hk hf
    subst key
    exact ⟨c, by simp [List.lookup_cons]⟩
  kind := hk
  ncell := fun y hy => (hn y hy).1
  names := hl
theorem ixok_last {X : Cx} {N0 : List Str} {x : Str} {scope : Scope} {j : Nat} (hN : X.N[j]? = some x) (h1 : X.env.scope.names.lookup x = some .cell ∨ X.env.scope.names.lookup x = some .free)
    (h2 : (relabel scope X.env).names.lookup x = some .cell ∨ (relabel scope X.env).names.lookup x = some .free) : IxOk X (N0 ++ [x]) scope (List.replicate N0.length none ++ [some j]) := by
  refine ⟨by simp, fun i k e => ?_⟩
  by_cases hi : i < N0.length
  · rw [List.getElem?_append_left (by simpa using hi), List.getElem?_replicate] at e
    split at e <;> cases e
  · have hi' : i = N0.length := by
      have := (List.getElem?_eq_some_iff.mp e).1
      simp at this
      omega
    subst hi'
    rw [List.getElem?_append_right (by simp)] at e
    have ek : j = k := by simpa using e
    subst ek
    exact ⟨x, by simp, hN, h1, h2⟩
/-! ### range(a, b, c) -/
end L2

/-! MY RULES: a part of the heap; data in a part; lookups of attributes; what is walked may be a list or a tuple. -/
set_option linter.all false
namespace L2
open PySem PySem.Spec PyProof.Rows
/-! ### heaps -/
theorem same_fresh {H H' : Hp} {l : Addr} {o : HO} (s : Same H H') (hl : H l = none) : Same H (upd H' l o) := fun b u e => by
  rw [upd_ne (ne_of_none e hl)]
  exact s b u e
theorem same_new {H : Hp} {l : Addr} {o : HO} (hl : H l = none) : Same H (upd H l o) := same_fresh (Same.refl H) hl
theorem line_le {n : Nat} (h : n ≤ 1000000) : n ≤ sizeLine := by rw [sizeLine_eq]; omega
theorem line_lt {n : Nat} (h : n ≤ 1000000) : n < sizeLine := by rw [sizeLine_eq]; omega
/-- the part of the heap that S says -/
noncomputable def restr (S : Addr → Prop) (H : Hp) : Hp := fun a => @ite _ (S a) (Classical.propDecidable _) (H a) none
theorem restr_in {S : Addr → Prop} {H : Hp} {a : Addr} (h : S a) : restr S H a = H a := by unfold restr; rw [if_pos h]
theorem restr_out {S : Addr → Prop} {H : Hp} {a : Addr} (h : ¬ S a) : restr S H a = none := by unfold restr; rw [if_neg h]
theorem restr_some {S : Addr → Prop} {H : Hp} {a : Addr} {o : HO} (h : restr S H a = some o) : S a ∧ H a = some o := by
  by_cases hs : S a
  · rw [restr_in hs] at h; exact ⟨hs, h⟩
  · rw [restr_out hs] at h; cases h
theorem restr_mk {S : Addr → Prop} {H : Hp} {a : Addr} {o : HO} (hs : S a) (h : H a = some o) : restr S H a = some o := by rw [restr_in hs]; exact h
theorem restr_sub {S : Addr → Prop} {H : Hp} : Same (restr S H) H := fun _ _ e => (restr_some e).2
theorem restr_same {S : Addr → Prop} {H H' : Hp} (s : Same H H') : Same (restr S H) (restr S H') := fun b o e => restr_mk (restr_some e).1 (s _ _ (restr_some e).2)
theorem restr_imp {S S' : Addr → Prop} {H H' : Hp} (s : Same H H') (h : ∀ a o, H a = some o → S a → S' a) : Same (restr S H) (restr S' H') := fun b o e => restr_mk (h _ _ (restr_some e).2 (restr_some e).1) (s _ _ (restr_some e).2)
theorem restr_upd {S : Addr → Prop} {H H' : Hp} {l : Addr} {o : HO} (s : Same (restr S H) (restr S H')) (h : ¬ S l) : Same (restr S H) (restr S (upd H' l o)) := fun b u e => by
  have q := restr_some (s _ _ e)
  have hne : b ≠ l := fun z => h (by rw [← z]; exact q.1)
  exact restr_mk q.1 (by rw [upd_ne hne]; exact q.2)
/-! ### data -/
mutual
theorem Rep.imp2 {H H' : Hp} (f : ∀ p xs, H p = some (.lst xs) → H' p = some (.lst xs)) (g : ∀ p xs, H p = some (.tup xs) → H' p = some (.tup xs)) : ∀ {v : V} {d : PyData}, Rep H v d → Rep H' v d
  | _, _, .non => .non
  | _, _, .bl b => .bl b
  | _, _, .int i => .int i
  | _, _, .str x => .str x
  | _, _, .lst e r => .lst (f _ _ e) (Reps.imp2 f g r)
  | _, _, .tup e r => .tup (g _ _ e) (Reps.imp2 f g r)
theorem Reps.imp2 {H H' : Hp} (f : ∀ p xs, H p = some (.lst xs) → H' p = some (.lst xs)) (g : ∀ p xs, H p = some (.tup xs) → H' p = some (.tup xs)) : ∀ {vs : List V} {ds : List PyData}, Reps H vs ds → Reps H' vs ds
  | _, _, .nil => .nil
  | _, _, .cons a r => .cons (Rep.imp2 f g a) (Reps.imp2 f g r)
end
/-- an instance is changed: no matter to data -/
theorem Rep.ins {H : Hp} {v : V} {d : PyData} {p C dx : Addr} {fs : List (Str × V)} {o : HO} (h : Rep H v d) (e : H p = some (.ins C dx fs)) : Rep (upd H p o) v d :=
  h.imp2 (fun q xs z => by rw [upd_ne (ne_of z e (by intro w; cases w))]; exact z) (fun q xs z => by rw [upd_ne (ne_of z e (by intro w; cases w))]; exact z)
section
variable {G : Hp} {v : V} {vs : List V} {d : PyData} {ds : List PyData}
theorem rep_tup (h : Rep G v (.tuple ds)) : ∃ p xs, v = .ref p ∧ G p = some (.tup xs) ∧ Reps G xs ds := by
  cases h with
  | tup e r => exact ⟨_, _, rfl, e, r⟩
theorem rep_lst (h : Rep G v (.list ds)) : ∃ p xs, v = .ref p ∧ G p = some (.lst xs) ∧ Reps G xs ds := by
  cases h with
  | lst e r => exact ⟨_, _, rfl, e, r⟩
theorem rep_str {x : Str} (h : Rep G v (.str x)) : v = .str x := by cases h; rfl
theorem rep_int {x : Int} (h : Rep G v (.int x)) : v = .int x := by cases h; rfl
theorem reps_cons (h : Reps G vs (d :: ds)) : ∃ u r, vs = u :: r ∧ Rep G u d ∧ Reps G r ds := by
  cases h with
  | cons a r => exact ⟨_, _, rfl, a, r⟩
theorem reps_nil (h : Reps G vs []) : vs = [] := by cases h; rfl
end
mutual
def cnt : PyData → Nat
  | .none => 1
  | .bool _ => 1
  | .int _ => 1
  | .str _ => 1
  | .list xs => cntAll xs + 1
  | .tuple xs => cntAll xs + 1
  | .dict _ => 1
def cntAll : List PyData → Nat
  | [] => 0
  | x :: xs => cnt x + cntAll xs
end
theorem cnt_pos (d : PyData) : 1 ≤ cnt d := by cases d <;> simp [cnt]
theorem cnt_len : ∀ ds : List PyData, ds.length ≤ cntAll ds
  | [] => by simp [cntAll]
  | d :: r => by
    have := cnt_len r
    have := cnt_pos d
    simp only [cntAll, List.length_cons]
    omega
theorem cnt_at : ∀ {ds : List PyData} {i : Nat} {d : PyData}, ds[i]? = some d → cnt d ≤ cntAll ds ∧ PyData.depth d ≤ PyData.depthAll ds
  | [], _, _, e => by simp at e
  | d :: r, 0, _, e => by
    simp at e; subst e
    simp only [cntAll, PyData.depthAll]
    omega
  | x :: r, i + 1, d, e => by
    have := cnt_at (ds := r) (i := i) (d := d) (by simpa using e)
    simp only [cntAll, PyData.depthAll]
    omega
theorem Reps.get2 {H : Hp} : ∀ {vs : List V} {ds : List PyData} {i : Nat} {v : V}, Reps H vs ds → vs[i]? = some v → ∃ d, ds[i]? = some d ∧ Rep H v d
  | _, _, _, _, .nil, e => by simp at e
  | _, _, 0, _, .cons a _, e => by simp at e; subst e; exact ⟨_, rfl, a⟩
  | _, _, i + 1, v, .cons _ r, e => by
    obtain ⟨d, h1, h2⟩ := Reps.get2 (i := i) (v := v) r (by simpa using e)
    exact ⟨d, by simpa using h1, h2⟩
/-! ### attributes -/
theorem lk0 {k : Str} {v : V} {r : List (Str × V)} : List.lookup k ((k, v) :: r) = some v := by simp [List.lookup_cons]
theorem lk1 {k j : Str} {v : V} {r : List (Str × V)} {o : Option V} (h : (k == j) = false) (e : List.lookup k r = o) : List.lookup k ((j, v) :: r) = o := by
  rw [List.lookup_cons, h]
  exact e
theorem putF_nil {f : Str} {v : V} : putF f v [] = [(f, v)] := rfl
theorem putF_ne {f g : Str} {v x : V} {r : List (Str × V)} (h : ¬ g = f) : putF f v ((g, x) :: r) = (g, x) :: putF f v r := by rw [putF, if_neg h]
/-! ### a test that is known -/
theorem iteD {c A B : Prop} [Decidable c] (h1 : c → A) (h2 : ¬ c → B) : if decide c = true then A else B :=
  ite2 (fun h => h1 (of_decide_eq_true h)) (fun h => h2 fun hc => h (decide_eq_true hc))
/-! ### a list or a tuple is walked -/
section
variable {X : Cx}
theorem pi_seq {tg l : Expr} {tl : TE} (hl : PE X l tl) : PI X tg l (fun σ H R => iList X.K tl σ H R ∨ iTup X.K tl σ H R) := fun pins s σ H R I h => h.elim (pi_list hl pins s σ H R I) (pi_tup hl pins s σ H R I)
end
/-! ### atI -/
theorem at_mapV {α : Type} {f : α → V} {xs : List α} {i : Int} (h0 : 0 ≤ i) (h1 : i < xs.length) : ∃ x, xs[i.toNat]? = some x ∧ atI (xs.map f) i = some (f x) := by
  obtain ⟨n, rfl⟩ := Int.eq_ofNat_of_zero_le h0
  have hn : n < xs.length := by omega
  exact ⟨xs[n], by simp [hn], atI_nat (by simp [hn])⟩
/-! ### comprehensions: the end is said of the heap alone -/
section
variable {K : PySem.W.Frag} {a D : Addr} {xs : List V} {g : TG} {te : TE} {QD : Hp → Prop} {σ₀ : St} {H : Hp}
theorem comp_listQ (Pv : Nat → List V → Hp → Prop) (h0 : Pv 0 [] (upd H D (.lst []))) (hl : ∀ i ys H, Pv i ys H → SqL K H a xs)
    (hs : ∀ i x ys H, xs[i]? = some x → Pv i ys H → g x σ₀ H fun σ4 H4 => StKeep σ₀ σ4 ∧ te σ4 H4 fun y H5 => H5 D = some (.lst ys) ∧ ys.length < sizeLine ∧ Pv (i + 1) (ys ++ [y]) (upd H5 D (.lst (ys ++ [y])))) (hd : ∀ ys H, Pv xs.length ys H → QD H) :
    ∃ W : Nat → Nat → Hp → Prop, (∃ m, W 0 m (upd H D (.lst []))) ∧ ∀ i m H2, W i m H2 →
      ((Itl K a).stop i H2 ∧ QD H2) ∨ ((Itl K a).go i H2 ∧ ∃ N : VK, (∀ y H5, N y H5 → ∃ xs, H5 D = some (.lst xs) ∧ xs.length < sizeLine ∧ ∃ m', m' < m ∧ W (i + 1) m' (upd H5 D (.lst (xs ++ [y])))) ∧
        ∀ x H3, (Itl K a).yld i H2 x H3 → g x σ₀ H3 fun σ4 H4 => StKeep σ₀ σ4 ∧ te σ4 H4 N) := comp_list (Q := fun _ H => QD H) Pv h0 hl hs hd
theorem comp_tupQ (Pv : Nat → List V → Hp → Prop) (h0 : Pv 0 [] (upd H D (.lst []))) (hl : ∀ i ys H, Pv i ys H → SqT K H a xs)
    (hs : ∀ i x ys H, xs[i]? = some x → Pv i ys H → g x σ₀ H fun σ4 H4 => StKeep σ₀ σ4 ∧ te σ4 H4 fun y H5 => H5 D = some (.lst ys) ∧ ys.length < sizeLine ∧ Pv (i + 1) (ys ++ [y]) (upd H5 D (.lst (ys ++ [y])))) (hd : ∀ ys H, Pv xs.length ys H → QD H) :
    ∃ W : Nat → Nat → Hp → Prop, (∃ m, W 0 m (upd H D (.lst []))) ∧ ∀ i m H2, W i m H2 →
      ((Itt K a).stop i H2 ∧ QD H2) ∨ ((Itt K a).go i H2 ∧ ∃ N : VK, (∀ y H5, N y H5 → ∃ xs, H5 D = some (.lst xs) ∧ xs.length < sizeLine ∧ ∃ m', m' < m ∧ W (i + 1) m' (upd H5 D (.lst (xs ++ [y])))) ∧
        ∀ x H3, (Itt K a).yld i H2 x H3 → g x σ₀ H3 fun σ4 H4 => StKeep σ₀ σ4 ∧ te σ4 H4 N) := comp_tup (Q := fun _ H => QD H) Pv h0 hl hs hd
end
/-! ### isinstance of an own class -/
end L2

/-! MY RULES: dict(d), for k in d, == and != of two dicts that hold the same, a comprehension with a test. -/
set_option linter.all false
namespace L2
open PySem PySem.Spec PyProof.Rows
section
variable {X : Cx}
/-! ### frozen while it is walked -/
theorem is_kV {P : Program} {w : World} {k : Key} {u : Value} (h : (mixKind P w).is k u = true) : RelV (kV k) u := by
  rcases keyIs_shape (show keyIs k u = true from h) with ⟨i, t, rfl, rfl⟩ | ⟨x, t, rfl, rfl⟩
  · exact ⟨t, rfl⟩
  · exact ⟨t, rfl⟩
theorem KV.at {kvs : List (Key × V)} {vs : List (Key × Value)} : KV kvs vs → ∀ {i : Nat} {k : Key} {v : V}, kvs[i]? = some (k, v) → ∃ u, vs[i]? = some (k, u) ∧ RelV v u := by
  intro r
  unfold KV at r
  induction r with
  | nil => intro i k v e; simp at e
  | @cons p q ps qs h t ih =>
    intro i k v e
    cases i with
    | zero =>
      simp at e
      subst e
      obtain ⟨h1, h2⟩ := h
      obtain ⟨q1, q2⟩ := q
      cases h1
      exact ⟨q2, rfl, h2⟩
    | succ j =>
      obtain ⟨u, e1, e2⟩ := ih (i := j) (by simpa using e)
      exact ⟨u, by simpa using e1, e2⟩
end
theorem same_thaw {H H2 : Hp} {a : Addr} {o : Obj} {u : HO} (ha : H a = some u) (s : Same (upd H a (.frz o u)) H2) : Same H (upd H2 a u) := fun b v e => by
  by_cases hb : b = a
  · subst hb
    rw [ha] at e
    cases e
    exact upd_same
  · rw [upd_ne hb]
    exact s b v (by rw [upd_ne hb]; exact e)
/-! ### two dicts that hold the same -/
theorem find_nodup : ∀ {l : List (Key × Value)} {p : Key × Value}, (l.map (·.1)).Nodup → p ∈ l → PySem.valueAt l p.1 = some p.2
  | [], _, _, h => by cases h
  | q :: r, p, hn, h => by
    have hn : (q.1 :: r.map (·.1)).Nodup := hn
    obtain ⟨n1, n2⟩ := List.nodup_cons.mp hn
    rcases List.mem_cons.mp h with rfl | h
    · simp [PySem.valueAt]
    · have hne : ¬ q.1 = p.1 := fun e => n1 (e ▸ List.mem_map_of_mem h)
      have := find_nodup n2 h
      simpa [PySem.valueAt, List.find?_cons, hne] using this
section
variable {X : Cx}
end
end L2

/-! MY RULES: a list comprehension with one test. -/
set_option linter.all false
namespace L2
open PySem PySem.Spec PyProof.Rows
section
variable {X : Cx}
end
section
variable {K : PySem.W.Frag} {a D : Addr} {xs : List V} {g : TG} {tc : TT} {te : TE} {QD : Hp → Prop} {σ₀ : St} {H : Hp}
end
end L2

/-! MY RULES: for k, v in d.items() with d of either kind of keys, d.setdefault, for c in text. -/
set_option linter.all false
set_option maxRecDepth 100000
namespace L2
open PySem PySem.Spec PyProof.Rows
section
variable {prog : Program} {w : World} {A : Around} {E : Value → Shared → Prop} {s : Shared}
theorem items_iter {v d : Addr} {od : Obj} {es : Array DictEntry} {ep : Nat} {Q : Value → Shared → Prop} (h1 : s.heap.IsItemsView v d) (h2 : s.heap.get? d = some od) (h3 : od.data = .dict es ep)
    (q : Q (.ref s.heap.objs.size) { s with heap := s.heap.push { cls := .type "dict_itemiterator", data := .fields #[.none, .bool false, .ref d, .int 0 0, .int es.size 0, .int ep 0, .none, .none] } }) :
    wpAny (model prog w) A (pyIter (.ref v)) Q E s := by
  obtain ⟨ov, g1, g2, g3⟩ := id h1
  refine wpAny_pyIter_slot h1.typeIs F.slot_dict_items_iter (wpAny_call_entry F.slot_dict_items_iter h1.typeIs F.entry_dict_items_iter ?_ (F.args_dict_items_iter_1 _)); unfold Builtin.«dict_items.__iter__»
  refine wpAny_bind (wpAny_pure (wpAny_bind ?_)); unfold Builtin.Dict_items.dictOf
  refine wpAny_bind (wpAny_field g1 g3 (x := .ref d) rfl (wpAny_pure (wpAny_bind ?_))); unfold Builtin.Dict_items.newIterator
  refine wpAny_bind (wpAny_dictEntries h2 h3 (wpAny_bind (wpAny_dictEpoch h2 h3 ?_)))
  simp only [show Builtin.Dict_items.ownsTuple "dict_itemiterator" = true by decide, if_true]
  refine wpAny_newObj_type (wpAny_pure ⟨_, rfl, "dict_itemiterator", _, ⟨_, Heap.get?_push_size _ rfl, rfl⟩, F.slot_dict_itemiterator_next.lookup, ?_⟩) (by
    simp only [sizeOk, Builtin.Dict_items.ownedTupleFields, List.size_toArray, List.length_append, List.length_cons, List.length_nil, sizeLine_eq]
    omega)
  simpa [rawInt, Builtin.Dict_items.ownedTupleFields] using q
theorem items_next {it d : Addr} {i n ep : Nat} {od : Obj} {es : Array DictEntry} {e : DictEntry} {x y : Value} {Q : Option Value → Shared → Prop}
    (h1 : IsItemIter s.heap it d i n ep x y) (h2 : s.heap.get? d = some od) (h3 : od.data = .dict es ep) (h4 : es.size = n) (h5 : es[i]? = some e)
    (q : ∀ h', IsItemIterOut h' it d (i + 1) n ep e.key e.val s.heap.objs.size → h'.get? s.heap.objs.size = some { cls := .type "tuple", data := .seq #[e.key, e.val] } →
      (∀ c u, c ≠ it → s.heap.get? c = some u → h'.get? c = some u) → Q (some (.ref s.heap.objs.size)) { s with heap := h' }) :
    wpAny (model prog w) A (pyNext (.ref it)) Q E s := by
  obtain ⟨hp, g, dr, tk, os⟩ := s
  have ty : Shared.TypeIs ⟨hp, g, dr, tk, os⟩ (.ref it) "dict_itemiterator" := ⟨_, h1, rfl⟩
  unfold pyNext
  refine wpAny_bind (wpAny_attempt (wpAny_callSpecial?_slot (name := Str.ofString "__next__") ty F.slot_dict_itemiterator_next (wpAny_call_entry F.slot_dict_itemiterator_next ty F.entry_dict_itemiterator_next ?_ (F.args_dict_itemiterator_next_1 _))))
  refine wpAny_bind (wpAny_pure (wpAny_bind (wpAny_bind ?_)))
  refine wpAny_bind (wpAny_typeNameOfWhole_itemiter ty (wpAny_pure (wpAny_bind (wpAny_fieldsOf h1 rfl ?_))))
  simp only [show Builtin.Dict_items.ownsTuple "dict_itemiterator" = true by decide, if_true]
  show wpAny _ _ (ite ((Value.ref d == Value.none) = true) _ _) _ _ _; rw [if_neg (show ¬ ((Value.ref d == Value.none) = true) from Bool.false_ne_true)]
  refine wpAny_bind (wpAny_pure (wpAny_bind (wpAny_dictEntries h2 h3 ?_)))
  rw [if_neg (by rw [h4]; simp)]
  refine wpAny_bind (wpAny_pure (wpAny_bind (wpAny_dictEpoch h2 h3 ?_)))
  rw [if_neg (by simp)]
  obtain ⟨lt, ee⟩ := Array.getElem?_eq_some_iff.mp h5
  refine wpAny_pure ?_
  simp only [show ¬ ((i : Int) < 0) from by omega, if_false, Int.toNat_natCast, h5]
  refine wpAny_bind (wpAny_bind (wpAny_typeNameOfWhole_itemiter ty (wpAny_pure (wpAny_bind (wpAny_isOneOf_itemiter ty ?_)))))
  show wpAny _ _ (setField (.ref it) 3 (rawInt ((i : Int) + 1)) >>= _) _ _ (⟨hp, g, dr, tk, os⟩ : Shared)
  refine wpAny_bind (wpAny_setField_rec h1 (by simp) fun k1 e1 s1 => ?_)
  replace s1 : Heap.SameBut it hp k1 := s1
  replace e1 : IsItemIter k1 it d (i + 1) n ep x y := by
    have z : ((i + 1 : Nat) : Int) = (i : Int) + 1 := by omega
    unfold IsItemIter
    rw [z]
    simpa [rawInt] using e1
  have ty1 : Shared.TypeIs ⟨k1, g, dr, tk, os⟩ (.ref it) "dict_itemiterator" := ⟨_, e1, rfl⟩
  refine wpAny_bind (wpAny_holding (wpAny_bind (wpAny_isOneOf_itemiter ty1 (wpAny_bind (wpAny_isOneOf_itemiter ty1 ?_)))))
  show wpAny _ _ (Builtin.Dict_items.pairFromOwner (.ref it) 6 e.key e.val) _ _ (⟨k1, g, dr, tk, os⟩ : Shared)
  unfold Builtin.Dict_items.pairFromOwner; refine wpAny_bind (wpAny_newTuple ?_)
  have z1 : k1.objs.size = hp.objs.size := s1.1
  have li : it < hp.objs.size := Heap.lt_size h1
  have e2 : IsItemIter (k1.push { cls := .type "tuple", data := .seq #[e.key, e.val] }) it d (i + 1) n ep x y := Heap.get?_push_of_some _ e1
  have t2 : (k1.push { cls := .type "tuple", data := .seq #[e.key, e.val] }).get? hp.objs.size = some { cls := .type "tuple", data := .seq #[e.key, e.val] } := by rw [← z1]; exact Heap.get?_push_size _ rfl
  have m2 : ∀ b o, b ≠ it → hp.get? b = some o → (k1.push { cls := .type "tuple", data := .seq #[e.key, e.val] }).get? b = some o := fun b o hb z => Heap.get?_push_of_some _ (s1.extBut b o hb z)
  generalize k1.push { cls := .type "tuple", data := .seq #[e.key, e.val] } = k2 at e2 t2 m2
  show wpAny _ _ (Builtin.Dict_items.ownedTupleIsFree (.ref it) >>= _) _ _ (⟨k2, g, dr, tk, os⟩ : Shared)
  rw [z1]
  clear e1 s1 ty1 z1 k1
  refine wpAny_bind ?_; unfold Builtin.Dict_items.ownedTupleIsFree
  refine wpAny_bind (wpAny_field e2 rfl (x := .none) rfl (wpAny_pure ?_))
  simp only [if_true]
  refine wpAny_bind (wpAny_field e2 rfl (x := x) rfl (wpAny_bind (wpAny_field e2 rfl (x := y) rfl (wpAny_bind (wpAny_setField_rec e2 (by simp) fun k3 e3 s3 => ?_)))))
  replace s3 : Heap.SameBut it k2 k3 := s3
  replace e3 : IsItemIter k3 it d (i + 1) n ep e.key y := e3
  refine wpAny_bind (wpAny_setField_rec e3 (by simp) fun k4 e4 s4 => ?_)
  replace s4 : Heap.SameBut it k3 k4 := s4
  replace e4 : IsItemIter k4 it d (i + 1) n ep e.key e.val := e4
  refine wpAny_bind (wpAny_setField_rec e4 (by simp) fun k5 e5 s5 => ?_)
  replace s5 : Heap.SameBut it k4 k5 := s5
  replace e5 : IsItemIterOut k5 it d (i + 1) n ep e.key e.val hp.objs.size := e5
  refine wpAny_bind (wpAny_setField_rec e5 (by simp) fun k6 e6 s6 => ?_)
  replace s6 : Heap.SameBut it k5 k6 := s6
  replace e6 : IsItemIterOut k6 it d (i + 1) n ep e.key e.val hp.objs.size := e6
  have all : ∀ b o, b ≠ it → k2.get? b = some o → k6.get? b = some o := fun b o hb z => s6.extBut b o hb (s5.extBut b o hb (s4.extBut b o hb (s3.extBut b o hb z)))
  exact wpAny_bind (wpAny_letGo (wpAny_pure (wpAny_pure ⟨_, rfl, wpAny_pure (q k6 e6 (all _ _ (Nat.ne_of_gt li) t2) fun b o hb z => all b o hb (m2 b o hb z))⟩)))
theorem items_end {it d : Addr} {i n ep : Nat} {od : Obj} {es : Array DictEntry} {x y : Value} {Q : Option Value → Shared → Prop} (hh : A.handled = none)
    (h1 : IsItemIter s.heap it d i n ep x y) (h2 : s.heap.get? d = some od) (h3 : od.data = .dict es ep) (h4 : es.size = n) (h5 : n ≤ i)
    (q : ∀ h', Heap.ExtBut it s.heap h' → Q none { s with heap := h' }) : wpAny (model prog w) A (pyNext (.ref it)) Q E s := by
  have ty : s.TypeIs (.ref it) "dict_itemiterator" := ⟨_, h1, rfl⟩
  unfold pyNext
  refine wpAny_bind (wpAny_attempt (wpAny_callSpecial?_slot (name := Str.ofString "__next__") ty F.slot_dict_itemiterator_next (wpAny_call_entry F.slot_dict_itemiterator_next ty F.entry_dict_itemiterator_next ?_ (F.args_dict_itemiterator_next_1 _))))
  refine wpAny_bind (wpAny_pure (wpAny_bind (wpAny_bind ?_)))
  refine wpAny_bind (wpAny_typeNameOfWhole_itemiter ty (wpAny_pure (wpAny_bind (wpAny_fieldsOf h1 rfl ?_))))
  simp only [show Builtin.Dict_items.ownsTuple "dict_itemiterator" = true by decide, if_true]
  show wpAny _ _ (ite ((Value.ref d == Value.none) = true) _ _) _ _ _; rw [if_neg (show ¬ ((Value.ref d == Value.none) = true) from Bool.false_ne_true)]
  refine wpAny_bind (wpAny_pure (wpAny_bind (wpAny_dictEntries h2 h3 ?_)))
  rw [if_neg (by rw [h4]; simp)]
  refine wpAny_bind (wpAny_pure (wpAny_bind (wpAny_dictEpoch h2 h3 ?_)))
  rw [if_neg (by simp)]
  refine wpAny_pure ?_
  simp only [show ¬ ((i : Int) < 0) from by omega, if_false, Int.toNat_natCast, Array.getElem?_eq_none (show es.size ≤ i by omega)]
  refine wpAny_bind (wpAny_bind (wpAny_typeNameOfWhole_itemiter ty (wpAny_pure ?_)))
  show wpAny _ _ (setField (.ref it) 2 .none >>= _) _ _ _
  refine wpAny_bind (wpAny_setField h1 rfl (by simp) ?_)
  show wpAny _ _ (newExc (.type "StopIteration") [] >>= _) _ _ (_ : Shared)
  refine wpAny_bind ?_
  simp only [newExc, newTuple]
  refine wpAny_bind (wpAny_newObj_type (wpAny_bind (m := firstArgMember _ _) (wpAny_of_eq (a := Value.none) (by first | rfl | (simp only [firstArgMember]; rfl)) (wpAny_newObj_type ?_ (by size_fits)))) (by size_fits))
  simp only [raiseNew]
  refine wpAny_bind (wpAny_handled ?_)
  rw [show A.in1.handled = none from hh]
  refine wpAny_bind (wpAny_pure (wpAny_throw ?_))
  refine wpAny_bind (wpAny_isInstance (T := "StopIteration") (b := true) ⟨_, Heap.get?_push_size _ rfl, rfl⟩ isSubtype_stop (wpAny_pure ?_))
  exact q _ (((Heap.SameBut.update ..).extBut.push _).push _)
theorem entry_iiter : entryFor table "dict_itemiterator.__iter__" = some Builtin.«dict_keyiterator.__iter__» := entryFor_alias (id' := "dict_keyiterator.__iter__") (by kernel_rfl) rfl (by decide +kernel) (by kernel_rfl)
theorem items_self {it d : Addr} {i n ep : Nat} {x y : Value} {Q : Value → Shared → Prop} (st : IsItemIter s.heap it d i n ep x y) (h : Q (.ref it) s) : wpAny (model prog w) A (pyIter (.ref it)) Q E s := by
  have ty : s.TypeIs (.ref it) "dict_itemiterator" := ⟨_, st, rfl⟩
  refine wpAny_pyIter_slot ty F.slot_dict_itemiterator_iter (wpAny_call_entry F.slot_dict_itemiterator_iter ty entry_iiter ?_ (F.args_dict_itemiterator_iter_1 _)); show wpAny _ _ (ret (.ref it)) _ _ s
  exact wpAny_pure ⟨_, rfl, "dict_itemiterator", _, ty, F.slot_dict_itemiterator_next.lookup, h⟩
/-- d.items(), the dict known by its type alone -/
theorem items_view (d : Addr) (hd : (d == sysModules) = false) :
    MeetsIn prog w (Builtin.«dict.items» ⟨[.ref d], []⟩) (fun _ R s => s.TypeIs (.ref d) "dict" ∧ R (.ok (.ret (.ref s.heap.objs.size))) { s with heap := s.heap.push { cls := .type "dict_items", data := .fields #[.ref d] } }) :=
  .of_wp fun A R s ⟨ty, q⟩ => by
    unfold Builtin.«dict.items»; refine wpAny_bind ?_; unfold Builtin.Dict.noArgs
    refine wpAny_bind (wpAny_notOrdered_dict ty ?_); show wpAny _ _ (pure d) _ _ s
    refine wpAny_pure ?_; show wpAny _ _ (Builtin.Dict.showsAll d >>= _) _ _ s
    unfold Builtin.Dict.showsAll; rw [if_neg (by rw [hd]; exact Bool.false_ne_true)]
    exact wpAny_bind (wpAny_pure (wpAny_bind (wpAny_newObj_type (wpAny_pure ⟨_, rfl, q⟩))))
end
section
variable {X : Cx}
/-- a dict of either kind of keys -/
def isD (u : HO) : Prop := (∃ kvs, u = .dK kvs) ∨ ∃ kvs, u = .dT kvs
/-- the view that d.items() gives -/
def viewO (v d : Addr) : HO := .ext fun h => h.IsItemsView v d
theorem viewO_ok {P : Program} {w : World} {H : Hp} {h : Heap} {v d : Addr} (e : h.IsItemsView v d) : ObjOk P w H h v (viewO v d) :=
  ⟨e, let ⟨o, e1, _⟩ := e; ⟨o, e1⟩, fun h1 h2 ⟨o, e1, e2⟩ k => ⟨o, k o e1, e2⟩⟩
theorem isD_obj {P : Program} {w : World} {H : Hp} {h : Heap} {a : Addr} {u : HO} (hu : isD u) (x : ObjOk P w H h a u) : (a == sysModules) = false ∧ ∃ o es ep, h.get? a = some o ∧ o.ExactDict ∧ o.data = .dict es ep := by
  rcases hu with ⟨kvs, rfl⟩ | ⟨kvs, rfl⟩
  · obtain ⟨hz, hs, vs, rel, o, es, ep, ho, hx, hd, r⟩ := x
    exact ⟨hs, o, es, ep, ho, hx, hd⟩
  · obtain ⟨hz, hs, vs, rel, o, es, ep, ho, hx, hd, r⟩ := x
    exact ⟨hs, o, es, ep, ho, hx, hd⟩
def rItems : V → List V → Hp → VK → Prop := fun x vs H Q => ∃ a u, x = .ref a ∧ vs = [] ∧ H a = some u ∧ isD u ∧ ∀ p, H p = none → Q (.ref p) (upd H p (viewO p a))
theorem mt_items : MtR X "dict.items" rItems := by
  intro pins s σ H x xs v us Q I rx rv h
  obtain ⟨a, u, rfl, rfl, ha, hu, q⟩ := h
  cases rx
  cases rv
  obtain ⟨hs, o, es, ep, ho, hx, hd⟩ := isD_obj hu (I.hok a u ha)
  have ty : s.TypeIs (.ref a) "dict" := ⟨o, ho, hx.1⟩
  refine call_meetsIn PySem.F.slot_dict_items ty PySem.F.entry_dict_items (PySem.F.args_dict_items_1 _) (items_view a hs) ⟨ty, ?_⟩
  exact ⟨.ref s.heap.objs.size, _, I.laid (t' := s.toks) (o := viewO s.heap.objs.size a) (fun b u e => Heap.get?_push_of_some _ e) (Nat.le_refl _) (viewO_ok ⟨_, Heap.get?_push_size _ rfl, rfl, rfl⟩), rfl, q _ (I.hok.fresh (Nat.le_refl _))⟩
/-! ### frozen and thawed, either kind -/
theorem Inv.frozenD {pins : List (Addr × Obj)} {σ : St} {H : Hp} {s : Shared} {a : Addr} {o : Obj} {u : HO} (I : Inv X pins σ H s) (ha : H a = some u) (hu : isD u) (ho : s.heap.get? a = some o) : Inv X pins σ (upd H a (.frz o u)) s := by
  have nt : ∀ b xs, H b = some (.tup xs) → upd H a (.frz o u) b = some (.tup xs) := fun b xs q => by
    rw [upd_ne (ne_of q ha (by rcases hu with ⟨_, rfl⟩ | ⟨_, rfl⟩ <;> intro z <;> cases z))]; exact q
  have no : ∀ b, H b = some (.own a) → upd H a (.frz o u) b = some (.own a) := fun b q => by
    rw [upd_ne (ne_of q ha (by rcases hu with ⟨_, rfl⟩ | ⟨_, rfl⟩ <;> intro z <;> cases z))]; exact q
  have new : ObjOk X.prog X.w (upd H a (.frz o u)) s.heap a (.frz o u) := ⟨ho, (I.hok a u ha).stay (fun _ _ _ q => q) no nt⟩
  exact I.write (t' := s.toks) (h' := s.heap) (e := a) (by rw [ha]; rcases hu with ⟨_, rfl⟩ | ⟨_, rfl⟩ <;> trivial) (.inl rfl) (fun _ _ _ e => e) ⟨o, ho⟩ new
theorem Inv.thawD {pins : List (Addr × Obj)} {σ : St} {H : Hp} {s : Shared} {a : Addr} {o : Obj} {u : HO} (I : Inv X pins σ H s) (ha : H a = some (.frz o u)) (hu : isD u) (h0 : ∀ o' u', X.H₀ a ≠ some (.frz o' u')) : Inv X pins σ (upd H a u) s := by
  have nf : ∀ b, H b = none → upd H a u b = none := fun b e => by rw [upd_ne (fun z => by subst z; rw [ha] at e; cases e)]; exact e
  have nt : ∀ b xs, H b = some (.tup xs) → upd H a u b = some (.tup xs) := fun b xs q => by rw [upd_ne (ne_of q ha (by intro z; cases z))]; exact q
  have no : ∀ b c, H b = some (.own c) → upd H a u b = some (.own c) := fun b c q => by rw [upd_ne (ne_of q ha (by intro z; cases z))]; exact q
  refine ⟨I.ok, I.os, I.bare, ⟨I.base.keep, I.base.slot, fun b ob e n hx => nf b (I.base.free b ob e n hx), I.base.there, fun b xs e => nt b xs (I.base.tups b xs e), fun b ob u' e => ?_, fun b ps e => ?_⟩, I.loc, I.cell, nf _ I.free, fun x c e => nf _ (I.freeC x c e),
    fun p hp => ⟨(I.pin p hp).1, nf _ (I.pin p hp).2.1, (I.pin p hp).2.2⟩, fun b v e => ?_, I.len⟩
  · have q := I.base.frzs b ob u' e
    rw [upd_ne (fun z => by subst z; exact h0 _ _ e)]; exact q
  · obtain ⟨more, q⟩ := I.base.tbls b ps e
    exact ⟨more, by rw [upd_ne (ne_of q ha (by intro z; cases z))]; exact q⟩
  · by_cases hb : b = a
    · subst hb
      rw [upd_same] at e
      cases e
      obtain ⟨_, q⟩ := (show ObjOk X.prog X.w H s.heap b (.frz o u) from I.hok b _ ha)
      exact q.stay (fun _ _ _ q => q) (fun c q => no c b q) fun c xs q => nt c xs q
    · rw [upd_ne hb] at e
      exact (I.hok b v e).stay (fun _ _ _ q => q) (fun c q => no c b q) fun c xs q => nt c xs q
def tThawD (X : Cx) (t : TS) : TS := fun D σ H => ∃ a o u, H a = some (.frz o u) ∧ isD u ∧ (∀ o' u', X.H₀ a ≠ some (.frz o' u')) ∧ t D σ (upd H a u)
theorem pss_thawD {sts : List Stmt} {t : TS} (h : PSs X sts t) : PSs X sts (tThawD X t) := by
  intro pins s σ H D I hw
  obtain ⟨a, o, u, ha, hu, h0, q⟩ := hw
  exact h pins s σ _ D (I.thawD ha hu h0) q
/-! ### for k, v in d.items() -/
/-- what the entries give, in order: key and value -/
abbrev Ents (es : Array DictEntry) (L : List (V × V)) : Prop := Paired (fun (e : DictEntry) (p : V × V) => RelV p.1 e.key ∧ RelV p.2 e.val) es.toList L
def Iti (a : Addr) (o : Obj) (u : HO) (L : List (V × V)) : It :=
  ⟨fun i H => H a = some (.frz o u) ∧ i < L.length, fun i H x H' => ∃ k v p, L[i]? = some (k, v) ∧ H p = none ∧ x = .ref p ∧ H' = upd H p (.tup [k, v]), fun i H => H a = some (.frz o u) ∧ i = L.length⟩
theorem paired_len {α β : Type} {F : α → β → Prop} : ∀ {l : List α} {m : List β}, Paired F l m → l.length = m.length
  | _, _, .nil => rfl
  | _, _, .cons _ t => by simp [paired_len t]
theorem paired_at {α β : Type} {F : α → β → Prop} : ∀ {l : List α} {m : List β}, Paired F l m → ∀ {i : Nat} {y : β}, m[i]? = some y → ∃ x, l[i]? = some x ∧ F x y
  | _, _, .nil, i, y, e => by simp at e
  | _, _, .cons r t, 0, y, e => by simp at e; subst e; exact ⟨_, rfl, r⟩
  | _, _, .cons r t, i + 1, y, e => by
    obtain ⟨x, e1, e2⟩ := paired_at t (i := i) (by simpa using e)
    exact ⟨x, by simpa using e1, e2⟩
theorem turn_items {P : Program} {w : World} {K : PySem.W.Frag} {elts : List Expr} {kk : Nat} {pos : Pos} (it a : Addr) (o : Obj) (u : HO) (L : List (V × V)) (es : Array DictEntry) (ep : Nat) (ho : o.data = .dict es ep) (rl : Ents es L) :
    Turn P w K (.Tuple elts kk pos) (Iti a o u L) [it] it (fun i h => ∃ x y, IsItemIter h it a i es.size ep x y) where
  mem := by simp
  obj := fun i h st b hb => by
    have e : b = it := by simpa using hb
    subst e
    obtain ⟨x, y, e⟩ := st
    exact ⟨_, e, fun v z => by cases (show Data.fields _ = Data.cell v from z)⟩
  keep := fun i h h' st k => let ⟨x, y, e⟩ := st; ⟨x, y, k it (by simp) _ e⟩
  item := by
    intro X hP hw hK hc i pins s σ H E I hf st hg
    subst hP hw hK
    obtain ⟨ha, hi⟩ := hg
    obtain ⟨x, y, st⟩ := st
    have hl : es.size = L.length := by have := paired_len rl; simpa using this
    obtain ⟨⟨k, v⟩, hkv⟩ : ∃ p, L[i]? = some p := ⟨L[i], by simp [hi]⟩
    obtain ⟨e, he, r1, r2⟩ := paired_at rl hkv
    obtain ⟨hob, _⟩ := (show ObjOk X.prog X.w H s.heap a (.frz o u) from I.hok a _ ha)
    refine items_next st hob ho rfl (e := e) (by simpa using he) fun h' z1 z2 kp => ?_
    refine ⟨_, rfl, wpAny_letOwnedTupleGo_items (s := { s with heap := h' }) z1 fun g zg sb => ?_⟩
    have nz : s.heap.objs.size ≠ it := Nat.ne_of_gt (Heap.lt_size st)
    have I1 : Inv X pins σ (upd H s.heap.objs.size (.tup [k, v])) { s with heap := g, toks := s.toks } := I.turnedNew (ts := [it]) (fun c o hc e => by
      have hc' : c ≠ it := by simpa using hc
      exact sb.extBut _ _ hc' (kp c o hc' e)) hf (Nat.le_refl _) ⟨by show 2 ≤ sizeLine; decide, [e.key, e.val], .cons r1 (.cons r2 .nil), ⟨_, sb.extBut _ _ nz z2, rfl, _, rfl⟩⟩
    refine ⟨.ref s.heap.objs.size, _, I1, rfl, ⟨k, v, _, hkv, I.hok.fresh (Nat.le_refl _), rfl, rfl⟩, ⟨_, _, zg⟩, fun c hc => ?_⟩
    have hcn : c = it := by simpa using hc
    subst hcn
    rw [upd_ne nz.symm]
    exact (hf c hc).1
  done := by
    intro X hP hw hK hc i pins s σ H E I hf st hg
    subst hP hw hK
    obtain ⟨ha, hi⟩ := hg
    obtain ⟨x, y, st⟩ := st
    have hl : es.size = L.length := by have := paired_len rl; simpa using this
    obtain ⟨hob, _⟩ := (show ObjOk X.prog X.w H s.heap a (.frz o u) from I.hok a _ ha)
    obtain ⟨f0, f1, f2, f3, f4, f5⟩ := hf it (by simp)
    exact items_end (I.ok.hd hc) st hob ho rfl (by omega) fun h' eb => ⟨rfl, I.turned (t' := s.toks) (fun b ob hb e => eb b ob hb e) f0 f1 f3 f4 f5⟩
  self := fun _ _ s _ _ st h => by
    obtain ⟨x, y, st⟩ := st
    exact items_self st h
end
end L2

/-! MY RULES: for k, v in d.items() (the loop), d.setdefault(k, v), for c in text. -/
set_option linter.all false
namespace L2
open PySem PySem.Spec PyProof.Rows
section
/-- the keys of a dict of tuples as the walk hands them out, with their values -/
abbrev KL (H : Hp) (kvs : List (List Key × V)) (L : List (V × V)) : Prop := Paired (fun (p : List Key × V) (q : V × V) => ∃ b, q.1 = .ref b ∧ H b = some (.tup (p.1.map kV)) ∧ q.2 = p.2) kvs L
theorem paired_of {α β : Type} {F : α → β → Prop} : ∀ {l : List α} {m : List β}, l.length = m.length → (∀ (i : Nat) (x : α) (y : β), l[i]? = some x → m[i]? = some y → F x y) → Paired F l m
  | [], [], _, _ => .nil
  | [], _ :: _, e, _ => by simp at e
  | _ :: _, [], e, _ => by simp at e
  | x :: l, y :: m, e, h => .cons (h 0 x y rfl rfl) (paired_of (by simpa using e) fun i a b p q => h (i + 1) a b (by simpa using p) (by simpa using q))
theorem ents_k {P : Program} {w : World} {kvs : List (Key × V)} {vs : List (Key × Value)} {es : Array DictEntry} (r : KV kvs vs) (p : Pairs (mixKind P w) es.toList vs) : Ents es (kvs.map fun q => (kV q.1, q.2)) := by
  refine paired_of (by rw [p.length, List.length_map]; exact r.length.symm) fun i e y he hy => ?_
  rw [List.getElem?_map] at hy
  obtain ⟨⟨k, v⟩, hk, rfl⟩ := Option.map_eq_some_iff.mp hy
  obtain ⟨u, hu, ru⟩ := r.at hk
  obtain ⟨h1, h2⟩ := p.get? he hu
  subst h2
  exact ⟨is_kV h1, ru⟩
theorem ents_t {P : Program} {w : World} {H : Hp} : ∀ {kvs : List (List Key × V)} {xs : List (List Key × Addr × Value)}, KT H kvs xs →
    ∃ L, Paired (fun (e : DictEntry) (p : V × V) => RelV p.1 e.key ∧ RelV p.2 e.val) (xs.map (entryOfKey (tupleKind (mixKind P w)))) L ∧ KL H kvs L
  | _, _, .nil => ⟨[], .nil, .nil⟩
  | _, _, @Paired.cons _ _ _ p q _ _ h t => by
    obtain ⟨L, h1, h2⟩ := ents_t (P := P) (w := w) t
    exact ⟨(.ref q.2.1, p.2) :: L, .cons ⟨rfl, h.2.2⟩ h1, .cons ⟨q.2.1, rfl, h.2.1, rfl⟩ h2⟩
def iItems (tl : TE) : TI := fun σ H R => tl σ H fun x H1 => ∃ v a u, x = .ref v ∧ H1 v = some (viewO v a) ∧ H1 a = some u ∧
  ((∃ kvs, u = .dK kvs ∧ ∀ o, R (Iti a o u (kvs.map fun q => (kV q.1, q.2))) (upd H1 a (.frz o u))) ∨ ∃ kvs, u = .dT kvs ∧ ∀ o L, KL H1 kvs L → R (Iti a o u L) (upd H1 a (.frz o u)))
theorem pi_items {X : Cx} {l : Expr} {tl : TE} {elts : List Expr} {kk : Nat} {pos : Pos} (hl : PE X l tl) : PI X (.Tuple elts kk pos) l (iItems tl) := by
  intro pins s σ H R I h
  refine thn (hl pins s σ H _ I h) fun y s1 ⟨x, H1, I1, rx, v, a, u, ex, hv, ha, q⟩ => ?_
  subst ex
  cases rx
  obtain ⟨vw, _⟩ := (show ObjOk X.prog X.w H1 s1.heap v (viewO v a) from I1.hok v _ hv)
  have go : ∀ (o : Obj) (es : Array DictEntry) (ep : Nat) (L : List (V × V)), s1.heap.get? a = some o → o.data = .dict es ep → isD u → Ents es L → R (Iti a o u L) (upd H1 a (.frz o u)) →
      wpAny (model X.prog X.w) X.A (pyIter (.ref v)) (PIE X pins σ (.Tuple elts kk pos) R) X.xe s1 := by
    intro o es ep L ho hd hu rl qq
    refine items_iter vw ho hd ?_
    have I2 : Inv X pins σ H1 { s1 with heap := s1.heap.push { cls := .type "dict_itemiterator", data := .fields #[.none, .bool false, .ref a, .int 0 0, .int es.size 0, .int ep 0, .none, .none] }, toks := s1.toks } := I1.kept fun b ob e => Heap.get?_push_of_some _ e
    have I3 := I2.frozenD ha hu (Heap.get?_push_of_some _ ho)
    refine ⟨_, [s1.heap.objs.size], _, _, _, rfl, I3, turn_items _ a o u L es ep hd rl, ⟨.none, .none, Heap.get?_push_size _ rfl⟩, fun b hb => ?_, qq⟩
    have e : b = s1.heap.objs.size := by simpa using hb
    subst e
    refine I1.fpOk (Nat.le_refl _) ?_
    rw [upd_ne (Nat.ne_of_gt (I1.hok.lt ha))]
    exact I1.hok.fresh (Nat.le_refl _)
  rcases q with ⟨kvs, rfl, q⟩ | ⟨kvs, rfl, q⟩
  · obtain ⟨hz, hs, vs, rel, o, es, ep, ho, hx, hd, _, r, _⟩ := dk_of I1.hok ha
    exact go o es ep _ ho hd (.inl ⟨_, rfl⟩) (ents_k rel r) (q o)
  · obtain ⟨hz, hs, xs, rel, o, es, ep, ho, hx, hd, he, _⟩ := (show ObjOk X.prog X.w H1 s1.heap a (.dT kvs) from I1.hok a _ ha)
    obtain ⟨L, h1, h2⟩ := ents_t (P := X.prog) (w := X.w) rel
    exact go o es ep L ho hd (.inr ⟨_, rfl⟩) (by unfold Ents; rw [he]; exact h1) (q o L h2)
theorem for_items {a : Addr} {o : Obj} {u : HO} {L : List (V × V)} {g : TG} {tb : TS} {D : Ends} {σ : St} {H : Hp} (Pv : Nat → St → Hp → Prop) (h0 : Pv 0 σ H) (hl : ∀ i σ H, Pv i σ H → H a = some (.frz o u))
    (hs : ∀ i k v p σ H, L[i]? = some (k, v) → H p = none → Pv i σ H → g (.ref p) σ (upd H p (.tup [k, v])) fun σ2 H2 => tb { D with nx := Pv (i + 1), ct := Pv (i + 1), bk := D.nx } σ2 H2) (hd : ∀ σ H, Pv L.length σ H → D.nx σ H) :
    ∃ W : Nat → Nat → St → Hp → Prop, (∃ m, W 0 m σ H) ∧ ∀ i m σ H, W i m σ H →
      ((Iti a o u L).stop i H ∧ D.nx σ H) ∨ ((Iti a o u L).go i H ∧ ∃ N : St → Hp → Prop, (∀ σ' H', N σ' H' → ∃ m', m' < m ∧ W (i + 1) m' σ' H') ∧ ∀ x H', (Iti a o u L).yld i H x H' → g x σ H' fun σ2 H2 => tb { D with nx := N, ct := N, bk := D.nx } σ2 H2) := by
  refine ⟨fun i m σ H => m = L.length - i ∧ i ≤ L.length ∧ Pv i σ H, ⟨L.length, by simp, Nat.zero_le _, h0⟩, ?_⟩
  rintro i m σ H ⟨rfl, hi, p⟩
  by_cases hlt : i < L.length
  · refine .inr ⟨⟨hl i σ H p, hlt⟩, Pv (i + 1), fun σ' H' p' => ⟨L.length - (i + 1), by omega, rfl, hlt, p'⟩, fun x H' y => ?_⟩
    obtain ⟨k, v, q, e1, e2, rfl, rfl⟩ := y
    exact hs i k v q σ _ e1 e2 p
  · have e : i = L.length := by omega
    subst e
    exact .inl ⟨⟨hl _ σ H p, rfl⟩, hd σ H p⟩
/-! ### d.setdefault(k, v) -/
/-! ### for c in text -/
/-! ### a rule that may go either way -/
end
end L2

/-! MY RULES: a dict's keys stand apart; a copy laid key by key. -/
set_option linter.all false
namespace L2
open PySem PySem.Spec PyProof.Rows
section
variable {X : Cx}
def Apart (H : Hp) : Prop := (∀ a kvs, H a = some (.dK kvs) → (kvs.map (·.1)).Nodup) ∧ ∀ a kvs, H a = some (.dT kvs) → (kvs.map (·.1)).Nodup
theorem kv_keys {kvs : List (Key × V)} {vs : List (Key × Value)} (r : KV kvs vs) : kvs.map (·.1) = vs.map (·.1) := by
  unfold KV at r
  induction r with
  | nil => rfl
  | cons h t ih => rw [List.map_cons, List.map_cons, ih, h.1]
theorem kt_keys {H : Hp} {kvs : List (List Key × V)} {xs : List (List Key × Addr × Value)} (r : KT H kvs xs) : kvs.map (·.1) = xs.map (·.1) := by
  induction r with
  | nil => rfl
  | cons h t ih => rw [List.map_cons, List.map_cons, ih, h.1]
theorem Inv.apart {pins : List (Addr × Obj)} {σ : St} {H : Hp} {s : Shared} (I : Inv X pins σ H s) : Apart H := by
  refine ⟨fun a kvs e => ?_, fun a kvs e => ?_⟩
  · obtain ⟨_, _, vs, rel, o, es, ep, _, _, _, _, _, n⟩ := dk_of I.hok e
    rw [kv_keys rel]
    exact n
  · obtain ⟨_, _, xs, rel, o, es, ep, _, _, _, _, n⟩ := (show ObjOk X.prog X.w H s.heap a (.dT kvs) from I.hok a _ e)
    rw [kt_keys rel]
    exact n
theorem pss_know {sts : List Stmt} {t : TS} (h : PSs X sts t) : PSs X sts (fun D σ H => Apart H → t D σ H) := fun pins s σ H D I q => h pins s σ H D I (q I.apart)
theorem put_next {κ : Type} [DecidableEq κ] {kvs : List (κ × V)} {i : Nat} {k : κ} {v : V} (n : (kvs.map (·.1)).Nodup) (h : kvs[i]? = some (k, v)) (ws : List (κ × V)) (e : ws.map (·.1) = (kvs.take i).map (·.1)) (u : V) : putK ws k u = ws ++ [(k, u)] := by
  unfold putK
  rw [if_neg]
  intro a
  obtain ⟨p, hp, ek⟩ := List.any_eq_true.mp a
  have ek : p.1 = k := by simpa using ek
  have hm : k ∈ ws.map (·.1) := List.mem_map.mpr ⟨p, hp, ek⟩
  rw [e] at hm
  obtain ⟨q, hq, eq⟩ := List.mem_map.mp hm
  obtain ⟨j, hj, ej⟩ := List.mem_iff_getElem.mp hq
  have hji : j < i := by have := List.length_take_le i kvs; omega
  rw [List.getElem_take] at ej
  obtain ⟨hi, ei⟩ := List.getElem?_eq_some_iff.mp h
  have hjl : j < kvs.length := by omega
  have h1 : (kvs.map fun x => x.1)[j]? = some k := by rw [List.getElem?_map, List.getElem?_eq_getElem hjl, ej]; exact congrArg some eq
  have h2 : (kvs.map fun x => x.1)[i]? = some k := by rw [List.getElem?_map, h]; rfl
  obtain ⟨l1, e1⟩ := List.getElem?_eq_some_iff.mp h1
  obtain ⟨l2, e2⟩ := List.getElem?_eq_some_iff.mp h2
  have : j = i := (List.getElem_inj n).mp (e1.trans e2.symm)
  omega
end
end L2

/-! MY RULES: a comprehension that takes several names over, dict(list of pairs), == and != of dicts that hold the same data. -/
set_option linter.all false
set_option maxRecDepth 100000
namespace L2
open PySem PySem.Spec PyProof.Rows
theorem miss_keys : typeLookup (.type "list") "keys" = pure none := by rw [typeLookup_type, builtinLookup_eq_fast]; kernel_rfl
theorem entry_upd_loop : entryFor table "dict.update.loop" = some Builtin.«dict.update.loop» := entryFor_of_tree (by kernel_rfl)
theorem plain_upd_loop : plainId "dict.update.loop" = true := by decide +kernel
theorem keys_miss {prog : Program} {w : World} {A : Around} {E : Value → Shared → Prop} {s : Shared} {a : Addr} {o : Obj} {xs : Array Value} {k : Nat} {Q : Option Value → Shared → Prop}
    (hx : s.heap.get? a = some o) (hc : o.cls = .type "list") (hdat : o.data = .seq xs k) (hd : o.dict = none) (hA : A.handled = none)
    (h : ∀ h' tk, (∀ b ob, s.heap.get? b = some ob → h'.get? b = some ob) → Q none { s with heap := h', toks := tk }) : wpAny (model prog w) A (getAttr? (.ref a) "keys") Q E s := by
  obtain ⟨c, dct, dat, sl⟩ := o
  simp only at hc hdat hd
  subst hc hdat hd
  obtain ⟨hp, g, d, tk, os⟩ := s
  have hT : ∀ tk', (⟨hp, g, d, tk', os⟩ : Shared).TypeIs (.ref a) "list" := fun _ => ⟨_, hx, rfl⟩
  have f1 := sub_AttributeError
  have f3 := F.slot_list_getattribute.lookup
  have f4 := F.slot_list_getattribute.bind (.ref a)
  have f5 := am_list_getattr_none
  unfold getAttr? getAttrBy? getAttrBy
  repeat (any_goals (first | assumption | exact hT _ | ((with_reducible show wpAny _ _ (call (Value.builtin "list.__getattribute__") _ _) _ _ _); refine call_meets F.slot_list_getattribute (hT _) am_entry_list_getattribute (F.args_list_getattribute_2 _ _) (meets_getattribute_miss_list a xs k sl "keys" _ miss_keys (by decide) (by decide)) ⟨hx, hA, fun h' tk' e hx' => ?_⟩) | wp_step))
  obtain ⟨t', u', he⟩ := hx'.there
  show wpAny _ _ (getattributeRaised _ _ _ _ _ _ _) _ _ _
  unfold getattributeRaised
  repeat (any_goals (first | assumption | wp_step))
  all_goals exact h _ _ hx'.1
section
variable {prog : Program} {w : World} {K : Type} [DecidableEq K] {knd : KeyKind prog w K} {A : Around} {R : Result → Shared → Prop} {I l d : Addr} {items : Array Value} {rs : List (K × Value)} {h₀ : Heap} {g : Array GenState} {dr : Drawn} {os : OsState}
/-- the pairs that are walked -/
def PairsAt (knd : KeyKind prog w K) (h : Heap) (I d : Addr) (items : Array Value) (rs : List (K × Value)) : Prop := items.size = rs.length ∧ ∀ (i : Nat) (v : Value) (k : K) (u : Value), items[i]? = some v → rs[i]? = some (k, u) →
  ∃ (b : Addr) (o : Obj) (n : Nat) (kv : Value), v = .ref b ∧ b ≠ I ∧ b ≠ d ∧ h.get? b = some o ∧ o.cls = .type "tuple" ∧ o.data = .seq #[kv, u] n ∧ knd.is k kv = true
theorem upd_loop (hh : A.handled = none) (hne : l ≠ I) (hdI : d ≠ I) (hdl : d ≠ l) (hsz : rs.length ≤ sizeLine) (pa : PairsAt knd h₀ I d items rs) (hl : h₀.IsList l items)
    (fin : ∀ h' tk, h'.DictOf knd d (merged [] rs) → (∀ b o, b ≠ I → b ≠ d → h₀.get? b = some o → h'.get? b = some o) → R (.ok (.ret .none)) ⟨h', g, dr, tk, os⟩) :
    ∀ (k i : Nat) (h : Heap) (tk : Nat), rs.length - i = k → i ≤ rs.length → h.IsListIter I l i → (∀ b o, b ≠ I → b ≠ d → h₀.get? b = some o → h.get? b = some o) → h.DictOf knd d (merged [] (rs.take i)) →
      codeAny (model prog w) A (.builtin "dict.update.loop" ⟨[.ref d, .ref I, rawInt i, .none], []⟩) R ⟨h, g, dr, tk, os⟩ := by
  have W := Walks.list (prog := prog) (w := w) (A := A.in1) hh I l hne items
  intro k
  induction k with
  | zero =>
    intro i h tk hk hi hit kp hD
    have hin : i = items.size := by have := pa.1; omega
    have hin' : i = rs.length := by omega
    refine codeAny_builtin entry_upd_loop ?_
    rw [Around.under_plainId plain_upd_loop _]
    show wpAny _ A.in1 (pyNext (.ref I) >>= _) _ _ _
    refine wpAny_bind (W.done ⟨h, g, dr, tk, os⟩ _ _ (by rw [← hin]; exact ⟨hit, hl.at fun o e => kp l o hne (Ne.symm hdl) e⟩) fun h' tk' kp' => ?_)
    show wpAny _ A.in1 (Builtin.Dict.addKeywords d [] >>= fun _ => ret Value.none) _ _ _
    rw [hin', List.take_length] at hD
    obtain ⟨od, es, ep, ho, r⟩ := hD
    refine wpAny_bind (wpAny_pure (wpAny_pure (fin h' tk' ⟨od, es, ep, kp' d od (by simpa using hdI) ho, r⟩ fun b o h1 h2 e => kp' b o (by simpa using h1) (kp b o h1 h2 e))))
  | succ k ih =>
    intro i h tk hk hi hit kp hD
    have hlt : i < items.size := by have := pa.1; omega
    refine codeAny_builtin entry_upd_loop ?_
    rw [Around.under_plainId plain_upd_loop _]
    show wpAny _ A.in1 (pyNext (.ref I) >>= _) _ _ _
    refine wpAny_bind (W.item i ⟨h, g, dr, tk, os⟩ _ _ hlt ⟨hit, hl.at fun o e => kp l o hne (Ne.symm hdl) e⟩ fun v h' tk' hv hst' kp' => ?_)
    obtain ⟨⟨k', u⟩, hku⟩ : ∃ p, rs[i]? = some p := ⟨rs[i]'(by have := pa.1; omega), List.getElem?_eq_getElem _⟩
    obtain ⟨b, o, n, kv, rfl, hbI, hbd, hb, hcl, hdat, his⟩ := pa.2 i v k' u hv hku
    have hb' : h'.get? b = some o := kp' b o (by simpa using hbI) (kp b o hbI hbd hb)
    have hT : (⟨h', g, dr, tk', os⟩ : Shared).TypeIs (.ref b) "tuple" := ⟨_, hb', hcl⟩
    show wpAny _ A.in1 (holding [Value.ref b] _ >>= _) _ _ _
    refine wpAny_bind (wpAny_holding (wpAny_bind (wpAny_tryCatch ?_)))
    unfold Builtin.Dict.pairItems
    refine wpAny_bind (wpAny_typeOf hT ?_)
    rw [if_pos (by decide)]
    refine wpAny_bind (wpAny_seqItems hb' hdat (wpAny_pure ?_))
    show wpAny _ A.in1 (holding [kv, u] (dictSet d kv u)) _ _ _
    have hD' : h'.DictOf knd d (merged [] (rs.take i)) := by
      obtain ⟨od, es, ep, ho, r⟩ := hD
      exact ⟨od, es, ep, kp' d od (by simpa using hdI) ho, r⟩
    have hlen : (merged [] (rs.take i)).length ≤ sizeLine := by
      have e1 := merged_length_le ([] : List (K × Value)) (rs.take i)
      have e2 : (rs.take i).length ≤ rs.length := by rw [List.length_take]; omega
      simp only [List.length_nil, Nat.zero_add] at e1
      omega
    refine wpAny_holding (wpAny_dictSet_pairs (hsz := hlen) (s := ⟨h', g, dr, tk', os⟩) his hD' fun h2 hD2 sb => ?_)
    rw [← merged_take_succ [] rs i (k', u) hku] at hD2
    refine wpAny_pure ⟨plainId_quiet plain_upd_loop _, ih (i + 1) h2 _ (by omega) (by have := pa.1; omega) ?_ ?_ hD2⟩
    · exact hst'.1.at fun o e => (sb.2 I (Ne.symm hdI)).trans e
    · intro c oc h1 h2' e
      exact (sb.2 c h2').trans (kp' c oc (by simpa using h1) (kp c oc h1 h2' e))
end
end L2
namespace L2
open PySem PySem.Spec PyProof.Rows
/-! ### a comprehension that takes several names over -/
def CellsIn (env : Env) : List (Str × Addr) → Prop
  | [] => True
  | p :: r => env.cells.lookup p.1 = some p.2 ∧ CellsIn env r
theorem CellsIn.get {env : Env} : ∀ {cl : List (Str × Addr)}, CellsIn env cl → ∀ {x : Str} {c : Addr}, cl.lookup x = some c → env.cells.lookup x = some c
  | [], _, _, _, h => by cases h
  | (y, d) :: r, h, x, c, e => by
    rw [List.lookup_cons] at e
    split at e
    · rename_i hb
      have hb' : x = y := by simpa using hb
      cases e
      subst hb'
      exact h.1
    · exact CellsIn.get h.2 e
theorem lookup_of_mem {x : Str} : ∀ {cl : List (Str × Addr)}, x ∈ cl.map (·.1) → ∃ c, cl.lookup x = some c
  | [], h => by cases h
  | (y, d) :: r, h => by
    rw [List.lookup_cons]
    cases hb : (x == y) with
    | true => exact ⟨d, rfl⟩
    | false =>
      have hne : x ≠ y := by simpa using hb
      rcases List.mem_cons.mp h with e | e
      · exact absurd e hne
      · exact lookup_of_mem e
theorem clok_many {X : Cx} {scope : Scope} {cl : List (Str × Addr)} {xs : List Str} (he : closureFor scope X.env = pure cl) (hc : CellsIn X.env cl) (hx : cl.map (·.1) = xs) (hk : scope.kind = .function) (hn : ∀ y ∈ scope.names, y.2 ≠ .cell ∧ (y.2 = .free → y.1 ∈ xs))
    (hl : ∀ y ∈ scope.names, y.2 = .local → scope.names.lookup y.1 = some .local) : ClOk X scope cl where
  eq := he
  sub := fun y d h => hc.get h
  has := fun y h => by
    have key : y ∈ xs := by
      have m : ∃ k, (y, k) ∈ (relabel scope X.env).names ∧ (k = .cell ∨ k = .free) := h.elim (fun z => ⟨_, lookup_mem z, .inl rfl⟩) fun z => ⟨_, lookup_mem z, .inr rfl⟩
      obtain ⟨k, hm, hk⟩ := m
      obtain ⟨⟨n, k0⟩, h0, e⟩ := List.mem_map.mp hm
      dsimp only at e
      by_cases hf : k0 = .free
      · have en : n = y := by
          split at e
          · exact congrArg Prod.fst e
          · exact congrArg Prod.fst e
        rw [← en]
        exact (hn _ h0).2 hf
      · have hb : (k0 == NameKind.free) = false := by simpa using hf
        simp only [hb, Bool.false_and, Bool.false_eq_true, if_false] at e
        have e2 : k0 = k := congrArg Prod.snd e
        subst e2
        rcases hk with hk | hk
        · exact absurd hk (hn _ h0).1
        · exact absurd hk hf
    rw [← hx] at key
    exact lookup_of_mem key
  kind := hk
  ncell := fun y hy => (hn y hy).1
  names := hl
def FreeOk (X : Cx) (scope : Scope) : List Str → List Nat → Prop
  | [], [] => True
  | x :: xs, j :: js => (X.N[j]? = some x ∧ (X.env.scope.names.lookup x = some .cell ∨ X.env.scope.names.lookup x = some .free) ∧ ((relabel scope X.env).names.lookup x = some .cell ∨ (relabel scope X.env).names.lookup x = some .free)) ∧ FreeOk X scope xs js
  | _, _ => False
theorem FreeOk.get {X : Cx} {scope : Scope} : ∀ {xs : List Str} {js : List Nat}, FreeOk X scope xs js → xs.length = js.length ∧ ∀ (i j : Nat), js[i]? = some j → ∃ x, xs[i]? = some x ∧ X.N[j]? = some x ∧ (X.env.scope.names.lookup x = some .cell ∨ X.env.scope.names.lookup x = some .free) ∧ ((relabel scope X.env).names.lookup x = some .cell ∨ (relabel scope X.env).names.lookup x = some .free)
  | [], [], _ => ⟨rfl, fun i j e => by simp at e⟩
  | x :: xs, j :: js, h => by
    obtain ⟨e, f⟩ := FreeOk.get h.2
    refine ⟨by simp [e], fun i k ek => ?_⟩
    cases i with
    | zero => simp at ek; subst ek; exact ⟨x, rfl, h.1⟩
    | succ i => exact f i k (by simpa using ek)
  | [], _ :: _, h => h.elim
  | _ :: _, [], h => h.elim
theorem ixok_many {X : Cx} {N0 xs : List Str} {js : List Nat} {scope : Scope} (h : FreeOk X scope xs js) : IxOk X (N0 ++ xs) scope (List.replicate N0.length none ++ js.map some) := by
  obtain ⟨hl, hf⟩ := h.get
  refine ⟨by simp [hl], fun i k e => ?_⟩
  by_cases hi : i < N0.length
  · rw [List.getElem?_append_left (by simpa using hi), List.getElem?_replicate] at e
    split at e <;> cases e
  · rw [List.getElem?_append_right (by simpa using hi), List.length_replicate, List.getElem?_map] at e
    obtain ⟨j, ej, ek⟩ := Option.map_eq_some_iff.mp e
    cases ek
    obtain ⟨x, h1, h2, h3, h4⟩ := hf _ _ ej
    exact ⟨x, by rw [List.getElem?_append_right (by omega)]; exact h1, h2, h3, h4⟩
/-! ### dict(l), l a list of pairs -/
/-- the pairs that the list bears -/
abbrev PL (H : Hp) (xs : List V) (kvs : List (Key × V)) : Prop := Paired (fun (x : V) (p : Key × V) => ∃ b, x = .ref b ∧ H b = some (.tup [kV p.1, p.2])) xs kvs
section
variable {X : Cx}
theorem pl_raw {pins : List (Addr × Obj)} {σ : St} {H : Hp} {s : Shared} (I : Inv X pins σ H s) : ∀ {xs : List V} {kvs : List (Key × V)} {its : List Value}, PL H xs kvs → Vals xs its →
    ∃ rs, KV kvs rs ∧ Paired (fun (v : Value) (p : Key × Value) => ∃ (b : Addr) (o : Obj) (n : Nat) (kv : Value), v = .ref b ∧ s.heap.get? b = some o ∧ o.cls = .type "tuple" ∧ o.data = .seq #[kv, p.2] n ∧ (mixKind X.prog X.w).is p.1 kv = true) its rs
  | _, _, _, .nil, .nil => ⟨[], .nil, .nil⟩
  | _, _, _, @Paired.cons _ _ _ x p _ _ ⟨b, e, hb⟩ t, .cons rv vs => by
    obtain ⟨rs, h1, h2⟩ := pl_raw I t vs
    subst e
    cases rv
    obtain ⟨_, its, r, o, g1, g2, n, g3⟩ := (show ObjOk X.prog X.w H s.heap b (.tup [kV p.1, p.2]) from I.hok b _ hb)
    cases r with
    | cons r1 r =>
      cases r with
      | cons r2 r =>
        cases r
        exact ⟨(p.1, _) :: rs, .cons ⟨rfl, r2⟩ h1, .cons ⟨b, o, n, _, rfl, g1, g2, g3, kV_is r1⟩ h2⟩
theorem call_dictP (hc : X.calm = true) : CallR X (.type "dict") (fun vs H Q => ∃ a xs kvs, vs = [V.ref a] ∧ H a = some (.lst xs) ∧ PL H xs kvs ∧ ∀ p, H p = none → Q (.ref p) (upd H p (.dK (mergeK [] kvs)))) := by
  intro pins s σ H vs us Q I r h
  obtain ⟨a, xs, kvs, rfl, ha, pl, q⟩ := h
  obtain ⟨u, rfl, ru⟩ := vals1 r
  cases ru
  obtain ⟨z, its, n, rv, hl, e⟩ := I.lstM ha
  obtain ⟨rs, kv, rp⟩ := pl_raw I pl rv
  have hh : X.A.handled = none := I.ok.hd hc
  have lk : kvs.length = xs.length := (Paired.length pl).symm
  have lr : rs.length = kvs.length := kv.length.symm
  have hn := I.hok.fresh (Nat.le_refl s.heap.objs.size)
  refine callType_codes (Q₁ := fun obj s₁ => obj = .ref s.heap.objs.size ∧ s₁ = { s with heap := s.heap.push { cls := .type "dict", data := .dict #[] } }) F.kt_called_dict (F.kt_typeCall_dict_1 _) F.entry_dict_init (kt_code_dict_new _ ⟨rfl, rfl⟩) ?_
  rintro obj s₁ ⟨rfl, rfl⟩
  have hnew : (s.heap.push { cls := .type "dict", data := .dict #[] }).DictOf (mixKind X.prog X.w) s.heap.objs.size [] := Heap.DictOf.new s.heap
  have e1 : (s.heap.push { cls := .type "dict", data := .dict #[] }).get? a = some { cls := .type "list", data := .seq its.toArray n } := Heap.get?_push_of_some _ e
  have hTl : Shared.TypeIs { s with heap := s.heap.push { cls := .type "dict", data := .dict #[] } } (.ref a) "list" := ⟨_, e1, rfl⟩
  refine ⟨hnew.typeIs, F.args_dict_init_2 _ _, ?_⟩
  unfold Builtin.«dict.__init__»
  refine wpAny_bind ?_
  unfold Builtin.Dict.selfAndRest
  refine wpAny_bind (wpAny_notOrdered_dict hnew.typeIs ?_)
  show wpAny _ _ (pure (s.heap.objs.size, [Value.ref a])) _ _ _
  refine wpAny_pure ?_
  show wpAny _ _ (Builtin.Dict.updateFrom "dict.__init__" s.heap.objs.size (.ref a) [] .none) _ _ _
  unfold Builtin.Dict.updateFrom
  refine wpAny_bind (wpAny_typeOf hTl ?_)
  rw [if_pos (by decide)]
  refine wpAny_bind (keys_miss (o := { cls := .type "list", data := .seq its.toArray n }) e1 rfl rfl rfl (by simpa using hh) fun h1 tk1 kp1 => ?_)
  rw [if_pos (show (none : Option Value).isNone = true from rfl)]
  refine wpAny_bind (wpAny_rule ?_)
  have hl1 : h1.IsList a its.toArray := ⟨_, kp1 _ _ e1, rfl, n, rfl⟩
  refine wpAny_bind (wpAny_pyIter_list (s := { s with heap := h1, toks := tk1 }) hl1 ?_)
  have la : a < h1.objs.size := Heap.lt_size (kp1 _ _ e1)
  have ld : s.heap.objs.size < h1.objs.size := let ⟨_, _, _, g, _⟩ := hnew; Heap.lt_size (kp1 _ _ g)
  have las : a < s.heap.objs.size := Heap.lt_size e
  refine wpAny_pure ⟨plainId_quiet plain_upd_loop _, upd_loop (knd := mixKind X.prog X.w) (rs := rs) (l := a) (items := its.toArray) (h₀ := h1.push { cls := .type "list_iterator", data := .fields #[.ref a, .int 0 0] }) (by simpa using hh) (Nat.ne_of_lt la) (Nat.ne_of_lt ld) (Nat.ne_of_gt las) (by omega) ?_ (hl1.push _) ?_ rs.length 0 _ _ (by omega) (Nat.zero_le _) ⟨_, Heap.get?_push_size _ rfl, rfl, rfl⟩ (fun _ _ _ _ z => z) ?_⟩
  · refine ⟨by simp; omega, fun i v k u hv hku => ?_⟩
    obtain ⟨x, hx, b, o, m, kv, ev, g1, g2, g3, g4⟩ := paired_at rp hku
    have ex : x = v := by
      have hv : its[i]? = some v := by simpa using hv
      rw [hx] at hv
      exact Option.some.inj hv
    subst ex
    have lb := Heap.lt_size g1
    exact ⟨b, o, m, kv, ev, Nat.ne_of_lt (Nat.lt_trans lb ld), Nat.ne_of_lt lb, Heap.get?_push_of_some _ (kp1 _ _ (Heap.get?_push_of_some _ g1)), g2, g3, g4⟩
  · intro h' tk dd kp
    refine ⟨rfl, .ref s.heap.objs.size, _, I.laid (t' := tk) (o := .dK (mergeK [] kvs)) (fun b u eb => kp b u (Nat.ne_of_lt (Nat.lt_trans (Heap.lt_size eb) ld)) (Nat.ne_of_lt (Heap.lt_size eb)) (Heap.get?_push_of_some _ (kp1 _ _ (Heap.get?_push_of_some _ eb)))) (Nat.le_refl _) ⟨?_, ?_, _, KV.merge kv .nil, dd⟩, rfl, q _ hn⟩
    · have := length_mergeK kvs []
      simp only [List.length_nil] at this
      omega
    · have := I.big
      have hne : s.heap.objs.size ≠ sysModules := Nat.ne_of_gt this
      simpa using hne
  · obtain ⟨od, es, ep, g, r⟩ := hnew
    exact ⟨od, es, ep, Heap.get?_push_of_some _ (kp1 _ _ g), r⟩
/-! ### two dicts that hold the same data -/
def rSameR (neg : Bool) : R2 := fun x y H Q => ∃ a b kvs kvs', x = .ref a ∧ y = .ref b ∧ Rd H a (.dK kvs) ∧ Rd H b (.dK kvs') ∧ Paired (fun (p q : Key × V) => p.1 = q.1 ∧ ∃ d, Rep H p.2 d ∧ Rep H q.2 d ∧ d.canLay0 = true ∧ d.depth ≤ 60) kvs kvs' ∧ Q (.bl (!neg)) H
theorem hitsR {pins : List (Addr × Obj)} {σ : St} {H : Hp} {s : Shared} (I : Inv X pins σ H s) {A : Around} (hu : A.units + 64 < cLine) {kb : List (Key × Value)} (nb : (kb.map (·.1)).Nodup) : ∀ {kvs kvs' : List (Key × V)} {ka kb' : List (Key × Value)}, Paired (fun (p q : Key × V) => p.1 = q.1 ∧ ∃ d, Rep H p.2 d ∧ Rep H q.2 d ∧ d.canLay0 = true ∧ d.depth ≤ 60) kvs kvs' → KV kvs ka → KV kvs' kb' → (∀ p ∈ kb', p ∈ kb) →
    PySem.W.KeqHits A.in1 s kb ka true
  | _, _, _, _, .nil, .nil, .nil, _ => .nil
  | _, _, _, _, @Paired.cons _ _ _ p p' _ _ ⟨ek, d, r1, r2, sh, dp⟩ t, @Paired.cons _ _ _ _ q _ _ h1 t1, @Paired.cons _ _ _ _ q' _ _ h2 t2, hm => by
    obtain ⟨k, u⟩ := q
    obtain ⟨k', u'⟩ := q'
    have hy : PySem.valueAt kb k' = some u' := find_nodup nb (hm _ (.head _))
    have ekk : k = k' := (h1.1.symm.trans ek).trans h2.1
    rw [← ekk] at hy
    obtain ⟨as, x1⟩ := rep_reads I r1 h1.2
    obtain ⟨bs, x2⟩ := rep_reads I r2 h2.2
    have heq : SeqAt.EqAt A.in1 s u u' (PyData.eqv d d) := SeqAt.eqAt_reads d d A.in1 s u u' as bs x1 x2 sh sh (by
      have hm : min d.depth d.depth ≤ d.depth := Nat.min_le_left _ _
      show A.units + 1 + min d.depth d.depth < cLine
      omega)
    rw [SeqAt.eqv_refl d sh] at heq
    exact PySem.W.KeqHits.hit (e := true) (b := true) hy heq (hitsR I hu nb t t1 t2 fun p hp => hm p (.tail _ hp))
theorem op_eqR (hu : X.A.units + 64 < cLine) : OpR X (compareOp .Eq) (rSameR false) := by
  intro pins s σ H x y v u Q I rx ry h
  obtain ⟨a, b, kvs, kvs', rfl, rfl, ha, hb, hf, q⟩ := h
  cases rx
  cases ry
  obtain ⟨_, sa, ka, ra, da⟩ := dk_rd I.hok ha
  obtain ⟨_, sb, kb, rb, db⟩ := dk_rd I.hok hb
  have nb : (kb.map (·.1)).Nodup := let ⟨_, _, _, _, _, _, _, _, hn⟩ := db; hn
  have el : ka.length = kb.length := by rw [← ra.length, ← rb.length]; exact Paired.length hf
  exact PySem.W.keq_eq (knd := mixKind X.prog X.w) (r := true) sa sb da db (by omega) (fun _ => hitsR I hu nb hf ra rb fun _ z => z) ⟨.bl true, H, I, by rw [el]; simp [RelV], q⟩
theorem op_neR (hu : X.A.units + 64 < cLine) : OpR X (compareOp .NotEq) (rSameR true) := by
  intro pins s σ H x y v u Q I rx ry h
  obtain ⟨a, b, kvs, kvs', rfl, rfl, ha, hb, hf, q⟩ := h
  cases rx
  cases ry
  obtain ⟨_, sa, ka, ra, da⟩ := dk_rd I.hok ha
  obtain ⟨_, sb, kb, rb, db⟩ := dk_rd I.hok hb
  have nb : (kb.map (·.1)).Nodup := let ⟨_, _, _, _, _, _, _, _, hn⟩ := db; hn
  have el : ka.length = kb.length := by rw [← ra.length, ← rb.length]; exact Paired.length hf
  exact PySem.W.keq_ne (knd := mixKind X.prog X.w) (r := true) sa sb da db (by omega) (fun _ => hitsR I hu nb hf ra rb fun _ z => z) ⟨.bl false, H, I, by rw [el]; simp [RelV], q⟩
end
end L2

/-! MY RULES: zip(list, list), a comprehension over anything, promises joined, dicts laid pair by pair. -/
set_option linter.all false
set_option maxRecDepth 100000
namespace L2
open PySem PySem.Spec PyProof.Rows
/-- zip over a list and a tuple: the i-th pair is a new tuple -/
def ItzL (K : PySem.W.Frag) (a b : Addr) : It :=
  ⟨fun i H => ∃ xs ys x y, SqL K H a xs ∧ SqL K H b ys ∧ xs[i]? = some x ∧ ys[i]? = some y,
   fun i H v H' => ∃ p, H p = none ∧ v = .ref p ∧ ∃ x y, (∀ xs, SqL K H a xs → xs[i]? = some x) ∧ (∀ ys, SqL K H b ys → ys[i]? = some y) ∧ H' = upd H p (.tup [x, y]),
   fun i H => ∃ xs ys, SqL K H a xs ∧ SqL K H b ys ∧ (xs.length ≤ i ∨ ys.length ≤ i)⟩
def ZipStL (z TI TO i1 i2 a b : Addr) (i : Nat) (h : Heap) : Prop := IsZip h z TI TO .none ∧ IsPair h TI (.ref i1) (.ref i2) ∧ (∃ u v, IsPair h TO u v) ∧ h.IsListIter i1 a i ∧ h.IsListIter i2 b i
theorem turn_zipL {P : Program} {w : World} {K : PySem.W.Frag} {elts : List Expr} {kk : Nat} {pos : Pos} {z TI TO i1 i2 a b : Addr} (D : ZipApart z TI TO i1 i2 a b) :
    Turn P w K (.Tuple elts kk pos) (ItzL K a b) [z, TI, TO, i1, i2] z (ZipStL z TI TO i1 i2 a b) where
  mem := by simp
  obj := fun i h st c hc => by
    obtain ⟨h1, h2, ⟨u, v, h3⟩, h4, h5⟩ := st
    simp only [List.mem_cons, List.not_mem_nil, or_false] at hc
    rcases hc with rfl | rfl | rfl | rfl | rfl
    · exact ⟨_, h1, fun v z => by cases (show Data.fields _ = Data.cell v from z)⟩
    · exact ⟨_, h2, fun v z => by cases (show Data.seq _ _ = Data.cell v from z)⟩
    · exact ⟨_, h3, fun v z => by cases (show Data.seq _ _ = Data.cell v from z)⟩
    · exact (nx_list _ a).ob h4
    · exact (nx_list _ b).ob h5
  keep := fun i h h' st k => by
    obtain ⟨h1, h2, ⟨u, v, h3⟩, h4, h5⟩ := st
    exact ⟨k z (by simp) _ h1, k TI (by simp) _ h2, ⟨u, v, k TO (by simp) _ h3⟩, (nx_list i1 a).mv h4 fun o e => k i1 (by simp) o e, (nx_list i2 b).mv h5 fun o e => k i2 (by simp) o e⟩
  item := by
    intro X hP hw hK hc i pins s σ H E I hf st hg
    subst hP hw hK
    obtain ⟨xs, ys, x, y, hq1, hq2, hx, hy⟩ := hg
    obtain ⟨its, rv, p1, _⟩ := I.list hq1
    obtain ⟨its2, rv2, p2, _⟩ := I.list hq2
    obtain ⟨u, hu, ru⟩ := rv.get hx
    obtain ⟨u2, hu2, ru2⟩ := rv2.get hy
    obtain ⟨h1, h2, ⟨o1, o2, h3⟩, h4, h5⟩ := st
    refine zip_item (nx_list i1 a) (nx_list i2 b) D h1 h2 h3 h4 h5 p1.isList p2.isList (x := u) (by simpa using hu) (y := u2) (by simpa using hu2) fun h' z1 z2 z3 z4 z5 kp => ?_
    refine ⟨_, rfl, wpAny_letOwnedTupleGo_zip (s := { s with heap := h' }) z1 fun g zg sb => ?_⟩
    have nz : s.heap.objs.size ≠ z := Nat.ne_of_gt (Heap.lt_size h1)
    have n2 : TI < s.heap.objs.size := Heap.lt_size h2
    have n3 : TO < s.heap.objs.size := Heap.lt_size h3
    have n4 : i1 < s.heap.objs.size := let ⟨_, e, _⟩ := (nx_list i1 a).ob h4; Heap.lt_size e
    have n5 : i2 < s.heap.objs.size := let ⟨_, e, _⟩ := (nx_list i2 b).ob h5; Heap.lt_size e
    have zq : IsPair g s.heap.objs.size u u2 := sb.extBut _ _ nz z5
    have I1 : Inv X pins σ (upd H s.heap.objs.size (.tup [x, y])) { s with heap := g, toks := s.toks } := I.turnedNew (ts := [z, TI, TO, i1, i2]) (fun c o hc e => by
      simp only [List.mem_cons, List.not_mem_nil, or_false, not_or] at hc
      exact sb.extBut _ _ hc.1 (kp c o hc.1 hc.2.2.1 hc.2.2.2.1 hc.2.2.2.2 e)) hf (Nat.le_refl _) ⟨by show 2 ≤ sizeLine; decide, [u, u2], .cons ru (.cons ru2 .nil), ⟨_, zq, rfl, _, rfl⟩⟩
    refine ⟨.ref s.heap.objs.size, _, I1, rfl, ⟨_, I.hok.fresh (Nat.le_refl _), rfl, x, y, fun zs hz => by rw [I.list_inj hz hq1]; exact hx, fun zs hz => by rw [I.list_inj hz hq2]; exact hy, rfl⟩,
      ⟨zg, sb.extBut _ _ D.TIz (kp _ _ D.TIz D.TITO D.TIi1 D.TIi2 h2), ⟨_, _, sb.extBut _ _ D.TOz z2⟩, (nx_list i1 a).mv z3 fun o e => sb.extBut _ _ D.i1z e, (nx_list i2 b).mv z4 fun o e => sb.extBut _ _ D.i2z e⟩, fun c hc => ?_⟩
    have hcn : c ≠ s.heap.objs.size := by
      simp only [List.mem_cons, List.not_mem_nil, or_false] at hc
      rcases hc with rfl | rfl | rfl | rfl | rfl
      · exact nz.symm
      · exact Nat.ne_of_lt n2
      · exact Nat.ne_of_lt n3
      · exact Nat.ne_of_lt n4
      · exact Nat.ne_of_lt n5
    rw [upd_ne hcn]
    exact (hf c hc).1
  done := by
    intro X hP hw hK hc i pins s σ H E I hf st hg
    subst hP hw hK
    obtain ⟨xs, ys, hq1, hq2, hx⟩ := hg
    obtain ⟨its, rv, p1, _⟩ := I.list hq1
    obtain ⟨its2, rv2, p2, _⟩ := I.list hq2
    have e1 := rv.length
    have e2 := rv2.length
    obtain ⟨h1, h2, ⟨o1, o2, h3⟩, h4, h5⟩ := st
    refine zip_end (nx_list i1 a) (nx_list i2 b) (I.ok.hd hc) D h1 h2 h3 h4 h5 p1.isList p2.isList (by simp; omega) fun h' kp => ⟨rfl, ?_⟩
    exact I.turnedL (t' := s.toks) (ts := [z, TI, TO, i1, i2]) (fun c o hc e => by
      simp only [List.mem_cons, List.not_mem_nil, or_false, not_or] at hc
      exact kp c o hc.1 hc.2.2.1 hc.2.2.2.1 hc.2.2.2.2 e) hf
  self := fun _ _ _ _ _ st h => wpAny_pyIter_zip st.1 h
/-! ### zip(list, tuple) is made -/
abbrev zpH2L (h : Heap) (l1 l2 : Addr) : Heap := (zipH1 h l1).push { cls := .type "list_iterator", data := .fields #[.ref l2, .int 0 0] }
abbrev zpH3L (h : Heap) (l1 l2 : Addr) : Heap := (zpH2L h l1 l2).push { cls := .type "tuple", data := .seq #[.ref h.objs.size, .ref (zipH1 h l1).objs.size] }
abbrev zpH4L (h : Heap) (l1 l2 : Addr) : Heap := (zpH3L h l1 l2).push { cls := .type "tuple", data := .seq #[.none, .none] }
abbrev zpH5L (h : Heap) (l1 l2 : Addr) : Heap := (zpH4L h l1 l2).push { cls := .type "zip", data := .fields #[.none, .bool false, .bool false, .ref (zpH2L h l1 l2).objs.size, .ref (zpH3L h l1 l2).objs.size] }
theorem meets_zip_ltL (l1 l2 : Addr) (xs ys : Array Value) : Meets (Builtin.«zip.__new__» ⟨[.type "zip", .ref l1, .ref l2], []⟩) (fun _ R s => s.heap.IsList l1 xs ∧ s.heap.IsList l2 ys ∧
    R (.ok (.ret (.ref (zpH4L s.heap l1 l2).objs.size))) { s with heap := zpH5L s.heap l1 l2 }) :=
  .of_wp fun prog w A R s h => by
    obtain ⟨hp, g, d, tk, os⟩ := s; obtain ⟨hl1, hl2, h⟩ := h
    have hsub := sub_zip
    have hL1 : Heap.IsList (Shared.heap ⟨hp, g, d, tk, os⟩) l1 xs := hl1
    have hL2 : Heap.IsList (Shared.heap ⟨hp.push { cls := .type "list_iterator", data := .fields #[.ref l1, .int 0 0] }, g, d, tk, os⟩) l2 ys := Heap.IsList.push hl2 _
    wp_walk using wpAny_pyIter_list hL1, wpAny_pyIter_list hL2
    exact ⟨_, rfl, h⟩
theorem call_zip_ltL {prog : Program} {w : World} {A : Around} {E : Value → Shared → Prop} {s : Shared} {l1 l2 : Addr} {xs ys : Array Value} {Q : Value → Shared → Prop} (hl1 : s.heap.IsList l1 xs) (hl2 : s.heap.IsList l2 ys)
    (h : ∀ h', ZipStL (s.heap.objs.size + 4) (s.heap.objs.size + 2) (s.heap.objs.size + 3) s.heap.objs.size (s.heap.objs.size + 1) l1 l2 0 h' → (∀ c o, s.heap.get? c = some o → h'.get? c = some o) → Q (.ref (s.heap.objs.size + 4)) { s with heap := h' }) :
    wpAny (model prog w) A (call (.type "zip") [.ref l1, .ref l2]) Q E s := by
  refine callType_new F.called_zip (by decide) (F.typeCall_zip_2 _ _) (F.newCall_zip_2 _ _) (fun obj => F.args_object_init_3 obj _ _) F.entry_zip_new (meets_zip_ltL l1 l2 xs ys) ⟨hl1, hl2, ?_⟩
  have z1 : (zipH1 s.heap l1).objs.size = s.heap.objs.size + 1 := Heap.size_push ..
  have z2 : (zpH2L s.heap l1 l2).objs.size = s.heap.objs.size + 2 := by rw [Heap.size_push, z1]
  have z3 : (zpH3L s.heap l1 l2).objs.size = s.heap.objs.size + 3 := by rw [Heap.size_push, z2]
  have z4 : (zpH4L s.heap l1 l2).objs.size = s.heap.objs.size + 4 := by rw [Heap.size_push, z3]
  have q5 : (zpH5L s.heap l1 l2).get? (zpH4L s.heap l1 l2).objs.size = some _ := Heap.get?_push_size _ rfl
  have q4 : (zpH5L s.heap l1 l2).get? (zpH3L s.heap l1 l2).objs.size = some _ := Heap.get?_push_of_some _ (Heap.get?_push_size _ rfl)
  have q3 : (zpH5L s.heap l1 l2).get? (zpH2L s.heap l1 l2).objs.size = some _ := Heap.get?_push_of_some _ (Heap.get?_push_of_some _ (Heap.get?_push_size _ rfl))
  have q2 : (zpH5L s.heap l1 l2).get? (zipH1 s.heap l1).objs.size = some _ := Heap.get?_push_of_some _ (Heap.get?_push_of_some _ (Heap.get?_push_of_some _ (Heap.get?_push_size _ rfl)))
  have q1 : (zpH5L s.heap l1 l2).get? s.heap.objs.size = some _ := Heap.get?_push_of_some _ (Heap.get?_push_of_some _ (Heap.get?_push_of_some _ (Heap.get?_push_of_some _ (Heap.get?_push_size _ rfl))))
  show _ ∧ _
  rw [z2, z3, z4] at q5
  rw [z1, z2] at q3
  rw [z3] at q4
  rw [z1] at q2
  rw [z4]
  exact ⟨⟨_, q5, rfl⟩, h _ ⟨q5, q3, ⟨_, _, q4⟩, ⟨_, q1, rfl, rfl⟩, ⟨_, q2, rfl, rfl⟩⟩ fun c o x => Heap.get?_push_of_some _ (Heap.get?_push_of_some _ (Heap.get?_push_of_some _ (Heap.get?_push_of_some _ (Heap.get?_push_of_some _ x))))⟩
def iZipL (K : PySem.W.Frag) (ta : TA) : TI := fun σ H R => ta σ H fun vs H1 => ∃ a b xs ys, vs = [.ref a, .ref b] ∧ SqL K H1 a xs ∧ SqL K H1 b ys ∧ R (ItzL K a b) H1
theorem pi_zipLL {X : Cx} {elts : List Expr} {kk : Nat} {tpos : Pos} {a b : Expr} {ta : TA} {p pos : Pos} (hg : Gl X "zip") (hm : X.mg "zip" = none) (ha : PA X [a, b] ta) (hs : starEach [a, b] X.env = [(false, eval a X.env), (false, eval b X.env)] := by rfl) (hs2 : starEach [b] X.env = [(false, eval b X.env)] := by rfl) :
    PI X (.Tuple elts kk tpos) (.Call (.Name "zip" p) [a, b] [] pos) (iZipL X.K ta) := by
  intro pins s σ H R I h
  refine Call_ (ld_blt I hg hm boot_zip (PyProof.Rows.callWith_type1 (thn (ha pos pins s σ H _ I h) fun us s1 ⟨vs, H1, I1, r1, q1⟩ => ?_) (by rw [hs, hs2]) (by rw [hs2]; rfl)))
  obtain ⟨l1, l2, xs, ys, e, hq1, hq2, q⟩ := q1
  subst e
  obtain ⟨u, u2, rfl, ru, ru2⟩ := vals2 r1
  cases ru
  cases ru2
  obtain ⟨its, rv, p1, _⟩ := I1.list hq1
  obtain ⟨its2, rv2, p2, _⟩ := I1.list hq2
  have t1 : l1 < s1.heap.objs.size := let ⟨_, e, _⟩ := p1.isList; Heap.lt_size e
  have t2 : l2 < s1.heap.objs.size := let ⟨_, e, _⟩ := p2.isList; Heap.lt_size e
  refine call_zip_ltL p1.isList p2.isList fun h' zs kp => wpAny_pyIter_zip zs.1 ?_
  have I2 : Inv X pins σ H1 { s1 with heap := h' } := I1.kept (t' := s1.toks) kp
  refine ⟨_, [s1.heap.objs.size + 4, s1.heap.objs.size + 2, s1.heap.objs.size + 3, s1.heap.objs.size, s1.heap.objs.size + 1], _, _, H1, rfl, I2, turn_zipL (zipApart_new t1 t2), zs, fun c hc => ?_, q⟩
  have hle : s1.heap.objs.size ≤ c := by
    simp only [List.mem_cons, List.not_mem_nil, or_false] at hc
    rcases hc with rfl | rfl | rfl | rfl | rfl
    · exact Nat.le_add_right _ _
    · exact Nat.le_add_right _ _
    · exact Nat.le_add_right _ _
    · exact Nat.le_refl _
    · exact Nat.le_add_right _ _
  exact I1.fpOk hle (I1.hok.fresh hle)
/-- over a list and a tuple that the body leaves as they are -/
theorem for_zipL {K : PySem.W.Frag} {a b : Addr} {xs ys : List V} {g : TG} {tb : TS} {D : Ends} {σ : St} {H : Hp} (Pv : Nat → St → Hp → Prop) (h0 : Pv 0 σ H) (hl : ∀ i σ H, Pv i σ H → SqL K H a xs ∧ SqL K H b ys) (hlen : xs.length = ys.length)
    (hs : ∀ i x y σ H p, xs[i]? = some x → ys[i]? = some y → Pv i σ H → H p = none → g (.ref p) σ (upd H p (.tup [x, y])) fun σ2 H2 => tb { D with nx := Pv (i + 1), ct := Pv (i + 1), bk := D.nx } σ2 H2) (hd : ∀ σ H, Pv xs.length σ H → D.nx σ H) :
    ∃ W : Nat → Nat → St → Hp → Prop, (∃ m, W 0 m σ H) ∧ ∀ i m σ H, W i m σ H →
      ((ItzL K a b).stop i H ∧ D.nx σ H) ∨ ((ItzL K a b).go i H ∧ ∃ N : St → Hp → Prop, (∀ σ' H', N σ' H' → ∃ m', m' < m ∧ W (i + 1) m' σ' H') ∧ ∀ x H', (ItzL K a b).yld i H x H' → g x σ H' fun σ2 H2 => tb { D with nx := N, ct := N, bk := D.nx } σ2 H2) := by
  refine ⟨fun i m σ H => m = xs.length - i ∧ i ≤ xs.length ∧ Pv i σ H, ⟨xs.length, by simp, Nat.zero_le _, h0⟩, ?_⟩
  rintro i m σ H ⟨rfl, hi, p⟩
  obtain ⟨q1, q2⟩ := hl i σ H p
  by_cases hlt : i < xs.length
  · have e1 : xs[i]? = some xs[i] := List.getElem?_eq_getElem hlt
    have e2 : ys[i]? = some (ys[i]'(by omega)) := List.getElem?_eq_getElem _
    refine .inr ⟨⟨xs, ys, _, _, q1, q2, e1, e2⟩, Pv (i + 1), fun σ' H' p' => ⟨xs.length - (i + 1), by omega, rfl, hlt, p'⟩, fun v H' y => ?_⟩
    obtain ⟨c, hc, rfl, x, z, f1, f2, rfl⟩ := y
    exact hs i x z σ H c (f1 xs q1) (f2 ys q2) p hc
  · have e : i = xs.length := by omega
    subst e
    exact .inl ⟨⟨xs, ys, q1, q2, .inl (Nat.le_refl _)⟩, hd σ H p⟩
/-! ### a comprehension over anything -/
section
variable {D : Addr} {g : TG} {te : TE} {QD : Hp → Prop} {σ₀ : St} {H : Hp}
theorem comp_genQ {J : It} (n : Nat) (Pv : Nat → List V → Hp → Prop) (h0 : Pv 0 [] (upd H D (.lst []))) (hgo : ∀ i ys H, i < n → Pv i ys H → J.go i H) (hst : ∀ ys H, Pv n ys H → J.stop n H)
    (hs : ∀ i ys H, i < n → Pv i ys H → ∀ x H3, J.yld i H x H3 → g x σ₀ H3 fun σ4 H4 => StKeep σ₀ σ4 ∧ te σ4 H4 fun y H5 => H5 D = some (.lst ys) ∧ ys.length < sizeLine ∧ Pv (i + 1) (ys ++ [y]) (upd H5 D (.lst (ys ++ [y])))) (hd : ∀ ys H, Pv n ys H → QD H) :
    ∃ W : Nat → Nat → Hp → Prop, (∃ m, W 0 m (upd H D (.lst []))) ∧ ∀ i m H2, W i m H2 →
      (J.stop i H2 ∧ QD H2) ∨ (J.go i H2 ∧ ∃ N : VK, (∀ y H5, N y H5 → ∃ xs, H5 D = some (.lst xs) ∧ xs.length < sizeLine ∧ ∃ m', m' < m ∧ W (i + 1) m' (upd H5 D (.lst (xs ++ [y])))) ∧
        ∀ x H3, J.yld i H2 x H3 → g x σ₀ H3 fun σ4 H4 => StKeep σ₀ σ4 ∧ te σ4 H4 N) := by
  refine ⟨fun i m H => m = n - i ∧ i ≤ n ∧ ∃ ys, Pv i ys H, ⟨n, by simp, Nat.zero_le _, [], h0⟩, ?_⟩
  rintro i m H2 ⟨rfl, hi, ys, p⟩
  by_cases hlt : i < n
  · exact .inr ⟨hgo i ys H2 hlt p, fun y H5 => H5 D = some (.lst ys) ∧ ys.length < sizeLine ∧ Pv (i + 1) (ys ++ [y]) (upd H5 D (.lst (ys ++ [y]))), fun y H5 z => ⟨ys, z.1, z.2.1, n - (i + 1), by omega, rfl, hlt, _, z.2.2⟩, fun x H3 z => hs i ys H2 hlt p x H3 z⟩
  · have e : i = n := by omega
    subst e
    exact .inl ⟨hst ys H2 p, hd ys H2 p⟩
end
/-! ### within a comprehension: the rules by the text's own K -/
/-! ### own classes and built-in ones; promises joined -/
theorem isi_bt {K : PySem.W.Frag} {C : Addr} {U : String} {b : Bool} (h : PySem.W.mroIn K C (.type U) = some b) (hm : PySem.W.kitMeta U = true) : ∀ u, RelV (.ty U) u → PySem.W.kitOne K (.ref C) u = some b := by
  intro u z
  cases (show u = Value.type U from z)
  unfold PySem.W.kitOne
  rw [if_neg (show ¬ (Value.ref C == Value.type U) = true from Bool.false_ne_true)]
  show (if PySem.W.kitMeta U = true then PySem.W.subIn K (.ref C) (.type U) else none) = some b
  rw [if_pos hm]
  exact h
theorem FnOk.or {P : Program} {w : World} {K : PySem.W.Frag} {mg : Str → Option Value} {base : Heap} {CX : CXT} {k : Nat} {f : Addr} {fd : FuncData} {ps : List Str} {sp sp' : Sp} (F : FnOk P w K mg base CX k f fd ps sp) (F' : FnOk P w K mg base CX k f fd ps sp') :
    FnOk P w K mg base CX k f fd ps (fun vs H Q E => sp vs H Q E ∨ sp' vs H Q E) :=
  ⟨fun vs H Q E q => q.elim (F.len vs H Q E) (F'.len vs H Q E), fun A outer s H args us vs Q E hr he hb hv q => q.elim (F.run A outer s H args us vs Q E hr he hb hv) (F'.run A outer s H args us vs Q E hr he hb hv)⟩
/-! ### dicts laid pair by pair -/
theorem mergeK_snoc (acc ws : List (Key × V)) (w : Key × V) : mergeK acc (ws ++ [w]) = putK (mergeK acc ws) w.1 w.2 := by unfold mergeK; rw [List.foldl_append]; rfl
end L2

/-! MY RULES: name = [..], where the store is exchanged with the letting go of the comprehension's own names. -/
set_option linter.all false
set_option maxRecDepth 100000
namespace L2
open PySem PySem.Spec PyProof.Rows
section
variable {X : Cx}
theorem ps_setC {i₀ : Nat} {x₀ : Str} {pos₀ spos : Pos} {elt iter tg : Expr} {scope : Scope} {pos : Pos} {N' : List Str} {ix : List (Option Nat)} {cl : List (Str × Addr)} {wi : TI} {g : TG} {te : TE} (hN₀ : X.N.Nodup) (hi₀ : X.N[i₀]? = some x₀) (hx₀ : Loc X.env.scope x₀) (hc : X.calm = true) (ck : ClOk X scope cl) (io : IxOk X N' scope ix) (hi : PI X tg iter wi)
    (hg : ∀ C s₀ H₀ fp, PG (blk X N' scope cl C s₀ H₀ fp) tg g) (he : ∀ C s₀ H₀ fp, PE (blk X N' scope cl C s₀ H₀ fp) elt te) (hs : ∀ x, foldedSetIterable iter X.env x = pure x := by intro _; rfl)
    (hsw : swapsWith (.ListComp elt [⟨tg, iter, [], 0⟩] scope pos) (some (.Name x₀ pos₀)) spos.line X.env = pure true := by rfl) (hf₀ : X.fn x₀ = true ∨ X.env.scope.names.lookup x₀ = some .local := by first | exact .inl rfl | exact .inr rfl | assumption) :
    PS X (.Assign [.Name x₀ pos₀] (.ListComp elt [⟨tg, iter, [], 0⟩] scope pos) spos) (tAsg (tComp ix wi g te) (gName i₀)) := by
  intro pins s σ H D₀ I h
  rw [exec_Assign_Name_used _ _ _ _ hsw]
  refine wpAny_bind (wpAny_standAt (wpAny_bind ?_))
  show wpAny _ X.A (do let _ ← comprehension (.ListComp elt [⟨tg, iter, [], 0⟩] scope pos) scope X.env _ (newList []) false (eval iter X.env) (some (assign (.Name x₀ pos₀) X.env))) _ _ s
  refine wpAny_bind (wpAny_mono (wpAny_comprehension_free (use := some (assign (.Name x₀ pos₀) X.env)) (Q := fun _ s' => ∃ σ' H', Inv X pins σ' H' s' ∧ D₀.nx σ' H') rfl hs ck.eq ck.kind ck.names (thn (hi pins s σ H _ I h) fun xv s1 h1 => thn h1 fun itv s2 h2 => ?_)) (fun _ s' hq => wpAny_pure (wpAny_pure hq)) fun _ _ e => e)
  obtain ⟨it, fp, tn, J, H1, rfl, I1, T, st1, f1, R⟩ := h2
  -- the list
  refine wpAny_newObj_type ?_
  have hD : H1 s2.heap.objs.size = none := I1.hok.fresh (Nat.le_refl _)
  obtain ⟨W, ⟨m0, w0⟩, turn⟩ := R _ hD
  have hfD : ∀ b ∈ fp, b < s2.heap.objs.size := fun b hb => let ⟨o, e, _⟩ := T.obj _ _ st1 b hb; Heap.lt_size e
  have I2 : Inv X pins σ (upd H1 s2.heap.objs.size (.lst [])) { s2 with heap := s2.heap.push { cls := .type "list", data := .seq ([] : List Value).toArray }, toks := s2.toks } := I1.lnew (its := []) .nil (Nat.zero_le _)
  have f2 : ∀ b ∈ fp, FpOk X pins (upd H1 s2.heap.objs.size (.lst [])) b := fun b hb => ⟨by rw [upd_ne (Nat.ne_of_lt (hfD b hb))]; exact (f1 b hb).1, (f1 b hb).2⟩
  have lt2 : ∀ b ∈ fp, b < (s2.heap.push { cls := .type "list", data := .seq ([] : List Value).toArray }).objs.size := fun b hb => by rw [Heap.size_push]; exact Nat.lt_succ_of_lt (hfD b hb)
  -- the block's own dict
  refine wpAny_newFunctionEnv ck.ncell (by intro y hy; simp at hy) (fun h3 hns sb3 => ?_) ck.kind
  dsimp only at hns sb3 ⊢
  have k3 : ∀ b o, (s2.heap.push { cls := .type "list", data := .seq ([] : List Value).toArray }).get? b = some o → h3.get? b = some o := fun b o e => (sb3.2 b (Nat.ne_of_lt (Heap.lt_size e))).trans (Heap.get?_push_of_some _ e)
  generalize hs2 : ({ s2 with heap := s2.heap.push { cls := .type "list", data := .seq ([] : List Value).toArray }, toks := s2.toks } : Shared) = s3 at I2
  have e3 : s2.heap.push { cls := .type "list", data := .seq ([] : List Value).toArray } = s3.heap := by rw [← hs2]
  rw [e3] at hns k3 lt2
  have I3 := blk_start (N' := N') (ix := ix) I2 ck io f2 lt2 (h' := h3) (t' := s2.toks + ([] : List (Str × Value)).length) hns k3
  have e4 : ({ s3 with heap := h3, toks := s2.toks + ([] : List (Str × Value)).length } : Shared) = { s2 with heap := h3, toks := s2.toks + ([] : List (Str × Value)).length } := by rw [← hs2]
  rw [e4] at I3
  have st3 : tn 0 h3 := T.keep _ _ _ st1 fun b hb o e => k3 b o (by rw [← e3]; exact Heap.get?_push_of_some _ e)
  have loop : ∀ s4 : Shared, s4 = { s2 with heap := h3, toks := s2.toks + ([] : List (Str × Value)).length } →
      codeAny (model X.prog X.w) X.A (.compLoop (.ListComp elt [⟨tg, iter, [], 0⟩] scope pos) 0 (.ref it) (.ref s2.heap.objs.size) (compEnvC scope cl s3.heap.objs.size X.env))
        (compPost (model X.prog X.w) X.A X.xe (some (assign (.Name x₀ pos₀) X.env)) (fun _ s' => ∃ σ' H', Inv X pins σ' H' s' ∧ D₀.nx σ' H') (.ref s2.heap.objs.size) s3.heap.objs.size) s4 := by
    rintro s4 rfl
    have stat : ∀ {H' : Hp}, (∀ b ∈ fp, H' b = none) → ∀ b ∈ fp, FpOk (blk X N' scope cl s3.heap.objs.size s3 (upd H1 s2.heap.objs.size (.lst [])) fp) [] H' b := fun hn b hb =>
      ⟨hn b hb, Nat.ne_of_lt (lt2 b hb), fun hs => I3.ok.exfs b hb hs, .inl hb, fun x c e => (f2 b hb).2.2.2.2.1 x c (ck.sub x c e), (fun p hp => by cases hp)⟩
    refine codeAny_loop rfl (fun n s' => ∃ i σ' H', Inv (blk X N' scope cl s3.heap.objs.size s3 (upd H1 s2.heap.objs.size (.lst [])) fp) [] σ' H' s' ∧ (∀ (j : Nat) v, (blkSt ix σ)[j]? = some (some v) → σ'[j]? = some (some v)) ∧ tn i s'.heap ∧ (∀ b ∈ fp, H' b = none) ∧ W i n H')
      (fun n s' hI => ?_) m0 ⟨0, _, _, I3, fun _ _ z => z, st3, fun b hb => (f2 b hb).1, w0⟩
    obtain ⟨i, σ5, H5, I5, wk, st5, fr5, w5⟩ := hI
    show wpAny _ _ ((compTurn (.ListComp elt [⟨tg, iter, [], 0⟩] scope pos) 0 (.ref it) (.ref s2.heap.objs.size) (compEnvC scope cl s3.heap.objs.size X.env)).onRaise (fun x => do noteFrame x (compEnvC scope cl s3.heap.objs.size X.env); theTreesLotGoes x)) _ _ s'
    refine wpAny_noted ?_
    rw [compTurn_list1]
    refine wpAny_bind (wpAny_standAt ?_)
    rcases turn i n H5 w5 with ⟨stop, qn⟩ | ⟨go, NN, hNN, step⟩
    · refine wpAny_bind (wpAny_mono (T.done (blk X N' scope cl s3.heap.objs.size s3 (upd H1 s2.heap.objs.size (.lst [])) fp) rfl rfl rfl hc i [] s' σ5 H5 (fun _ _ => False) I5 (stat fr5) st5 stop) (fun r s6 h6 => ?_) fun _ _ z => z.elim)
      obtain ⟨rfl, I6⟩ := h6
      refine wpAny_pure ?_
      obtain ⟨mm, hm, _⟩ := id I6.loc
      have fC : FpOk X pins H5 s3.heap.objs.size := I2.fpOk (Nat.le_refl _) I6.free
      have Io : Inv X pins σ H5 s6 := blk_end I2 f2 I6 (Heap.SameBut.refl _ _)
      show wpAny _ X.A (assign (.Name x₀ pos₀) X.env (.ref s2.heap.objs.size)) _ _ s6
      refine wpAny_assign_Name (store_ok2 Io hN₀ hi₀ hx₀ (v := .ref s2.heap.objs.size) rfl (fun s7 I7 sb7 => ?_) hf₀)
      obtain ⟨a, sb, ha⟩ := sb7
      have ca : s3.heap.objs.size ≠ a := by
        rcases ha with ha | ha
        · rw [ha]; exact fC.2.1
        · exact fun z => fC.2.2.2.2.1 _ _ ha z.symm
      obtain ⟨oC, es, ep, ho, r⟩ := hm
      exact ⟨mm, ⟨oC, es, ep, (sb.2 _ ca).trans ho, r⟩, fun h' sb' => ⟨_, H5, I7.turned (t' := s7.toks) (fun b o hb e => (sb'.2 b hb).trans e) fC.1 fC.2.1 fC.2.2.2.1 fC.2.2.2.2.1 fC.2.2.2.2.2, qn⟩⟩
    · refine wpAny_bind (wpAny_mono (T.item (blk X N' scope cl s3.heap.objs.size s3 (upd H1 s2.heap.objs.size (.lst [])) fp) rfl rfl rfl hc i [] s' σ5 H5 (fun _ _ => False) I5 (stat fr5) st5 go) (fun r s6 h6 => ?_) fun _ _ z => z.elim)
      obtain ⟨u, rfl, h6⟩ := h6
      refine wpAny_bind (wpAny_mono h6 (fun _ s7 h7 => ?_) fun _ _ z => z.elim)
      obtain ⟨x, H7, I7, r7, y7, st7, fr7⟩ := h7
      have I7w : Inv (blk X N' scope cl s3.heap.objs.size s3 (upd H1 s2.heap.objs.size (.lst [])) fp) [] (blkSt ix σ) H7 s7 := I7.weak (by rw [I7.len]; unfold blkSt; rw [List.length_map]; exact io.1) wk
      have I7p := I7w.pinned (stat fr7) (T.obj _ _ st7)
      refine wpAny_bind (wpAny_mono (hg _ _ _ _ _ s7 _ H7 x u _ I7p r7 (step x H7 y7)) (fun _ s8 h8 => ?_) fun _ _ z => z.elim)
      obtain ⟨σ8, H8, I8, kp8, q8⟩ := h8
      refine wpAny_bind (wpAny_bind (wpAny_mono (he _ _ _ _ _ s8 σ8 H8 _ I8 q8) (fun yv s9 h9 => ?_) fun _ _ z => z.elim))
      obtain ⟨y, H9, I9, r9, n9⟩ := h9
      obtain ⟨xs, hx9, hz9, m', hm', w9⟩ := hNN _ _ n9
      refine wpAny_bind (wpAny_mono (mt_append (X := blk X N' scope cl s3.heap.objs.size s3 (upd H1 s2.heap.objs.size (.lst [])) fp) _ s9 σ8 H9 (.ref s2.heap.objs.size) [y] (.ref s2.heap.objs.size) [yv] (fun _ H' => W (i + 1) m' H') I9 rfl (.cons r9 .nil) ⟨_, xs, y, rfl, rfl, hx9, hz9, w9⟩) (fun _ s10 h10 => ?_) fun _ _ z => z.elim)
      obtain ⟨_, H10, I10, _, w10⟩ := h10
      refine wpAny_pure (wpAny_pure ⟨rfl, m', hm', i + 1, σ8, H10, I10.unpinned, ?_, T.keep _ _ _ st7 fun b hb o e => (I10.pin (b, o) (List.mem_append_right _ (List.mem_append_right _ (mem_pinsAt hb e)))).1, fun b hb => ?_, w10⟩)
      · exact kp8.get
      · obtain ⟨o, e, d⟩ := T.obj _ _ st7 b hb
        exact (I10.pin (b, o) (List.mem_append_right _ (List.mem_append_right _ (mem_pinsAt hb e)))).2.1
  have e5 : s3.heap.objs.size = (s2.heap.push { cls := .type "list", data := .seq ([] : List Value).toArray }).objs.size := by rw [e3]
  rw [e5] at loop
  exact codeAny_compStart_list (loop _ rfl) (T.self X.A 0 _ _ _ st3 (loop _ rfl))
end
end L2

/-! MY RULES: a[lo::k], sum(list of ints), len within a comprehension. -/
set_option linter.all false
set_option maxRecDepth 100000
namespace L2
open PySem PySem.Spec PyProof.Rows
section
variable {X : Cx}
end
end L2

/-! MY RULES: for k, x in enumerate(list); all(list of bools). -/
set_option linter.all false
set_option maxRecDepth 100000
namespace L2
open PySem PySem.Spec PyProof.Rows
end L2

/-! MY RULES: for v in d.values(); <= of texts; int(b). -/
set_option linter.all false
set_option maxRecDepth 100000
namespace L2
open PySem PySem.Spec PyProof.Rows
/-- the view that d.values() gives -/
def viewV (v d : Addr) : HO := .ext fun h => h.IsValuesView v d
theorem viewV_ok {P : Program} {w : World} {H : Hp} {h : Heap} {v d : Addr} (e : h.IsValuesView v d) : ObjOk P w H h v (viewV v d) :=
  ⟨e, let ⟨o, e1, _⟩ := e; ⟨o, e1⟩, fun h1 h2 ⟨o, e1, e2⟩ k => ⟨o, k o e1, e2⟩⟩
section
variable {X : Cx}
end
end L2

/-! MY RULES: != of tuples that hold alike things (data, dicts); a comprehension over a dict; d.clear(); list(..) within a comprehension. -/
set_option linter.all false
set_option maxRecDepth 100000
namespace L2
open PySem PySem.Spec PyProof.Rows
section
variable {X : Cx}
/-! ### a comprehension over a dict: what was walked is thawed -/
end
end L2

/-! MY RULES: list(d), list(d.values()); isinstance against a tuple of own classes. -/
set_option linter.all false
set_option maxRecDepth 100000
namespace L2
open PySem PySem.Spec PyProof.Rows
section
variable {X : Cx}
end
end L2

/-! MY RULES: d.values() and list(d.values()) with d of either kind of keys. -/
set_option linter.all false
set_option maxRecDepth 100000
namespace L2
open PySem PySem.Spec PyProof.Rows
/-- a dict by its bare entries -/
def Bare (h : Heap) (d : Addr) (es : Array DictEntry) (ep : Nat) : Prop := ∃ o, h.get? d = some o ∧ o.ExactDict ∧ o.data = .dict es ep
theorem Bare.at {h h' : Heap} {d : Addr} {es : Array DictEntry} {ep : Nat} (x : Bare h d es ep) (f : ∀ o, h.get? d = some o → h'.get? d = some o) : Bare h' d es ep := let ⟨o, e, r⟩ := x; ⟨o, f o e, r⟩
theorem Bare.lt {h : Heap} {d : Addr} {es : Array DictEntry} {ep : Nat} (x : Bare h d es ep) : d < h.objs.size := let ⟨_, e, _⟩ := x; Heap.lt_size e
section
variable {prog : Program} {w : World} {A : Around} {E : Value → Shared → Prop} {s : Shared}
/-- d.values(), the dict known by its type alone -/
theorem values_view (d : Addr) (hd : (d == sysModules) = false) :
    MeetsIn prog w (Builtin.«dict.values» ⟨[.ref d], []⟩) (fun _ R s => s.TypeIs (.ref d) "dict" ∧ R (.ok (.ret (.ref s.heap.objs.size))) { s with heap := s.heap.push { cls := .type "dict_values", data := .fields #[.ref d] } }) :=
  .of_wp fun A R s ⟨ty, q⟩ => by
    unfold Builtin.«dict.values»; refine wpAny_bind ?_; unfold Builtin.Dict.noArgs
    refine wpAny_bind (wpAny_notOrdered_dict ty ?_); show wpAny _ _ (pure d) _ _ s
    refine wpAny_pure ?_; show wpAny _ _ (Builtin.Dict.showsAll d >>= _) _ _ s
    unfold Builtin.Dict.showsAll; rw [if_neg (by rw [hd]; exact Bool.false_ne_true)]
    exact wpAny_bind (wpAny_pure (wpAny_bind (wpAny_newObj_type (wpAny_pure ⟨_, rfl, q⟩))))
theorem values_iter {v d : Addr} {es : Array DictEntry} {ep : Nat} {Q : Value → Shared → Prop} (h1 : s.heap.IsValuesView v d) (h2 : Bare s.heap d es ep)
    (q : Q (.ref s.heap.objs.size) { s with heap := s.heap.push { cls := .type "dict_valueiterator", data := .fields #[.ref d, .int 0 0, .int es.size 0, .int ep 0] } }) : wpAny (model prog w) A (pyIter (.ref v)) Q E s := by
  obtain ⟨ov, g1, g2, g3⟩ := id h1
  obtain ⟨od, k1, _, k3⟩ := h2
  refine wpAny_pyIter_slot h1.typeIs F.slot_dict_values_iter (wpAny_call_entry F.slot_dict_values_iter h1.typeIs F.entry_dict_values_iter ?_ (F.args_dict_values_iter_1 _)); unfold Builtin.«dict_values.__iter__»
  refine wpAny_bind (wpAny_pure (wpAny_bind ?_)); unfold Builtin.Dict_items.dictOf
  refine wpAny_bind (wpAny_field g1 g3 (x := .ref d) rfl (wpAny_pure (wpAny_bind ?_))); unfold Builtin.Dict_items.newIterator
  refine wpAny_bind (wpAny_dictEntries k1 k3 (wpAny_bind (wpAny_dictEpoch k1 k3 ?_)))
  simp only [show Builtin.Dict_items.ownsTuple "dict_valueiterator" = false by decide, Bool.false_eq_true, if_false]
  refine wpAny_newObj_type (wpAny_pure ⟨_, rfl, "dict_valueiterator", _, ⟨_, Heap.get?_push_size _ rfl, rfl⟩, F.slot_dict_valueiterator_next.lookup, ?_⟩)
  simpa [rawInt] using q
theorem values_next {it d : Addr} {i ep : Nat} {es : Array DictEntry} {e : DictEntry} {Q : Option Value → Shared → Prop} (h1 : s.heap.IsValIter it d i es.size ep) (h2 : Bare s.heap d es ep) (h5 : es[i]? = some e)
    (q : ∀ h', h'.IsValIter it d (i + 1) es.size ep → Heap.SameBut it s.heap h' → Q (some e.val) { s with heap := h' }) : wpAny (model prog w) A (pyNext (.ref it)) Q E s := by
  obtain ⟨o, g1, g2, g3⟩ := id h1
  obtain ⟨od, k1, _, k3⟩ := h2
  have ty := h1.typeIs
  unfold pyNext
  refine wpAny_bind (wpAny_attempt (wpAny_callSpecial?_slot (name := Str.ofString "__next__") ty F.slot_dict_valueiterator_next (wpAny_call_entry F.slot_dict_valueiterator_next ty F.entry_dict_valueiterator_next ?_ (F.args_dict_valueiterator_next_1 _))))
  refine wpAny_bind (wpAny_pure (wpAny_bind (wpAny_bind ?_)))
  refine wpAny_bind (wpAny_typeNameOfWhole_valiter ty (wpAny_pure (wpAny_bind (wpAny_fieldsOf g1 g3 ?_))))
  simp only [show Builtin.Dict_items.ownsTuple "dict_valueiterator" = false by decide, Bool.false_eq_true, if_false]
  show wpAny _ _ (ite ((Value.ref d == Value.none) = true) _ _) _ _ _; rw [if_neg (show ¬ ((Value.ref d == Value.none) = true) from Bool.false_ne_true)]
  refine wpAny_bind (wpAny_pure (wpAny_bind (wpAny_dictEntries k1 k3 ?_)))
  rw [if_neg (by simp)]
  refine wpAny_bind (wpAny_pure (wpAny_bind (wpAny_dictEpoch k1 k3 ?_)))
  rw [if_neg (by simp)]
  refine wpAny_pure ?_
  simp only [show ¬ ((i : Int) < 0) from by omega, if_false, Int.toNat_natCast, h5]
  refine wpAny_bind (wpAny_bind (wpAny_typeNameOfWhole_valiter ty (wpAny_pure (wpAny_bind (wpAny_isOneOf_valiter ty ?_)))))
  show wpAny _ _ (setField (.ref it) 1 (rawInt ((i : Int) + 1)) >>= _) _ _ s
  refine wpAny_bind (wpAny_setField g1 g3 (by simp) ?_)
  have hit' : (s.heap.update it (Obj.mapFields (·.setIfInBounds 1 (rawInt ((i : Int) + 1))))).IsValIter it d (i + 1) es.size ep :=
    ⟨_, Heap.get?_update_self _ g1 (Obj.isFreed_of_fields (Obj.data_mapFields g3 _)), (Obj.cls_mapFields ..).trans g2, by rw [Obj.data_mapFields g3]; simp [rawInt]⟩
  have ty1 : Shared.TypeIs { s with heap := s.heap.update it (Obj.mapFields (·.setIfInBounds 1 (rawInt ((i : Int) + 1)))) } (.ref it) "dict_valueiterator" := hit'.typeIs
  refine wpAny_bind (wpAny_holding (wpAny_bind (wpAny_isOneOf_valiter ty1 (wpAny_bind (wpAny_isOneOf_valiter ty1 ?_)))))
  show wpAny _ _ (pure e.val) _ _ _
  exact wpAny_pure (wpAny_pure ⟨_, rfl, wpAny_pure (q _ hit' (Heap.SameBut.update ..))⟩)
theorem values_end {it d : Addr} {i ep : Nat} {es : Array DictEntry} {Q : Option Value → Shared → Prop} (hh : A.handled = none) (h1 : s.heap.IsValIter it d i es.size ep) (h2 : Bare s.heap d es ep) (h5 : es.size ≤ i)
    (q : ∀ h', Heap.ExtBut it s.heap h' → Q none { s with heap := h' }) : wpAny (model prog w) A (pyNext (.ref it)) Q E s := by
  obtain ⟨o, g1, g2, g3⟩ := id h1
  obtain ⟨od, k1, _, k3⟩ := h2
  have ty := h1.typeIs
  unfold pyNext
  refine wpAny_bind (wpAny_attempt (wpAny_callSpecial?_slot (name := Str.ofString "__next__") ty F.slot_dict_valueiterator_next (wpAny_call_entry F.slot_dict_valueiterator_next ty F.entry_dict_valueiterator_next ?_ (F.args_dict_valueiterator_next_1 _))))
  refine wpAny_bind (wpAny_pure (wpAny_bind (wpAny_bind ?_)))
  refine wpAny_bind (wpAny_typeNameOfWhole_valiter ty (wpAny_pure (wpAny_bind (wpAny_fieldsOf g1 g3 ?_))))
  simp only [show Builtin.Dict_items.ownsTuple "dict_valueiterator" = false by decide, Bool.false_eq_true, if_false]
  show wpAny _ _ (ite ((Value.ref d == Value.none) = true) _ _) _ _ _; rw [if_neg (show ¬ ((Value.ref d == Value.none) = true) from Bool.false_ne_true)]
  refine wpAny_bind (wpAny_pure (wpAny_bind (wpAny_dictEntries k1 k3 ?_)))
  rw [if_neg (by simp)]
  refine wpAny_bind (wpAny_pure (wpAny_bind (wpAny_dictEpoch k1 k3 ?_)))
  rw [if_neg (by simp)]
  refine wpAny_pure ?_
  simp only [show ¬ ((i : Int) < 0) from by omega, if_false, Int.toNat_natCast, Array.getElem?_eq_none h5]
  refine wpAny_bind (wpAny_bind (wpAny_typeNameOfWhole_valiter ty (wpAny_pure ?_)))
  show wpAny _ _ (setField (.ref it) 0 .none >>= _) _ _ _
  refine wpAny_bind (wpAny_setField g1 g3 (by simp) ?_)
  show wpAny _ _ (newExc (.type "StopIteration") [] >>= _) _ _ (_ : Shared)
  refine wpAny_bind ?_
  simp only [newExc, newTuple]
  refine wpAny_bind (wpAny_newObj_type (wpAny_bind (m := firstArgMember _ _) (wpAny_of_eq (a := Value.none) (by first | rfl | (simp only [firstArgMember]; rfl)) (wpAny_newObj_type ?_ (by size_fits)))) (by size_fits))
  simp only [raiseNew]
  refine wpAny_bind (wpAny_handled ?_)
  rw [show A.in1.handled = none from hh]
  refine wpAny_bind (wpAny_pure (wpAny_throw ?_))
  refine wpAny_bind (wpAny_isInstance (T := "StopIteration") (b := true) ⟨_, Heap.get?_push_size _ rfl, rfl⟩ isSubtype_stop (wpAny_pure ?_))
  exact q _ (((Heap.SameBut.update ..).extBut.push _).push _)
theorem walks_values (hh : A.handled = none) (I d : Addr) (hne : d ≠ I) (es : Array DictEntry) (ep : Nat) :
    Walks prog w A I [I, d] [I] es.size (fun i v => ∃ e, es[i]? = some e ∧ v = e.val) (fun i h => h.IsValIter I d i es.size ep ∧ Bare h d es ep) where
  sub := fun b hb => by simp at hb; simp [hb]
  frame := fun _ _ _ st hk => ⟨let ⟨o, e, r⟩ := st.1; ⟨o, hk I (by simp) o e, r⟩, st.2.at fun o e => hk d (by simp) o e⟩
  item := fun i s Q E hi st hQ => by
    have hx : es[i]? = some es[i] := Array.getElem?_eq_getElem hi
    exact values_next st.1 st.2 hx fun h' hit' hs' => hQ _ h' s.toks ⟨_, hx, rfl⟩ ⟨hit', st.2.at fun o e => hs'.extBut _ _ hne e⟩ fun b o hb e => hs'.extBut b o (fun h => hb (by simp [h])) e
  done := fun s Q E st hQ => values_end hh st.1 st.2 (Nat.le_refl _) fun h' he' => hQ h' s.toks fun b o hb e => he' b o (fun h => hb (by simp [h])) e
  self := fun _ _ _ _ st hQ => wpAny_pyIter_valiter st.1 hQ
theorem src_values {r d : Addr} {es : Array DictEntry} {ep : Nat} : PySem.W.KdlSrc prog w "dict_values" r d es.size (fun i v => ∃ e, es[i]? = some e ∧ v = e.val) (fun h => h.IsValuesView r d ∧ Bare h d es ep) where
  type := fun _ hm => hm.1.typeIs
  there := fun _ hm => ⟨let ⟨_, ho, _⟩ := hm.1; Heap.lt_size ho, hm.2.lt⟩
  keep := fun _ _ hm hk => ⟨let ⟨o, ho, x⟩ := hm.1; ⟨o, hk r (.inl rfl) o ho, x⟩, hm.2.at fun o e => hk d (.inr rfl) o e⟩
  notList := by decide
  notTuple := by decide
  hint := fun _ _ _ _ hm hq => PySem.W.kdl_hint_values hm.1.typeIs hq
  iter := fun _ _ hh hm => ⟨_, _, (fun _ _ hq => values_iter hm.1 hm.2 hq), walks_values hh _ d (Nat.ne_of_lt hm.2.lt) es ep, ⟨⟨_, Heap.get?_push_size _ rfl, rfl, rfl⟩, hm.2.at fun o e => Heap.get?_push_of_some _ e⟩⟩
end
section
variable {X : Cx}
/-- the dict's values, in its order -/
def DVals (H : Hp) (a : Addr) (vs : List V) : Prop := (∃ kvs, Rd H a (.dK kvs) ∧ vs = kvs.map (·.2)) ∨ ∃ kvs, Rd H a (.dT kvs) ∧ vs = kvs.map (·.2)
theorem kv_snd : ∀ {kvs : List (Key × V)} {ws : List (Key × Value)}, KV kvs ws → Vals (kvs.map (·.2)) (ws.map (·.2))
  | _, _, .nil => .nil
  | _, _, .cons r t => .cons r.2 (kv_snd t)
theorem dt_snd {P : Program} {w : World} {H : Hp} : ∀ {kvs : List (List Key × V)} {xs : List (List Key × Addr × Value)}, Paired (fun (p : List Key × V) (q : List Key × Addr × Value) => p.1 = q.1 ∧ H q.2.1 = some (.tup (p.1.map kV)) ∧ RelV p.2 q.2.2) kvs xs →
    Vals (kvs.map (·.2)) (xs.map ((fun x : DictEntry => x.val) ∘ entryOfKey (tupleKind (mixKind P w))))
  | _, _, .nil => .nil
  | _, _, .cons r t => .cons r.2.2 (dt_snd t)
theorem dvals_bare {pins : List (Addr × Obj)} {σ : St} {H : Hp} {s : Shared} {a : Addr} {vs : List V} (I : Inv X pins σ H s) (h : DVals H a vs) :
    vs.length ≤ sizeLine ∧ (a == sysModules) = false ∧ ∃ es ep, Bare s.heap a es ep ∧ Vals vs (es.toList.map (·.val)) := by
  rcases h with ⟨kvs, e, rfl⟩ | ⟨kvs, e, rfl⟩
  · obtain ⟨z, hs, ws, rel, o, es, ep, ho, hx, hd, hk, hp, hn⟩ := dk_rd I.hok e
    refine ⟨by rw [List.length_map]; exact z, hs, es, ep, ⟨o, ho, hx, hd⟩, ?_⟩
    have : es.toList.map (·.val) = ws.map (·.2) := List.ext_getElem? fun i => by
      rw [List.getElem?_map, List.getElem?_map]
      have hl := hp.length
      by_cases hi : i < es.toList.length
      · have hi2 : i < ws.length := by omega
        have e1 : es.toList[i]? = some es.toList[i] := List.getElem?_eq_getElem hi
        have e2 : ws[i]? = some ws[i] := List.getElem?_eq_getElem hi2
        rw [e1, e2]
        have := (hp.get? (i := i) (e := es.toList[i]) e1 (show ws[i]? = some (ws[i].1, ws[i].2) from e2)).2
        show some es.toList[i].val = some ws[i].2
        rw [this]
      · rw [List.getElem?_eq_none (by omega), List.getElem?_eq_none (by omega)]
        rfl
    rw [this]
    exact kv_snd rel
  · obtain ⟨z, hs, xs, rel, o, es, ep, ho, hx, hd, he, _⟩ := (show ObjOk X.prog X.w H s.heap a (.dT kvs) from rd_of I.hok e)
    refine ⟨by rw [List.length_map]; exact z, hs, es, ep, ⟨o, ho, hx, hd⟩, ?_⟩
    rw [he, List.map_map]
    exact dt_snd rel
/-- d.values() -/
def rValuesD : V → List V → Hp → VK → Prop := fun x vs H Q => ∃ a us, x = .ref a ∧ vs = [] ∧ DVals H a us ∧ ∀ p, H p = none → Q (.ref p) (upd H p (viewV p a))
theorem mt_valuesD : MtR X "dict.values" rValuesD := by
  intro pins s σ H x xs v us Q I rx rv h
  obtain ⟨a, ws, rfl, rfl, ha, q⟩ := h
  cases rx
  cases rv
  obtain ⟨_, hs, es, ep, ⟨o, ho, hx, hd⟩, _⟩ := dvals_bare I ha
  have ty : s.TypeIs (.ref a) "dict" := ⟨o, ho, hx.1⟩
  refine call_meetsIn PySem.F.slot_dict_values ty PySem.F.entry_dict_values (PySem.F.args_dict_values_1 _) (values_view a hs) ⟨ty, ?_⟩
  exact ⟨.ref s.heap.objs.size, _, I.laid (t' := s.toks) (o := viewV s.heap.objs.size a) (fun b u e => Heap.get?_push_of_some _ e) (Nat.le_refl _) (viewV_ok ⟨_, Heap.get?_push_size _ rfl, rfl, rfl⟩), rfl, q _ (I.hok.fresh (Nat.le_refl _))⟩
/-- list(d.values()) -/
theorem call_listV (hc : X.calm = true) : CallR X (.type "list") (fun xs H Q => ∃ v a us, xs = [V.ref v] ∧ H v = some (viewV v a) ∧ DVals H a us ∧ ∀ l, H l = none → Q (.ref l) (upd H l (.lst us))) := by
  intro pins s σ H xs us Q I r h
  obtain ⟨v, a, ws, rfl, hv, ha, q⟩ := h
  obtain ⟨u, rfl, ru⟩ := vals1 r
  cases ru
  obtain ⟨vw, _⟩ := (show ObjOk X.prog X.w H s.heap v (viewV v a) from I.hok v _ hv)
  obtain ⟨hz, hs, es, ep, bare, rv⟩ := dvals_bare I ha
  have ll := rv.length
  rw [List.length_map] at ll
  have ll : ws.length = es.size := by rw [ll]; exact Array.length_toList
  refine PySem.W.kdl_call (src_values (r := v) (d := a) (es := es) (ep := ep)) (I.ok.hd hc) ⟨vw, bare⟩ (by rw [← ll]; exact hz) fun h' tk acc c kp hD hacc => ?_
  have e : acc.toList = es.toList.map (·.val) := List.ext_getElem? fun i => by
    by_cases hi : i < acc.toList.length
    · have e1 : acc.toList[i]? = some acc.toList[i] := List.getElem?_eq_getElem hi
      obtain ⟨d, e2, e3⟩ := hacc.2 i acc.toList[i] (by rw [← Array.getElem?_toList]; exact e1)
      rw [e1, List.getElem?_map, Array.getElem?_toList, e2, e3]
      rfl
    · have := hacc.1
      rw [List.getElem?_eq_none (by omega), List.getElem?_eq_none (by rw [List.length_map, Array.length_toList]; rw [Array.length_toList] at hi; omega)]
  rw [← e] at rv
  exact ⟨.ref s.heap.objs.size, _, I.laid (t' := tk) kp (Nat.le_refl _) (show ObjOk X.prog X.w _ h' _ (.lst _) from ⟨hz, acc.toList, c, rv, by simpa using hD⟩), rfl, q _ (I.hok.fresh (Nat.le_refl _))⟩
end
end L2

/-! MY RULES: a zip's draws where what it gave out lives on, dict(zip(list, tuple)). -/
set_option linter.all false
set_option maxRecDepth 100000
namespace L2
open PySem PySem.Spec PyProof.Rows
abbrev IsZipB (h : Heap) (z TI TO : Addr) (f0 : Value) (b : Bool) : Prop :=
  h.get? z = some { cls := .type "zip", dict := none, data := .fields #[f0, .bool b, .bool false, .ref TI, .ref TO], slots := #[] }
section
variable {prog : Program} {w : World} {A : Around} {E : Value → Shared → Prop} {s : Shared}
theorem wpAny_alive {a : Addr} {Q : Option Obj → Shared → Prop} (h : Q (s.heap.get? a) s) : wpAny (model prog w) A (loadIfAlive a) Q E s := fun Γ p _ => by
  show PySem.Sem.wp _ Γ (.loadIfAlive a .pure) _ _ p s
  rw [PySem.Sem.wp]
  exact h
/-- what the zip gave out still lives -/
theorem zip_notFree {z TI TO p : Addr} {o : Obj} {b : Bool} {Q : Bool → Shared → Prop} (hz : IsZipB s.heap z TI TO (rawInt (p : Int)) b) (hp : s.heap.get? p = some o)
    (q : ∀ h', IsZipB h' z TI TO (rawInt (p : Int)) true → Heap.SameBut z s.heap h' → Q false { s with heap := h' }) : wpAny (model prog w) A (Builtin.SmallTypes.ownedTupleIsFree (.ref z)) Q E s := by
  unfold Builtin.SmallTypes.ownedTupleIsFree
  refine wpAny_bind (wpAny_field hz rfl (x := rawInt (p : Int)) rfl ?_)
  show wpAny _ _ (loadIfAlive (Int.toNat (p : Int)) >>= _) _ _ _
  refine wpAny_bind (wpAny_alive ?_)
  rw [Int.toNat_natCast, hp]
  show wpAny _ _ (field (.ref z) 1 >>= _) _ _ _
  refine wpAny_bind (wpAny_field hz rfl (x := .bool b) rfl ?_)
  cases b with
  | true =>
    show wpAny _ _ (pure false) _ _ _
    exact wpAny_pure (q s.heap hz ⟨rfl, fun _ _ => rfl⟩)
  | false =>
    show wpAny _ _ (setField (.ref z) 1 (.bool true) >>= _) _ _ _
    refine wpAny_bind (wpAny_setField_rec hz (by simp) fun g1 z1 b1 => ?_)
    exact wpAny_pure (q g1 z1 b1)
end
section
variable {z TI TO i1 i2 l1 l2 : Addr} {st1 st2 : Nat → Heap → Prop} {src1 src2 : Array Value → Heap → Prop} {prog : Program} {w : World} {A : Around} {E : Value → Shared → Prop} {s : Shared}
/-- a zip's draw, what it gave out before lives on -/
theorem zip_more (N1 : Nx i1 l1 st1 src1) (N2 : Nx i2 l2 st2 src2) {k1 k2 : Nat} {xs ys : Array Value} {x y : Value} {p : Addr} {o : Obj} {b : Bool} {Q : Option Value → Shared → Prop} (D : ZipApart z TI TO i1 i2 l1 l2)
    (hz : IsZipB s.heap z TI TO (rawInt (p : Int)) b) (hp : s.heap.get? p = some o) (hTI : IsPair s.heap TI (.ref i1) (.ref i2)) (h1 : st1 k1 s.heap) (h2 : st2 k2 s.heap) (hl1 : src1 xs s.heap) (hl2 : src2 ys s.heap) (hx : xs[k1]? = some x) (hy : ys[k2]? = some y)
    (hQ : ∀ h', IsZipB h' z TI TO (rawInt (p : Int)) true → st1 (k1 + 1) h' → st2 (k2 + 1) h' → IsPair h' s.heap.objs.size x y →
      (∀ c o, c ≠ z → c ≠ i1 → c ≠ i2 → s.heap.get? c = some o → h'.get? c = some o) → Q (some (.ref s.heap.objs.size)) { s with heap := h' }) : wpAny (model prog w) A (pyNext (.ref z)) Q E s := by
  have hT : s.TypeIs (.ref z) "zip" := ⟨_, hz, rfl⟩
  unfold pyNext
  refine wpAny_bind (wpAny_attempt (wpAny_callSpecial?_slot (name := Str.ofString "__next__") hT F.slot_zip_next (wpAny_call_entry F.slot_zip_next hT F.entry_zip_next ?_ (F.args_zip_next_1 _))))
  show wpAny _ _ (field (.ref z) 2 >>= _) _ _ _
  refine wpAny_bind (wpAny_field hz rfl (x := .bool false) rfl ?_)
  show wpAny _ _ (field (.ref z) 3 >>= _) _ _ _
  refine wpAny_bind (wpAny_field hz rfl (x := .ref TI) rfl ?_)
  refine wpAny_bind (wpAny_seqItems hTI rfl ?_)
  show wpAny _ _ (Builtin.SmallTypes.ownedTupleIsFree (.ref z) >>= _) _ _ _
  refine wpAny_bind (zip_notFree hz hp fun g1 z1 b1 => ?_)
  simp only [Bool.false_eq_true, if_false]
  refine wpAny_bind ?_
  simp only [← Array.forIn_toList, List.forIn_cons, List.forIn_nil]
  refine wpAny_bind (wpAny_bind (wpAny_holding ?_))
  show wpAny _ _ (Builtin.SmallTypes.nextOf (.ref i1) >>= _) _ _ _
  refine wpAny_bind (N1.item (N1.mv h1 fun o e => b1.extBut _ _ D.i1z e) (N1.mvS hl1 fun o e => b1.extBut _ _ D.l1z e) hx fun g2 t2 b2 => wpAny_pure (wpAny_pure ?_))
  refine wpAny_bind (wpAny_bind (wpAny_holding ?_))
  show wpAny _ _ (Builtin.SmallTypes.nextOf (.ref i2) >>= _) _ _ _
  refine wpAny_bind (N2.item (N2.mv h2 fun o e => b2.extBut _ _ D.i12.symm (b1.extBut _ _ D.i2z e)) (N2.mvS hl2 fun o e => b2.extBut _ _ D.l2i1 (b1.extBut _ _ D.l2z e)) hy fun g3 t3 b3 => wpAny_pure (wpAny_pure (wpAny_pure ?_)))
  have hsz : g3.objs.size = s.heap.objs.size := by rw [b3.1, b2.1, b1.1]
  have zlt : z < g3.objs.size := by rw [hsz]; exact Heap.lt_size hz
  show wpAny _ _ (newTuple [x, y] >>= _) _ _ _
  refine wpAny_bind (wpAny_newTuple ?_)
  have z3 : IsZipB g3 z TI TO (rawInt (p : Int)) true := b3.extBut _ _ D.i2z.symm (b2.extBut _ _ D.i1z.symm z1)
  have k3 : ∀ c o, c ≠ z → c ≠ i1 → c ≠ i2 → s.heap.get? c = some o → g3.get? c = some o := fun c o c1 c3 c4 e => b3.extBut _ _ c4 (b2.extBut _ _ c3 (b1.extBut _ _ c1 e))
  have u1 : st1 (k1 + 1) g3 := N1.mv t2 fun o e => b3.extBut _ _ D.i12 e
  have pr : IsPair (g3.push { cls := .type "tuple", data := .seq #[x, y] }) g3.objs.size x y := Heap.get?_push_size _ rfl
  rw [hsz] at pr
  refine wpAny_pure ⟨_, rfl, wpAny_pure ?_⟩
  show Q (some (.ref g3.objs.size)) _
  rw [hsz]
  exact hQ _ (Heap.get?_push_of_some _ z3) (N1.mv u1 fun o e => Heap.get?_push_of_some _ e) (N2.mv t3 fun o e => Heap.get?_push_of_some _ e) pr fun c o c1 c3 c4 e => Heap.get?_push_of_some _ (k3 c o c1 c3 c4 e)
/-- .. and its end -/
theorem zip_fin (N1 : Nx i1 l1 st1 src1) (N2 : Nx i2 l2 st2 src2) {k1 k2 : Nat} {xs ys : Array Value} {p : Addr} {o : Obj} {b : Bool} {Q : Option Value → Shared → Prop} (hh : A.handled = none) (D : ZipApart z TI TO i1 i2 l1 l2)
    (hz : IsZipB s.heap z TI TO (rawInt (p : Int)) b) (hp : s.heap.get? p = some o) (hTI : IsPair s.heap TI (.ref i1) (.ref i2)) (h1 : st1 k1 s.heap) (h2 : st2 k2 s.heap) (hl1 : src1 xs s.heap) (hl2 : src2 ys s.heap) (hend : xs[k1]? = none ∨ ys[k2]? = none)
    (hQ : ∀ h', (∀ c o, c ≠ z → c ≠ i1 → c ≠ i2 → s.heap.get? c = some o → h'.get? c = some o) → Q none { s with heap := h' }) : wpAny (model prog w) A (pyNext (.ref z)) Q E s := by
  have hT : s.TypeIs (.ref z) "zip" := ⟨_, hz, rfl⟩
  unfold pyNext
  have fin : ∀ (h' : Heap) (e : Addr), (∀ c o, c ≠ z → c ≠ i1 → c ≠ i2 → s.heap.get? c = some o → h'.get? c = some o) → (∃ o, h'.get? e = some o ∧ o.cls = .type "StopIteration") →
      wpAny (model prog w) A (isInstance (.ref e) (.type "StopIteration") >>= fun b => if b = true then pure none else throw (.ref e)) Q E { s with heap := h' } := fun h' e hk ⟨o, ho, hc⟩ =>
    wpAny_bind (wpAny_isInstance (T := "StopIteration") (b := true) ⟨o, ho, hc⟩ isSubtype_stop (wpAny_pure (hQ _ hk)))
  refine wpAny_bind (wpAny_attempt (wpAny_callSpecial?_slot (name := Str.ofString "__next__") hT F.slot_zip_next (wpAny_call_entry F.slot_zip_next hT F.entry_zip_next ?_ (F.args_zip_next_1 _))))
  show wpAny _ _ (field (.ref z) 2 >>= _) _ _ _
  refine wpAny_bind (wpAny_field hz rfl (x := .bool false) rfl ?_)
  show wpAny _ _ (field (.ref z) 3 >>= _) _ _ _
  refine wpAny_bind (wpAny_field hz rfl (x := .ref TI) rfl ?_)
  refine wpAny_bind (wpAny_seqItems hTI rfl ?_)
  show wpAny _ _ (Builtin.SmallTypes.ownedTupleIsFree (.ref z) >>= _) _ _ _
  refine wpAny_bind (zip_notFree hz hp fun g1 z1 b1 => ?_)
  simp only [Bool.false_eq_true, if_false]
  refine wpAny_bind ?_
  simp only [← Array.forIn_toList, List.forIn_cons, List.forIn_nil]
  refine wpAny_bind (wpAny_bind (wpAny_holding ?_))
  show wpAny _ _ (Builtin.SmallTypes.nextOf (.ref i1) >>= _) _ _ _
  have u1 := N1.mv h1 fun o e => b1.extBut _ _ D.i1z e
  have v1 := N1.mvS hl1 fun o e => b1.extBut _ _ D.l1z e
  cases hx : xs[k1]? with
  | none =>
    refine wpAny_bind (N1.fin hh u1 v1 hx fun g2 e b2 he => ?_)
    exact fin g2 e (fun c o c1 c3 _ x => b2 _ _ c3 (b1.extBut _ _ c1 x)) he
  | some x =>
    have hy : ys[k2]? = none := by
      rcases hend with h | h
      · rw [hx] at h; cases h
      · exact h
    refine wpAny_bind (N1.item u1 v1 hx fun g2 t2 b2 => wpAny_pure (wpAny_pure ?_))
    refine wpAny_bind (wpAny_bind (wpAny_holding ?_))
    show wpAny _ _ (Builtin.SmallTypes.nextOf (.ref i2) >>= _) _ _ _
    refine wpAny_bind (N2.fin hh (N2.mv h2 fun o e => b2.extBut _ _ D.i12.symm (b1.extBut _ _ D.i2z e)) (N2.mvS hl2 fun o e => b2.extBut _ _ D.l2i1 (b1.extBut _ _ D.l2z e)) hy fun g4 e b4 he => ?_)
    exact fin g4 e (fun c o c1 c3 c4 x => b4 _ _ c4 (b2.extBut _ _ c3 (b1.extBut _ _ c1 x))) he
end
/-- how the zip stands before the i-th draw of a dict's making -/
def ZS (z TI TO i1 i2 a b d : Addr) (i : Nat) (h : Heap) : Prop := IsPair h TI (.ref i1) (.ref i2) ∧ h.IsListIter i1 a i ∧ h.IsTupleIter i2 b i ∧
  ((IsZip h z TI TO .none ∧ ∃ u v, IsPair h TO u v) ∨ ∃ (p : Addr) (o : Obj) (bb : Bool), IsZipB h z TI TO (rawInt (p : Int)) bb ∧ h.get? p = some o ∧ p ≠ z ∧ p ≠ i1 ∧ p ≠ i2 ∧ p ≠ d)
theorem ZS.at {z TI TO i1 i2 a b d : Addr} {i : Nat} {h h' : Heap} (x : ZS z TI TO i1 i2 a b d i h) (nz : z ≠ d) (n1 : TI ≠ d) (n2 : TO ≠ d) (n3 : i1 ≠ d) (n4 : i2 ≠ d) (f : ∀ c o, c ≠ d → h.get? c = some o → h'.get? c = some o) : ZS z TI TO i1 i2 a b d i h' := by
  obtain ⟨h1, h2, h3, h4⟩ := x
  refine ⟨f _ _ n1 h1, (nx_list i1 a).mv h2 fun o e => f _ _ n3 e, (nx_tuple i2 b).mv h3 fun o e => f _ _ n4 e, ?_⟩
  rcases h4 with ⟨h4, u, v, h5⟩ | ⟨p, o, bb, h4, h5, m1, m2, m3, m4⟩
  · exact .inl ⟨f _ _ nz h4, u, v, f _ _ n2 h5⟩
  · exact .inr ⟨p, o, bb, f _ _ nz h4, f _ _ m4 h5, m1, m2, m3, m4⟩
section
variable {z TI TO i1 i2 a b d : Addr} {prog : Program} {w : World} {A : Around} {E : Value → Shared → Prop} {s : Shared}
theorem zs_next {i : Nat} {xs ys : Array Value} {x y : Value} {Q : Option Value → Shared → Prop} (D : ZipApart z TI TO i1 i2 a b) (ld : d < s.heap.objs.size) (hz : ZS z TI TO i1 i2 a b d i s.heap) (hl : s.heap.IsList a xs) (ht : s.heap.IsTuple b ys) (hx : xs[i]? = some x) (hy : ys[i]? = some y)
    (hQ : ∀ h', ZS z TI TO i1 i2 a b d (i + 1) h' → IsPair h' s.heap.objs.size x y → (∀ c o, c ≠ z → c ≠ TO → c ≠ i1 → c ≠ i2 → s.heap.get? c = some o → h'.get? c = some o) → Q (some (.ref s.heap.objs.size)) { s with heap := h' }) :
    wpAny (model prog w) A (pyNext (.ref z)) Q E s := by
  obtain ⟨h1, h2, h3, h4⟩ := hz
  have n4 : i1 < s.heap.objs.size := let ⟨_, e, _⟩ := (nx_list i1 a).ob h2; Heap.lt_size e
  have n5 : i2 < s.heap.objs.size := let ⟨_, e, _⟩ := (nx_tuple i2 b).ob h3; Heap.lt_size e
  rcases h4 with ⟨h4, u, v, h5⟩ | ⟨p, o, bb, h4, h5, m1, m2, m3, m4⟩
  · have nz : z < s.heap.objs.size := Heap.lt_size h4
    refine zip_item (nx_list i1 a) (nx_tuple i2 b) D h4 h1 h5 h2 h3 hl ht hx hy fun h' z1 z2 z3 z4 z5 kp => ?_
    exact hQ h' ⟨kp _ _ D.TIz D.TITO D.TIi1 D.TIi2 h1, z3, z4, .inr ⟨s.heap.objs.size, _, false, z1, z5, Nat.ne_of_gt nz, Nat.ne_of_gt n4, Nat.ne_of_gt n5, Nat.ne_of_gt ld⟩⟩ z5 kp
  · refine zip_more (nx_list i1 a) (nx_tuple i2 b) D h4 h5 h1 h2 h3 hl ht hx hy fun h' z1 z3 z4 z5 kp => ?_
    exact hQ h' ⟨kp _ _ D.TIz D.TIi1 D.TIi2 h1, z3, z4, .inr ⟨p, o, true, z1, kp _ _ m1 m2 m3 h5, m1, m2, m3, m4⟩⟩ z5 fun c o c1 _ c3 c4 e => kp c o c1 c3 c4 e
theorem zs_end {i : Nat} {xs ys : Array Value} {Q : Option Value → Shared → Prop} (hh : A.handled = none) (D : ZipApart z TI TO i1 i2 a b) (hz : ZS z TI TO i1 i2 a b d i s.heap) (hl : s.heap.IsList a xs) (ht : s.heap.IsTuple b ys) (he : xs[i]? = none ∨ ys[i]? = none)
    (hQ : ∀ h', (∀ c o, c ≠ z → c ≠ TO → c ≠ i1 → c ≠ i2 → s.heap.get? c = some o → h'.get? c = some o) → Q none { s with heap := h' }) : wpAny (model prog w) A (pyNext (.ref z)) Q E s := by
  obtain ⟨h1, h2, h3, h4⟩ := hz
  rcases h4 with ⟨h4, u, v, h5⟩ | ⟨p, o, bb, h4, h5, m1, m2, m3, m4⟩
  · exact zip_end (nx_list i1 a) (nx_tuple i2 b) hh D h4 h1 h5 h2 h3 hl ht he hQ
  · exact zip_fin (nx_list i1 a) (nx_tuple i2 b) hh D h4 h5 h1 h2 h3 hl ht he fun h' kp => hQ h' fun c o c1 _ c3 c4 e => kp c o c1 c3 c4 e
end
section
variable {prog : Program} {w : World} {K : Type} [DecidableEq K] {knd : KeyKind prog w K} {A : Around} {R : Result → Shared → Prop} {z TI TO i1 i2 a b d : Addr} {xs ys : Array Value} {rs : List (K × Value)} {h₀ : Heap} {g : Array GenState} {dr : Drawn} {os : OsState}
theorem upd_loopZ (hh : A.handled = none) (D : ZipApart z TI TO i1 i2 a b) (nz : z ≠ d) (n1 : TI ≠ d) (n2 : TO ≠ d) (n3 : i1 ≠ d) (n4 : i2 ≠ d) (na : a ≠ d) (nb : b ≠ d) (hsz : rs.length ≤ sizeLine)
    (pa : ∀ (i : Nat) (k : K) (u : Value), rs[i]? = some (k, u) → ∃ kv, xs[i]? = some kv ∧ ys[i]? = some u ∧ knd.is k kv = true) (he : xs[rs.length]? = none ∨ ys[rs.length]? = none) (hl : h₀.IsList a xs) (ht : h₀.IsTuple b ys) (aTO : a ≠ TO) (a1 : a ≠ i1) (a2 : a ≠ i2) (az : a ≠ z) (bTO : b ≠ TO) (b1 : b ≠ i1) (b2 : b ≠ i2) (bz : b ≠ z)
    (fin : ∀ h' tk, h'.DictOf knd d (merged [] rs) → (∀ c o, c ≠ z → c ≠ TO → c ≠ i1 → c ≠ i2 → c ≠ d → h₀.get? c = some o → h'.get? c = some o) → R (.ok (.ret .none)) ⟨h', g, dr, tk, os⟩) :
    ∀ (k i : Nat) (h : Heap) (tk : Nat), rs.length - i = k → i ≤ rs.length → ZS z TI TO i1 i2 a b d i h → (∀ c o, c ≠ z → c ≠ TO → c ≠ i1 → c ≠ i2 → c ≠ d → h₀.get? c = some o → h.get? c = some o) → h.DictOf knd d (merged [] (rs.take i)) →
      codeAny (model prog w) A (.builtin "dict.update.loop" ⟨[.ref d, .ref z, rawInt i, .none], []⟩) R ⟨h, g, dr, tk, os⟩ := by
  intro k
  induction k with
  | zero =>
    intro i h tk hk hi hit kp hD
    have hin' : i = rs.length := by omega
    refine codeAny_builtin entry_upd_loop ?_
    rw [Around.under_plainId plain_upd_loop _]
    show wpAny _ A.in1 (pyNext (.ref z) >>= _) _ _ _
    refine wpAny_bind (zs_end (s := ⟨h, g, dr, tk, os⟩) (by simpa using hh) D hit (hl.at fun o e => kp a o az aTO a1 a2 na e) (let ⟨o, e, r⟩ := ht; ⟨o, kp b o bz bTO b1 b2 nb e, r⟩) (by rw [hin']; exact he) fun h' kp' => ?_)
    show wpAny _ A.in1 (Builtin.Dict.addKeywords d [] >>= fun _ => ret Value.none) _ _ _
    rw [hin', List.take_length] at hD
    obtain ⟨od, es, ep, ho, r⟩ := hD
    exact wpAny_bind (wpAny_pure (wpAny_pure (fin h' tk ⟨od, es, ep, kp' d od nz.symm n2.symm n3.symm n4.symm ho, r⟩ fun c o c1 c2 c3 c4 c5 e => kp' c o c1 c2 c3 c4 (kp c o c1 c2 c3 c4 c5 e))))
  | succ k ih =>
    intro i h tk hk hi hit kp hD
    have hlt : i < rs.length := by omega
    obtain ⟨⟨k', u⟩, hku⟩ : ∃ p, rs[i]? = some p := ⟨rs[i], List.getElem?_eq_getElem _⟩
    obtain ⟨kv, hx, hy, his⟩ := pa i k' u hku
    refine codeAny_builtin entry_upd_loop ?_
    rw [Around.under_plainId plain_upd_loop _]
    show wpAny _ A.in1 (pyNext (.ref z) >>= _) _ _ _
    have ld : d < h.objs.size := let ⟨_, _, _, e, _⟩ := hD; Heap.lt_size e
    refine wpAny_bind (zs_next (s := ⟨h, g, dr, tk, os⟩) D ld hit (hl.at fun o e => kp a o az aTO a1 a2 na e) (let ⟨o, e, r⟩ := ht; ⟨o, kp b o bz bTO b1 b2 nb e, r⟩) hx hy fun h' zs pr kp' => ?_)
    have pr : IsPair h' h.objs.size kv u := pr
    have hT : (⟨h', g, dr, tk, os⟩ : Shared).TypeIs (.ref h.objs.size) "tuple" := ⟨_, pr, rfl⟩
    show wpAny _ A.in1 (holding [Value.ref h.objs.size] _ >>= _) _ _ _
    refine wpAny_bind (wpAny_holding (wpAny_bind (wpAny_tryCatch ?_)))
    unfold Builtin.Dict.pairItems
    refine wpAny_bind (wpAny_typeOf hT ?_)
    rw [if_pos (by decide)]
    refine wpAny_bind (wpAny_seqItems pr rfl (wpAny_pure ?_))
    show wpAny _ A.in1 (holding [kv, u] (dictSet d kv u)) _ _ _
    have hD' : h'.DictOf knd d (merged [] (rs.take i)) := by
      obtain ⟨od, es, ep, ho, r⟩ := hD
      exact ⟨od, es, ep, kp' d od nz.symm n2.symm n3.symm n4.symm ho, r⟩
    have hlen : (merged [] (rs.take i)).length ≤ sizeLine := by
      have e1 := merged_length_le ([] : List (K × Value)) (rs.take i)
      have e2 : (rs.take i).length ≤ rs.length := by rw [List.length_take]; omega
      simp only [List.length_nil, Nat.zero_add] at e1
      omega
    refine wpAny_holding (wpAny_dictSet_pairs (hsz := hlen) (s := ⟨h', g, dr, tk, os⟩) his hD' fun h2 hD2 sb => ?_)
    rw [← merged_take_succ [] rs i (k', u) hku] at hD2
    refine wpAny_pure ⟨plainId_quiet plain_upd_loop _, ih (i + 1) h2 _ (by omega) (by omega) (zs.at nz n1 n2 n3 n4 fun c o hc e => (sb.2 c hc).trans e) ?_ hD2⟩
    intro c oc c1 c2 c3 c4 c5 e
    exact (sb.2 c c5).trans (kp' c oc c1 c2 c3 c4 (kp c oc c1 c2 c3 c4 c5 e))
end
end L2

/-! MY RULES: dict(zip(list, tuple)). -/
set_option linter.all false
set_option maxRecDepth 100000
namespace L2
open PySem PySem.Spec PyProof.Rows
theorem am_zip_getattr_none : typeLookup (.type "zip") "__getattr__" = pure none := by rw [typeLookup_type, builtinLookup_eq_fast]; kernel_rfl
theorem am_entry_zip_getattribute : entryFor table "zip.__getattribute__" = some Builtin.«object.__getattribute__» :=
  entryFor_alias (id' := "object.__getattribute__") (by kernel_rfl) (by decide +kernel) (by decide +kernel) (by kernel_rfl)
theorem miss_keysZ : typeLookup (.type "zip") "keys" = pure none := by rw [typeLookup_type, builtinLookup_eq_fast]; kernel_rfl
theorem meets_miss_zip (a : Addr) (fs : Array Value) (sl : Array (Option Value)) (name : Str) (u : Tok) (hmiss : typeLookup (.type "zip") name = pure none) (hname : (["__module__", "__name__", "__qualname__", "__doc__", "__annotations__"] : List Str).contains name = false) (hsz : name.length + 100 ≤ sizeLine := by size_fits) :
    Meets (Builtin.«object.__getattribute__» ⟨[.ref a, .str name u], []⟩) (fun A R s => s.heap.get? a = some { cls := .type "zip", dict := none, data := .fields fs, slots := sl } ∧ raisesAttr (.ref a) name A R s) :=
  Meets.of_wp fun prog w A R s hs => by
    obtain ⟨hp, g, d, tk, os⟩ := s
    obtain ⟨hx, hs⟩ := hs
    have hT : (⟨hp, g, d, tk, os⟩ : Shared).TypeIs (.ref a) "zip" := ⟨_, hx, rfl⟩
    unfold Builtin.«object.__getattribute__»
    repeat (any_goals (first | assumption | wp_step))
    simp only [hname, Bool.false_eq_true, if_false]
    repeat (any_goals (first | assumption | wp_step))
    exact wpAny_raiseAttrError hs.1 hs.2 (attrMsg_fits (by decide +kernel) hsz)
theorem keys_missZ {prog : Program} {w : World} {A : Around} {E : Value → Shared → Prop} {s : Shared} {a : Addr} {fs : Array Value} {sl : Array (Option Value)} {Q : Option Value → Shared → Prop}
    (hx : s.heap.get? a = some { cls := .type "zip", dict := none, data := .fields fs, slots := sl }) (hA : A.handled = none)
    (h : ∀ h' tk, (∀ b ob, s.heap.get? b = some ob → h'.get? b = some ob) → Q none { s with heap := h', toks := tk }) : wpAny (model prog w) A (getAttr? (.ref a) "keys") Q E s := by
  obtain ⟨hp, g, d, tk, os⟩ := s
  have hT : ∀ tk', (⟨hp, g, d, tk', os⟩ : Shared).TypeIs (.ref a) "zip" := fun _ => ⟨_, hx, rfl⟩
  have f1 := sub_AttributeError
  have f3 := F.slot_zip_getattribute.lookup
  have f4 := F.slot_zip_getattribute.bind (.ref a)
  have f5 := am_zip_getattr_none
  unfold getAttr? getAttrBy? getAttrBy
  repeat (any_goals (first | assumption | exact hT _ | ((with_reducible show wpAny _ _ (call (Value.builtin "zip.__getattribute__") _ _) _ _ _); refine call_meets F.slot_zip_getattribute (hT _) am_entry_zip_getattribute (F.args_zip_getattribute_2 _ _) (meets_miss_zip a fs sl "keys" _ miss_keysZ (by decide) (by decide)) ⟨hx, hA, fun h' tk' e hx' => ?_⟩) | wp_step))
  obtain ⟨t', u', he⟩ := hx'.there
  show wpAny _ _ (getattributeRaised _ _ _ _ _ _ _) _ _ _
  unfold getattributeRaised
  repeat (any_goals (first | assumption | wp_step))
  all_goals exact h _ _ hx'.1
end L2

/-! MY RULES: dict(zip(list, tuple)), whole. -/
set_option linter.all false
set_option maxRecDepth 100000
namespace L2
open PySem PySem.Spec PyProof.Rows
def tDZ (K : PySem.W.Frag) (ta : TA) : TE := fun σ H Q => ta σ H fun vs H1 => ∃ l t ks us, vs = [.ref l, .ref t] ∧ SqL K H1 l ((ks : List Key).map kV) ∧ SqT K H1 t us ∧ ks.length = us.length ∧ ∀ p, H1 p = none → Q (.ref p) (upd H1 p (.dK (mergeK [] (ks.zip us))))
theorem kv_zip : ∀ {ks : List Key} {us : List V} {vs : List Value}, ks.length = us.length → Vals us vs → KV (ks.zip us) (ks.zip vs)
  | [], [], _, _, .nil => .nil
  | k :: ks, u :: us, _, h, .cons r t => .cons ⟨rfl, r⟩ (kv_zip (by simpa using h) t)
theorem keys_raw {P : Program} {w : World} : ∀ {ks : List Key} {its : List Value}, Vals (ks.map kV) its → ∀ {i : Nat} {k : Key}, ks[i]? = some k → ∃ v, its[i]? = some v ∧ (mixKind P w).is k v = true
  | [], _, .nil, i, k, h => by simp at h
  | _ :: _, _, .cons r t, 0, k, h => by simp at h; subst h; exact ⟨_, rfl, kV_is r⟩
  | _ :: _, _, .cons r t, i + 1, k, h => by
    obtain ⟨v, e1, e2⟩ := keys_raw (P := P) (w := w) t (i := i) (k := k) (by simpa using h)
    exact ⟨v, by simpa using e1, e2⟩
section
variable {X : Cx}
theorem pe_dictzip {a b : Expr} {ta : TA} {p1 p2 pos1 pos2 : Pos} (hc : X.calm = true) (hgd : Gl X "dict") (hmd : X.mg "dict" = none) (hgz : Gl X "zip") (hmz : X.mg "zip" = none) (ha : PA X [a, b] ta)
    (hs0 : starEach [.Call (.Name "zip" p2) [a, b] [] pos2] X.env = (false, eval (.Call (.Name "zip" p2) [a, b] [] pos2) X.env) :: starEach [] X.env := by rfl)
    (hs : starEach [a, b] X.env = [(false, eval a X.env), (false, eval b X.env)] := by rfl) (hs2 : starEach [b] X.env = [(false, eval b X.env)] := by rfl) :
    PE X (.Call (.Name "dict" p1) [.Call (.Name "zip" p2) [a, b] [] pos2] [] pos1) (tDZ X.K ta) := by
  intro pins s σ H Q I h
  have hh : X.A.handled = none := I.ok.hd hc
  refine wpAny_Call_Name_kw (ld_blt I hgd hmd boot_dict ?_)
  refine PyProof.Rows.callWith_type1 ?_ hs0 (by rfl)
  rw [hs0]
  show wpAny _ _ (spliced ((false, eval _ X.env) :: backTo pos1 (starEach [] X.env))) _ _ s
  refine Calls.spliced_cons ?_
  refine Call_ (ld_blt I hgz hmz boot_zip (PyProof.Rows.callWith_type1 (thn (ha pos2 pins s σ H _ I h) fun us s1 ⟨vs, H1, I1, r1, q1⟩ => ?_) (by rw [hs, hs2]) (by rw [hs2]; rfl)))
  obtain ⟨l1, l2, ks, ws, e, hq1, hq2, hle, q⟩ := q1
  subst e
  obtain ⟨u, u2, rfl, ru, ru2⟩ := vals2 r1
  cases ru
  cases ru2
  obtain ⟨its, rv, p1', zk⟩ := I1.list hq1
  obtain ⟨its2, rv2, p2', _⟩ := I1.tuple hq2
  have t1 : l1 < s1.heap.objs.size := let ⟨_, e, _⟩ := p1'.isList; Heap.lt_size e
  have t2 : l2 < s1.heap.objs.size := p2'.lt
  have e1 := rv.length
  have e2 := rv2.length
  rw [List.length_map] at e1
  have hn := I1.hok.fresh (Nat.le_refl s1.heap.objs.size)
  refine call_zip_lt p1'.isList (show s1.heap.IsTuple l2 its2.toArray from p2') fun h' zs kp => Calls.spliced_nil ?_
  obtain ⟨hz, hTI, ⟨tu, tv, hTO⟩, hi1, hi2⟩ := zs
  have D := zipApart_new t1 t2
  have lz : s1.heap.objs.size + 4 < h'.objs.size := Heap.lt_size hz
  refine callType_codes (Q₁ := fun obj s₁ => obj = .ref h'.objs.size ∧ s₁ = { s1 with heap := h'.push { cls := .type "dict", data := .dict #[] } }) F.kt_called_dict (F.kt_typeCall_dict_1 _) F.entry_dict_init (kt_code_dict_new (s := { s1 with heap := h' }) _ ⟨rfl, rfl⟩) ?_
  rintro obj s₁ ⟨rfl, rfl⟩
  have hnew : (h'.push { cls := .type "dict", data := .dict #[] }).DictOf (mixKind X.prog X.w) h'.objs.size [] := Heap.DictOf.new h'
  have ez : (h'.push { cls := .type "dict", data := .dict #[] }).get? (s1.heap.objs.size + 4) = some _ := Heap.get?_push_of_some _ hz
  have hTz : Shared.TypeIs { s1 with heap := h'.push { cls := .type "dict", data := .dict #[] } } (.ref (s1.heap.objs.size + 4)) "zip" := ⟨_, ez, rfl⟩
  refine ⟨hnew.typeIs, F.args_dict_init_2 _ _, ?_⟩
  unfold Builtin.«dict.__init__»
  refine wpAny_bind ?_
  unfold Builtin.Dict.selfAndRest
  refine wpAny_bind (wpAny_notOrdered_dict hnew.typeIs ?_)
  show wpAny _ _ (pure (h'.objs.size, [Value.ref (s1.heap.objs.size + 4)])) _ _ _
  refine wpAny_pure ?_
  show wpAny _ _ (Builtin.Dict.updateFrom "dict.__init__" h'.objs.size (.ref (s1.heap.objs.size + 4)) [] .none) _ _ _
  unfold Builtin.Dict.updateFrom
  refine wpAny_bind (wpAny_typeOf hTz ?_)
  rw [if_pos (by decide)]
  refine wpAny_bind (keys_missZ ez (by simpa using hh) fun h1 tk1 kp1 => ?_)
  rw [if_pos (show (none : Option Value).isNone = true from rfl)]
  refine wpAny_bind (wpAny_rule ?_)
  refine wpAny_bind (wpAny_pyIter_zip (s := { s1 with heap := h1, toks := tk1 }) (kp1 _ _ ez) ?_)
  have up : ∀ c o, h'.get? c = some o → h1.get? c = some o := fun c o e => kp1 _ _ (Heap.get?_push_of_some _ e)
  have lr : (ks.zip its2).length = ks.length := by rw [List.length_zip]; omega
  have q1 : ∀ i : Nat, i ≤ 4 → s1.heap.objs.size + i ≠ h'.objs.size := fun i hi z => by omega
  have q2 : ∀ c : Nat, c < s1.heap.objs.size → c ≠ h'.objs.size := fun c hc z => by omega
  have q3 : ∀ c i : Nat, c < s1.heap.objs.size → c ≠ s1.heap.objs.size + i := fun c i hc z => by omega
  have le' : s1.heap.objs.size ≤ h'.objs.size := by omega
  have z1 : ks.length ≤ sizeLine := by rw [List.length_map] at zk; exact zk
  refine wpAny_pure ⟨plainId_quiet plain_upd_loop _, upd_loopZ (knd := mixKind X.prog X.w) (rs := ks.zip its2) (xs := its.toArray) (ys := its2.toArray) (h₀ := h1) (by simpa using hh) D (q1 4 (by decide)) (q1 2 (by decide)) (q1 3 (by decide)) (q1 0 (by decide)) (q1 1 (by decide)) (q2 _ t1) (q2 _ t2) (by rw [lr]; exact z1) (fun i k u hr => ?_) ?_ (p1'.isList.at fun o e => up _ _ (kp _ _ e)) (let ⟨o, e, r⟩ := p2'; ⟨o, up _ _ (kp _ _ e), r⟩) (q3 _ 3 t1) (q3 _ 0 t1) (q3 _ 1 t1) (q3 _ 4 t1) (q3 _ 3 t2) (q3 _ 0 t2) (q3 _ 1 t2) (q3 _ 4 t2) (fun h2 tk dd kp2 => ?_) (ks.zip its2).length 0 h1 _ (by omega) (Nat.zero_le _) ⟨up _ _ hTI, (nx_list _ l1).mv hi1 fun o e => up _ _ e, (nx_tuple _ l2).mv hi2 fun o e => up _ _ e, .inl ⟨up _ _ hz, tu, tv, up _ _ hTO⟩⟩ (fun _ _ _ _ _ _ _ z => z) ?_⟩
  · obtain ⟨g1, g2⟩ := List.getElem?_zip_eq_some.mp hr
    obtain ⟨kv, g3, g4⟩ := keys_raw (P := X.prog) (w := X.w) rv g1
    exact ⟨kv, by simpa using g3, by simpa using g2, g4⟩
  · left
    rw [lr]
    simp
    omega
  · have kv := kv_zip hle rv2
    refine ⟨rfl, .ref h'.objs.size, _, I1.laid (t' := tk) (o := .dK (mergeK [] (ks.zip ws))) (fun b u eb => ?_) le' ⟨?_, ?_, _, KV.merge kv .nil, dd⟩, rfl, q _ (I1.hok.fresh le')⟩
    · have lb := Heap.lt_size eb
      exact kp2 b u (q3 _ 4 lb) (q3 _ 3 lb) (q3 _ 0 lb) (q3 _ 1 lb) (q2 _ lb) (up _ _ (kp _ _ eb))
    · have := length_mergeK (ks.zip ws) []
      have lw : (ks.zip ws).length = ks.length := by rw [List.length_zip]; omega
      simp only [List.length_nil] at this
      omega
    · have := I1.big
      have hne : h'.objs.size ≠ sysModules := Nat.ne_of_gt (Nat.lt_of_lt_of_le this le')
      simpa using hne
  · obtain ⟨od, es, ep, g, r⟩ := hnew
    exact ⟨od, es, ep, kp1 _ _ g, r⟩
end
end L2

/-! MY RULES: != of two sets of ints and texts. -/
set_option linter.all false
set_option maxRecDepth 100000
namespace L2
open PySem PySem.Spec PyProof.Rows
theorem entry_set_ne : entryFor table "set.__ne__" = some Builtin.«frozenset.__ne__» := entryFor_alias (id' := "frozenset.__ne__") (by kernel_rfl) (by decide +kernel) (by decide +kernel) (by kernel_rfl)
theorem sub_set_set : isSubtype (.type "set") (.type "set") = pure true := by rw [isSubtype_type]; kernel_rfl
theorem sub_set_froz : isSubtype (.type "set") (.type "frozenset") = pure false := by rw [isSubtype_type]; kernel_rfl
theorem set_state {prog : Program} {w : World} {A : Around} {E : Value → Shared → Prop} {s : Shared} {a : Addr} {Q : Array (Int × Value) → Shared → Prop} {o : Obj} {es : Array (Int × Value)} {ep : Nat} {t : SetTable} (ho : s.heap.get? a = some o) (hd : o.data = .set es ep t) (hf : t.fits es.size = true) (q : Q es s) : wpAny (model prog w) A (setEntries a) Q E s := by
  unfold setEntries
  exact wpAny_bind (wpAny_setState_of ho hd hf (wpAny_pure q))
theorem set_epoch {prog : Program} {w : World} {A : Around} {E : Value → Shared → Prop} {s : Shared} {a : Addr} {Q : Nat → Shared → Prop} {o : Obj} {es : Array (Int × Value)} {ep : Nat} {t : SetTable} (ho : s.heap.get? a = some o) (hd : o.data = .set es ep t) (hf : t.fits es.size = true) (q : Q ep s) : wpAny (model prog w) A (setEpoch a) Q E s := by
  unfold setEpoch
  exact wpAny_bind (wpAny_setState_of ho hd hf (wpAny_pure q))
section
variable {prog : Program} {w : World} {K : Type} [DecidableEq K] {knd : KeyKind prog w K} {A : Around} {E : Value → Shared → Prop} {s : Shared}
theorem set_walk {a b : Addr} {Q : List (Int × Value) → Shared → Prop} {o o' : Obj} {es es' : Array (Int × Value)} {ep ep' : Nat} {t t' : SetTable} (ho : s.heap.get? a = some o) (hd : o.data = .set es ep t) (hf : t.fits es.size = true) (hel : ElemsOf knd es.toList)
    (ho' : s.heap.get? b = some o') (hd' : o'.data = .set es' ep' t') (hf' : t'.fits es'.size = true) (hel' : ElemsOf knd es'.toList) (q : Q es.toList s) : wpAny (model prog w) A (Builtin.Frozenset.walkUnseen a b) Q E s := by
  unfold Builtin.Frozenset.walkUnseen
  refine wpAny_bind (set_state ho hd hf ?_)
  refine wpAny_bind (set_state ho' hd' hf' ?_)
  refine wpAny_bind (wpAny_forIn_list _ (fun rest b s' => b.1 = none ∧ s' = s ∧ ElemsOf knd rest) _ ?_ ?_ _ _ ⟨rfl, rfl, ?_⟩)
  · rintro ⟨hh, x⟩ rest bb s' ⟨e1, rfl, el⟩
    obtain ⟨⟨k, hk, _⟩, _⟩ := el.head
    show wpAny _ _ (Builtin.Dict.quietEq x >>= _) _ _ _
    rw [quietEq_of_byValue (knd.byValue k _ hk)]
    refine wpAny_bind (wpAny_pure ?_)
    exact wpAny_pure ⟨rfl, rfl, el.tail⟩
  · rintro ⟨b1, b2⟩ s' ⟨e1, rfl, _⟩
    have e1 : b1 = none := e1
    subst e1
    exact wpAny_pure q
  · intro x hx
    rcases List.mem_append.mp hx with hx | hx
    · exact hel x hx
    · exact hel' x hx
theorem set_sub {a b : Addr} {S S' : K → Bool} {n m : Nat} {nm : String} {r : Bool} {Q : Bool → Shared → Prop} (ha : s.heap.SetOf knd a S n) (hb : s.heap.SetOf knd b S' m) (hnm : n ≤ m) (hr : r = true ↔ ∀ k, S k = true → S' k = true) (q : Q r s) :
    wpAny (model prog w) A (Builtin.Frozenset.subsetOf nm a b) Q E s := by
  obtain ⟨o, es, ep, t, ho, hx, hd, hel, hS, hbnd, hf, hn⟩ := id ha
  obtain ⟨o', es', ep', t', ho', hx', hd', hel', hS', hbnd', hf', hm⟩ := id hb
  unfold Builtin.Frozenset.subsetOf Builtin.Frozenset.sizeOf
  refine wpAny_bind (wpAny_bind (set_state ho hd hf (wpAny_pure ?_)))
  refine wpAny_bind (wpAny_bind (set_state ho' hd' hf' (wpAny_pure ?_)))
  rw [if_neg (by omega)]
  refine wpAny_bind (set_epoch ho hd hf ?_)
  refine wpAny_bind (set_walk ho hd hf hel ho' hd' hf' hel' ?_)
  refine wpAny_bind (wpAny_forIn_list _ (fun rest bb s' => bb.1 = none ∧ s' = s ∧ ElemsOf knd rest ∧ (∀ e ∈ rest, e ∈ es.toList) ∧ ((∀ e ∈ rest, ∀ k, knd.is k e.2 = true → S' k = true) → r = true)) _ ?_ ?_ _ _ ⟨rfl, rfl, hel, fun e he => he, fun h => hr.mpr fun k hk => ?_⟩)
  · rintro ⟨hh, x⟩ rest bb s' ⟨e1, rfl, el, sub, hall⟩
    obtain ⟨⟨k, hk, e⟩, hsc⟩ := el.head
    have e : hh = knd.hash k := e
    subst e
    refine wpAny_bind (wpAny_holding (wpAny_setFind_of hk hsc hb fun rr hrr => ?_))
    cases hSk : S' k with
    | false =>
      rw [hSk] at hrr
      have : rr = none := by cases rr <;> simp_all
      subst this
      refine wpAny_pure ?_
      have hr0 : r = false := by
        cases r with
        | false => rfl
        | true =>
          have := (hr.mp rfl) k ((hS k).mpr ⟨_, sub _ (.head _), hk⟩)
          rw [hSk] at this
          cases this
      subst hr0
      exact wpAny_pure q
    | true =>
      rw [hSk] at hrr
      obtain ⟨z, rfl⟩ := Option.isSome_iff_exists.mp hrr
      show wpAny _ _ (Builtin.Frozenset.unchanged nm a ep >>= _) _ _ _
      unfold Builtin.Frozenset.unchanged
      refine wpAny_bind (wpAny_bind (set_epoch ho hd hf ?_))
      rw [if_neg (by simp)]
      refine wpAny_pure (wpAny_pure ⟨rfl, rfl, el.tail, fun e he => sub e (.tail _ he), fun h => hall fun e he k' hk' => ?_⟩)
      rcases List.mem_cons.mp he with rfl | he
      · rw [knd.inj _ _ _ hk' hk]; exact hSk
      · exact h e he k' hk'
  · rintro ⟨b1, b2⟩ s' ⟨e1, rfl, _, _, hall⟩
    have e1 : b1 = none := e1
    subst e1
    have : r = true := hall (fun e he => by cases he)
    subst this
    exact wpAny_pure q
  · obtain ⟨e, he, hek⟩ := (hS k).mp hk
    exact h e he k hek
theorem set_ne {a b : Addr} {S S' : K → Bool} {n m : Nat} {r : Bool} {Q : Value → Shared → Prop} (ha : s.heap.SetOf knd a S n) (hb : s.heap.SetOf knd b S' m) (hu : A.units < cLine) (hr : r = true ↔ (n = m ∧ ∀ k, S k = true → S' k = true)) (q : Q (.bool (!r)) s) :
    wpAny (model prog w) A (compareOp .NotEq (.ref a) (.ref b)) Q E s := by
  obtain ⟨o, es, ep, t, ho, hx, hd, hel, hS, hbnd, hfit, hn⟩ := id ha
  obtain ⟨o', es', ep', t', ho', hx', hd', hel', hS', hbnd', hfit', hm⟩ := id hb
  refine wpAny_richCompare_same_room (op := .NotEq) ha.typeIs hb.typeIs F.slot_set_ne (wpAny_call_entry F.slot_set_ne ha.typeIs entry_set_ne ?_ (F.args_set_ne_2 _ _)) hu
  show wpAny _ _ (Builtin.Frozenset.slot1 "__ne__" ⟨[.ref a, .ref b], []⟩ >>= _) _ _ s
  refine wpAny_bind ?_
  unfold Builtin.Frozenset.slot1
  show wpAny _ _ (pure (Value.ref a, Value.ref b)) _ _ s
  refine wpAny_pure ?_
  refine wpAny_bind ?_
  unfold Builtin.Frozenset.isAnySet
  refine wpAny_bind (wpAny_isInstance (T := "set") hb.typeIs sub_set_set (wpAny_pure ?_))
  simp only [Bool.not_true, Bool.false_eq_true, if_false]
  refine wpAny_bind (wpAny_pure (wpAny_bind (wpAny_pure ?_)))
  unfold Builtin.Frozenset.sizeOf
  refine wpAny_bind (wpAny_bind (set_state ho hd hfit (wpAny_pure ?_)))
  refine wpAny_bind (wpAny_bind (set_state ho' hd' hfit' (wpAny_pure ?_)))
  by_cases hnm : n = m
  · refine wpAny_bind ?_
    rw [if_neg (by rw [hn, hm, hnm]; simp)]
    refine wpAny_bind (wpAny_bind (wpAny_isInstance (T := "set") ha.typeIs sub_set_froz (wpAny_pure ?_)))
    simp only [Bool.false_eq_true, if_false]
    refine set_sub ha hb (by omega) (r := r) (by rw [hr]; exact ⟨fun h => h.2, fun h => ⟨hnm, h⟩⟩) ?_
    exact wpAny_pure ⟨_, rfl, (fun z => nomatch z), q⟩
  · refine wpAny_bind ?_
    rw [if_pos (by rw [hn, hm]; simpa using hnm)]
    refine wpAny_pure ?_
    have hr0 : r = false := by
      cases r with
      | false => rfl
      | true => exact absurd (hr.mp rfl).1 hnm
    subst hr0
    exact wpAny_pure ⟨_, rfl, (fun z => nomatch z), q⟩
end
/-- a set of ints and texts -/
def setV (P : Program) (w : World) (a : Addr) (S : Key → Bool) (n : Nat) : HO := .ext fun h => h.SetOf (mixKind P w) a S n
theorem setV_ok {P : Program} {w : World} {H : Hp} {h : Heap} {a : Addr} {S : Key → Bool} {n : Nat} (e : h.SetOf (mixKind P w) a S n) : ObjOk P w H h a (setV P w a S n) :=
  ⟨e, let ⟨o, es, ep, t, e1, _⟩ := e; ⟨o, e1⟩, fun h1 h2 ⟨o, es, ep, t, e1, r⟩ k => ⟨o, es, ep, t, k o e1, r⟩⟩
def rNeSet (P : Program) (w : World) : R2 := fun x y H Q => ∃ a b S S' n m r, x = .ref a ∧ y = .ref b ∧ H a = some (setV P w a S n) ∧ H b = some (setV P w b S' m) ∧ (r = true ↔ (n = m ∧ ∀ k, S k = true → S' k = true)) ∧ Q (.bl (!r)) H
theorem op_neSet {X : Cx} (hu : X.A.units < cLine) : OpR X (compareOp .NotEq) (rNeSet X.prog X.w) := by
  intro pins s σ H x y v u Q I rx ry h
  obtain ⟨a, b, S, S', n, m, r, rfl, rfl, ha, hb, hr, q⟩ := h
  cases rx
  cases ry
  obtain ⟨sa, _⟩ := (show ObjOk X.prog X.w H s.heap a (setV X.prog X.w a S n) from I.hok a _ ha)
  obtain ⟨sb, _⟩ := (show ObjOk X.prog X.w H s.heap b (setV X.prog X.w b S' m) from I.hok b _ hb)
  exact set_ne sa sb hu hr ⟨.bl (!r), H, I, rfl, q⟩
end L2

/-! MY RULES: set(list), the list of ints and texts. -/
set_option linter.all false
set_option maxRecDepth 100000
namespace L2
open PySem PySem.Spec PyProof.Rows
def memK (acc : List Key) (k : Key) : Bool := acc.any fun x => decide (x = k)
def addK (acc : List Key) (k : Key) : List Key := if memK acc k = true then acc else acc ++ [k]
def disK (ks : List Key) : List Key := ks.foldl addK []
theorem disK_snoc (ks : List Key) (k : Key) : disK (ks ++ [k]) = addK (disK ks) k := by unfold disK; rw [List.foldl_append]; rfl
theorem addK_mem (acc : List Key) (k x : Key) : memK (addK acc k) x = (memK acc x || decide (x = k)) := by
  unfold addK
  by_cases h : memK acc k = true
  · rw [if_pos h]
    by_cases e : x = k
    · subst e; simp [h]
    · simp [e]
  · rw [if_neg h]
    unfold memK
    rw [List.any_append]
    congr 1
    simp only [List.any_cons, List.any_nil, Bool.or_false]
    exact decide_eq_decide.mpr ⟨fun e => e.symm, fun e => e.symm⟩
theorem addK_length (acc : List Key) (k : Key) : (addK acc k).length = if memK acc k = true then acc.length else acc.length + 1 := by
  unfold addK
  by_cases h : memK acc k = true
  · rw [if_pos h, if_pos h]
  · rw [if_neg h, if_neg h, List.length_append]; rfl
theorem disK_le (ks : List Key) : (disK ks).length ≤ ks.length := by
  have key : ∀ n, (disK (ks.take n)).length ≤ n := by
    intro n
    induction n with
    | zero => simp [disK]
    | succ n ih =>
      rw [List.take_add_one]
      cases h : ks[n]? with
      | none => simp; omega
      | some k =>
        rw [Option.toList_some, disK_snoc, addK_length]
        split <;> omega
  have := key ks.length
  rwa [List.take_length] at this
theorem mix_scan {P : Program} {w : World} {k : Key} {v : Value} (h : (mixKind P w).is k v = true) : v.scannable = true := by
  have := (mixKind P w).byValue k v h
  cases k <;> cases v <;> first | rfl | exact absurd h Bool.false_ne_true
section
variable {prog : Program} {w : World} {A : Around} {R : Result → Shared → Prop} {I l S : Addr} {items : Array Value} {ks : List Key} {h₀ : Heap} {g : Array GenState} {dr : Drawn} {os : OsState}
theorem set_loop (hh : A.handled = none) (hne : l ≠ I) (hSI : S ≠ I) (hSl : S ≠ l) (hlen : items.size = ks.length) (hk : ∀ (i : Nat) (k : Key), ks[i]? = some k → ∃ v, items[i]? = some v ∧ (mixKind prog w).is k v = true) (hb : ks.length + 1 < scanBound) (hl : h₀.IsList l items)
    (fin : ∀ h' tk, h'.SetOf (mixKind prog w) S (memK (disK ks)) (disK ks).length → (∀ b o, b ≠ I → b ≠ S → h₀.get? b = some o → h'.get? b = some o) → R (.ok (.ret .none)) ⟨h', g, dr, tk, os⟩) :
    ∀ (k i : Nat) (h : Heap) (tk : Nat), ks.length - i = k → i ≤ ks.length → h.IsListIter I l i → (∀ b o, b ≠ I → b ≠ S → h₀.get? b = some o → h.get? b = some o) → h.SetOf (mixKind prog w) S (memK (disK (ks.take i))) (disK (ks.take i)).length →
      codeAny (model prog w) A (.builtin "set.update.loop" ⟨[.ref S, .ref I], []⟩) R ⟨h, g, dr, tk, os⟩ := by
  have W := Walks.list (prog := prog) (w := w) (A := A.in1) hh I l hne items
  intro k
  induction k with
  | zero =>
    intro i h tk hk' hi hit kp hS
    have hin : i = items.size := by omega
    refine codeAny_builtin F.entry_set_update_loop ?_
    rw [Around.under_plainId F.plain_set_update_loop _]
    show wpAny _ A.in1 (pyNext (.ref I) >>= _) _ _ _
    refine wpAny_bind (W.done ⟨h, g, dr, tk, os⟩ _ _ (by rw [← hin]; exact ⟨hit, hl.at fun o e => kp l o hne (Ne.symm hSl) e⟩) fun h' tk' kp' => ?_)
    show wpAny _ A.in1 (ret Value.none) _ _ _
    rw [show i = ks.length by omega, List.take_length] at hS
    exact wpAny_pure (fin h' tk' (let ⟨o, es, ep, t, e, r⟩ := hS; ⟨o, es, ep, t, kp' _ _ (by simpa using hSI) e, r⟩) fun b o h1 h2 e => kp' b o (by simpa using h1) (kp b o h1 h2 e))
  | succ k ih =>
    intro i h tk hk' hi hit kp hS
    have hlt : i < items.size := by omega
    obtain ⟨key, hkey⟩ : ∃ p, ks[i]? = some p := ⟨ks[i], List.getElem?_eq_getElem (by omega)⟩
    obtain ⟨v, hv, his⟩ := hk i key hkey
    refine codeAny_builtin F.entry_set_update_loop ?_
    rw [Around.under_plainId F.plain_set_update_loop _]
    show wpAny _ A.in1 (pyNext (.ref I) >>= _) _ _ _
    refine wpAny_bind (W.item i ⟨h, g, dr, tk, os⟩ _ _ hlt ⟨hit, hl.at fun o e => kp l o hne (Ne.symm hSl) e⟩ fun v' h' tk' hv' hst' kp' => ?_)
    have ev : v' = v := by have hv' : items[i]? = some v' := hv'; rw [hv] at hv'; exact (Option.some.inj hv').symm
    subst ev
    have hS' : h'.SetOf (mixKind prog w) S (memK (disK (ks.take i))) (disK (ks.take i)).length := let ⟨o, es, ep, t, e, r⟩ := hS; ⟨o, es, ep, t, kp' _ _ (by simpa using hSI) e, r⟩
    show wpAny _ A.in1 (holding [v'] (setAdd S v') >>= _) _ _ _
    refine wpAny_bind (wpAny_holding ?_)
    unfold setAdd
    refine wpAny_holding ?_
    refine wpAny_bind ((mixKind prog w).pyHash (k := key) his ?_)
    have hroom : (disK (ks.take i)).length + 1 < scanBound := by have := disK_le (ks.take i); rw [List.length_take] at this; omega
    refine wpAny_setAddHashed_of (knd := mixKind prog w) (s := ⟨h', g, dr, tk' + 1, os⟩) his (mix_scan his) hS' hroom fun h2 hsb hS2 => ?_
    refine wpAny_pure ⟨plainId_quiet F.plain_set_update_loop _, ih (i + 1) h2 _ (by omega) (by omega) ?_ ?_ ?_⟩
    · exact hst'.1.at fun o e => (hsb.2 I (Ne.symm hSI)).trans e
    · intro c oc h1 h2' e
      exact (hsb.2 c h2').trans (kp' c oc (by simpa using h1) (kp c oc h1 h2' e))
    · rw [List.take_add_one, hkey, Option.toList_some, disK_snoc]
      have e1 : memK (addK (disK (ks.take i)) key) = fun k' => memK (disK (ks.take i)) k' || decide (k' = key) := funext fun x => addK_mem _ _ _
      rw [e1, addK_length]
      exact hS2
end
section
variable {prog : Program} {w : World} {A : Around} {E : Value → Shared → Prop} {s : Shared}
set_option maxHeartbeats 3200000 in
theorem set_of_list {l : Addr} {items : Array Value} {ks : List Key} {Q : Value → Shared → Prop} (hh : A.handled = none) (hl : s.heap.IsList l items) (hlen : items.size = ks.length) (hk : ∀ (i : Nat) (k : Key), ks[i]? = some k → ∃ v, items[i]? = some v ∧ (mixKind prog w).is k v = true) (hb : ks.length + 1 < scanBound)
    (h : ∀ (h' : Heap) (tk : Nat), h'.SetOf (mixKind prog w) s.heap.objs.size (memK (disK ks)) (disK ks).length → (∀ b o, s.heap.get? b = some o → h'.get? b = some o) → Q (.ref s.heap.objs.size) { s with heap := h', toks := tk }) :
    wpAny (model prog w) A (call (.type "set") [.ref l]) Q E s := by
  obtain ⟨c, tl, hmro⟩ := F.called_set.mro
  have hmade := F.called_set.made
  have hsub := F.called_set.sub
  refine wpAny_call (codeAny_of_tree ?_)
  show wpAny _ _ (callAny (.type "set") _) _ _ _
  refine wpAny_pure ⟨Code.quiet_builtin _ (by decide +kernel), codeAny_builtin F.entry_type_call ?_⟩
  rw [Around.under_plain (weight_type_call_type "set" [.ref l] []) rfl]
  have h1 := F.called_set.notType
  have h2 := F.called_set.canCreate
  have hct := F.typeCall_set_1 (.ref l)
  repeat (any_goals (first | assumption | wp_step))
  refine codeAny_mono (code_set_new_1 (.ref l) (E := E) (Q₁ := fun obj s₁ => ∃ led : Bool, obj = .ref s.heap.objs.size ∧ s₁ = { s with heap := s.heap.push { cls := .type "set", dict := none, data := .set #[] 0 (.fresh 0 0 led) } }) fun led => ⟨led, rfl, rfl⟩) fun r s₁ hr => ?_
  cases r with
  | error e => exact hr
  | ok fl =>
    cases fl with
    | ret obj =>
      obtain ⟨led, rfl, rfl⟩ := hr
      have hS : (s.heap.push { cls := .type "set", dict := none, data := .set #[] 0 (.fresh 0 0 led) }).get? s.heap.objs.size = some { cls := .type "set", dict := none, data := .set #[] 0 (.fresh 0 0 led) } := Heap.get?_push_size _ rfl
      have hT : Shared.TypeIs { s with heap := s.heap.push { cls := .type "set", dict := none, data := .set #[] 0 (.fresh 0 0 led) } } (.ref s.heap.objs.size) "set" := ⟨_, hS, rfl⟩
      have hli := F.called_set.init.lookup
      have hbi := F.called_set.init.bind (.ref s.heap.objs.size)
      repeat (any_goals (first | assumption | wp_step))
      refine codeAny_mono (codeAny_call_builtin (R := wants (fun r s₂ => r = .none ∧ ∃ h' tk, s₂ = { s with heap := h', toks := tk } ∧ h'.SetOf (mixKind prog w) s.heap.objs.size (memK (disK ks)) (disK ks).length ∧ (∀ b o, s.heap.get? b = some o → h'.get? b = some o)) E) F.called_set.init.plain F.entry_set_init (check_set_init_1 hT ?_)) fun r₂ s₂ hr₂ => ?_
      · obtain ⟨ol, hol, hcl, nl, hdl⟩ := hl
        obtain ⟨ocls, odict, odata, oslots⟩ := ol
        simp only at hcl hdl
        subst hcl; subst hdl
        have hol' : (s.heap.push { cls := .type "set", dict := none, data := .set #[] 0 (.fresh 0 0 led) }).get? l = some { cls := .type "list", dict := odict, data := .seq items nl, slots := oslots } := Heap.get?_push_of_some _ hol
        have hsls := F.sub_list_set
        have hslf := F.sub_list_frozenset
        have hne : (Value.type "list" == Value.type "dict") = false := by decide
        have hl1 : (s.heap.push { cls := .type "set", dict := none, data := .set #[] 0 (.fresh 0 0 led) }).IsList l items := ⟨_, hol', rfl, nl, rfl⟩
        unfold Builtin.«set.__init__» noKeywords Builtin.Frozenset.updateFrom
        generalize hPI : pyIter = PI
        wp_walk
        subst hPI
        refine wpAny_pyIter_list hl1 ?_
        refine wpAny_bind (wpAny_runValue ?_)
        have hlS : l < s.heap.objs.size := Heap.lt_size hol
        have hsp : (s.heap.push { cls := .type "set", dict := none, data := .set #[] 0 (.fresh 0 0 led) }).objs.size = s.heap.objs.size + 1 := Heap.size_push ..
        have hS2 : ((s.heap.push { cls := .type "set", dict := none, data := .set #[] 0 (.fresh 0 0 led) }).push { cls := .type "list_iterator", data := .fields #[.ref l, .int 0 0] }).get? s.heap.objs.size = some { cls := .type "set", dict := none, data := .set #[] 0 (.fresh 0 0 led) } := Heap.get?_push_of_some _ hS
        refine set_loop (ks := ks) (items := items) (l := l) (h₀ := (s.heap.push { cls := .type "set", dict := none, data := .set #[] 0 (.fresh 0 0 led) }).push { cls := .type "list_iterator", data := .fields #[.ref l, .int 0 0] }) (by simp [hh]) ?_ ?_ (Nat.ne_of_gt hlS) hlen hk hb (hl1.push _) (fun h' tk' hS' kp => ?_) ks.length 0 _ _ (by omega) (Nat.zero_le _) ⟨_, Heap.get?_push_size _ rfl, rfl, rfl⟩ (fun _ _ _ _ z => z) ?_
        · rw [hsp]; exact Nat.ne_of_lt (Nat.lt_succ_of_lt hlS)
        · rw [hsp]; exact Nat.ne_of_lt (Nat.lt_succ_self _)
        · refine wpAny_pure ?_
          show wpAny _ _ (ret Value.none) _ _ _
          refine wpAny_pure ⟨rfl, h', tk', rfl, hS', fun b o e => ?_⟩
          have hbl := Heap.lt_size e
          exact kp b o (by rw [hsp]; exact Nat.ne_of_lt (Nat.lt_succ_of_lt hbl)) (Nat.ne_of_lt hbl) (Heap.get?_push_of_some _ (Heap.get?_push_of_some _ e))
        · have e0 : (fun _ : Key => false) = memK (disK (ks.take 0)) := by rw [List.take_zero]; rfl
          rw [← e0]
          exact ⟨_, #[], 0, _, hS2, ⟨rfl, rfl, rfl⟩, rfl, (fun e he => by simp at he), (fun k => by simp), (by unfold scanBound; simp), by rfl, by simp [disK]⟩
      · cases r₂ with
        | error e => exact hr₂
        | ok fl₂ =>
          cases fl₂ with
          | ret r =>
            obtain ⟨rfl, h', tk, rfl, hS', hk'⟩ := hr₂
            repeat (any_goals (first | assumption | wp_step))
            exact h _ _ hS' hk'
          | _ => exact hr₂.elim
    | _ => exact hr.elim
end
end L2

/-! MY RULES: a set filled from a dict of few keys; set(list), set(dict) as calls. -/
set_option linter.all false
set_option maxRecDepth 100000
namespace L2
open PySem PySem.Spec PyProof.Rows
theorem room_small {n : Nat} (hn : n ≤ 6) (led : Bool) : (SetTable.fresh 0 0 led).roomFor n = none ∨ ∃ wtd, (SetTable.fresh 0 0 led).roomFor n = some wtd ∧ SetTable.sizeAbove wtd ≤ sizeLine ∧ ∃ t', (SetTable.fresh 0 0 led).relaid #[] wtd = some (t', #[]) ∧ t'.fits 0 = true := by
  have : n = 0 ∨ n = 1 ∨ n = 2 ∨ n = 3 ∨ n = 4 ∨ n = 5 ∨ n = 6 := by omega
  rcases this with rfl | rfl | rfl | rfl | rfl | rfl | rfl
  · exact .inl rfl
  · exact .inl rfl
  · exact .inl rfl
  · exact .inl rfl
  · exact .inl rfl
  · exact .inr ⟨10, rfl, by decide, _, by rfl, by rfl⟩
  · exact .inr ⟨12, rfl, by decide, _, by rfl, by rfl⟩
section
variable {prog : Program} {w : World} {A : Around} {E : Value → Shared → Prop} {s : Shared} {S d : Addr}
theorem set_room {led : Bool} {n : Nat} {Q : Unit → Shared → Prop} (hn : n ≤ 6) (hS : s.heap.get? S = some { cls := .type "set", dict := none, data := .set #[] 0 (.fresh 0 0 led) })
    (q : ∀ h', h'.SetOf (mixKind prog w) S (fun _ => false) 0 → Heap.SameBut S s.heap h' → Q () { s with heap := h' }) : wpAny (model prog w) A (setRoomFor S n) Q E s := by
  have ok0 : s.heap.SetOf (mixKind prog w) S (fun _ => false) 0 := ⟨_, #[], 0, _, hS, ⟨rfl, rfl, rfl⟩, rfl, (fun e he => by simp at he), (fun k => by simp), (by unfold scanBound; simp), by rfl, rfl⟩
  unfold setRoomFor
  refine wpAny_bind (wpAny_setState_of hS rfl (by rfl) ?_)
  rcases room_small hn led with e | ⟨wtd, e, hz, t', e2, hf⟩
  · rw [e]
    exact wpAny_pure (q s.heap ok0 (Heap.SameBut.refl _ _))
  · rw [e]
    show wpAny _ _ (setRelay S wtd) _ _ _
    unfold setRelay
    refine wpAny_bind (wpAny_setState_of hS rfl (by rfl) ?_)
    dsimp only
    rw [if_neg (by omega)]
    rw [show (#[] : Array (Int × Value)).map (·.1) = #[] by simp, e2]
    refine wpAny_bind (wpAny_pure ?_)
    refine wpAny_storeSet_of hS rfl ?_
    exact q _ (SetOf_store hS ⟨rfl, rfl, rfl⟩ rfl (fun e he => by simp at he) (fun k => by simp) (by unfold scanBound; simp) hf).2 (Heap.SameBut.update ..)
theorem set_fill {nm : String} {led : Bool} {ws : List (Key × Value)} {ep : Nat} {Q : Unit → Shared → Prop} (hn : ws.length ≤ 6) (hdS : S ≠ d) (hsys : (d == sysModules) = false) (hd : s.heap.DictAt (mixKind prog w) d ws ep)
    (hS : s.heap.get? S = some { cls := .type "set", dict := none, data := .set #[] 0 (.fresh 0 0 led) })
    (q : ∀ h', h'.SetOf (mixKind prog w) S (memK (disK (ws.map (·.1)))) (disK (ws.map (·.1))).length → Heap.SameBut S s.heap h' → Q () { s with heap := h' }) : wpAny (model prog w) A (Builtin.Frozenset.updateFrom nm S (.ref d)) Q E s := by
  obtain ⟨o, es, ho, hx, hdat, hk, hp, hnd⟩ := id hd
  have ty : s.TypeIs (.ref d) "dict" := ⟨o, ho, hx.1⟩
  have hlen : ws.length = es.size := by rw [← hp.length]; simp
  unfold Builtin.Frozenset.updateFrom Builtin.Frozenset.isAnySet
  refine wpAny_bind (wpAny_bind (wpAny_isInstance (T := "dict") ty F.sub_dict_set ?_))
  refine wpAny_isInstance (T := "dict") ty F.sub_dict_frozenset ?_
  simp only [Bool.false_eq_true, if_false]
  refine wpAny_bind (wpAny_typeOf ty ?_)
  rw [if_pos (by decide)]
  refine wpAny_bind (wpAny_rule (wpAny_bind (wpAny_pure ?_)))
  rw [if_neg (by rw [hsys]; exact Bool.false_ne_true)]
  refine wpAny_bind (wpAny_dictEpoch ho hdat ?_)
  refine wpAny_bind (wpAny_dictEntries ho hdat ?_)
  refine wpAny_bind (set_room (by omega) hS fun h1 hS1 sb1 => ?_)
  have ho1 : h1.get? d = some o := (sb1.2 d (Ne.symm hdS)).trans ho
  refine wpAny_bind (wpAny_dictEntries (s := { s with heap := h1 }) ho1 hdat ?_)
  refine wpAny_bind ?_
  rw [Std.Legacy.Range.forIn_eq_forIn_range']
  simp only [Std.Legacy.Range.size, Nat.sub_zero, Nat.add_sub_cancel, Nat.div_one]
  refine wpAny_forIn_list _ (fun rest _ s' => ∃ h' i, s' = { s with heap := h' } ∧ rest = List.range' i (es.size - i) ∧ i ≤ es.size ∧ h'.SetOf (mixKind prog w) S (memK (disK ((ws.map (·.1)).take i))) (disK ((ws.map (·.1)).take i)).length ∧ h'.get? d = some o ∧ Heap.SameBut S s.heap h') _ ?_ ?_ _ _ ⟨h1, 0, rfl, by simp, Nat.zero_le _, hS1, ho1, sb1⟩
  · rintro x rest b s' ⟨h', i, rfl, hr, hi, hS', ho', hs'⟩
    have hlt : i < es.size := by
      rcases Nat.lt_or_ge i es.size with h | h
      · exact h
      · rw [Nat.sub_eq_zero_of_le h] at hr; simp at hr
    obtain ⟨rfl, hrest⟩ : x = i ∧ rest = List.range' (i + 1) (es.size - (i + 1)) := by
      have e : es.size - i = (es.size - (i + 1)) + 1 := by omega
      rw [e, List.range'_succ] at hr
      injection hr with h1 h2
      exact ⟨h1, h2⟩
    refine wpAny_bind (wpAny_dictEntries ho' hdat ?_)
    rw [Array.getElem?_eq_getElem hlt]
    obtain ⟨⟨k, v⟩, hkv⟩ : ∃ kv, ws[x]? = some kv := ⟨ws[x]'(by rw [hlen]; exact hlt), List.getElem?_eq_getElem _⟩
    obtain ⟨hkey, _⟩ := hp.get? (e := es[x]) (by simp [hlt]) hkv
    obtain ⟨k', hkey', hhash⟩ := hk es[x] (Array.getElem_mem hlt)
    obtain rfl : k' = k := (mixKind prog w).inj _ _ _ hkey' hkey
    show wpAny _ _ (holding [es[x].key] (setAddHashed S es[x].key es[x].hash) >>= _) _ _ _
    rw [hhash]
    have hroom : (disK ((ws.map (·.1)).take x)).length + 1 < scanBound := by
      have := disK_le ((ws.map (·.1)).take x)
      rw [List.length_take, List.length_map] at this
      unfold scanBound
      omega
    refine wpAny_bind (wpAny_holding (wpAny_setAddHashed_of (knd := mixKind prog w) hkey (mix_scan hkey) hS' hroom fun h2 hsb hS2 => ?_))
    have ho2 : h2.get? d = some o := (hsb.2 d (Ne.symm hdS)).trans ho'
    refine wpAny_bind (wpAny_dictEpoch ho2 hdat ?_)
    rw [if_neg (by simp)]
    refine wpAny_pure ⟨h2, x + 1, rfl, hrest, hlt, ?_, ho2, hs'.trans hsb⟩
    have e3 : (ws.map (·.1))[x]? = some k' := by rw [List.getElem?_map, hkv]; rfl
    rw [List.take_add_one, e3, Option.toList_some, disK_snoc]
    have e1 : memK (addK (disK ((ws.map (·.1)).take x)) k') = fun z => memK (disK ((ws.map (·.1)).take x)) z || decide (z = k') := funext fun z => addK_mem _ _ _
    rw [e1, addK_length]
    exact hS2
  · rintro b s' ⟨h', i, rfl, hr, hi, hS', ho', hs'⟩
    have hin : i = es.size := by
      rcases Nat.lt_or_ge i es.size with h | h
      · have e : es.size - i = (es.size - (i + 1)) + 1 := by omega
        rw [e, List.range'_succ] at hr; cases hr
      · omega
    rw [hin, List.take_of_length_le (by rw [List.length_map]; omega)] at hS'
    exact wpAny_pure (q h' hS' hs')
end
end L2

/-! MY RULES: set(list), set(dict) as calls. -/
set_option linter.all false
set_option maxRecDepth 100000
namespace L2
open PySem PySem.Spec PyProof.Rows
section
variable {prog : Program} {w : World} {A : Around} {E : Value → Shared → Prop} {s : Shared}
set_option maxHeartbeats 3200000 in
theorem set_of_dict {d : Addr} {ws : List (Key × Value)} {ep : Nat} {Q : Value → Shared → Prop} (hn : ws.length ≤ 6) (hsys : (d == sysModules) = false) (hd : s.heap.DictAt (mixKind prog w) d ws ep)
    (h : ∀ (h' : Heap) (tk : Nat), h'.SetOf (mixKind prog w) s.heap.objs.size (memK (disK (ws.map (·.1)))) (disK (ws.map (·.1))).length → (∀ b o, s.heap.get? b = some o → h'.get? b = some o) → Q (.ref s.heap.objs.size) { s with heap := h', toks := tk }) :
    wpAny (model prog w) A (call (.type "set") [.ref d]) Q E s := by
  obtain ⟨c, tl, hmro⟩ := F.called_set.mro
  have hmade := F.called_set.made
  have hsub := F.called_set.sub
  refine wpAny_call (codeAny_of_tree ?_)
  show wpAny _ _ (callAny (.type "set") _) _ _ _
  refine wpAny_pure ⟨Code.quiet_builtin _ (by decide +kernel), codeAny_builtin F.entry_type_call ?_⟩
  rw [Around.under_plain (weight_type_call_type "set" [.ref d] []) rfl]
  have h1 := F.called_set.notType
  have h2 := F.called_set.canCreate
  have hct := F.typeCall_set_1 (.ref d)
  repeat (any_goals (first | assumption | wp_step))
  refine codeAny_mono (code_set_new_1 (.ref d) (E := E) (Q₁ := fun obj s₁ => ∃ led : Bool, obj = .ref s.heap.objs.size ∧ s₁ = { s with heap := s.heap.push { cls := .type "set", dict := none, data := .set #[] 0 (.fresh 0 0 led) } }) fun led => ⟨led, rfl, rfl⟩) fun r s₁ hr => ?_
  cases r with
  | error e => exact hr
  | ok fl =>
    cases fl with
    | ret obj =>
      obtain ⟨led, rfl, rfl⟩ := hr
      have hS : (s.heap.push { cls := .type "set", dict := none, data := .set #[] 0 (.fresh 0 0 led) }).get? s.heap.objs.size = some { cls := .type "set", dict := none, data := .set #[] 0 (.fresh 0 0 led) } := Heap.get?_push_size _ rfl
      have hT : Shared.TypeIs { s with heap := s.heap.push { cls := .type "set", dict := none, data := .set #[] 0 (.fresh 0 0 led) } } (.ref s.heap.objs.size) "set" := ⟨_, hS, rfl⟩
      have hli := F.called_set.init.lookup
      have hbi := F.called_set.init.bind (.ref s.heap.objs.size)
      repeat (any_goals (first | assumption | wp_step))
      refine codeAny_mono (codeAny_call_builtin (R := wants (fun r s₂ => r = .none ∧ ∃ h' tk, s₂ = { s with heap := h', toks := tk } ∧ h'.SetOf (mixKind prog w) s.heap.objs.size (memK (disK (ws.map (·.1)))) (disK (ws.map (·.1))).length ∧ (∀ b o, s.heap.get? b = some o → h'.get? b = some o)) E) F.called_set.init.plain F.entry_set_init (check_set_init_1 hT ?_)) fun r₂ s₂ hr₂ => ?_
      · have ld : d < s.heap.objs.size := let ⟨_, _, e, _⟩ := hd; Heap.lt_size e
        have hd1 : (s.heap.push { cls := .type "set", dict := none, data := .set #[] 0 (.fresh 0 0 led) }).DictAt (mixKind prog w) d ws ep := hd.push _
        unfold Builtin.«set.__init__» noKeywords
        generalize hU : Builtin.Frozenset.updateFrom = U
        wp_walk
        subst hU
        refine set_fill (led := led) hn (Nat.ne_of_gt ld) hsys hd1 hS fun h' hS' sb => ?_
        show wpAny _ _ (ret Value.none) _ _ _
        exact wpAny_pure ⟨rfl, h', _, rfl, hS', fun b o e => (sb.2 b (Nat.ne_of_lt (Heap.lt_size e))).trans (Heap.get?_push_of_some _ e)⟩
      · cases r₂ with
        | error e => exact hr₂
        | ok fl₂ =>
          cases fl₂ with
          | ret r =>
            obtain ⟨rfl, h', tk, rfl, hS', hk'⟩ := hr₂
            repeat (any_goals (first | assumption | wp_step))
            exact h _ _ hS' hk'
          | _ => exact hr₂.elim
    | _ => exact hr.elim
end
section
variable {X : Cx}
/-- set(l), set(d) -/
def rSetOf (P : Program) (w : World) (K : PySem.W.Frag) : List V → Hp → VK → Prop := fun vs H Q => ∃ a ks, vs = [V.ref a] ∧ ((SqL K H a ((ks : List Key).map kV) ∧ ks.length ≤ 100) ∨ ∃ kvs, Rd H a (.dK kvs) ∧ kvs.length ≤ 6 ∧ ks = kvs.map (·.1)) ∧ ∀ p, H p = none → Q (.ref p) (upd H p (setV P w p (memK (disK ks)) (disK ks).length))
theorem call_set (hc : X.calm = true) : CallR X (.type "set") (rSetOf X.prog X.w X.K) := by
  intro pins s σ H vs us Q I r h
  obtain ⟨a, ks, rfl, hsrc, q⟩ := h
  obtain ⟨u, rfl, ru⟩ := vals1 r
  cases ru
  have hh : X.A.handled = none := I.ok.hd hc
  have fin : ∀ (h' : Heap) (tk : Nat), h'.SetOf (mixKind X.prog X.w) s.heap.objs.size (memK (disK ks)) (disK ks).length → (∀ b o, s.heap.get? b = some o → h'.get? b = some o) → EP X pins σ Q (.ref s.heap.objs.size) { s with heap := h', toks := tk } := fun h' tk hS kp =>
    ⟨.ref s.heap.objs.size, _, I.laid (t' := tk) (o := setV X.prog X.w s.heap.objs.size (memK (disK ks)) (disK ks).length) kp (Nat.le_refl _) (setV_ok hS), rfl, q _ (I.hok.fresh (Nat.le_refl _))⟩
  rcases hsrc with ⟨hq, hl⟩ | ⟨kvs, hrd, hl, rfl⟩
  · obtain ⟨its, rv, pl, _⟩ := I.list hq
    have hlen := rv.length
    rw [List.length_map] at hlen
    exact set_of_list hh pl.isList (by simpa using hlen.symm) (fun i k hk => by
      obtain ⟨v, e1, e2⟩ := keys_raw (P := X.prog) (w := X.w) rv hk
      exact ⟨v, by simpa using e1, e2⟩) (by unfold scanBound; omega) fin
  · obtain ⟨z, hs, ws, rel, o, es, ep, ho, hx, hd, hk, hp, hn⟩ := dk_rd I.hok hrd
    have e : ws.map (·.1) = kvs.map (·.1) := by
      clear hp hn hk hd hx ho
      have : ∀ {kvs : List (Key × V)} {ws : List (Key × Value)}, KV kvs ws → ws.map (·.1) = kvs.map (·.1) := by
        intro kvs ws r
        unfold KV at r
        induction r with
        | nil => rfl
        | cons r t ih => rw [List.map_cons, List.map_cons, ih, r.1]
      exact this rel
    have ll : ws.length = kvs.length := rel.length.symm
    refine set_of_dict (by omega) hs ⟨o, es, ho, hx, hd, hk, hp, hn⟩ ?_
    rw [e]
    exact fin
end
end L2

set_option Elab.async false
set_option linter.all false
set_option maxRecDepth 100000
set_option maxHeartbeats 4000000
namespace My
open PySem L2
/-! ### the data of k07 -/
inductive Op3 | plus | minus | times
inductive Tm
  | num (z : Int) | place (x : Str) | read (a : Str) (ix : List (Str × Int)) | sum (x : Str) (b : Tm) | pair (k : Op3) (l r : Tm) | guard (x : Str) (lo hi : Int) (l r : Tm)
def encI (e : Str × Int) : PyData := .tuple [.str e.1, .int e.2]
def encIx (ix : List (Str × Int)) : PyData := .list (ix.map encI)
def dep : Tm → Nat
  | .sum _ b => dep b + 1
  | .pair _ l r => max (dep l) (dep r) + 1
  | .guard _ _ _ l r => max (dep l) (dep r) + 1
  | _ => 1
def Sm (z : Int) : Prop := z.natAbs ≤ 10 ^ 32
def NmOk (x : Str) : Prop := x.length ≤ 20 ∧ PyData.strOk x = true
def Good : Tm → Prop
  | .num z => Sm z
  | .place x => NmOk x
  | .read a ix => NmOk a ∧ ix.length ≤ 3 ∧ ∀ e ∈ ix, NmOk e.1 ∧ Sm e.2
  | .sum x b => NmOk x ∧ Good b
  | .pair _ l r => Good l ∧ Good r
  | .guard x lo hi l r => NmOk x ∧ Sm lo ∧ Sm hi ∧ Good l ∧ Good r
theorem dep_pos : ∀ t : Tm, 1 ≤ dep t
  | .num z => by simp [dep]
  | .place x => by simp [dep]
  | .read a ix => by simp [dep]
  | .sum x b => by simp [dep]
  | .pair k l r => by simp [dep]
  | .guard x lo hi l r => by simp [dep]
/-! ### equal data are equal trees -/
/-! ### shape -/
/-! ### texts -/
/-! ### trees with their weight and depth -/
def Axs (A : List Str) : Tm → Prop
  | .num _ => True
  | .place x => x ∈ A
  | .read _ ix => ∀ e ∈ ix, e.1 = "" ∨ e.1 ∈ A
  | .sum x b => x ∈ A ∧ Axs A b
  | .pair _ l r => Axs A l ∧ Axs A r
  | .guard x _ _ l r => x ∈ A ∧ Axs A l ∧ Axs A r
/-! ### good texts -/
/-! ### indexes -/
theorem ix_depth {ix : List (Str × Int)} : PyData.depth (encIx ix) ≤ 2 := by
  have h : ∀ l : List (Str × Int), PyData.depthAll (l.map encI) ≤ 1 := by
    intro l
    induction l with
    | nil => simp [PyData.depthAll]
    | cons e r ih => simp [encI, PyData.depthAll, PyData.depth] at *; omega
  have := h ix
  simp only [encIx, PyData.depth]
  omega
theorem ix_cnt {ix : List (Str × Int)} : cnt (encIx ix) ≤ 1 + 3 * ix.length := by
  have h : ∀ l : List (Str × Int), cntAll (l.map encI) ≤ 3 * l.length := by
    intro l
    induction l with
    | nil => simp [cntAll]
    | cons e r ih => simp only [encI, cntAll, cnt, List.map_cons, List.length_cons] at *; omega
  have := h ix
  simp only [encIx, cnt]
  omega
/-! ### how many pairs -/
/-! ### what a tree's tuple holds -/
section
variable {G : Hp} {v : V}
theorem inv_ix {e : Str × Int} (h : Rep G v (encI e)) : ∃ p, v = .ref p ∧ G p = some (.tup [.str e.1, .int e.2]) := by
  obtain ⟨p, xs, rfl, q, r⟩ := rep_tup (show Rep G v (.tuple [.str e.1, .int e.2]) from h)
  obtain ⟨a, r1, rfl, ha, r⟩ := reps_cons r
  obtain ⟨b, r2, rfl, hb, r⟩ := reps_cons r
  cases reps_nil r
  cases rep_str ha
  cases rep_int hb
  exact ⟨p, rfl, q⟩
end
end My

set_option Elab.async false
set_option linter.all false
set_option maxRecDepth 100000
set_option maxHeartbeats 4000000
namespace My
open PySem L2
/-! ### what a tree reads -/
def cellM (f : Str → Int) (ix : List (Str × Int)) : List Int := ix.map fun (e : Str × Int) => if e.1 = ("" : Str) then e.2 else f e.1 + e.2
def setA (f : Str → Int) (x : Str) (k : Int) : Str → Int := fun y => if y = x then k else f y
def rd (len : Str → Int) : Tm → (Str → Int) → List (Str × List Int)
  | .num _, _ => []
  | .place _, _ => []
  | .read a ix, f => [(a, cellM f ix)]
  | .sum x b, f => (List.range (len x).toNat).flatMap fun (k : Nat) => rd len b (setA f x (k : Int))
  | .pair _ l r, f => rd len l f ++ rd len r f
  | .guard x lo hi l r, f => if lo ≤ f x ∧ f x < hi then rd len l f else rd len r f
def Fv : Tm → Str → Prop
  | .num _, _ => False
  | .place x, y => y = x
  | .read _ ix, y => y ≠ "" ∧ ∃ e ∈ ix, e.1 = y
  | .sum x b, y => y ≠ x ∧ Fv b y
  | .pair _ l r, y => Fv l y ∨ Fv r y
  | .guard x _ _ l r, y => y = x ∨ Fv l y ∨ Fv r y
/-- the int that a dict holds at a text -/
def ai (kvs : List (Key × V)) (x : Str) : Int := match valV kvs (Sum.inr x) with | some (.int i) => i | _ => 0
theorem ai_of {kvs : List (Key × V)} {x : Str} {i : Int} (h : valV kvs (Sum.inr x) = some (.int i)) : ai kvs x = i := by unfold ai; rw [h]
/-- the axes that a tree asks for are there -/
def AtOk (kvs : List (Key × V)) (t : Tm) : Prop := ∀ x, Fv t x → valV kvs (Sum.inr x) = some (.int (ai kvs x))
def LenOk (A : List Str) (lk : List (Key × V)) : Prop := ∀ x ∈ A, valV lk (Sum.inr x) = some (.int (ai lk x)) ∧ 1 ≤ ai lk x ∧ ai lk x ≤ 60
/-! ### reads on the heap -/
end My

namespace My
/-- the cells of one length more -/
def lenM (cs : List (List Int)) (n : Int) : List (List Int) := cs.flatMap fun c => (List.range n.toNat).map fun (k : Nat) => c ++ [(k : Int)]
def cellsM (ls : List Int) : List (List Int) := ls.foldl lenM [[]]
def prodL (ls : List Int) : Int := ls.foldl (· * ·) 1
theorem cellsM_snoc (ls : List Int) (n : Int) : cellsM (ls ++ [n]) = lenM (cellsM ls) n := by
  unfold cellsM; rw [List.foldl_append]; rfl
theorem prodL_snoc (ls : List Int) (n : Int) : prodL (ls ++ [n]) = prodL ls * n := by
  unfold prodL; rw [List.foldl_append]; rfl
theorem lenM_length (cs : List (List Int)) (n : Int) : (lenM cs n).length = cs.length * n.toNat := by
  induction cs with
  | nil => simp [lenM]
  | cons c r ih =>
    have : lenM (c :: r) n = ((List.range n.toNat).map fun (k : Nat) => c ++ [(k : Int)]) ++ lenM r n := by simp [lenM]
    rw [this, List.length_append, ih, List.length_map, List.length_range, List.length_cons, Nat.succ_mul]; omega
/-- one tuple stands ahead of the other -/
def Ahead (xs ys : List Int) : Prop := ∃ (j : Nat) (x y : Int), xs[j]? = some x ∧ ys[j]? = some y ∧ x < y ∧ ∀ i : Nat, i < j → xs[i]? = ys[i]?
theorem Ahead.snoc {xs ys : List Int} (h : Ahead xs ys) (a b : Int) : Ahead (xs ++ [a]) (ys ++ [b]) := by
  obtain ⟨j, x, y, h1, h2, h3, h4⟩ := h
  have l1 : j < xs.length := (List.getElem?_eq_some_iff.mp h1).1
  have l2 : j < ys.length := (List.getElem?_eq_some_iff.mp h2).1
  refine ⟨j, x, y, ?_, ?_, h3, fun i hi => ?_⟩
  · rw [List.getElem?_append_left l1]; exact h1
  · rw [List.getElem?_append_left l2]; exact h2
  · rw [List.getElem?_append_left (by omega), List.getElem?_append_left (by omega)]; exact h4 i hi
theorem Ahead.last (xs : List Int) {a b : Int} (h : a < b) : Ahead (xs ++ [a]) (xs ++ [b]) := by
  refine ⟨xs.length, a, b, by simp, by simp, h, fun i hi => ?_⟩
  rw [List.getElem?_append_left hi, List.getElem?_append_left hi]
/-- the cell lies within the lengths -/
def Within (c ls : List Int) : Prop := c.length = ls.length ∧ ∀ (k : Nat) (x n : Int), c[k]? = some x → ls[k]? = some n → 0 ≤ x ∧ x < n
theorem Within.snoc {c ls : List Int} {n : Int} {k : Nat} (h : Within c ls) (hk : (k : Int) < n) : Within (c ++ [(k : Int)]) (ls ++ [n]) := by
  obtain ⟨hl, hw⟩ := h
  refine ⟨by simp [hl], fun i x m hx hm => ?_⟩
  by_cases hi : i < c.length
  · rw [List.getElem?_append_left hi] at hx
    rw [List.getElem?_append_left (by omega)] at hm
    exact hw i x m hx hm
  · have : i = c.length := by
      have := (List.getElem?_eq_some_iff.mp hx).1
      simp at this; omega
    subst this
    rw [List.getElem?_append_right (Nat.le_refl _)] at hx
    rw [hl, List.getElem?_append_right (Nat.le_refl _)] at hm
    simp at hx hm
    omega
theorem mem_lenM {cs : List (List Int)} {n : Int} {c : List Int} (h : c ∈ lenM cs n) : ∃ b ∈ cs, ∃ k : Nat, k < n.toNat ∧ c = b ++ [(k : Int)] := by
  unfold lenM at h
  obtain ⟨b, hb, h2⟩ := List.mem_flatMap.mp h
  obtain ⟨k, hk, e⟩ := List.mem_map.mp h2
  exact ⟨b, hb, k, List.mem_range.mp hk, e.symm⟩
theorem cells_within : ∀ (ls : List Int), ∀ c ∈ cellsM ls, Within c ls := by
  intro ls
  have key : ∀ (m : Nat) (ls : List Int), ls.length = m → ∀ c ∈ cellsM ls, Within c ls := by
    intro m
    induction m with
    | zero =>
      intro ls hl c hc
      have : ls = [] := List.length_eq_zero_iff.mp hl
      subst this
      have : c = [] := by simpa [cellsM] using hc
      subst this
      exact ⟨rfl, fun k x n hx _ => by simp at hx⟩
    | succ m ih =>
      intro ls hl c hc
      obtain ⟨init, n, rfl⟩ : ∃ init n, ls = init ++ [n] := ⟨ls.dropLast, ls.getLast (by intro e; simp [e] at hl), (List.dropLast_concat_getLast _).symm⟩
      rw [cellsM_snoc] at hc
      obtain ⟨b, hb, k, hk, rfl⟩ := mem_lenM hc
      exact (ih init (by simp at hl; omega) b hb).snoc (by omega)
  exact key _ ls rfl
theorem lenM_sorted {cs : List (List Int)} {n : Int} (h : cs.Pairwise Ahead) : (lenM cs n).Pairwise Ahead := by
  induction cs with
  | nil => simp [lenM]
  | cons c r ih =>
    have e : lenM (c :: r) n = ((List.range n.toNat).map fun (k : Nat) => c ++ [(k : Int)]) ++ lenM r n := by simp [lenM]
    rw [e, List.pairwise_append]
    obtain ⟨h1, h2⟩ := List.pairwise_cons.mp h
    refine ⟨?_, ih h2, fun x hx y hy => ?_⟩
    · rw [List.pairwise_map]
      exact List.pairwise_lt_range.imp fun {a b} hab => Ahead.last c (by omega)
    · obtain ⟨k, _, rfl⟩ := List.mem_map.mp hx
      obtain ⟨b, hb, j, _, rfl⟩ := mem_lenM hy
      exact (h1 b hb).snoc _ _
theorem cells_sorted (ls : List Int) : (cellsM ls).Pairwise Ahead := by
  have key : ∀ (m : Nat) (ls : List Int), ls.length = m → (cellsM ls).Pairwise Ahead := by
    intro m
    induction m with
    | zero =>
      intro ls hl
      have : ls = [] := List.length_eq_zero_iff.mp hl
      subst this
      simp [cellsM]
    | succ m ih =>
      intro ls hl
      obtain ⟨init, n, rfl⟩ : ∃ init n, ls = init ++ [n] := ⟨ls.dropLast, ls.getLast (by intro e; simp [e] at hl), (List.dropLast_concat_getLast _).symm⟩
      rw [cellsM_snoc]
      exact lenM_sorted (ih init (by simp at hl; omega))
  exact key _ ls rfl
theorem cells_length (ls : List Int) (h : ∀ n ∈ ls, 1 ≤ n) : ((cellsM ls).length : Int) = prodL ls ∧ 1 ≤ prodL ls := by
  have key : ∀ (m : Nat) (ls : List Int), ls.length = m → (∀ n ∈ ls, 1 ≤ n) → ((cellsM ls).length : Int) = prodL ls ∧ 1 ≤ prodL ls := by
    intro m
    induction m with
    | zero =>
      intro ls hl _
      have : ls = [] := List.length_eq_zero_iff.mp hl
      subst this
      simp [cellsM, prodL]
    | succ m ih =>
      intro ls hl hp
      obtain ⟨init, n, rfl⟩ : ∃ init n, ls = init ++ [n] := ⟨ls.dropLast, ls.getLast (by intro e; simp [e] at hl), (List.dropLast_concat_getLast _).symm⟩
      obtain ⟨h1, h2⟩ := ih init (by simp at hl; omega) fun n hn => hp n (by simp [hn])
      have h3 : 1 ≤ n := hp n (by simp)
      rw [cellsM_snoc, prodL_snoc, lenM_length]
      have e : ((n.toNat : Nat) : Int) = n := by omega
      refine ⟨by rw [Int.natCast_mul, h1, e], ?_⟩
      have := Int.mul_le_mul h2 h3 (by omega) (by omega)
      simpa using this
  exact key _ ls rfl h
/-- what the law's lengths keep to -/
structure GoodL (ls : List Int) : Prop where
  pos : ∀ n ∈ ls, 1 ≤ n ∧ n ≤ 60
  few : ls.length ≤ 8
  most : prodL ls ≤ 4000
theorem prod_take_le (ls : List Int) (h : ∀ n ∈ ls, 1 ≤ n) (i : Nat) : 1 ≤ prodL (ls.take i) ∧ prodL (ls.take i) ≤ prodL ls := by
  have a := (cells_length (ls.take i) fun n hn => h n (List.mem_of_mem_take hn)).2
  refine ⟨a, ?_⟩
  have b := (cells_length (ls.drop i) fun n hn => h n (List.mem_of_mem_drop hn)).2
  have gen : ∀ (ys : List Int) (x : Int), ys.foldl (· * ·) x = x * prodL ys := by
    intro ys
    induction ys with
    | nil => intro x; simp [prodL]
    | cons y r ih => intro x; simp only [prodL, List.foldl_cons] at ih ⊢; rw [ih, ih (1 * y), Int.one_mul, Int.mul_assoc]
  have e : prodL ls = prodL (ls.take i) * prodL (ls.drop i) := by
    have := gen (ls.drop i) (prodL (ls.take i))
    rw [← this]
    unfold prodL
    rw [← List.foldl_append, List.take_append_drop]
  rw [e]
  have := Int.mul_le_mul_of_nonneg_left b (show (0 : Int) ≤ prodL (ls.take i) by omega)
  simpa using this
theorem cellsM_take_succ {ls : List Int} {i : Nat} {n : Int} (h : ls[i]? = some n) : cellsM (ls.take (i + 1)) = lenM (cellsM (ls.take i)) n := by
  rw [List.take_add_one, h]; exact cellsM_snoc _ _
end My
namespace My
open PySem L2
/-! ### the cells by their places -/
def prR : List Int → Int
  | [] => 1
  | n :: r => n * prR r
def lawC : List Int → Int → Int → List Int
  | [], _, _ => []
  | n :: r, rest, place => (place / (rest / n) % n) :: lawC r (rest / n) place
theorem foldl_mul (ls : List Int) : ∀ a : Int, ls.foldl (· * ·) a = a * prR ls := by
  induction ls with
  | nil => intro a; simp [prR]
  | cons n r ih => intro a; rw [List.foldl_cons, ih, prR, Int.mul_assoc]
theorem prodL_eq (ls : List Int) : prodL ls = prR ls := by
  unfold prodL
  rw [foldl_mul, Int.one_mul]
theorem prR_pos : ∀ {ls : List Int}, (∀ n ∈ ls, 1 ≤ n) → 1 ≤ prR ls
  | [], _ => by simp [prR]
  | n :: r, h => by
    have h1 := h n (.head _)
    have h2 := prR_pos (ls := r) fun m hm => h m (.tail _ hm)
    rw [prR]
    have : 1 * 1 ≤ n * prR r := Int.mul_le_mul h1 h2 (by omega) (by omega)
    omega
theorem lawC_snoc {n q k : Int} (hn : 1 ≤ n) (hq : 0 ≤ q) (hk : 0 ≤ k) (hkn : k < n) : ∀ {ls : List Int}, (∀ m ∈ ls, 1 ≤ m) → lawC (ls ++ [n]) (prR ls * n) (q * n + k) = lawC ls (prR ls) q ++ [k]
  | [], _ => by
    have e : (1 * n) / n = 1 := by rw [Int.one_mul]; exact Int.ediv_self (by omega)
    show [(q * n + k) / (1 * n / n) % n] = [k]
    rw [e, Int.ediv_one, Int.add_comm, Int.add_mul_emod_self_right, Int.emod_eq_of_lt hk hkn]
  | m :: r, h => by
    have hm := h m (.head _)
    have hr := prR_pos (ls := r) fun x hx => h x (.tail _ hx)
    have e1 : prR (m :: r) * n / m = prR r * n := by rw [prR, Int.mul_assoc]; exact Int.mul_ediv_cancel_left _ (by omega)
    have e2 : prR (m :: r) / m = prR r := by rw [prR]; exact Int.mul_ediv_cancel_left _ (by omega)
    show ((q * n + k) / (prR (m :: r) * n / m) % m) :: lawC (r ++ [n]) (prR (m :: r) * n / m) (q * n + k) = ((q / (prR (m :: r) / m) % m) :: lawC r (prR (m :: r) / m) q) ++ [k]
    rw [e1, e2, lawC_snoc hn hq hk hkn fun x hx => h x (.tail _ hx)]
    have e3 : (q * n + k) / (prR r * n) = q / prR r := by
      rw [Int.mul_comm (prR r) n, ← Int.ediv_ediv_of_nonneg (by omega), Int.add_comm, Int.add_mul_ediv_right _ _ (by omega), Int.ediv_eq_zero_of_lt hk hkn, Int.zero_add]
    rw [e3]
    rfl
theorem range_flat (a b : Nat) : List.range (a * b) = (List.range a).flatMap fun q => (List.range b).map fun k => q * b + k := by
  induction a with
  | zero => simp
  | succ a ih => rw [Nat.succ_mul, List.range_add, ih, List.range_succ, List.flatMap_append]; simp
theorem cells_law {ls : List Int} (h : ∀ n ∈ ls, 1 ≤ n) : (List.range (prR ls).toNat).map (fun (p : Nat) => lawC ls (prR ls) (p : Int)) = cellsM ls := by
  have key : ∀ (m : Nat) (ls : List Int), ls.length = m → (∀ n ∈ ls, 1 ≤ n) → (List.range (prR ls).toNat).map (fun (p : Nat) => lawC ls (prR ls) (p : Int)) = cellsM ls := by
    intro m
    induction m with
    | zero =>
      intro ls hl _
      have : ls = [] := List.length_eq_zero_iff.mp hl
      subst this
      rfl
    | succ m ih =>
      intro ls hl h
      obtain ⟨r, n, rfl⟩ : ∃ r n, ls = r ++ [n] := ⟨ls.dropLast, ls.getLast (by intro z; rw [z] at hl; cases hl), (List.dropLast_concat_getLast _).symm⟩
      have hr : ∀ x ∈ r, 1 ≤ x := fun x hx => h x (List.mem_append_left _ hx)
      have hn : 1 ≤ n := h n (by simp)
      have e : prR (r ++ [n]) = prR r * n := by rw [← prodL_eq, prodL_snoc, prodL_eq]
      have pr := prR_pos hr
      have et : (prR r * n).toNat = (prR r).toNat * n.toNat := Int.toNat_mul (by omega) (by omega)
      rw [cellsM_snoc, ← ih r (by simpa using hl) hr, e, et, range_flat, List.map_flatMap]
      unfold lenM
      rw [List.flatMap_map]
      congr 1
      funext q
      rw [List.map_map]
      refine List.map_congr_left fun k hk => ?_
      have hk := List.mem_range.mp hk
      show lawC (r ++ [n]) (prR r * n) ((q * n.toNat + k : Nat) : Int) = _
      have e2 : ((q * n.toNat + k : Nat) : Int) = (q : Int) * n + k := by rw [Int.natCast_add, Int.natCast_mul, Int.toNat_of_nonneg (by omega)]
      rw [e2]
      exact lawC_snoc hn (by omega) (by omega) (by omega) hr
  exact key _ ls rfl h
/-! ### the order -/
structure Rw where
  own : List Str
  sums : List Str
  so : List Int
  ss : List Int
abbrev Stp := Int × Str × List Int × List Int
def stepsCell (k : Int) (ss : List Int) (c : List Int) : List Stp := if ss = [] then [(k, "set", c, [])] else (k, "start", c, []) :: (cellsM ss).map fun u => (k, "add", c, u)
def stepsLine (k : Int) (e : Rw) : List Stp := (cellsM e.so).flatMap (stepsCell k e.ss)
def lineAt (rows : List Rw) (k : Nat) : List Stp := match rows[k]? with
  | some e => stepsLine k e
  | none => []
def orderM (rows : List Rw) (i : Nat) : List Stp := (List.range i).flatMap (lineAt rows)
theorem orderM_succ {rows : List Rw} {i : Nat} {e : Rw} (h : rows[i]? = some e) : orderM rows (i + 1) = orderM rows i ++ stepsLine i e := by
  unfold orderM
  rw [List.range_succ, List.flatMap_append, List.flatMap_singleton]
  unfold lineAt
  rw [h]
theorem flat_le {α β : Type} {f : α → List β} {B : Nat} : ∀ {l : List α}, (∀ x ∈ l, (f x).length ≤ B) → (l.flatMap f).length ≤ l.length * B
  | [], _ => by simp
  | x :: r, h => by
    have h1 := h x (.head _)
    have h2 := flat_le (l := r) fun y hy => h y (.tail _ hy)
    rw [List.flatMap_cons, List.length_append, List.length_cons, Nat.add_mul]
    omega
/-- what a row keeps to -/
structure RwOk (e : Rw) : Prop where
  go : GoodL e.so
  gs : GoodL e.ss
  po : prodL e.so ≤ 60
  ps : prodL e.ss ≤ 60
  lo : e.own.length = e.so.length
  ls : e.sums.length = e.ss.length
theorem RwOk.cells {e : Rw} (h : RwOk e) : (cellsM e.so).length ≤ 60 ∧ (cellsM e.ss).length ≤ 60 := by
  have h1 := (cells_length e.so fun n hn => (h.go.pos n hn).1).1
  have h2 := (cells_length e.ss fun n hn => (h.gs.pos n hn).1).1
  have := h.po
  have := h.ps
  omega
theorem cell_le {k : Int} {e : Rw} (h : RwOk e) (c : List Int) : (stepsCell k e.ss c).length ≤ 61 := by
  have := h.cells.2
  unfold stepsCell
  split
  · simp
  · simp; omega
theorem line_le61 {k : Int} {e : Rw} (h : RwOk e) : (stepsLine k e).length ≤ 3660 := by
  have h1 := flat_le (l := cellsM e.so) (f := stepsCell k e.ss) (B := 61) fun c _ => cell_le h c
  have h2 := h.cells.1
  have : (cellsM e.so).length * 61 ≤ 60 * 61 := Nat.mul_le_mul_right _ h2
  unfold stepsLine
  omega
theorem part_le61 {k : Int} {e : Rw} (h : RwOk e) (j : Nat) : (((cellsM e.so).take j).flatMap (stepsCell k e.ss)).length ≤ 3660 := by
  have h1 := flat_le (l := (cellsM e.so).take j) (f := stepsCell k e.ss) (B := 61) fun c _ => cell_le h c
  have h2 := h.cells.1
  have h3 : ((cellsM e.so).take j).length ≤ 60 := by rw [List.length_take]; omega
  have : ((cellsM e.so).take j).length * 61 ≤ 60 * 61 := Nat.mul_le_mul_right _ h3
  omega
theorem order_le {rows : List Rw} (h : ∀ e ∈ rows, RwOk e) (i : Nat) : (orderM rows i).length ≤ i * 3660 := by
  have := flat_le (l := List.range i) (f := lineAt rows) (B := 3660) fun k _ => by
    unfold lineAt
    split
    · rename_i e he
      exact line_le61 (h e (List.mem_of_getElem? he))
    · simp
  rw [List.length_range] at this
  exact this
end My
namespace My
open PySem L2
/-- what a step keeps to -/
def StOk (s : Stp) : Prop := PyData.strOk s.2.1 = true ∧ s.2.2.1.length ≤ 8 ∧ s.2.2.2.length ≤ 8
theorem order_ok {rows : List Rw} (h : ∀ e ∈ rows, RwOk e) {i : Nat} : ∀ s ∈ orderM rows i, StOk s := by
  intro s hs
  unfold orderM at hs
  obtain ⟨k, _, hs⟩ := List.mem_flatMap.mp hs
  unfold lineAt at hs
  split at hs
  · rename_i e he
    have ok := h e (List.mem_of_getElem? he)
    have fo := ok.go.few
    have fs := ok.gs.few
    unfold stepsLine at hs
    obtain ⟨c, hc, hs⟩ := List.mem_flatMap.mp hs
    have lc := (cells_within _ c hc).1
    unfold stepsCell at hs
    split at hs
    · have e := List.mem_singleton.mp hs
      subst e
      exact ⟨(by show PyData.strOk ("set" : Str) = true; decide +kernel), by show c.length ≤ 8; omega, by simp⟩
    · rcases List.mem_cons.mp hs with e | hs
      · subst e
        exact ⟨(by show PyData.strOk ("start" : Str) = true; decide +kernel), by show c.length ≤ 8; omega, by simp⟩
      · obtain ⟨u, hu, e⟩ := List.mem_map.mp hs
        subst e
        have lu := (cells_within _ u hu).1
        exact ⟨(by show PyData.strOk ("add" : Str) = true; decide +kernel), by show c.length ≤ 8; omega, by show u.length ≤ 8; omega⟩
  · cases hs
end My

set_option Elab.async false
set_option linter.all false
set_option maxRecDepth 100000
set_option maxHeartbeats 4000000
namespace My
open PySem L2
def top (i : Nat) : Stmt := PySem.Challenge.pw_arrayloom_k22_turns_in_row_order.main.body.getD i (.Pass ⟨0, 0, 0, 0⟩)
abbrev s_cells_of : Stmt := top 5
abbrev s_lengthened : Stmt := top 6
abbrev s_copied : Stmt := top 8
abbrev s_copied_dict : Stmt := top 9
abbrev s_Let_init : Stmt := inClass (top 11) 0
abbrev s_Program_init : Stmt := inClass (top 12) 0
abbrev s_table_names : Stmt := top 13
abbrev s_lengths_of : Stmt := top 14
abbrev s_lengths_along : Stmt := top 15
abbrev s_cells_along : Stmt := top 16
abbrev s_World_init : Stmt := inClass (top 18) 0
abbrev s_Number_init : Stmt := inClass (top 20) 0
abbrev s_Number_worth : Stmt := inClass (top 20) 1
abbrev s_Read_init : Stmt := inClass (top 21) 0
abbrev s_Read_cell_at : Stmt := inClass (top 21) 1
abbrev s_Read_worth : Stmt := inClass (top 21) 2
abbrev s_index_at : Stmt := top 22
abbrev s_Pair_init : Stmt := inClass (top 23) 0
abbrev s_Pair_worth : Stmt := inClass (top 23) 1
abbrev s_Plus_joined : Stmt := inClass (top 24) 0
abbrev s_Times_joined : Stmt := inClass (top 25) 0
abbrev s_Guard_init : Stmt := inClass (top 26) 0
abbrev s_Guard_lets_in : Stmt := inClass (top 26) 1
abbrev s_Guard_looked_at : Stmt := inClass (top 26) 3
abbrev s_Guard_worth : Stmt := inClass (top 26) 4
abbrev s_GrowingWorld_put : Stmt := inClass (top 28) 0
abbrev s_meaning : Stmt := top 29
abbrev s_look_tables : Stmt := top 30
abbrev s_put_tables : Stmt := top 31
abbrev s_put_let : Stmt := top 32
abbrev s_rows_of : Stmt := top 33
abbrev s_l_cell_at : Stmt := top 35
abbrev s_l_list : Stmt := top 36
abbrev s_l_number : Stmt := top 37
abbrev s_l_due : Stmt := top 38
abbrev s_l_told : Stmt := top 39
abbrev s_law : Stmt := top 40
/-- what isinstance asks of an own class -/
structure TyC (K : PySem.W.Frag) (C : Addr) : Prop where
  ha : PySem.W.findIn K (.ref C) "__class__" = some (some (.builtin "object.__class__"))
  hn : PySem.W.specialIn K (.builtin "object.__class__") "__get__" = some (some (.builtin "getset_descriptor.__get__"))
  htk : PySem.W.takesIn K (.builtin "object.__class__") = some true
  hm : PySem.W.mroIn K C (.type "object") = some true
structure Adr where
  C_LoomError : Addr
  C_NoTable : Addr
  C_Let : Addr
  C_Program : Addr
  C_World : Addr
  C_Term : Addr
  C_Number : Addr
  C_Read : Addr
  C_Pair : Addr
  C_Plus : Addr
  C_Times : Addr
  C_Guard : Addr
  C_GrowingWorld : Addr
  f_cells_of : Addr
  d_cells_of : FuncData
  f_lengthened : Addr
  d_lengthened : FuncData
  f_copied : Addr
  d_copied : FuncData
  f_copied_dict : Addr
  d_copied_dict : FuncData
  f_Let_init : Addr
  d_Let_init : FuncData
  f_Program_init : Addr
  d_Program_init : FuncData
  f_table_names : Addr
  d_table_names : FuncData
  f_lengths_of : Addr
  d_lengths_of : FuncData
  f_lengths_along : Addr
  d_lengths_along : FuncData
  f_cells_along : Addr
  d_cells_along : FuncData
  f_World_init : Addr
  d_World_init : FuncData
  f_Number_init : Addr
  d_Number_init : FuncData
  f_Number_worth : Addr
  d_Number_worth : FuncData
  f_Read_init : Addr
  d_Read_init : FuncData
  f_Read_cell_at : Addr
  d_Read_cell_at : FuncData
  f_Read_worth : Addr
  d_Read_worth : FuncData
  f_index_at : Addr
  d_index_at : FuncData
  f_Pair_init : Addr
  d_Pair_init : FuncData
  f_Pair_worth : Addr
  d_Pair_worth : FuncData
  f_Plus_joined : Addr
  d_Plus_joined : FuncData
  f_Times_joined : Addr
  d_Times_joined : FuncData
  f_Guard_init : Addr
  d_Guard_init : FuncData
  f_Guard_lets_in : Addr
  d_Guard_lets_in : FuncData
  f_Guard_looked_at : Addr
  d_Guard_looked_at : FuncData
  f_Guard_worth : Addr
  d_Guard_worth : FuncData
  f_GrowingWorld_put : Addr
  d_GrowingWorld_put : FuncData
  f_meaning : Addr
  d_meaning : FuncData
  f_look_tables : Addr
  d_look_tables : FuncData
  f_put_tables : Addr
  d_put_tables : FuncData
  f_put_let : Addr
  d_put_let : FuncData
  f_rows_of : Addr
  d_rows_of : FuncData
  f_l_cell_at : Addr
  d_l_cell_at : FuncData
  f_l_list : Addr
  d_l_list : FuncData
  f_l_number : Addr
  d_l_number : FuncData
  f_l_due : Addr
  d_l_due : FuncData
  f_l_told : Addr
  d_l_told : FuncData
  f_law : Addr
  d_law : FuncData
structure Txt (K : PySem.W.Frag) (mg : Str → Option Value) (t : Adr) : Prop where
  F_cells_of : Fun K "cells_of" "cells_of" s_cells_of t.f_cells_of t.d_cells_of
  m_cells_of : mg "cells_of" = some (.ref t.f_cells_of)
  b_cells_of : Binds K t.d_cells_of ["lengths"] []
  F_lengthened : Fun K "lengthened" "lengthened" s_lengthened t.f_lengthened t.d_lengthened
  m_lengthened : mg "lengthened" = some (.ref t.f_lengthened)
  b_lengthened : Binds K t.d_lengthened ["cells", "length"] []
  F_copied : Fun K "copied" "copied" s_copied t.f_copied t.d_copied
  m_copied : mg "copied" = some (.ref t.f_copied)
  b_copied : Binds K t.d_copied ["value"] []
  F_copied_dict : Fun K "copied_dict" "copied_dict" s_copied_dict t.f_copied_dict t.d_copied_dict
  m_copied_dict : mg "copied_dict" = some (.ref t.f_copied_dict)
  b_copied_dict : Binds K t.d_copied_dict ["value"] []
  F_Let_init : Fun K "__init__" "Let.__init__" s_Let_init t.f_Let_init t.d_Let_init
  b_Let_init : Binds K t.d_Let_init ["self", "name", "axes", "term"] []
  F_Program_init : Fun K "__init__" "Program.__init__" s_Program_init t.f_Program_init t.d_Program_init
  b_Program_init : Binds K t.d_Program_init ["self", "wheel", "axes", "tables", "lets", "outs"] []
  F_table_names : Fun K "table_names" "table_names" s_table_names t.f_table_names t.d_table_names
  m_table_names : mg "table_names" = some (.ref t.f_table_names)
  b_table_names : Binds K t.d_table_names ["program"] []
  F_lengths_of : Fun K "lengths_of" "lengths_of" s_lengths_of t.f_lengths_of t.d_lengths_of
  m_lengths_of : mg "lengths_of" = some (.ref t.f_lengths_of)
  b_lengths_of : Binds K t.d_lengths_of ["program"] []
  F_lengths_along : Fun K "lengths_along" "lengths_along" s_lengths_along t.f_lengths_along t.d_lengths_along
  m_lengths_along : mg "lengths_along" = some (.ref t.f_lengths_along)
  b_lengths_along : Binds K t.d_lengths_along ["axes", "lengths"] []
  F_cells_along : Fun K "cells_along" "cells_along" s_cells_along t.f_cells_along t.d_cells_along
  m_cells_along : mg "cells_along" = some (.ref t.f_cells_along)
  b_cells_along : Binds K t.d_cells_along ["axes", "lengths"] []
  F_World_init : Fun K "__init__" "World.__init__" s_World_init t.f_World_init t.d_World_init
  b_World_init : Binds K t.d_World_init ["self", "wheel", "lengths", "numbers"] []
  F_Number_init : Fun K "__init__" "Number.__init__" s_Number_init t.f_Number_init t.d_Number_init
  b_Number_init : Binds K t.d_Number_init ["self", "number"] []
  F_Number_worth : Fun K "worth" "Number.worth" s_Number_worth t.f_Number_worth t.d_Number_worth
  b_Number_worth : Binds K t.d_Number_worth ["self", "at", "world"] []
  F_Read_init : Fun K "__init__" "Read.__init__" s_Read_init t.f_Read_init t.d_Read_init
  b_Read_init : Binds K t.d_Read_init ["self", "array", "indexes"] []
  F_Read_cell_at : Fun K "cell_at" "Read.cell_at" s_Read_cell_at t.f_Read_cell_at t.d_Read_cell_at
  b_Read_cell_at : Binds K t.d_Read_cell_at ["self", "at"] []
  F_Read_worth : Fun K "worth" "Read.worth" s_Read_worth t.f_Read_worth t.d_Read_worth
  b_Read_worth : Binds K t.d_Read_worth ["self", "at", "world"] []
  F_index_at : Fun K "index_at" "index_at" s_index_at t.f_index_at t.d_index_at
  m_index_at : mg "index_at" = some (.ref t.f_index_at)
  b_index_at : Binds K t.d_index_at ["axis", "shift", "at"] []
  F_Pair_init : Fun K "__init__" "Pair.__init__" s_Pair_init t.f_Pair_init t.d_Pair_init
  b_Pair_init : Binds K t.d_Pair_init ["self", "left", "right"] []
  F_Pair_worth : Fun K "worth" "Pair.worth" s_Pair_worth t.f_Pair_worth t.d_Pair_worth
  b_Pair_worth : Binds K t.d_Pair_worth ["self", "at", "world"] []
  F_Plus_joined : Fun K "joined" "Plus.joined" s_Plus_joined t.f_Plus_joined t.d_Plus_joined
  b_Plus_joined : Binds K t.d_Plus_joined ["self", "left", "right"] []
  F_Times_joined : Fun K "joined" "Times.joined" s_Times_joined t.f_Times_joined t.d_Times_joined
  b_Times_joined : Binds K t.d_Times_joined ["self", "left", "right"] []
  F_Guard_init : Fun K "__init__" "Guard.__init__" s_Guard_init t.f_Guard_init t.d_Guard_init
  b_Guard_init : Binds K t.d_Guard_init ["self", "axis", "low", "high", "inner", "outer"] []
  F_Guard_lets_in : Fun K "lets_in" "Guard.lets_in" s_Guard_lets_in t.f_Guard_lets_in t.d_Guard_lets_in
  b_Guard_lets_in : Binds K t.d_Guard_lets_in ["self", "at"] []
  F_Guard_looked_at : Fun K "looked_at" "Guard.looked_at" s_Guard_looked_at t.f_Guard_looked_at t.d_Guard_looked_at
  b_Guard_looked_at : Binds K t.d_Guard_looked_at ["self", "at"] []
  F_Guard_worth : Fun K "worth" "Guard.worth" s_Guard_worth t.f_Guard_worth t.d_Guard_worth
  b_Guard_worth : Binds K t.d_Guard_worth ["self", "at", "world"] []
  F_GrowingWorld_put : Fun K "put" "GrowingWorld.put" s_GrowingWorld_put t.f_GrowingWorld_put t.d_GrowingWorld_put
  b_GrowingWorld_put : Binds K t.d_GrowingWorld_put ["self", "array", "cell", "number"] []
  F_meaning : Fun K "meaning" "meaning" s_meaning t.f_meaning t.d_meaning
  m_meaning : mg "meaning" = some (.ref t.f_meaning)
  b_meaning : Binds K t.d_meaning ["program", "tables"] []
  F_look_tables : Fun K "look_tables" "look_tables" s_look_tables t.f_look_tables t.d_look_tables
  m_look_tables : mg "look_tables" = some (.ref t.f_look_tables)
  b_look_tables : Binds K t.d_look_tables ["program", "tables"] []
  F_put_tables : Fun K "put_tables" "put_tables" s_put_tables t.f_put_tables t.d_put_tables
  m_put_tables : mg "put_tables" = some (.ref t.f_put_tables)
  b_put_tables : Binds K t.d_put_tables ["program", "tables", "world"] []
  F_put_let : Fun K "put_let" "put_let" s_put_let t.f_put_let t.d_put_let
  m_put_let : mg "put_let" = some (.ref t.f_put_let)
  b_put_let : Binds K t.d_put_let ["let", "world"] []
  F_rows_of : Fun K "rows_of" "rows_of" s_rows_of t.f_rows_of t.d_rows_of
  m_rows_of : mg "rows_of" = some (.ref t.f_rows_of)
  b_rows_of : Binds K t.d_rows_of ["world"] []
  F_l_cell_at : Fun K "_law_cell_at" "_law_cell_at" s_l_cell_at t.f_l_cell_at t.d_l_cell_at
  m_l_cell_at : mg "_law_cell_at" = some (.ref t.f_l_cell_at)
  b_l_cell_at : Binds K t.d_l_cell_at ["_law_script", "_law_k"] []
  F_l_list : Fun K "_law_list" "_law_list" s_l_list t.f_l_list t.d_l_list
  m_l_list : mg "_law_list" = some (.ref t.f_l_list)
  b_l_list : Binds K t.d_l_list ["_law_found", "_law_due_here"] []
  F_l_number : Fun K "_law_number" "_law_number" s_l_number t.f_l_number t.d_l_number
  m_l_number : mg "_law_number" = some (.ref t.f_l_number)
  b_l_number : Binds K t.d_l_number ["_law_script", "_law_k", "_law_seed"] []
  F_l_due : Fun K "_law_due" "_law_due" s_l_due t.f_l_due t.d_l_due
  m_l_due : mg "_law_due" = some (.ref t.f_l_due)
  b_l_due : Binds K t.d_l_due ["_law_numbers", "_law_sizes", "_law_turned", "_law_steps", "_law_wheel"] []
  F_l_told : Fun K "_law_told" "_law_told" s_l_told t.f_l_told t.d_l_told
  m_l_told : mg "_law_told" = some (.ref t.f_l_told)
  b_l_told : Binds K t.d_l_told ["_law_program", "_law_numbers", "_law_due_here", "_law_wheel"] []
  F_law : Fun K "law" "law" s_law t.f_law t.d_law
  m_law : mg "law" = some (.ref t.f_law)
  b_law : Binds K t.d_law ["_law_script"] []
  m_Let : mg "Let" = some (.ref t.C_Let)
  m_Program : mg "Program" = some (.ref t.C_Program)
  m_Number : mg "Number" = some (.ref t.C_Number)
  m_Read : mg "Read" = some (.ref t.C_Read)
  m_Plus : mg "Plus" = some (.ref t.C_Plus)
  m_Times : mg "Times" = some (.ref t.C_Times)
  m_Guard : mg "Guard" = some (.ref t.C_Guard)
  m_GrowingWorld : mg "GrowingWorld" = some (.ref t.C_GrowingWorld)
  cl_GrowingWorld : Cls K t.C_GrowingWorld
  mk_GrowingWorld : Mk K t.C_GrowingWorld t.f_World_init
  na_GrowingWorld_wheel : NoAttr K t.C_GrowingWorld "wheel"
  na_GrowingWorld_lengths : NoAttr K t.C_GrowingWorld "lengths"
  na_GrowingWorld_numbers : NoAttr K t.C_GrowingWorld "numbers"
  me_GrowingWorld_put : Meth K t.C_GrowingWorld "put" t.f_GrowingWorld_put
  ty_GrowingWorld : TyC K t.C_GrowingWorld
  cl_Guard : Cls K t.C_Guard
  mk_Guard : Mk K t.C_Guard t.f_Guard_init
  na_Guard_axis : NoAttr K t.C_Guard "axis"
  na_Guard_low : NoAttr K t.C_Guard "low"
  na_Guard_high : NoAttr K t.C_Guard "high"
  na_Guard_inner : NoAttr K t.C_Guard "inner"
  na_Guard_outer : NoAttr K t.C_Guard "outer"
  me_Guard_lets_in : Meth K t.C_Guard "lets_in" t.f_Guard_lets_in
  me_Guard_looked_at : Meth K t.C_Guard "looked_at" t.f_Guard_looked_at
  me_Guard_worth : Meth K t.C_Guard "worth" t.f_Guard_worth
  ty_Guard : TyC K t.C_Guard
  cl_Let : Cls K t.C_Let
  mk_Let : Mk K t.C_Let t.f_Let_init
  na_Let_name : NoAttr K t.C_Let "name"
  na_Let_axes : NoAttr K t.C_Let "axes"
  na_Let_term : NoAttr K t.C_Let "term"
  ty_Let : TyC K t.C_Let
  mb_Let_list : PySem.W.mroIn K t.C_Let (.type "list") = some false
  mb_Let_tuple : PySem.W.mroIn K t.C_Let (.type "tuple") = some false
  mb_Let_dict : PySem.W.mroIn K t.C_Let (.type "dict") = some false
  cl_Number : Cls K t.C_Number
  mk_Number : Mk K t.C_Number t.f_Number_init
  na_Number_number : NoAttr K t.C_Number "number"
  me_Number_worth : Meth K t.C_Number "worth" t.f_Number_worth
  ty_Number : TyC K t.C_Number
  cl_Plus : Cls K t.C_Plus
  mk_Plus : Mk K t.C_Plus t.f_Pair_init
  na_Plus_left : NoAttr K t.C_Plus "left"
  na_Plus_right : NoAttr K t.C_Plus "right"
  me_Plus_joined : Meth K t.C_Plus "joined" t.f_Plus_joined
  me_Plus_worth : Meth K t.C_Plus "worth" t.f_Pair_worth
  ty_Plus : TyC K t.C_Plus
  cl_Program : Cls K t.C_Program
  mk_Program : Mk K t.C_Program t.f_Program_init
  na_Program_wheel : NoAttr K t.C_Program "wheel"
  na_Program_axes : NoAttr K t.C_Program "axes"
  na_Program_tables : NoAttr K t.C_Program "tables"
  na_Program_lets : NoAttr K t.C_Program "lets"
  na_Program_outs : NoAttr K t.C_Program "outs"
  ty_Program : TyC K t.C_Program
  cl_Read : Cls K t.C_Read
  mk_Read : Mk K t.C_Read t.f_Read_init
  na_Read_array : NoAttr K t.C_Read "array"
  na_Read_indexes : NoAttr K t.C_Read "indexes"
  me_Read_cell_at : Meth K t.C_Read "cell_at" t.f_Read_cell_at
  me_Read_worth : Meth K t.C_Read "worth" t.f_Read_worth
  ty_Read : TyC K t.C_Read
  cl_Times : Cls K t.C_Times
  mk_Times : Mk K t.C_Times t.f_Pair_init
  na_Times_left : NoAttr K t.C_Times "left"
  na_Times_right : NoAttr K t.C_Times "right"
  me_Times_joined : Meth K t.C_Times "joined" t.f_Times_joined
  me_Times_worth : Meth K t.C_Times "worth" t.f_Pair_worth
  ty_Times : TyC K t.C_Times
  z_range : mg "range" = none
  z_isinstance : mg "isinstance" = none
  z_list : mg "list" = none
  z_tuple : mg "tuple" = none
  z_dict : mg "dict" = none
  z_set : mg "set" = none
  z_len : mg "len" = none
  z_zip : mg "zip" = none
  z_bool : mg "bool" = none
  z_int : mg "int" = none
theorem sc_cells_of : FnScope ["lengths", "cells", "length"] ["lengths"] (defScope s_cells_of) := ⟨rfl, rfl, rfl, by decide +kernel, rfl, by decide +kernel, by decide +kernel⟩
theorem sc_lengthened : FnScope ["cells", "length", "longer", "cell", "number"] ["cells", "length"] (defScope s_lengthened) := ⟨rfl, rfl, rfl, by decide +kernel, rfl, by decide +kernel, by decide +kernel⟩
theorem sc_copied : FnScope ["value"] ["value"] (defScope s_copied) := ⟨rfl, rfl, rfl, by decide +kernel, rfl, by decide +kernel, by decide +kernel⟩
theorem sc_copied_dict : FnScope ["value", "fresh", "key", "member"] ["value"] (defScope s_copied_dict) := ⟨rfl, rfl, rfl, by decide +kernel, rfl, by decide +kernel, by decide +kernel⟩
theorem sc_Let_init : FnScope ["self", "name", "axes", "term"] ["self", "name", "axes", "term"] (defScope s_Let_init) := ⟨rfl, rfl, rfl, by decide +kernel, rfl, by decide +kernel, by decide +kernel⟩
theorem sc_Program_init : FnScope ["self", "wheel", "axes", "tables", "lets", "outs"] ["self", "wheel", "axes", "tables", "lets", "outs"] (defScope s_Program_init) := ⟨rfl, rfl, rfl, by decide +kernel, rfl, by decide +kernel, by decide +kernel⟩
theorem sc_table_names : FnScope ["program"] ["program"] (defScope s_table_names) := ⟨rfl, rfl, rfl, by decide +kernel, rfl, by decide +kernel, by decide +kernel⟩
theorem sc_lengths_of : FnScope ["program"] ["program"] (defScope s_lengths_of) := ⟨rfl, rfl, rfl, by decide +kernel, rfl, by decide +kernel, by decide +kernel⟩
theorem sc_lengths_along : FnScope ["axes", "lengths"] ["axes", "lengths"] (defScope s_lengths_along) := ⟨rfl, rfl, rfl, by decide +kernel, rfl, by decide +kernel, by decide +kernel⟩
theorem sc_cells_along : FnScope ["axes", "lengths"] ["axes", "lengths"] (defScope s_cells_along) := ⟨rfl, rfl, rfl, by decide +kernel, rfl, by decide +kernel, by decide +kernel⟩
theorem sc_World_init : FnScope ["self", "wheel", "lengths", "numbers"] ["self", "wheel", "lengths", "numbers"] (defScope s_World_init) := ⟨rfl, rfl, rfl, by decide +kernel, rfl, by decide +kernel, by decide +kernel⟩
theorem sc_Number_init : FnScope ["self", "number"] ["self", "number"] (defScope s_Number_init) := ⟨rfl, rfl, rfl, by decide +kernel, rfl, by decide +kernel, by decide +kernel⟩
theorem sc_Number_worth : FnScope ["self", "at", "world"] ["self", "at", "world"] (defScope s_Number_worth) := ⟨rfl, rfl, rfl, by decide +kernel, rfl, by decide +kernel, by decide +kernel⟩
theorem sc_Read_init : FnScope ["self", "array", "indexes"] ["self", "array", "indexes"] (defScope s_Read_init) := ⟨rfl, rfl, rfl, by decide +kernel, rfl, by decide +kernel, by decide +kernel⟩
theorem sc_Read_cell_at : FnScope ["self", "at"] ["self", "at"] (defScope s_Read_cell_at) := ⟨rfl, rfl, rfl, by decide +kernel, rfl, by decide +kernel, by decide +kernel⟩
theorem sc_Read_worth : FnScope ["self", "at", "world"] ["self", "at", "world"] (defScope s_Read_worth) := ⟨rfl, rfl, rfl, by decide +kernel, rfl, by decide +kernel, by decide +kernel⟩
theorem sc_index_at : FnScope ["axis", "shift", "at"] ["axis", "shift", "at"] (defScope s_index_at) := ⟨rfl, rfl, rfl, by decide +kernel, rfl, by decide +kernel, by decide +kernel⟩
theorem sc_Pair_init : FnScope ["self", "left", "right"] ["self", "left", "right"] (defScope s_Pair_init) := ⟨rfl, rfl, rfl, by decide +kernel, rfl, by decide +kernel, by decide +kernel⟩
theorem sc_Pair_worth : FnScope ["self", "at", "world", "left", "right"] ["self", "at", "world"] (defScope s_Pair_worth) := ⟨rfl, rfl, rfl, by decide +kernel, rfl, by decide +kernel, by decide +kernel⟩
theorem sc_Plus_joined : FnScope ["self", "left", "right"] ["self", "left", "right"] (defScope s_Plus_joined) := ⟨rfl, rfl, rfl, by decide +kernel, rfl, by decide +kernel, by decide +kernel⟩
theorem sc_Times_joined : FnScope ["self", "left", "right"] ["self", "left", "right"] (defScope s_Times_joined) := ⟨rfl, rfl, rfl, by decide +kernel, rfl, by decide +kernel, by decide +kernel⟩
theorem sc_Guard_init : FnScope ["self", "axis", "low", "high", "inner", "outer"] ["self", "axis", "low", "high", "inner", "outer"] (defScope s_Guard_init) := ⟨rfl, rfl, rfl, by decide +kernel, rfl, by decide +kernel, by decide +kernel⟩
theorem sc_Guard_lets_in : FnScope ["self", "at"] ["self", "at"] (defScope s_Guard_lets_in) := ⟨rfl, rfl, rfl, by decide +kernel, rfl, by decide +kernel, by decide +kernel⟩
theorem sc_Guard_looked_at : FnScope ["self", "at"] ["self", "at"] (defScope s_Guard_looked_at) := ⟨rfl, rfl, rfl, by decide +kernel, rfl, by decide +kernel, by decide +kernel⟩
theorem sc_Guard_worth : FnScope ["self", "at", "world"] ["self", "at", "world"] (defScope s_Guard_worth) := ⟨rfl, rfl, rfl, by decide +kernel, rfl, by decide +kernel, by decide +kernel⟩
theorem sc_GrowingWorld_put : FnScope ["self", "array", "cell", "number"] ["self", "array", "cell", "number"] (defScope s_GrowingWorld_put) := ⟨rfl, rfl, rfl, by decide +kernel, rfl, by decide +kernel, by decide +kernel⟩
theorem sc_meaning : FnScope ["program", "tables", "world", "let"] ["program", "tables"] (defScope s_meaning) := ⟨rfl, rfl, rfl, by decide +kernel, rfl, by decide +kernel, by decide +kernel⟩
theorem sc_look_tables : FnScope ["program", "tables", "lengths", "name", "axes"] ["program", "tables"] (defScope s_look_tables) := ⟨rfl, rfl, rfl, by decide +kernel, rfl, by decide +kernel, by decide +kernel⟩
theorem sc_put_tables : FnScope ["program", "tables", "world", "name", "axes", "cell", "number"] ["program", "tables", "world"] (defScope s_put_tables) := ⟨rfl, rfl, rfl, by decide +kernel, rfl, by decide +kernel, by decide +kernel⟩
theorem sc_put_let : FnScope ["let", "world", "cell", "at"] ["let", "world"] (defScope s_put_let) := ⟨rfl, rfl, rfl, by decide +kernel, rfl, by decide +kernel, by decide +kernel⟩
theorem sc_rows_of : FnScope ["world", "rows", "array", "numbers"] ["world"] (defScope s_rows_of) := ⟨rfl, rfl, rfl, by decide +kernel, rfl, by decide +kernel, by decide +kernel⟩
theorem sc_l_cell_at : FnScope ["_law_script", "_law_k"] ["_law_script", "_law_k"] (defScope s_l_cell_at) := ⟨rfl, rfl, rfl, by decide +kernel, rfl, by decide +kernel, by decide +kernel⟩
theorem sc_l_list : FnScope ["_law_found", "_law_due_here", "_law_one", "_law_other"] ["_law_found", "_law_due_here"] (defScope s_l_list) := ⟨rfl, rfl, rfl, by decide +kernel, rfl, by decide +kernel, by decide +kernel⟩
theorem sc_l_number : FnScope ["_law_script", "_law_k", "_law_seed"] ["_law_script", "_law_k", "_law_seed"] (defScope s_l_number) := ⟨rfl, rfl, rfl, by decide +kernel, rfl, by decide +kernel, by decide +kernel⟩
theorem sc_l_due : FnScope ["_law_numbers", "_law_sizes", "_law_turned", "_law_steps", "_law_wheel", "_law_first", "_law_second", "_law_back", "_law_aside", "_law_factor", "_law_due_here", "_law_k", "_law_j", "_law_number_here", "_law_ahead"] ["_law_numbers", "_law_sizes", "_law_turned", "_law_steps", "_law_wheel"] (defScope s_l_due) := ⟨rfl, rfl, rfl, by decide +kernel, rfl, by decide +kernel, by decide +kernel⟩
theorem sc_l_told : FnScope ["_law_program", "_law_numbers", "_law_due_here", "_law_wheel", "_law_handed", "_law_found"] ["_law_program", "_law_numbers", "_law_due_here", "_law_wheel"] (defScope s_l_told) := ⟨rfl, rfl, rfl, by decide +kernel, rfl, by decide +kernel, by decide +kernel⟩
theorem sc_law : FnScope ["_law_script", "_law_first", "_law_second", "_law_back", "_law_aside", "_law_factor", "_law_wheel", "_law_turned", "_law_seed", "_law_numbers", "_law_axes", "_law_there", "_law_own", "_law_more", "_law_term", "_law_lets", "_law_program", "_law_due_here"] ["_law_script"] (defScope s_law) := ⟨rfl, rfl, rfl, by decide +kernel, rfl, by decide +kernel, by decide +kernel⟩
theorem nd_comp_0 : (["member"] : List Str).Nodup := by decide +kernel
theorem nd_comp_1 : (["name", "axes"] : List Str).Nodup := by decide +kernel
theorem nd_comp_2 : (["axis", "lengths"] : List Str).Nodup := by decide +kernel
theorem nd_comp_3 : (["axis", "shift", "at"] : List Str).Nodup := by decide +kernel
theorem nd_comp_4 : (["_law_number_here", "_law_wheel"] : List Str).Nodup := by decide +kernel
theorem nd_comp_5 : (["_law_k", "_law_script", "_law_seed"] : List Str).Nodup := by decide +kernel
theorem FnOk.none {P : Program} {w : World} {K : PySem.W.Frag} {mg : Str → Option Value} {base : Heap} {CX : CXT} {k : Nat} {f : Addr} {fd : FuncData} {ps : List Str} {sp : Sp} (h : ∀ vs H Q E, ¬ sp vs H Q E) : FnOk P w K mg base CX k f fd ps sp :=
  ⟨fun vs H Q E q => (h vs H Q E q).elim, fun _ _ _ H _ _ vs Q E _ _ _ _ q => (h vs H Q E q).elim⟩
/-! ### data -/
def encT (e : Str × List Str) : PyData := .tuple [.str e.1, .list (e.2.map PyData.str)]
def encTb (ts : List (Str × List Str)) : PyData := .list (ts.map encT)
def encS (xs : List Str) : PyData := .list (xs.map PyData.str)
def OkS (xs : List Str) : Prop := ∀ x ∈ xs, PyData.strOk x = true
theorem ds_strs : ∀ xs : List Str, PyData.depthAll (xs.map PyData.str) = 0 ∧ cntAll (xs.map PyData.str) = xs.length
  | [] => ⟨rfl, rfl⟩
  | x :: r => by
    obtain ⟨h2, h3⟩ := ds_strs r
    refine ⟨?_, ?_⟩
    · simp [PyData.depthAll, PyData.depth, h2]
    · simp [cntAll, cnt, h3]; omega
theorem lay_strs : ∀ {xs : List Str}, OkS xs → PyData.canLayAll0 (xs.map PyData.str) = true
  | [], _ => rfl
  | x :: r, h => by
    have h1 := lay_strs (xs := r) fun y hy => h y (.tail _ hy)
    simp [PyData.canLayAll0, PyData.canLay0, h1, h x (.head _)]
theorem encS_ok (xs : List Str) : (encS xs).depth ≤ 1 ∧ cnt (encS xs) ≤ 1 + xs.length := by
  obtain ⟨h2, h3⟩ := ds_strs xs
  refine ⟨?_, ?_⟩
  · simp [encS, PyData.depth, h2]
  · simp only [encS, cnt, h3]; omega
theorem encS_lay {xs : List Str} (h : OkS xs) : (encS xs).canLay0 = true := by simp [encS, PyData.canLay0, lay_strs h]
theorem ds_tb {n : Nat} : ∀ ts : List (Str × List Str), (∀ e ∈ ts, e.2.length ≤ n) → PyData.depthAll (ts.map encT) ≤ 2 ∧ cntAll (ts.map encT) ≤ ts.length * (n + 4)
  | [], _ => ⟨by simp [PyData.depthAll], by simp [cntAll]⟩
  | e :: r, h => by
    obtain ⟨h2, h3⟩ := ds_tb r fun x hx => h x (.tail _ hx)
    obtain ⟨g2, g3⟩ := ds_strs e.2
    have hl := h e (.head _)
    refine ⟨?_, ?_⟩
    · simp only [List.map_cons, encT, PyData.depthAll, PyData.depth, g2]
      omega
    · simp only [List.map_cons, encT, cntAll, cnt, g3, List.length_cons, Nat.add_mul, Nat.one_mul]
      omega
theorem encTb_ok {n : Nat} (ts : List (Str × List Str)) (h : ∀ e ∈ ts, e.2.length ≤ n) : (encTb ts).depth ≤ 3 ∧ cnt (encTb ts) ≤ 1 + ts.length * (n + 4) := by
  obtain ⟨h2, h3⟩ := ds_tb ts h
  refine ⟨?_, ?_⟩
  · simp only [encTb, PyData.depth]; omega
  · simp only [encTb, cnt]; omega
theorem lay_tb : ∀ {ts : List (Str × List Str)}, (∀ e ∈ ts, PyData.strOk e.1 = true ∧ OkS e.2) → PyData.canLayAll0 (ts.map encT) = true
  | [], _ => rfl
  | e :: r, h => by
    have h1 := lay_tb (ts := r) fun y hy => h y (.tail _ hy)
    have h2 := h e (.head _)
    simp [encT, PyData.canLayAll0, PyData.canLay0, h1, h2.1, lay_strs h2.2]
theorem encTb_lay {ts : List (Str × List Str)} (h : ∀ e ∈ ts, PyData.strOk e.1 = true ∧ OkS e.2) : (encTb ts).canLay0 = true := by simp [encTb, PyData.canLay0, lay_tb h]
theorem ds_ix : ∀ ts : List (Str × Int), PyData.depthAll (ts.map encI) ≤ 1
  | [] => by simp [PyData.depthAll]
  | e :: r => by
    have h2 := ds_ix r
    simp only [List.map_cons, encI, PyData.depthAll, PyData.depth]; omega
theorem encIx_ok (ts : List (Str × Int)) : (encIx ts).depth ≤ 2 := by
  have h2 := ds_ix ts
  simp only [encIx, PyData.depth]; omega
theorem lay_ix : ∀ {ts : List (Str × Int)}, (∀ e ∈ ts, PyData.strOk e.1 = true) → PyData.canLayAll0 (ts.map encI) = true
  | [], _ => rfl
  | e :: r, h => by
    have h1 := lay_ix (ts := r) fun y hy => h y (.tail _ hy)
    simp [encI, PyData.canLayAll0, PyData.canLay0, h1, h e (.head _)]
theorem encIx_lay {ts : List (Str × Int)} (h : ∀ e ∈ ts, PyData.strOk e.1 = true) : (encIx ts).canLay0 = true := by simp [encIx, PyData.canLay0, lay_ix h]
theorem shaped_of {d : PyData} (h : d.canLay0 = true) (hd : d.depth ≤ 60) : SeqAt.shaped d = true := by
  unfold SeqAt.shaped
  rw [h, Bool.true_and]
  exact decide_eq_true (by omega)
theorem reps_strs {H : Hp} : ∀ {ys : List Str} {xs : List V}, Reps H xs (ys.map PyData.str) → xs = ys.map V.str
  | [], _, r => by cases r; rfl
  | y :: ys, _, r => by
    rw [List.map_cons] at r
    cases r with
    | cons a r =>
      cases a
      rw [List.map_cons, reps_strs r]
theorem rep_S {H : Hp} {v : V} {ys : List Str} (h : Rep H v (encS ys)) : ∃ p, v = .ref p ∧ H p = some (.lst (ys.map V.str)) := by
  obtain ⟨p, xs, rfl, e, r⟩ := rep_lst (show Rep H v (.list (ys.map PyData.str)) from h)
  rw [reps_strs r] at e
  exact ⟨p, rfl, e⟩
theorem S_rep {H : Hp} {p : Addr} {ys : List Str} (e : H p = some (.lst (ys.map V.str))) : Rep H (.ref p) (encS ys) := .lst e (Reps.strs ys)
theorem rep_T {H : Hp} {v : V} {e : Str × List Str} (h : Rep H v (encT e)) : ∃ b c, v = .ref b ∧ H b = some (.tup [.str e.1, .ref c]) ∧ H c = some (.lst (e.2.map V.str)) := by
  unfold encT at h
  cases h with
  | @tup b xs _ eb r =>
    cases r with
    | cons a r =>
      cases r with
      | cons a2 r =>
        cases r
        cases a
        obtain ⟨c, rfl, ec⟩ := rep_S a2
        exact ⟨b, c, rfl, eb, ec⟩
theorem T_rep {H : Hp} {b c : Addr} {e : Str × List Str} (eb : H b = some (.tup [.str e.1, .ref c])) (ec : H c = some (.lst (e.2.map V.str))) : Rep H (.ref b) (encT e) := .tup eb (.cons (.str _) (.cons (S_rep ec) .nil))
theorem rep_I {H : Hp} {v : V} {e : Str × Int} (h : Rep H v (encI e)) : ∃ b, v = .ref b ∧ H b = some (.tup [.str e.1, .int e.2]) := by
  unfold encI at h
  cases h with
  | @tup b xs _ eb r =>
    cases r with
    | cons a r =>
      cases r with
      | cons a2 r =>
        cases r
        cases a
        cases a2
        exact ⟨b, rfl, eb⟩
/-- one of a list of data -/
theorem reps_of {α : Type} {H : Hp} {f : α → PyData} {ts : List α} {xs : List V} (r : Reps H xs (ts.map f)) {i : Nat} {x : V} (hx : xs[i]? = some x) : ∃ e, ts[i]? = some e ∧ Rep H x (f e) := by
  obtain ⟨d, hd, rx⟩ := r.get2 hx
  rw [List.getElem?_map] at hd
  obtain ⟨e, he, rfl⟩ := Option.map_eq_some_iff.mp hd
  exact ⟨e, he, rx⟩
/-! ### objects -/
theorem pget {α β : Type} {F : α → β → Prop} : ∀ {l : List α} {m : List β}, Paired F l m → ∀ {i : Nat} {x : α}, l[i]? = some x → ∃ y, m[i]? = some y ∧ F x y
  | _, _, .nil, i, x, e => by simp at e
  | _, _, .cons r t, 0, x, e => by simp at e; subst e; exact ⟨_, rfl, r⟩
  | _, _, .cons r t, i + 1, x, e => by
    obtain ⟨y, e1, e2⟩ := pget t (i := i) (by simpa using e)
    exact ⟨y, by simpa using e1, e2⟩
theorem papp {α β : Type} {F : α → β → Prop} : ∀ {a c : List α} {b d : List β}, Paired F a b → Paired F c d → Paired F (a ++ c) (b ++ d)
  | _, _, _, _, .nil, h => h
  | _, _, _, _, .cons r t, h => .cons r (papp t h)
theorem get_map {α : Type} {f : α → V} {xs : List α} {i : Nat} {v : V} (h : (xs.map f)[i]? = some v) : ∃ x, xs[i]? = some x ∧ v = f x := by
  rw [List.getElem?_map] at h
  cases e : xs[i]? with
  | none => rw [e] at h; cases h
  | some x => rw [e] at h; exact ⟨x, rfl, (Option.some.inj h).symm⟩
end My

set_option Elab.async false
set_option linter.all false
set_option maxRecDepth 100000
set_option maxHeartbeats 4000000
namespace My
open PySem L2
local macro_rules | `(tactic| walk_at "lk") => `(tactic| first | with_reducible exact lk0 | (refine lk1 (by decide +kernel) ?_; walk_at "lk") | rfl)
def sp_init1 (K : PySem.W.Frag) (f : Str) : Sp := fun vs H Q _ => ∃ (p C dx : Addr) (v : V), vs = [.ref p, v] ∧ H p = some (.ins C dx []) ∧ Cls K C ∧ NoAttr K C f ∧ Q .non (upd H p (.ins C dx [(f, v)]))
def sp_init2 (K : PySem.W.Frag) (f g : Str) : Sp := fun vs H Q _ => ∃ (p C dx : Addr) (v u : V), vs = [.ref p, v, u] ∧ H p = some (.ins C dx []) ∧ Cls K C ∧ NoAttr K C f ∧ NoAttr K C g ∧ Q .non (upd H p (.ins C dx [(f, v), (g, u)]))
def sp_cop (n : Nat) : Sp := fun vs H Q _ => ∃ (v : V) (d : PyData), vs = [v] ∧ Rep H v d ∧ PyData.depth d ≤ n ∧ cnt d ≤ 100000 ∧ ∀ (v' : V) (H' : Hp), Same H H' → Rep (restr (fun a => H a = none) H') v' d → Q v' H'
def sp_cpI (C : Addr) : Sp := fun vs H Q _ => ∃ (a dx : Addr) (fs : List (Str × V)), vs = [.ref a] ∧ H a = some (.ins C dx fs) ∧ Q (.ref a) H
def sp_cpL (C : Addr) : Sp := fun vs H Q _ => ∃ (p : Addr) (xs : List V), vs = [.ref p] ∧ H p = some (.lst xs) ∧ xs.length ≤ 1000 ∧ (∀ x ∈ xs, ∃ a dx fs, x = .ref a ∧ H a = some (.ins C dx fs)) ∧ ∀ (D : Addr) (H' : Hp), H D = none → Same H H' → H' D = some (.lst xs) → Q (.ref D) H'
/-- copied of a dict: ds are the data of its values -/
def sp_cd : Sp := fun vs H Q _ => ∃ (d : Addr) (kvs : List (Key × V)) (ds : List PyData), vs = [.ref d] ∧ H d = some (.dK kvs) ∧ kvs.length ≤ 100000 ∧ Paired (fun (a : Key × V) (x : PyData) => Rep H a.2 x ∧ PyData.depth x ≤ 1 ∧ cnt x ≤ 100000) kvs ds ∧
  ∀ (p : Addr) (kvs' : List (Key × V)) (H' : Hp), H p = none → Same H H' → H' p = some (.dK kvs') → kvs'.map (·.1) = kvs.map (·.1) → Paired (fun (b : Key × V) (x : PyData) => Rep (restr (fun a => H a = none) H') b.2 x) kvs' ds → Q (.ref p) H'
section
variable {P : Program} {w : World} {K : PySem.W.Frag} {mg : Str → Option Value} {base : Heap} {t : Adr}
theorem ok_Number_init (T : Txt K mg t) : FnOk P w K mg base CX0 1 t.f_Number_init t.d_Number_init ["self", "number"] (sp_init1 K "number") := by
  refine T.F_Number_init.ok sc_Number_init (fun vs H Q E h => ?_) (fun cdv A outer s H vs Q E hr h => ?_)
  · obtain ⟨p, C, dx, v, rfl, _⟩ := h
    rfl
  · obtain ⟨p, C, dx, v, rfl, hp, cl, na, k⟩ := h
    exact ⟨_, (pss_one (ps_fld (pv 0) (pv 1) rfl)), _, rfl, _, rfl, p, C, dx, [], rfl, hp, cl, na, (by decide), k⟩
theorem ok_Pair_init (T : Txt K mg t) : FnOk P w K mg base CX0 1 t.f_Pair_init t.d_Pair_init ["self", "left", "right"] (sp_init2 K "left" "right") := by
  refine T.F_Pair_init.ok sc_Pair_init (fun vs H Q E h => ?_) (fun cdv A outer s H vs Q E hr h => ?_)
  · obtain ⟨p, C, dx, v, u, rfl, _⟩ := h
    rfl
  · obtain ⟨p, C, dx, v, u, rfl, hp, cl, n1, n2, k⟩ := h
    refine ⟨_, (pss_cons (ps_fld (pv 0) (pv 1) rfl)
      (pss_one (ps_fld (pv 0) (pv 2) rfl))), _, rfl, _, rfl, p, C, dx, [], rfl, hp, cl, n1, (by decide), _, rfl, _, rfl, p, C, dx, _, rfl, upd_same, cl, n2, (by show 1 < 1000; decide), ?_⟩
    show Q V.non (upd (upd H p _) p (.ins C dx (putF "right" u (putF "left" v []))))
    rw [upd_upd, putF_nil, putF_ne (by decide +kernel), putF_nil]
    exact k
/-! ### copied -/
theorem isi_no_list {T : String} (h : T = "NoneType" ∨ T = "bool" ∨ T = "int" ∨ T = "str" ∨ T = "tuple") : ∀ u, RelV (.ty "list") u → PySem.W.kitOne K (.type T) u = some false := by
  rcases h with rfl | rfl | rfl | rfl | rfl <;> exact isi_by (by decide +kernel) (by decide +kernel) (by decide +kernel)
theorem isi_no_tuple {T : String} (h : T = "NoneType" ∨ T = "bool" ∨ T = "int" ∨ T = "str") : ∀ u, RelV (.ty "tuple") u → PySem.W.kitOne K (.type T) u = some false := by
  rcases h with rfl | rfl | rfl | rfl <;> exact isi_by (by decide +kernel) (by decide +kernel) (by decide +kernel)
theorem isi_no_dict {T : String} (h : T = "NoneType" ∨ T = "bool" ∨ T = "int" ∨ T = "str") : ∀ u, RelV (.ty "dict") u → PySem.W.kitOne K (.type T) u = some false := by
  rcases h with rfl | rfl | rfl | rfl <;> exact isi_by (by decide +kernel) (by decide +kernel) (by decide +kernel)
theorem cop_step (T : Txt K mg t) {m n : Nat} {sp' : Sp} (G_copied : FnOk P w K mg base CX0 m t.f_copied t.d_copied ["value"] sp')
    (hs : ∀ (v : V) (d : PyData) (H : Hp) (Q : VK), Rep H v d → PyData.depth d + 1 ≤ n → cnt d ≤ 100000 → (∀ (v' : V) (H' : Hp), Same H H' → Rep (restr (fun a => H a = none) H') v' d → Q v' H') → sp' [v] H Q E0) :
    FnOk P w K mg base CX0 (m + 1) t.f_copied t.d_copied ["value"] (sp_cop n) := by
  refine T.F_copied.ok sc_copied (fun vs H Q E h => ?_) (fun cdv A outer s H vs Q E hr h => ?_)
  · obtain ⟨v, d, rfl, _⟩ := h
    rfl
  · obtain ⟨v, d, rfl, rp, hd, hc, k⟩ := h
    have G_copied_dict : FnOk P w K mg base CX0 0 t.f_copied_dict t.d_copied_dict ["value"] (fun _ _ _ _ => False) := FnOk.none fun _ _ _ _ h => h
    refine ⟨_, (pss_cons (ps_if (pt_val (pe_callB call_isinst (by rfl) T.z_isinstance PyProof.Rows.boot_isinstance (pa_cons (pv 0) (pa_cons (pe_bltn (v := V.ty "list") rfl T.z_list PyProof.Rows.boot_list rfl) pa_nil))))
        (pss_one (ps_ret (pe_comp (N' := ["member"]) (ix := (List.replicate 1 none)) rfl (clok_none rfl (by decide +kernel) (by decide +kernel)) (ixok_none rfl) (pi_seq (pv 0)) (fun _ _ _ _ => (pg_name (i := 0) nd_comp_0 rfl (Or.inl rfl) (Or.inr rfl))) (fun _ _ _ _ => (pe_call G_copied (hr.mono (by omega)) rfl T.m_copied T.F_copied.kp T.b_copied .nil pass0 (pa_cons (pv 0) pa_nil))))))
        pss_nil)
      (pss_cons (ps_if (pt_val (pe_callB call_isinst (by rfl) T.z_isinstance PyProof.Rows.boot_isinstance (pa_cons (pv 0) (pa_cons (pe_bltn (v := V.ty "tuple") rfl T.z_tuple PyProof.Rows.boot_tuple rfl) pa_nil))))
        (pss_one (ps_ret (pe_callTy call_tuple_of (by rfl) T.z_tuple PyProof.Rows.boot_tuple (pa_cons (pe_comp (N' := ["member"]) (ix := (List.replicate 1 none)) rfl (clok_none rfl (by decide +kernel) (by decide +kernel)) (ixok_none rfl) (pi_seq (pv 0)) (fun _ _ _ _ => (pg_name (i := 0) nd_comp_0 rfl (Or.inl rfl) (Or.inr rfl))) (fun _ _ _ _ => (pe_call G_copied (hr.mono (by omega)) rfl T.m_copied T.F_copied.kp T.b_copied .nil pass0 (pa_cons (pv 0) pa_nil)))) pa_nil))))
        pss_nil)
      (pss_cons (ps_if (pt_val (pe_callB call_isinst (by rfl) T.z_isinstance PyProof.Rows.boot_isinstance (pa_cons (pv 0) (pa_cons (pe_bltn (v := V.ty "dict") rfl T.z_dict PyProof.Rows.boot_dict rfl) pa_nil))))
        (pss_one (ps_ret (pe_call G_copied_dict (hr.mono (by omega)) rfl T.m_copied_dict T.F_copied_dict.kp T.b_copied_dict .nil pass0 (pa_cons (pv 0) pa_nil))))
        pss_nil)
      (pss_one (ps_ret (pv 0)))))), ?_⟩
    cases rp with
    | non =>
      refine ⟨_, rfl, _, _, _, _, rfl, .non, isi_no_list (.inl rfl), false, rfl, iteF ?_⟩
      refine ⟨_, rfl, _, _, _, _, rfl, .non, isi_no_tuple (.inl rfl), false, rfl, iteF ?_⟩
      exact ⟨_, rfl, _, _, _, _, rfl, .non, isi_no_dict (.inl rfl), false, rfl, iteF ⟨_, rfl, k _ _ (Same.refl _) .non⟩⟩
    | bl b =>
      refine ⟨_, rfl, _, _, _, _, rfl, .bl b, isi_no_list (.inr (.inl rfl)), false, rfl, iteF ?_⟩
      refine ⟨_, rfl, _, _, _, _, rfl, .bl b, isi_no_tuple (.inr (.inl rfl)), false, rfl, iteF ?_⟩
      exact ⟨_, rfl, _, _, _, _, rfl, .bl b, isi_no_dict (.inr (.inl rfl)), false, rfl, iteF ⟨_, rfl, k _ _ (Same.refl _) (.bl b)⟩⟩
    | int b =>
      refine ⟨_, rfl, _, _, _, _, rfl, .int b, isi_no_list (.inr (.inr (.inl rfl))), false, rfl, iteF ?_⟩
      refine ⟨_, rfl, _, _, _, _, rfl, .int b, isi_no_tuple (.inr (.inr (.inl rfl))), false, rfl, iteF ?_⟩
      exact ⟨_, rfl, _, _, _, _, rfl, .int b, isi_no_dict (.inr (.inr (.inl rfl))), false, rfl, iteF ⟨_, rfl, k _ _ (Same.refl _) (.int b)⟩⟩
    | str b =>
      refine ⟨_, rfl, _, _, _, _, rfl, .str b, isi_no_list (.inr (.inr (.inr (.inl rfl)))), false, rfl, iteF ?_⟩
      refine ⟨_, rfl, _, _, _, _, rfl, .str b, isi_no_tuple (.inr (.inr (.inr rfl))), false, rfl, iteF ?_⟩
      exact ⟨_, rfl, _, _, _, _, rfl, .str b, isi_no_dict (.inr (.inr (.inr rfl))), false, rfl, iteF ⟨_, rfl, k _ _ (Same.refl _) (.str b)⟩⟩
    | @lst p xs ds e r =>
      have hl1 := r.len
      have hl2 := cnt_len ds
      have hc' : cntAll ds + 1 ≤ 100000 := hc
      have hd' : PyData.depthAll ds + 1 ≤ n := hd
      refine ⟨_, rfl, _, _, _, _, rfl, .lst e, isi_same "list", true, rfl, iteT ?_⟩
      refine .inl ⟨_, rfl, p, rfl, ⟨_, SqL.of e⟩, fun D hD => ?_⟩
      refine comp_listQ (K := K) (a := p) (D := D) (xs := xs) (fun i ys H2 => Same H H2 ∧ H2 D = some (.lst ys) ∧ Reps (restr (fun a => H a = none ∧ a ≠ D) H2) ys (ds.take i) ∧ ys.length = i)
        ⟨same_new hD, upd_same, (by rw [List.take_zero]; exact .nil), rfl⟩ (fun i ys H2 ⟨s2, _⟩ => SqL.of (s2 _ _ e)) ?_ ?_
      · rintro i x ys H2 hx ⟨s2, hD2, rs, hyl⟩
        obtain ⟨d, hdi, rx⟩ := r.get2 hx
        obtain ⟨c1, c2⟩ := cnt_at hdi
        have hi : i < xs.length := (List.getElem?_eq_some_iff.mp hx).1
        refine ⟨True.intro, _, rfl, hs x d H2 _ (rx.same s2) (by omega) (by omega) fun v' H5 s5 rp5 => ?_⟩
        have hnS : ¬ (H D = none ∧ D ≠ D) := fun z => z.2 rfl
        refine ⟨s5 _ _ hD2, line_lt (by omega), same_fresh (s2.trans s5) hD, upd_same, ?_, by simp [hyl]⟩
        rw [List.take_add_one, hdi]
        show Reps _ (ys ++ [v']) (ds.take i ++ [d])
        refine (rs.same (restr_upd (restr_same s5) hnS)).snoc (rp5.same ((restr_imp (Same.refl _) fun a o _ ha => ⟨s2.free ha, fun z => ?_⟩).trans (restr_upd (Same.refl _) hnS)))
        subst z
        rw [hD2] at ha
        cases ha
      · rintro ys H2 ⟨s2, hD2, rs, hyl⟩
        refine k (.ref D) H2 s2 (.lst (restr_mk hD hD2) ?_)
        rw [hl1, List.take_length] at rs
        exact rs.same (restr_imp (Same.refl _) fun a o _ h => h.1)
    | @tup p xs ds e r =>
      have hl1 := r.len
      have hl2 := cnt_len ds
      have hc' : cntAll ds + 1 ≤ 100000 := hc
      have hd' : PyData.depthAll ds + 1 ≤ n := hd
      refine ⟨_, rfl, _, _, _, _, rfl, .tup e, isi_no_list (.inr (.inr (.inr (.inr rfl)))), false, rfl, iteF ?_⟩
      refine ⟨_, rfl, _, _, _, _, rfl, .tup e, isi_same "tuple", true, rfl, iteT ?_⟩
      refine .inr ⟨_, rfl, p, rfl, ⟨_, SqT.of e⟩, fun D hD => ?_⟩
      refine comp_tupQ (K := K) (a := p) (D := D) (xs := xs) (fun i ys H2 => Same H H2 ∧ H2 D = some (.lst ys) ∧ Reps (restr (fun a => H a = none ∧ a ≠ D) H2) ys (ds.take i) ∧ ys.length = i)
        ⟨same_new hD, upd_same, (by rw [List.take_zero]; exact .nil), rfl⟩ (fun i ys H2 ⟨s2, _⟩ => SqT.of (s2 _ _ e)) ?_ ?_
      · rintro i x ys H2 hx ⟨s2, hD2, rs, hyl⟩
        obtain ⟨d, hdi, rx⟩ := r.get2 hx
        obtain ⟨c1, c2⟩ := cnt_at hdi
        have hi : i < xs.length := (List.getElem?_eq_some_iff.mp hx).1
        refine ⟨True.intro, _, rfl, hs x d H2 _ (rx.same s2) (by omega) (by omega) fun v' H5 s5 rp5 => ?_⟩
        have hnS : ¬ (H D = none ∧ D ≠ D) := fun z => z.2 rfl
        refine ⟨s5 _ _ hD2, line_lt (by omega), same_fresh (s2.trans s5) hD, upd_same, ?_, by simp [hyl]⟩
        rw [List.take_add_one, hdi]
        show Reps _ (ys ++ [v']) (ds.take i ++ [d])
        refine (rs.same (restr_upd (restr_same s5) hnS)).snoc (rp5.same ((restr_imp (Same.refl _) fun a o _ ha => ⟨s2.free ha, fun z => ?_⟩).trans (restr_upd (Same.refl _) hnS)))
        subst z
        rw [hD2] at ha
        cases ha
      · rintro ys H2 ⟨s2, hD2, rs, hyl⟩
        refine ⟨D, ys, rfl, .inl ⟨SqL.of hD2, fun l hl => ?_⟩⟩
        refine k (.ref l) _ (s2.trans (same_new hl)) (.tup (restr_mk (s2.free hl) upd_same) ?_)
        rw [hl1, List.take_length] at rs
        exact rs.same ((restr_imp (Same.refl _) fun a o _ h => h.1).trans (restr_same (same_new hl)))
theorem ok_copied (T : Txt K mg t) : ∀ n : Nat, FnOk P w K mg base CX0 (n + 1) t.f_copied t.d_copied ["value"] (sp_cop n)
  | 0 => cop_step T (sp' := fun _ _ _ _ => False) (m := 0) (FnOk.none fun _ _ _ _ h => h) fun v d H Q _ h => absurd h (by omega)
  | n + 1 => cop_step T (ok_copied T n) fun v d H Q rp hd hc k => ⟨v, d, rfl, rp, by omega, hc, k⟩
theorem ok_copI (T : Txt K mg t) {C : Addr} (cl : Cls K C) (tc : TyC K C) (m1 : PySem.W.mroIn K C (.type "list") = some false) (m2 : PySem.W.mroIn K C (.type "tuple") = some false) (m3 : PySem.W.mroIn K C (.type "dict") = some false) : FnOk P w K mg base CX0 1 t.f_copied t.d_copied ["value"] (sp_cpI C) := by
  refine T.F_copied.ok sc_copied (fun vs H Q E h => ?_) (fun cdv A outer s H vs Q E hr h => ?_)
  · obtain ⟨a, dx, fs, rfl, _⟩ := h
    rfl
  · obtain ⟨a, dx, fs, rfl, e, k⟩ := h
    have G_copied : FnOk P w K mg base CX0 0 t.f_copied t.d_copied ["value"] (fun _ _ _ _ => False) := FnOk.none fun _ _ _ _ h => h
    have ty : TyOf K H (.ref a) (.ref C) := .ins e cl tc.ha tc.hn tc.htk tc.hm
    have G_copied_dict : FnOk P w K mg base CX0 0 t.f_copied_dict t.d_copied_dict ["value"] (fun _ _ _ _ => False) := FnOk.none fun _ _ _ _ h => h
    refine ⟨_, (pss_cons (ps_if (pt_val (pe_callB call_isinst (by rfl) T.z_isinstance PyProof.Rows.boot_isinstance (pa_cons (pv 0) (pa_cons (pe_bltn (v := V.ty "list") rfl T.z_list PyProof.Rows.boot_list rfl) pa_nil))))
        (pss_one (ps_ret (pe_comp (N' := ["member"]) (ix := (List.replicate 1 none)) rfl (clok_none rfl (by decide +kernel) (by decide +kernel)) (ixok_none rfl) (pi_seq (pv 0)) (fun _ _ _ _ => (pg_name (i := 0) nd_comp_0 rfl (Or.inl rfl) (Or.inr rfl))) (fun _ _ _ _ => (pe_call G_copied (hr.mono (by omega)) rfl T.m_copied T.F_copied.kp T.b_copied .nil pass0 (pa_cons (pv 0) pa_nil))))))
        pss_nil)
      (pss_cons (ps_if (pt_val (pe_callB call_isinst (by rfl) T.z_isinstance PyProof.Rows.boot_isinstance (pa_cons (pv 0) (pa_cons (pe_bltn (v := V.ty "tuple") rfl T.z_tuple PyProof.Rows.boot_tuple rfl) pa_nil))))
        (pss_one (ps_ret (pe_callTy call_tuple_of (by rfl) T.z_tuple PyProof.Rows.boot_tuple (pa_cons (pe_comp (N' := ["member"]) (ix := (List.replicate 1 none)) rfl (clok_none rfl (by decide +kernel) (by decide +kernel)) (ixok_none rfl) (pi_seq (pv 0)) (fun _ _ _ _ => (pg_name (i := 0) nd_comp_0 rfl (Or.inl rfl) (Or.inr rfl))) (fun _ _ _ _ => (pe_call G_copied (hr.mono (by omega)) rfl T.m_copied T.F_copied.kp T.b_copied .nil pass0 (pa_cons (pv 0) pa_nil)))) pa_nil))))
        pss_nil)
      (pss_cons (ps_if (pt_val (pe_callB call_isinst (by rfl) T.z_isinstance PyProof.Rows.boot_isinstance (pa_cons (pv 0) (pa_cons (pe_bltn (v := V.ty "dict") rfl T.z_dict PyProof.Rows.boot_dict rfl) pa_nil))))
        (pss_one (ps_ret (pe_call G_copied_dict (hr.mono (by omega)) rfl T.m_copied_dict T.F_copied_dict.kp T.b_copied_dict .nil pass0 (pa_cons (pv 0) pa_nil))))
        pss_nil)
      (pss_one (ps_ret (pv 0)))))), ?_⟩
    refine ⟨_, rfl, _, _, _, _, rfl, ty, isi_bt m1 (by decide +kernel), false, rfl, iteF ?_⟩
    refine ⟨_, rfl, _, _, _, _, rfl, ty, isi_bt m2 (by decide +kernel), false, rfl, iteF ?_⟩
    exact ⟨_, rfl, _, _, _, _, rfl, ty, isi_bt m3 (by decide +kernel), false, rfl, iteF ⟨_, rfl, k⟩⟩
theorem ok_copL (T : Txt K mg t) {C : Addr} (cl : Cls K C) (tc : TyC K C) (m1 : PySem.W.mroIn K C (.type "list") = some false) (m2 : PySem.W.mroIn K C (.type "tuple") = some false) (m3 : PySem.W.mroIn K C (.type "dict") = some false) : FnOk P w K mg base CX0 2 t.f_copied t.d_copied ["value"] (sp_cpL C) := by
  have G_copied := ok_copI (P := P) (w := w) (base := base) T cl tc m1 m2 m3
  refine T.F_copied.ok sc_copied (fun vs H Q E h => ?_) (fun cdv A outer s H vs Q E hr h => ?_)
  · obtain ⟨p, xs, rfl, _⟩ := h
    rfl
  · obtain ⟨p, xs, rfl, e, hl, hx, k⟩ := h
    have G_copied_dict : FnOk P w K mg base CX0 0 t.f_copied_dict t.d_copied_dict ["value"] (fun _ _ _ _ => False) := FnOk.none fun _ _ _ _ h => h
    refine ⟨_, (pss_cons (ps_if (pt_val (pe_callB call_isinst (by rfl) T.z_isinstance PyProof.Rows.boot_isinstance (pa_cons (pv 0) (pa_cons (pe_bltn (v := V.ty "list") rfl T.z_list PyProof.Rows.boot_list rfl) pa_nil))))
        (pss_one (ps_ret (pe_comp (N' := ["member"]) (ix := (List.replicate 1 none)) rfl (clok_none rfl (by decide +kernel) (by decide +kernel)) (ixok_none rfl) (pi_seq (pv 0)) (fun _ _ _ _ => (pg_name (i := 0) nd_comp_0 rfl (Or.inl rfl) (Or.inr rfl))) (fun _ _ _ _ => (pe_call G_copied (hr.mono (by omega)) rfl T.m_copied T.F_copied.kp T.b_copied .nil pass0 (pa_cons (pv 0) pa_nil))))))
        pss_nil)
      (pss_cons (ps_if (pt_val (pe_callB call_isinst (by rfl) T.z_isinstance PyProof.Rows.boot_isinstance (pa_cons (pv 0) (pa_cons (pe_bltn (v := V.ty "tuple") rfl T.z_tuple PyProof.Rows.boot_tuple rfl) pa_nil))))
        (pss_one (ps_ret (pe_callTy call_tuple_of (by rfl) T.z_tuple PyProof.Rows.boot_tuple (pa_cons (pe_comp (N' := ["member"]) (ix := (List.replicate 1 none)) rfl (clok_none rfl (by decide +kernel) (by decide +kernel)) (ixok_none rfl) (pi_seq (pv 0)) (fun _ _ _ _ => (pg_name (i := 0) nd_comp_0 rfl (Or.inl rfl) (Or.inr rfl))) (fun _ _ _ _ => (pe_call G_copied (hr.mono (by omega)) rfl T.m_copied T.F_copied.kp T.b_copied .nil pass0 (pa_cons (pv 0) pa_nil)))) pa_nil))))
        pss_nil)
      (pss_cons (ps_if (pt_val (pe_callB call_isinst (by rfl) T.z_isinstance PyProof.Rows.boot_isinstance (pa_cons (pv 0) (pa_cons (pe_bltn (v := V.ty "dict") rfl T.z_dict PyProof.Rows.boot_dict rfl) pa_nil))))
        (pss_one (ps_ret (pe_call G_copied_dict (hr.mono (by omega)) rfl T.m_copied_dict T.F_copied_dict.kp T.b_copied_dict .nil pass0 (pa_cons (pv 0) pa_nil))))
        pss_nil)
      (pss_one (ps_ret (pv 0)))))), ?_⟩
    refine ⟨_, rfl, _, _, _, _, rfl, .lst e, isi_same "list", true, rfl, iteT ?_⟩
    refine .inl ⟨_, rfl, p, rfl, ⟨_, SqL.of e⟩, fun D hD => ?_⟩
    refine comp_listQ (K := K) (a := p) (D := D) (xs := xs) (fun i ys H2 => Same H H2 ∧ H2 D = some (.lst ys) ∧ ys = xs.take i)
      ⟨same_new hD, upd_same, rfl⟩ (fun i ys H2 ⟨s2, _⟩ => SqL.of (s2 _ _ e)) ?_ ?_
    · rintro i x ys H2 hxi ⟨s2, hD2, rfl⟩
      obtain ⟨a, dx, fs, rfl, ea⟩ := hx x (List.mem_of_getElem? hxi)
      have hlt : (xs.take i).length ≤ xs.length := by rw [List.length_take]; omega
      refine ⟨True.intro, _, rfl, a, dx, fs, rfl, s2 _ _ ea, hD2, line_lt (by omega), same_fresh s2 hD, upd_same, ?_⟩
      rw [List.take_add_one, hxi]
      rfl
    · rintro ys H2 ⟨s2, hD2, rfl⟩
      rw [List.take_length] at hD2
      exact k D H2 hD s2 hD2
theorem ok_copied_dict (T : Txt K mg t) : FnOk P w K mg base CX0 3 t.f_copied_dict t.d_copied_dict ["value"] sp_cd := by
  have G_copied := ok_copied (P := P) (w := w) (base := base) T 1
  refine T.F_copied_dict.ok sc_copied_dict (fun vs H Q E h => ?_) (fun cdv A outer s H vs Q E hr h => ?_)
  · obtain ⟨d, kvs, ds, rfl, _⟩ := h
    rfl
  · obtain ⟨d, kvs, ds, rfl, hd, hl, src, k⟩ := h
    have hu := hu_of hr
    refine ⟨_, (pss_know (pss_cons (ps_set (i := 1) sc_copied_dict.nd rfl (Or.inl rfl) pe_dnewK)
      (pss_cons (ps_for PassesOwn.never rfl (pi_items (pe_bm0 PySem.F.plainAttrs_dict PySem.F.slot_dict_items PySem.F.type_dict_items mt_items (pv 0))) (pg_tup (n := 2) rfl (pgs_cons (pg_name (i := 2) sc_copied_dict.nd rfl (Or.inl rfl) (Or.inl rfl)) (pgs_cons (pg_name (i := 3) sc_copied_dict.nd rfl (Or.inl rfl) (Or.inl rfl)) pgs_nil)))
        (pss_one (ps_dput hu (pv 1) (pv 2) (pe_call G_copied (hr.mono (by omega)) rfl T.m_copied T.F_copied.kp T.b_copied .nil pass0 (pa_cons (pv 3) pa_nil)) rfl)))
      (pss_thawD (pss_one (ps_ret (pv 1))))))), ?_⟩
    intro ap
    have nd := ap.1 d kvs hd
    refine fun p hp => ?_
    have dp : d ≠ p := ne_of_none hd hp
    have hd1 : upd H p (.dK []) d = some (.dK kvs) := by rw [upd_ne dp]; exact hd
    refine ⟨_, rfl, .inr (.inr (.inl ⟨rfl, .inl ⟨_, hd1⟩⟩)), d, _, rfl, rfl, hd1, .inl ⟨_, rfl⟩, fun vw hvw => ?_⟩
    have vp : p ≠ vw := ne_of_none upd_same hvw
    have dv : d ≠ vw := ne_of_none hd1 hvw
    refine ⟨vw, d, _, rfl, upd_same, (by rw [upd_ne dv]; exact hd1), .inl ⟨kvs, rfl, fun o => ?_⟩⟩
    have hv0 : H vw = none := by rw [upd_ne vp.symm] at hvw; exact hvw
    have g0 : Same (upd H d (.frz o (.dK kvs))) (upd (upd (upd H p (.dK [])) vw (viewO vw d)) d (.frz o (.dK kvs))) := fun b v e => by
      by_cases hb : b = d
      · subst hb; rw [upd_same] at e ⊢; exact e
      · rw [upd_ne hb] at e ⊢
        rw [upd_ne (ne_of_none e hv0), upd_ne (ne_of_none e hp)]; exact e
    have hpG : upd H d (.frz o (.dK kvs)) p = none := by rw [upd_ne dp.symm]; exact hp
    have nd0 : ∀ b, upd H d (.frz o (.dK kvs)) b = none → H b = none := fun b e => by
      by_cases hb : b = d
      · subst hb; rw [upd_same] at e; cases e
      · rw [upd_ne hb] at e; exact e
    refine for_items (L := kvs.map fun q => (kV q.1, q.2)) (fun i σ H4 => ∃ (o2 o3 : Option V) (ws : List (Key × V)), σ = [some (.ref d), some (.ref p), o2, o3] ∧ Same (upd H d (.frz o (.dK kvs))) H4 ∧ H4 p = some (.dK ws) ∧ ws.map (·.1) = (kvs.take i).map (·.1) ∧ Paired (fun (b : Key × V) (x : PyData) => Rep (restr (fun a => H a = none ∧ a ≠ p) H4) b.2 x) ws (ds.take i))
      ⟨none, none, [], rfl, g0, (by rw [upd_ne dp.symm, upd_ne vp, upd_same]), rfl, .nil⟩ (fun i σ H4 ⟨_, _, _, _, s4, _⟩ => s4 _ _ upd_same) ?_ ?_
    · rintro i kx vx q σ H4 hx hq ⟨o2, o3, ws, rfl, s4, h4, ks, cp⟩
      rw [List.getElem?_map] at hx
      obtain ⟨⟨k', v⟩, hk, e⟩ := Option.map_eq_some_iff.mp hx
      cases e
      obtain ⟨x, hxd, rv, dv1, cv1⟩ := pget src hk
      have sq : Same H4 (upd H4 q (.tup [kV k', v])) := same_new hq
      have rv4 : Rep (upd H4 q (.tup [kV k', v])) v x := (rv.imp2 (fun b ys z => s4 _ _ (by rw [upd_ne (ne_of z hd (by intro w; cases w))]; exact z)) fun b ys z => s4 _ _ (by rw [upd_ne (ne_of z hd (by intro w; cases w))]; exact z)).same sq
      refine ⟨q, _, rfl, SqT.of upd_same, rfl, _, _, rfl, _, _, rfl, rfl, _, rfl, v, x, rfl, rv4, dv1, cv1, fun v' H6 s6 r6 => ?_⟩
      have h6 := s6 _ _ (sq _ _ h4)
      have lw : ws.length = (kvs.take i).length := by have := congrArg List.length ks; simpa using this
      have lt2 : (kvs.take i).length ≤ kvs.length := by rw [List.length_take]; omega
      refine ⟨_, rfl, _, rfl, p, _, rfl, DPut.k (k := k') h6 (line_lt (by omega)), ?_⟩
      have hnS : ¬ (H p = none ∧ p ≠ p) := fun z => z.2 rfl
      refine ⟨_, _, _, rfl, same_fresh (s4.trans (sq.trans s6)) hpG, upd_same, ?_, ?_⟩
      · rw [put_next nd hk ws ks v', List.take_add_one, hk, List.map_append, List.map_append, ks]
        rfl
      · rw [put_next nd hk ws ks v', List.take_add_one, hxd]
        refine papp (Paired.mapP cp fun _ _ z => z.same (restr_upd (restr_same (sq.trans s6)) hnS)) (.cons (r6.same ((restr_imp (Same.refl _) fun a ob ea ha => ⟨?_, fun z => ?_⟩).trans (restr_upd (Same.refl _) hnS))) .nil)
        · exact nd0 a (s4.free (sq.free ha))
        · subst z
          rw [sq _ _ h4] at ha
          cases ha
    · rintro σ H4 ⟨o2, o3, ws, rfl, s4, h4, ks, cp⟩
      have ld := Paired.length src
      rw [List.length_map, List.take_length] at ks
      rw [List.length_map, ld, List.take_length] at cp
      have hd4 : H4 d = some (.frz o (.dK kvs)) := s4 _ _ upd_same
      refine ⟨d, o, _, hd4, .inl ⟨_, rfl⟩, (fun o' u' z => by have z : H d = some (.frz o' u') := z; rw [hd] at z; cases z), _, rfl, ?_⟩
      have hnd : ¬ (H d = none ∧ d ≠ p) := fun z => by rw [hd] at z; cases z.1
      exact k p ws _ hp (same_thaw hd s4) (by rw [upd_ne dp.symm]; exact h4) ks (Paired.mapP cp fun _ _ z => z.same ((restr_upd (Same.refl _) hnd).trans (restr_imp (Same.refl _) fun a ob _ h => h.1)))
theorem ok_copD (T : Txt K mg t) : FnOk P w K mg base CX0 4 t.f_copied t.d_copied ["value"] sp_cd := by
  have G_copied_dict := ok_copied_dict (P := P) (w := w) (base := base) T
  have G_copied : FnOk P w K mg base CX0 0 t.f_copied t.d_copied ["value"] (fun _ _ _ _ => False) := FnOk.none fun _ _ _ _ h => h
  refine T.F_copied.ok sc_copied (fun vs H Q E h => ?_) (fun cdv A outer s H vs Q E hr h => ?_)
  · obtain ⟨d, kvs, ds, rfl, _⟩ := h
    rfl
  · have h0 := h
    obtain ⟨d, kvs, ds, rfl, hd, _⟩ := h
    refine ⟨_, (pss_cons (ps_if (pt_val (pe_callB call_isinst (by rfl) T.z_isinstance PyProof.Rows.boot_isinstance (pa_cons (pv 0) (pa_cons (pe_bltn (v := V.ty "list") rfl T.z_list PyProof.Rows.boot_list rfl) pa_nil))))
        (pss_one (ps_ret (pe_comp (N' := ["member"]) (ix := (List.replicate 1 none)) rfl (clok_none rfl (by decide +kernel) (by decide +kernel)) (ixok_none rfl) (pi_seq (pv 0)) (fun _ _ _ _ => (pg_name (i := 0) nd_comp_0 rfl (Or.inl rfl) (Or.inr rfl))) (fun _ _ _ _ => (pe_call G_copied (hr.mono (by omega)) rfl T.m_copied T.F_copied.kp T.b_copied .nil pass0 (pa_cons (pv 0) pa_nil))))))
        pss_nil)
      (pss_cons (ps_if (pt_val (pe_callB call_isinst (by rfl) T.z_isinstance PyProof.Rows.boot_isinstance (pa_cons (pv 0) (pa_cons (pe_bltn (v := V.ty "tuple") rfl T.z_tuple PyProof.Rows.boot_tuple rfl) pa_nil))))
        (pss_one (ps_ret (pe_callTy call_tuple_of (by rfl) T.z_tuple PyProof.Rows.boot_tuple (pa_cons (pe_comp (N' := ["member"]) (ix := (List.replicate 1 none)) rfl (clok_none rfl (by decide +kernel) (by decide +kernel)) (ixok_none rfl) (pi_seq (pv 0)) (fun _ _ _ _ => (pg_name (i := 0) nd_comp_0 rfl (Or.inl rfl) (Or.inr rfl))) (fun _ _ _ _ => (pe_call G_copied (hr.mono (by omega)) rfl T.m_copied T.F_copied.kp T.b_copied .nil pass0 (pa_cons (pv 0) pa_nil)))) pa_nil))))
        pss_nil)
      (pss_cons (ps_if (pt_val (pe_callB call_isinst (by rfl) T.z_isinstance PyProof.Rows.boot_isinstance (pa_cons (pv 0) (pa_cons (pe_bltn (v := V.ty "dict") rfl T.z_dict PyProof.Rows.boot_dict rfl) pa_nil))))
        (pss_one (ps_ret (pe_call G_copied_dict (hr.mono (by omega)) rfl T.m_copied_dict T.F_copied_dict.kp T.b_copied_dict .nil pass0 (pa_cons (pv 0) pa_nil))))
        pss_nil)
      (pss_one (ps_ret (pv 0)))))), ?_⟩
    refine ⟨_, rfl, _, _, _, _, rfl, .dK hd, isi_by (by decide +kernel) (by decide +kernel) (by decide +kernel), false, rfl, iteF ?_⟩
    refine ⟨_, rfl, _, _, _, _, rfl, .dK hd, isi_by (by decide +kernel) (by decide +kernel) (by decide +kernel), false, rfl, iteF ?_⟩
    exact ⟨_, rfl, _, _, _, _, rfl, .dK hd, isi_same "dict", true, rfl, iteT ⟨_, rfl, h0⟩⟩
/-- copied of data, of a list of lets, of a dict -/
def sp_all (A : Adr) : Sp := fun vs H Q E => (sp_cop 3 vs H Q E ∨ sp_cpL A.C_Let vs H Q E) ∨ sp_cd vs H Q E
theorem ok_cop (T : Txt K mg t) : FnOk P w K mg base CX0 4 t.f_copied t.d_copied ["value"] (sp_all t) :=
  FnOk.or (FnOk.or (ok_copied T 3) ((ok_copL T T.cl_Let T.ty_Let T.mb_Let_list T.mb_Let_tuple T.mb_Let_dict).mono (by omega))) (ok_copD T)
end
end My

set_option Elab.async false
set_option linter.all false
set_option maxRecDepth 100000
set_option maxHeartbeats 4000000
namespace My
open PySem L2
local macro_rules | `(tactic| walk_at "lk") => `(tactic| first | with_reducible exact lk0 | (refine lk1 (by decide +kernel) ?_; walk_at "lk") | rfl)
/-- all but p stays -/
def KB (p : Addr) (H H' : Hp) : Prop := ∀ b o, b ≠ p → H b = some o → H' b = some o
theorem KB.upd {p : Addr} {H H' : Hp} {o : HO} (k : KB p H H') : KB p H (upd H' p o) := fun b u hb e => by rw [upd_ne hb]; exact k b u hb e
theorem KB.refl {p : Addr} {H : Hp} : KB p H H := fun _ _ _ e => e
theorem KB.trans {p : Addr} {H H' H2 : Hp} (a : KB p H H') (b : KB p H' H2) : KB p H H2 := fun c o hc e => b c o hc (a c o hc e)
theorem KB.of {p : Addr} {H H' : Hp} (s : Same H H') : KB p H H' := fun b o _ e => s _ _ e
theorem KB.free {p b : Addr} {H H' : Hp} {u : HO} (k : KB p H H') (hp : H' p = some u) (hb : H' b = none) : H b = none := by
  cases e : H b with
  | none => rfl
  | some o =>
    have hne : b ≠ p := fun z => by subst z; rw [hp] at hb; cases hb
    rw [k b o hne e] at hb
    cases hb
theorem KB.same {p : Addr} {H H2 H' : Hp} (s : Same H H2) (k : KB p H2 H') (hp : H p = none) : Same H H' := fun b o e => k b o (ne_of_none e hp) (s _ _ e)
abbrev Ints' (kvs : List (Key × V)) (is : List Int) : Prop := Paired (fun (p : Key × V) (i : Int) => p.2 = .int i) kvs is
theorem ints_src {H : Hp} : ∀ {kvs : List (Key × V)} {is : List Int}, Ints' kvs is → Paired (fun (a : Key × V) (x : PyData) => Rep H a.2 x ∧ PyData.depth x ≤ 1 ∧ cnt x ≤ 100000) kvs (is.map PyData.int)
  | _, _, .nil => .nil
  | _, _, .cons a t => .cons ⟨by rw [a]; exact .int _, by simp [PyData.depth], by simp [cnt]⟩ (ints_src t)
theorem ints_of {S : Addr → Prop} {H : Hp} : ∀ {kvs kvs' : List (Key × V)} {is : List Int}, Ints' kvs is → kvs'.map (·.1) = kvs.map (·.1) → Paired (fun (b : Key × V) (x : PyData) => Rep (restr S H) b.2 x) kvs' (is.map PyData.int) → kvs' = kvs
  | _, [], _, .nil, _, _ => rfl
  | _, _ :: _, _, .nil, ks, _ => by cases ks
  | _, [], _, .cons _ _, ks, _ => by cases ks
  | _, q :: r, _, @Paired.cons _ _ _ p i _ _ a t, ks, pr => by
    rw [List.map_cons, List.map_cons] at ks
    injection ks with k1 k2
    rw [List.map_cons] at pr
    cases pr with
    | cons b pr =>
      rw [ints_of t k2 pr]
      have hb := rep_int b
      have : q = p := Prod.ext k1 (hb.trans a.symm)
      rw [this]
def sp_initL (A : Adr) : Sp := fun vs H Q _ => ∃ (p dx l : Addr) (n : V) (x : Str) (ys : List Str), vs = [.ref p, .str x, .ref l, n] ∧ H p = some (.ins A.C_Let dx []) ∧ H l = some (.lst (ys.map V.str)) ∧ ys.length ≤ 1000 ∧
  ∀ (c : Addr) (H' : Hp), H c = none → H' p = some (.ins A.C_Let dx [("name", .str x), ("axes", .ref c), ("term", n)]) → H' c = some (.lst (ys.map V.str)) → (∀ b o, b ≠ p → H b = some o → H' b = some o) → Q .non H'
def sp_initP (A : Adr) : Sp := fun vs H Q _ => ∃ (p dx a t l o : Addr) (wh : Int) (ax : List (Str × Int)) (tb : List (Str × List Str)) (xs : List V) (os : List Str), vs = [.ref p, .int wh, .ref a, .ref t, .ref l, .ref o] ∧ H p = some (.ins A.C_Program dx []) ∧
  Rep H (.ref a) (encIx ax) ∧ ax.length ≤ 1000 ∧ Rep H (.ref t) (encTb tb) ∧ tb.length ≤ 1000 ∧ (∀ e ∈ tb, e.2.length ≤ 10) ∧ H l = some (.lst xs) ∧ xs.length ≤ 1000 ∧ (∀ x ∈ xs, ∃ a dx fs, x = .ref a ∧ a ≠ p ∧ H a = some (.ins A.C_Let dx fs)) ∧ H o = some (.lst (os.map V.str)) ∧ os.length ≤ 1000 ∧
  ∀ (a' t' l' o' : Addr) (H' : Hp), H' p = some (.ins A.C_Program dx [("wheel", .int wh), ("axes", .ref a'), ("tables", .ref t'), ("lets", .ref l'), ("outs", .ref o')]) → Rep H' (.ref a') (encIx ax) → Rep H' (.ref t') (encTb tb) → H' l' = some (.lst xs) → H' o' = some (.lst (os.map V.str)) → KB p H H' → Q .non H'
/-- a program -/
structure PrAt (A : Adr) (H : Hp) (p : Addr) (wh : Int) (ax : List (Str × Int)) (tb : List (Str × List Str)) (ls : List V) (os : List Str) : Prop where
  ob : ∃ dx a t l o, H p = some (.ins A.C_Program dx [("wheel", .int wh), ("axes", .ref a), ("tables", .ref t), ("lets", .ref l), ("outs", .ref o)]) ∧ Rep H (.ref a) (encIx ax) ∧ Rep H (.ref t) (encTb tb) ∧ H l = some (.lst ls) ∧ H o = some (.lst (os.map V.str))
theorem PrAt.same {A : Adr} {H H' : Hp} {p : Addr} {wh : Int} {ax : List (Str × Int)} {tb : List (Str × List Str)} {ls : List V} {os : List Str} (h : PrAt A H p wh ax tb ls os) (s : Same H H') : PrAt A H' p wh ax tb ls os := by
  obtain ⟨dx, a, t, l, o, e, r1, r2, r3, r4⟩ := h.ob
  exact ⟨dx, a, t, l, o, s _ _ e, r1.same s, r2.same s, s _ _ r3, s _ _ r4⟩
def sp_tbn (A : Adr) : Sp := fun vs H Q _ => ∃ (p : Addr) (wh : Int) (ax : List (Str × Int)) (tb : List (Str × List Str)) (ls : List V) (os : List Str), vs = [.ref p] ∧ PrAt A H p wh ax tb ls os ∧ tb.length ≤ 100 ∧ ∀ (q : Addr) (H' : Hp), H q = none → Same H H' → H' q = some (.lst ((tb.map (·.1)).map V.str)) → Q (.ref q) H'
def lenK (ax : List (Str × Int)) : List (Key × V) := ax.map fun e => (Sum.inr e.1, V.int e.2)
theorem pl_of {H : Hp} : ∀ {ax : List (Str × Int)} {xs : List V}, Reps H xs (ax.map encI) → PL H xs (lenK ax)
  | [], _, r => by cases r; exact .nil
  | e :: ax, _, r => by
    rw [List.map_cons] at r
    cases r with
    | cons a r =>
      obtain ⟨b, rfl, eb⟩ := rep_I a
      exact .cons ⟨b, rfl, eb⟩ (pl_of r)
theorem merge_nodup {ws : List (Key × V)} (n : (ws.map (·.1)).Nodup) : mergeK [] ws = ws := by
  have key : ∀ i, i ≤ ws.length → mergeK [] (ws.take i) = ws.take i := by
    intro i
    induction i with
    | zero => intro _; rfl
    | succ i ih =>
      intro hi
      have e : ws[i]? = some ws[i] := List.getElem?_eq_getElem (by omega)
      rw [List.take_add_one, e, Option.toList_some, mergeK_snoc, ih (by omega)]
      exact put_next (k := ws[i].1) (v := ws[i].2) n e (ws.take i) rfl ws[i].2
  have := key ws.length (Nat.le_refl _)
  rwa [List.take_length] at this
def sp_len (A : Adr) : Sp := fun vs H Q _ => ∃ (p : Addr) (wh : Int) (ax : List (Str × Int)) (tb : List (Str × List Str)) (ls : List V) (os : List Str), vs = [.ref p] ∧ PrAt A H p wh ax tb ls os ∧ (ax.map (·.1)).Nodup ∧ ∀ q, H q = none → Q (.ref q) (upd H q (.dK (lenK ax)))
section
variable {P : Program} {w : World} {K : PySem.W.Frag} {mg : Str → Option Value} {base : Heap} {t : Adr}
theorem ok_Let_init (T : Txt K mg t) : FnOk P w K mg base CX0 5 t.f_Let_init t.d_Let_init ["self", "name", "axes", "term"] (sp_initL t) := by
  have G_copied := ok_cop (P := P) (w := w) (base := base) T
  refine T.F_Let_init.ok sc_Let_init (fun vs H Q E h => ?_) (fun cdv A outer s H vs Q E hr h => ?_)
  · obtain ⟨p, dx, l, n, x, ys, rfl, _⟩ := h
    rfl
  · obtain ⟨p, dx, l, n, x, ys, rfl, hp, hl, hy, k⟩ := h
    obtain ⟨c2, c3⟩ := encS_ok ys
    have lp : l ≠ p := ne_of hl hp (by intro z; cases z)
    refine ⟨_, (pss_cons (ps_fld (pv 0) (pv 1) rfl)
      (pss_cons (ps_fld (pv 0) (pe_call G_copied (hr.mono (by omega)) rfl T.m_copied T.F_copied.kp T.b_copied .nil pass0 (pa_cons (pv 2) pa_nil)) rfl)
      (pss_one (ps_fld (pv 0) (pv 3) rfl)))), _, rfl, _, rfl, p, _, dx, [], rfl, hp, T.cl_Let, T.na_Let_name, (by decide), ?_⟩
    refine ⟨_, rfl, .inl (.inl ⟨.ref l, encS ys, rfl, (S_rep hl).ins hp, by omega, by omega, fun v' H2 s2 rp2 => ?_⟩)⟩
    have hp2 := s2 _ _ (upd_same (H := H) (a := p))
    obtain ⟨c, rfl, ec⟩ := rep_S rp2
    obtain ⟨hc0, ec⟩ := restr_some ec
    have hcn : H c = none := by
      by_cases z : c = p
      · subst z; rw [upd_same] at hc0; cases hc0
      · rw [upd_ne z] at hc0; exact hc0
    have cp : c ≠ p := fun z => by subst z; rw [hp] at hcn; cases hcn
    refine ⟨_, rfl, p, _, dx, _, rfl, hp2, T.cl_Let, T.na_Let_axes, (by show 1 < 1000; decide), ?_⟩
    refine ⟨_, rfl, _, rfl, p, _, dx, _, rfl, upd_same, T.cl_Let, T.na_Let_term, (by show 2 < 1000; decide), ?_⟩
    show Q V.non (upd (upd H2 p _) p (.ins t.C_Let dx (putF "term" n (putF "axes" (.ref c) (putF "name" (.str x) [])))))
    have e1 : putF "axes" (V.ref c) (putF "name" (.str x) []) = ([("name", .str x), ("axes", .ref c)] : List (Str × V)) := by rw [putF_nil, putF_ne (by decide +kernel), putF_nil]
    have e2 : putF "term" n ([("name", .str x), ("axes", .ref c)] : List (Str × V)) = ([("name", .str x), ("axes", .ref c), ("term", n)] : List (Str × V)) := by rw [putF_ne (by decide +kernel), putF_ne (by decide +kernel), putF_nil]
    rw [upd_upd, e1, e2]
    refine k c _ hcn upd_same (by rw [upd_ne cp]; exact ec) fun b o hb e => ?_
    rw [upd_ne hb]
    exact s2 _ _ (by rw [upd_ne hb]; exact e)
theorem ok_Program_init (T : Txt K mg t) : FnOk P w K mg base CX0 5 t.f_Program_init t.d_Program_init ["self", "wheel", "axes", "tables", "lets", "outs"] (sp_initP t) := by
  have G_copied := ok_cop (P := P) (w := w) (base := base) T
  refine T.F_Program_init.ok sc_Program_init (fun vs H Q E h => ?_) (fun cdv A outer s H vs Q E hr h => ?_)
  · obtain ⟨p, dx, a, tt, l, o, wh, ax, tb, xs, os, rfl, _⟩ := h
    rfl
  · obtain ⟨p, dx, a, tt, l, o, wh, ax, tb, xs, os, rfl, hp, ra, la, rt, lt, lt2, hl, ll, hx, ho, lo, k⟩ := h
    have a2 := encIx_ok ax
    have a3 := ix_cnt (ix := ax)
    obtain ⟨t2, t3⟩ := encTb_ok tb lt2
    obtain ⟨o2, o3⟩ := encS_ok os
    have f1 : ∀ v : V, putF "axes" v [("wheel", .int wh)] = ([("wheel", .int wh), ("axes", v)] : List (Str × V)) := fun v => by rw [putF_ne (by decide +kernel), putF_nil]
    have f2 : ∀ u v : V, putF "tables" v [("wheel", .int wh), ("axes", u)] = ([("wheel", .int wh), ("axes", u), ("tables", v)] : List (Str × V)) := fun u v => by rw [putF_ne (by decide +kernel), putF_ne (by decide +kernel), putF_nil]
    have f3 : ∀ u1 u v : V, putF "lets" v [("wheel", .int wh), ("axes", u1), ("tables", u)] = ([("wheel", .int wh), ("axes", u1), ("tables", u), ("lets", v)] : List (Str × V)) := fun u1 u v => by rw [putF_ne (by decide +kernel), putF_ne (by decide +kernel), putF_ne (by decide +kernel), putF_nil]
    have f4 : ∀ u1 u2 u v : V, putF "outs" v [("wheel", .int wh), ("axes", u1), ("tables", u2), ("lets", u)] = ([("wheel", .int wh), ("axes", u1), ("tables", u2), ("lets", u), ("outs", v)] : List (Str × V)) := fun u1 u2 u v => by rw [putF_ne (by decide +kernel), putF_ne (by decide +kernel), putF_ne (by decide +kernel), putF_ne (by decide +kernel), putF_nil]
    have np : ∀ {b : Addr} {u : HO}, H b = some u → (∀ C d fs, u ≠ .ins C d fs) → b ≠ p := fun e n z => by subst z; rw [hp] at e; cases e; exact n _ _ _ rfl
    have rp : ∀ {v : V} {d : PyData} {G : Hp}, KB p H G → Rep H v d → Rep G v d := fun kb r => r.imp2 (fun q ys z => kb _ _ (np z (by intros; intro z; cases z)) z) fun q ys z => kb _ _ (np z (by intros; intro z; cases z)) z
    have rq : ∀ {v : V} {d : PyData} {G G' : Hp} {C dd : Addr} {fs : List (Str × V)}, KB p G G' → G p = some (.ins C dd fs) → Rep G v d → Rep G' v d := fun kb hG r => r.imp2 (fun q ys z => kb _ _ (ne_of z hG (by intro w; cases w)) z) fun q ys z => kb _ _ (ne_of z hG (by intro w; cases w)) z
    refine ⟨_, (pss_cons (ps_fld (pv 0) (pv 1) rfl)
      (pss_cons (ps_fld (pv 0) (pe_call G_copied (hr.mono (by omega)) rfl T.m_copied T.F_copied.kp T.b_copied .nil pass0 (pa_cons (pv 2) pa_nil)) rfl)
      (pss_cons (ps_fld (pv 0) (pe_call G_copied (hr.mono (by omega)) rfl T.m_copied T.F_copied.kp T.b_copied .nil pass0 (pa_cons (pv 3) pa_nil)) rfl)
      (pss_cons (ps_fld (pv 0) (pe_call G_copied (hr.mono (by omega)) rfl T.m_copied T.F_copied.kp T.b_copied .nil pass0 (pa_cons (pv 4) pa_nil)) rfl)
      (pss_one (ps_fld (pv 0) (pe_call G_copied (hr.mono (by omega)) rfl T.m_copied T.F_copied.kp T.b_copied .nil pass0 (pa_cons (pv 5) pa_nil)) rfl)))))), _, rfl, _, rfl, p, _, dx, [], rfl, hp, T.cl_Program, T.na_Program_wheel, (by decide), ?_⟩
    rw [putF_nil]
    obtain ⟨G0, hG0⟩ : ∃ G0, G0 = upd H p (.ins t.C_Program dx [("wheel", .int wh)]) := ⟨_, rfl⟩
    rw [← hG0]
    have p0 : G0 p = some (.ins t.C_Program dx [("wheel", .int wh)]) := by rw [hG0]; exact upd_same
    have k0 : KB p H G0 := by rw [hG0]; exact KB.refl.upd
    -- axes
    refine ⟨_, rfl, .inl (.inl ⟨.ref a, encIx ax, rfl, rp k0 ra, by omega, by omega, fun va H1 s1 r1 => ?_⟩)⟩
    obtain ⟨a', xa, rfl, ea, _⟩ := rep_lst (show Rep _ va (.list (ax.map encI)) from r1)
    refine ⟨_, rfl, p, _, dx, _, rfl, s1 _ _ p0, T.cl_Program, T.na_Program_axes, (by show 1 < 1000; decide), ?_⟩
    rw [f1]
    obtain ⟨G1, hG1⟩ : ∃ G1, G1 = upd H1 p (.ins t.C_Program dx [("wheel", .int wh), ("axes", .ref a')]) := ⟨_, rfl⟩
    rw [← hG1]
    have p1 : G1 p = some (.ins t.C_Program dx [("wheel", .int wh), ("axes", .ref a')]) := by rw [hG1]; exact upd_same
    have k1 : KB p H G1 := by rw [hG1]; exact (k0.trans (KB.of s1)).upd
    have ra1 : Rep G1 (.ref a') (encIx ax) := by rw [hG1]; exact rq (KB.refl.upd) (s1 _ _ p0) (r1.same restr_sub)
    -- tables
    refine ⟨_, rfl, .inl (.inl ⟨.ref tt, encTb tb, rfl, rp k1 rt, by omega, by omega, fun vt H2 s2 r2 => ?_⟩)⟩
    obtain ⟨t', xt, rfl, et, _⟩ := rep_lst (show Rep _ vt (.list (tb.map encT)) from r2)
    refine ⟨_, rfl, p, _, dx, _, rfl, s2 _ _ p1, T.cl_Program, T.na_Program_tables, (by show 2 < 1000; decide), ?_⟩
    rw [f2]
    obtain ⟨G2, hG2⟩ : ∃ G2, G2 = upd H2 p (.ins t.C_Program dx [("wheel", .int wh), ("axes", .ref a'), ("tables", .ref t')]) := ⟨_, rfl⟩
    rw [← hG2]
    have p2 : G2 p = some (.ins t.C_Program dx [("wheel", .int wh), ("axes", .ref a'), ("tables", .ref t')]) := by rw [hG2]; exact upd_same
    have j2 : KB p G1 G2 := by rw [hG2]; exact (KB.of s2).upd
    have k2 := k1.trans j2
    have rt2 : Rep G2 (.ref t') (encTb tb) := by rw [hG2]; exact rq (KB.refl.upd) (s2 _ _ p1) (r2.same restr_sub)
    -- lets
    refine ⟨_, rfl, .inl (.inr ⟨l, xs, rfl, k2 _ _ (np hl (by intros; intro z; cases z)) hl, ll, fun x hxx => ?_, fun l' H3 hl' s3 hl3 => ?_⟩)⟩
    · obtain ⟨b, db, fs, rfl, nb, eb⟩ := hx x hxx
      exact ⟨b, db, fs, rfl, k2 _ _ nb eb⟩
    have lp : l' ≠ p := fun z => by subst z; rw [p2] at hl'; cases hl'
    refine ⟨_, rfl, p, _, dx, _, rfl, s3 _ _ p2, T.cl_Program, T.na_Program_lets, (by show 3 < 1000; decide), ?_⟩
    rw [f3]
    obtain ⟨G3, hG3⟩ : ∃ G3, G3 = upd H3 p (.ins t.C_Program dx [("wheel", .int wh), ("axes", .ref a'), ("tables", .ref t'), ("lets", .ref l')]) := ⟨_, rfl⟩
    rw [← hG3]
    have p3 : G3 p = some (.ins t.C_Program dx [("wheel", .int wh), ("axes", .ref a'), ("tables", .ref t'), ("lets", .ref l')]) := by rw [hG3]; exact upd_same
    have j3 : KB p G2 G3 := by rw [hG3]; exact (KB.of s3).upd
    have k3 := k2.trans j3
    have gl3 : G3 l' = some (.lst xs) := by rw [hG3, upd_ne lp]; exact hl3
    -- outs
    refine ⟨_, rfl, .inl (.inl ⟨.ref o, encS os, rfl, S_rep (k3 _ _ (np ho (by intros; intro z; cases z)) ho), by omega, by omega, fun vo H4 s4 r4 => ?_⟩)⟩
    obtain ⟨o', rfl, eo⟩ := rep_S r4
    have eo := (restr_some eo).2
    refine ⟨_, rfl, p, _, dx, _, rfl, s4 _ _ p3, T.cl_Program, T.na_Program_outs, (by show 4 < 1000; decide), ?_⟩
    show Q V.non (upd H4 p _)
    rw [f4]
    have j4 : KB p G3 (upd H4 p (.ins t.C_Program dx [("wheel", .int wh), ("axes", .ref a'), ("tables", .ref t'), ("lets", .ref l'), ("outs", .ref o')])) := (KB.of s4).upd
    exact k a' t' l' o' _ upd_same (rq ((j2.trans j3).trans j4) p1 ra1) (rq (j3.trans j4) p2 rt2) (j4 _ _ lp gl3) (by rw [upd_ne (ne_of eo (s4 _ _ p3) (by intro z; cases z))]; exact eo) (k3.trans j4)
theorem ok_table_names (T : Txt K mg t) : FnOk P w K mg base CX0 1 t.f_table_names t.d_table_names ["program"] (sp_tbn t) := by
  refine T.F_table_names.ok sc_table_names (fun vs H Q E h => ?_) (fun cdv A outer s H vs Q E hr h => ?_)
  · obtain ⟨p, wh, ax, tb, ls, os, rfl, _⟩ := h
    rfl
  · obtain ⟨p, wh, ax, tb, ls, os, rfl, pr, lt, k⟩ := h
    obtain ⟨dx, a, tt, l, o, e, ra, rt, _⟩ := pr.ob
    obtain ⟨t2, xs, et, hx, rs⟩ := rep_lst (show Rep H (.ref tt) (.list (tb.map encT)) from rt)
    cases et
    have lxs := rs.len
    rw [List.length_map] at lxs
    refine ⟨_, (pss_one (ps_ret (pe_comp (N' := ["name", "axes"]) (ix := (List.replicate 2 none)) (g := gTup K 2 (gCons (gName 0) (gCons (gName 1) gNil))) rfl (clok_none rfl (by decide +kernel) (by decide +kernel)) (ixok_none rfl) (pi_list (pe_fld (pv 0) rfl)) (fun _ _ _ _ => (pg_tup (n := 2) rfl (pgs_cons (pg_name (i := 0) nd_comp_1 rfl (Or.inl rfl) (Or.inr rfl)) (pgs_cons (pg_name (i := 1) nd_comp_1 rfl (Or.inl rfl) (Or.inr rfl)) pgs_nil)))) (fun _ _ _ _ => (pv 0))))), ?_⟩
    refine ⟨_, rfl, p, _, dx, _, _, rfl, e, T.cl_Program, T.na_Program_tables, (by walk_at "lk"), tt, rfl, ⟨_, SqL.of hx⟩, fun D hD => ?_⟩
    refine comp_listQ (K := K) (a := tt) (D := D) (xs := xs) (fun i zs H2 => Same H H2 ∧ H2 D = some (.lst zs) ∧ zs = ((tb.take i).map (·.1)).map V.str) ⟨same_new hD, upd_same, rfl⟩ (fun i zs H2 ⟨s2, _⟩ => SqL.of (s2 _ _ hx)) ?_ ?_
    · rintro i x zs H2 hy ⟨s2, hD2, rfl⟩
      have hi : i < xs.length := (List.getElem?_eq_some_iff.mp hy).1
      obtain ⟨te, hte, ry⟩ := reps_of rs hy
      obtain ⟨b, c, rfl, eb, ec⟩ := rep_T ry
      refine ⟨b, _, rfl, SqT.of (s2 _ _ eb), rfl, _, _, rfl, _, _, rfl, rfl, ?_⟩
      refine ⟨True.intro, _, rfl, hD2, line_lt (by simp; omega), same_fresh s2 hD, upd_same, ?_⟩
      rw [List.take_add_one, hte, Option.toList_some]
      simp
    · rintro zs H2 ⟨s2, hD2, rfl⟩
      rw [lxs, List.take_length] at hD2
      exact k D H2 hD s2 hD2
theorem ok_lengths_of (T : Txt K mg t) : FnOk P w K mg base CX0 1 t.f_lengths_of t.d_lengths_of ["program"] (sp_len t) := by
  refine T.F_lengths_of.ok sc_lengths_of (fun vs H Q E h => ?_) (fun cdv A outer s H vs Q E hr h => ?_)
  · obtain ⟨p, wh, ax, tb, ls, os, rfl, _⟩ := h
    rfl
  · obtain ⟨p, wh, ax, tb, ls, os, rfl, pr, nd, k⟩ := h
    obtain ⟨dx, a, tt, l, o, e, ra, _⟩ := pr.ob
    obtain ⟨a2, xs, ea, hx, rs⟩ := rep_lst (show Rep H (.ref a) (.list (ax.map encI)) from ra)
    cases ea
    have nk : ((lenK ax).map (·.1)).Nodup := by
      have : (lenK ax).map (·.1) = (ax.map (·.1)).map (Sum.inr : Str → Key) := by unfold lenK; rw [List.map_map, List.map_map]; rfl
      rw [this]
      exact List.Pairwise.map _ (fun a b h z => h (by injection z)) nd
    refine ⟨_, (pss_one (ps_ret (pe_callTy (call_dictP rfl) (by rfl) T.z_dict PyProof.Rows.boot_dict (pa_cons (pe_fld (pv 0) rfl) pa_nil)))), ?_⟩
    refine ⟨_, rfl, p, _, dx, _, _, rfl, e, T.cl_Program, T.na_Program_axes, (by walk_at "lk"), a, xs, _, rfl, hx, pl_of rs, fun q hq => ?_⟩
    rw [merge_nodup nk]
    exact k q hq
end
end My

set_option Elab.async false
set_option linter.all false
set_option maxRecDepth 100000
set_option maxHeartbeats 4000000
namespace My
open PySem L2
local macro_rules | `(tactic| walk_at "lk") => `(tactic| first | with_reducible exact lk0 | (refine lk1 (by decide +kernel) ?_; walk_at "lk") | rfl)
def TupsAt (H : Hp) (ps : List Addr) (cs : List (List Int)) : Prop := Paired (fun (p : Addr) (c : List Int) => H p = some (.tup (c.map V.int))) ps cs
theorem TupsAt.imp {H H' : Hp} : ∀ {ps : List Addr} {cs : List (List Int)}, TupsAt H ps cs → (∀ p xs, H p = some (.tup xs) → H' p = some (.tup xs)) → TupsAt H' ps cs
  | _, _, .nil, _ => .nil
  | _, _, .cons r t, f => .cons (f _ _ r) (TupsAt.imp t f)
theorem TupsAt.same {H H' : Hp} {ps : List Addr} {cs : List (List Int)} (h : TupsAt H ps cs) (s : Same H H') : TupsAt H' ps cs := h.imp fun _ _ e => s _ _ e
theorem TupsAt.lst {H : Hp} {l : Addr} {xs ys : List V} {ps : List Addr} {cs : List (List Int)} (h : TupsAt H ps cs) (e : H l = some (.lst xs)) : TupsAt (upd H l (.lst ys)) ps cs :=
  h.imp fun p zs z => by rw [upd_ne (ne_of z e (by intro q; cases q))]; exact z
theorem TupsAt.snoc {H : Hp} {p : Addr} {c : List Int} (e : H p = some (.tup (c.map V.int))) : ∀ {ps : List Addr} {cs : List (List Int)}, TupsAt H ps cs → TupsAt H (ps ++ [p]) (cs ++ [c])
  | _, _, .nil => .cons e .nil
  | _, _, .cons r t => .cons r (TupsAt.snoc e t)
theorem TupsAt.len {H : Hp} : ∀ {ps : List Addr} {cs : List (List Int)}, TupsAt H ps cs → ps.length = cs.length
  | _, _, .nil => rfl
  | _, _, .cons _ t => by simp [TupsAt.len t]
theorem TupsAt.get {H : Hp} : ∀ {ps : List Addr} {cs : List (List Int)} {i : Nat} {p : Addr}, TupsAt H ps cs → ps[i]? = some p → ∃ c, cs[i]? = some c ∧ H p = some (.tup (c.map V.int))
  | _, _, _, _, .nil, e => by simp at e
  | _, _, 0, _, .cons r _, e => by simp at e; subst e; exact ⟨_, rfl, r⟩
  | _, _, i + 1, p, .cons _ t, e => by
    obtain ⟨c, h1, h2⟩ := TupsAt.get (i := i) (p := p) t (by simpa using e)
    exact ⟨c, by simpa using h1, h2⟩
structure CellsAt (H : Hp) (a : Addr) (cs : List (List Int)) : Prop where
  ex : ∃ ps : List Addr, H a = some (.lst (ps.map V.ref)) ∧ TupsAt H ps cs
def sp_lengthened : Sp := fun vs H Q _ => ∃ (a : Addr) (n : Int) (cs : List (List Int)), vs = [.ref a, .int n] ∧ CellsAt H a cs ∧ (∀ c ∈ cs, c.length ≤ 8) ∧ 0 ≤ n ∧ n ≤ 60 ∧ cs.length ≤ 4000 ∧
  ∀ (p : Addr) (H' : Hp), H p = none → Same H H' → CellsAt H' p (lenM cs n) → Q (.ref p) H'
def sp_cells_of : Sp := fun vs H Q _ => ∃ (a : Addr) (ls : List Int), vs = [.ref a] ∧ H a = some (.lst (ls.map V.int)) ∧ GoodL ls ∧
  ∀ (p : Addr) (H' : Hp), H p = none → Same H H' → CellsAt H' p (cellsM ls) → Q (.ref p) H'
abbrev Sz (lk : List (Key × V)) (ys : List Str) (ls : List Int) : Prop := Paired (fun (y : Str) (n : Int) => valV lk (Sum.inr y) = some (.int n)) ys ls
def sp_la : Sp := fun vs H Q _ => ∃ (l d : Addr) (ys : List Str) (lk : List (Key × V)) (ls : List Int), vs = [.ref l, .ref d] ∧ H l = some (.lst (ys.map V.str)) ∧ H d = some (.dK lk) ∧ Sz lk ys ls ∧ ys.length ≤ 1000 ∧ ∀ (q : Addr) (H' : Hp), H q = none → Same H H' → H' q = some (.lst (ls.map V.int)) → Q (.ref q) H'
def sp_ca : Sp := fun vs H Q _ => ∃ (l d : Addr) (ys : List Str) (lk : List (Key × V)) (ls : List Int), vs = [.ref l, .ref d] ∧ H l = some (.lst (ys.map V.str)) ∧ H d = some (.dK lk) ∧ Sz lk ys ls ∧ GoodL ls ∧ ∀ (q : Addr) (H' : Hp), H q = none → Same H H' → CellsAt H' q (cellsM ls) → Q (.ref q) H'
section
variable {P : Program} {w : World} {K : PySem.W.Frag} {mg : Str → Option Value} {base : Heap} {t : Adr}
theorem ok_lengthened (T : Txt K mg t) : FnOk P w K mg base CX0 1 t.f_lengthened t.d_lengthened ["cells", "length"] sp_lengthened := by
  refine T.F_lengthened.ok sc_lengthened (fun vs H Q E h => ?_) (fun cdv A outer s H vs Q E hr h => ?_)
  · obtain ⟨a, n, cs, rfl, _⟩ := h
    rfl
  · obtain ⟨a, n, cs, rfl, ⟨ps, ha, tp⟩, h8, n0, n60, few, k⟩ := h
    refine ⟨_, (pss_cons (ps_set (i := 2) sc_lengthened.nd rfl (Or.inl rfl) (pe_lst pa_nil))
      (pss_cons (ps_for PassesOwn.never rfl (pi_list (pv 0)) (pg_name (i := 3) sc_lengthened.nd rfl (Or.inl rfl) (Or.inl rfl))
        (pss_one (ps_for PassesOwn.never rfl (pi_range1 rfl T.z_range (pa_cons (pv 1) pa_nil)) (pg_name (i := 4) sc_lengthened.nd rfl (Or.inl rfl) (Or.inl rfl))
          (pss_one (ps_expr (pe_bm PySem.F.plainAttrs_list PySem.F.slot_list_append PySem.F.type_list_append mt_append (pv 2) (pa_cons (pe_op op_catT2 (pv 3) (pe_tup (pa_cons (pv 4) pa_nil))) pa_nil)))))))
      (pss_one (ps_ret (pv 2))))), ?_⟩
    refine ⟨line_le (by decide), fun l hl => ?_⟩
    have la : a ≠ l := ne_of_none ha hl
    have ha1 : upd H l (.lst []) a = some (.lst (ps.map V.ref)) := by rw [upd_ne la]; exact ha
    refine ⟨_, rfl, a, rfl, ⟨_, SqL.of ha1⟩, for_list (K := K) (a := a) (xs := ps.map V.ref) (fun i σ H2 => ∃ (o3 o4 : Option V) (qs : List Addr), σ = [some (.ref a), some (.int n), some (.ref l), o3, o4] ∧ Same H H2 ∧
      H2 l = some (.lst (qs.map V.ref)) ∧ TupsAt H2 qs (lenM (cs.take i) n)) ⟨none, none, [], rfl, same_new hl, upd_same, .nil⟩ (fun i σ H2 _ ⟨_, _, _, _, s2, _⟩ => SqL.of (s2 _ _ ha)) ?_ ?_⟩
    · rintro i y σ H2 hi ⟨o3, o4, qs, rfl, s2, h2, t2⟩
      obtain ⟨pc, hpc, rfl⟩ := get_map hi
      obtain ⟨c, hc, hpt⟩ := tp.get hpc
      have hcm : c.length ≤ 8 := h8 c (List.mem_of_getElem? hc)
      -- for number in range(length)
      refine ⟨_, rfl, n, rfl, by omega, by omega, for_range (n := n.toNat) (fun j σ H3 => ∃ (o4 : Option V) (qs : List Addr), σ = [some (.ref a), some (.int n), some (.ref l), some (.ref pc), o4] ∧ Same H H3 ∧
        H3 l = some (.lst (qs.map V.ref)) ∧ TupsAt H3 qs (lenM (cs.take i) n ++ (List.range j).map fun (m : Nat) => c ++ [(m : Int)])) ⟨o4, qs, rfl, s2, h2, by simpa using t2⟩ ?_ ?_⟩
      · rintro j σ H3 hj ⟨o4, qs, rfl, s3, h3, t3⟩
        rw [Int.zero_add]
        have hql : qs.length ≤ 300000 := by
          have e := t3.len
          rw [List.length_append, lenM_length, List.length_map, List.length_range] at e
          have e1 : (cs.take i).length * n.toNat ≤ 4000 * 60 := Nat.mul_le_mul (by rw [List.length_take]; omega) (by omega)
          omega
        have hp3 : H3 pc = some (.tup (c.map V.int)) := s3 _ _ hpt
        refine ⟨_, rfl, .inl ⟨rfl, _, SqL.of h3⟩, _, rfl, _, rfl, line_le (by simp), fun u hu => ?_⟩
        -- the tuple that is appended
        have fin : ∀ (q : Addr) (H4 : Hp), Same H3 H4 → H4 q = some (.tup ((c ++ [(j : Int)]).map V.int)) → rAppend (V.ref l) [V.ref q] H4 fun _ H5 => ∃ (o4 : Option V) (qs : List Addr), [some (V.ref a), some (.int n), some (.ref l), some (.ref pc), some (.int (j : Int))] = [some (.ref a), some (.int n), some (.ref l), some (.ref pc), o4] ∧ Same H H5 ∧
            H5 l = some (.lst (qs.map V.ref)) ∧ TupsAt H5 qs (lenM (cs.take i) n ++ (List.range (j + 1)).map fun (m : Nat) => c ++ [(m : Int)]) := fun q H4 s4 h4 => by
          refine ⟨l, _, _, rfl, rfl, s4 _ _ h3, by rw [List.length_map]; exact line_lt (by omega), ?_⟩
          refine ⟨_, qs ++ [q], rfl, same_fresh (s3.trans s4) hl, by rw [upd_same, List.map_append]; rfl, ?_⟩
          rw [List.range_succ, List.map_append, ← List.append_assoc]
          exact ((t3.same s4).snoc h4).lst (s4 _ _ h3)
        have s4 : Same H3 (upd H3 u (.tup [V.int (j : Int)])) := same_new hu
        refine ⟨pc, u, _, _, rfl, rfl, SqT.of (s4 _ _ hp3), SqT.of upd_same, (by simp), line_le (by simp; omega), fun hx => ?_, fun hx p hp => ?_⟩
        · have ec : c = [] := by simpa using hx
          subst ec
          exact fin u _ s4 upd_same
        · refine fin p _ (s4.trans (same_new hp)) ?_
          rw [upd_same, List.map_append]
          rfl
      · rintro σ H3 ⟨o4, qs, rfl, s3, h3, t3⟩
        refine ⟨_, _, qs, rfl, s3, h3, ?_⟩
        have e : lenM (cs.take (i + 1)) n = lenM (cs.take i) n ++ (List.range n.toNat).map fun (m : Nat) => c ++ [(m : Int)] := by
          rw [List.take_add_one, hc]
          simp [lenM]
        rw [e]
        exact t3
    · rintro σ H2 ⟨o3, o4, qs, rfl, s2, h2, t2⟩
      refine ⟨_, rfl, k l H2 hl s2 ⟨qs, h2, ?_⟩⟩
      rw [List.length_map, tp.len, List.take_length] at t2
      exact t2
theorem ok_cells_of (T : Txt K mg t) : FnOk P w K mg base CX0 2 t.f_cells_of t.d_cells_of ["lengths"] sp_cells_of := by
  have G_lengthened := ok_lengthened (P := P) (w := w) (base := base) T
  refine T.F_cells_of.ok sc_cells_of (fun vs H Q E h => ?_) (fun cdv A outer s H vs Q E hr h => ?_)
  · obtain ⟨a, ls, rfl, _⟩ := h
    rfl
  · obtain ⟨a, ls, rfl, ha, g, k⟩ := h
    refine ⟨_, (pss_cons (ps_set (i := 1) sc_cells_of.nd rfl (Or.inl rfl) (pe_lst (pa_cons (pe_tup pa_nil) pa_nil)))
      (pss_cons (ps_for PassesOwn.never rfl (pi_list (pv 0)) (pg_name (i := 2) sc_cells_of.nd rfl (Or.inl rfl) (Or.inl rfl))
        (pss_one (ps_set (i := 1) sc_cells_of.nd rfl (Or.inl rfl) (pe_call G_lengthened (hr.mono (by omega)) rfl T.m_lengthened T.F_lengthened.kp T.b_lengthened .nil pass0 (pa_cons (pv 1) (pa_cons (pv 2) pa_nil))))))
      (pss_one (ps_ret (pv 1))))), ?_⟩
    refine ⟨line_le (by simp), fun e he => ⟨line_le (by simp), fun q hq => ?_⟩⟩
    have hq0 : H q = none := (same_new he).free hq
    have s1 : Same H (upd (upd H e (.tup [])) q (.lst [V.ref e])) := (same_new he).trans (same_new hq)
    refine ⟨_, rfl, a, rfl, ⟨_, SqL.of (s1 _ _ ha)⟩, for_list (K := K) (a := a) (xs := ls.map V.int) (fun i σ H2 => ∃ (o2 : Option V) (q : Addr), σ = [some (.ref a), some (.ref q), o2] ∧ Same H H2 ∧ H q = none ∧ CellsAt H2 q (cellsM (ls.take i)))
      ⟨none, q, rfl, s1, hq0, ⟨[e], upd_same, .cons (by rw [upd_ne (ne_of_none upd_same hq)]; exact upd_same) .nil⟩⟩ (fun i σ H2 _ ⟨_, _, _, s2, _⟩ => SqL.of (s2 _ _ ha)) ?_ ?_⟩
    · rintro i y σ H2 hi ⟨o2, q, rfl, s2, hq, c2⟩
      obtain ⟨n, hn, rfl⟩ := get_map hi
      have gp := g.pos n (List.mem_of_getElem? hn)
      have cl := cells_length (ls.take i) fun m hm => (g.pos m (List.mem_of_mem_take hm)).1
      have pl := prod_take_le ls (fun m hm => (g.pos m hm).1) i
      have gm := g.most
      have gf := g.few
      refine ⟨_, rfl, _, rfl, q, n, _, rfl, c2, fun c hc => ?_, by omega, by omega, by omega, fun p H' hp s3 c3 => ?_⟩
      · have e := (cells_within _ c hc).1
        rw [List.length_take] at e
        omega
      · refine ⟨_, p, rfl, s2.trans s3, s2.free hp, ?_⟩
        rw [cellsM_take_succ hn]
        exact c3
    · rintro σ H2 ⟨o2, q, rfl, s2, hq, c2⟩
      rw [List.length_map, List.take_length] at c2
      exact ⟨_, rfl, k q H2 hq s2 c2⟩
theorem ok_lengths_along (T : Txt K mg t) : FnOk P w K mg base CX0 1 t.f_lengths_along t.d_lengths_along ["axes", "lengths"] sp_la := by
  refine T.F_lengths_along.ok sc_lengths_along (fun vs H Q E h => ?_) (fun cdv A outer s H vs Q E hr h => ?_)
  · obtain ⟨l, d, ys, lk, ls, rfl, _⟩ := h
    rfl
  · obtain ⟨l, d, ys, lk, ls, rfl, hl, hd, sz, ly, k⟩ := h
    have hu := hu_of hr
    have le := Paired.length sz
    refine ⟨_, (pss_one (ps_ret (pe_comp (N' := ["axis", "lengths"]) (ix := (List.replicate 1 none ++ [some 1])) rfl (clok_one (x := "lengths") rfl rfl rfl (by decide +kernel) (by decide +kernel)) (ixok_last (N0 := ["axis"]) rfl (Or.inl rfl) (by first | exact Or.inl rfl | exact Or.inr rfl | (simp [relabel]; rfl) | (with_unfolding_all exact Or.inl rfl) | (with_unfolding_all exact Or.inr rfl) | (with_unfolding_all decide))) (pi_list (pv 0)) (fun _ _ _ _ => (pg_name (i := 0) nd_comp_2 rfl (Or.inl rfl) (Or.inr rfl))) (fun _ _ _ _ => (pe_dget hu (pv 1) (pv 0) (fun _ _ => rfl)))))), ?_⟩
    refine ⟨_, rfl, l, rfl, ⟨_, SqL.of hl⟩, fun D hD => ?_⟩
    refine comp_listQ (K := K) (a := l) (D := D) (xs := ys.map V.str) (fun i zs H2 => Same H H2 ∧ H2 D = some (.lst zs) ∧ zs = (ls.take i).map V.int) ⟨same_new hD, upd_same, rfl⟩ (fun i zs H2 ⟨s2, _⟩ => SqL.of (s2 _ _ hl)) ?_ ?_
    · rintro i x zs H2 hx ⟨s2, hD2, rfl⟩
      obtain ⟨y, hy, rfl⟩ := get_map hx
      obtain ⟨n, hn, ev⟩ := pget sz hy
      have g := DGet.k (H := H2) (a := d) (k := Sum.inr y) (s2 _ _ hd)
      rw [ev] at g
      refine ⟨⟨rfl, True.intro⟩, _, rfl, _, rfl, d, _, rfl, g, hD2, line_lt (by simp; omega), same_fresh s2 hD, upd_same, ?_⟩
      rw [List.take_add_one, hn, Option.toList_some, List.map_append]
      rfl
    · rintro zs H2 ⟨s2, hD2, rfl⟩
      rw [List.length_map, le, List.take_length] at hD2
      exact k D H2 hD s2 hD2
theorem ok_cells_along (T : Txt K mg t) : FnOk P w K mg base CX0 3 t.f_cells_along t.d_cells_along ["axes", "lengths"] sp_ca := by
  have G_cells_of := ok_cells_of (P := P) (w := w) (base := base) T
  have G_lengths_along := ok_lengths_along (P := P) (w := w) (base := base) T
  refine T.F_cells_along.ok sc_cells_along (fun vs H Q E h => ?_) (fun cdv A outer s H vs Q E hr h => ?_)
  · obtain ⟨l, d, ys, lk, ls, rfl, _⟩ := h
    rfl
  · obtain ⟨l, d, ys, lk, ls, rfl, hl, hd, sz, g, k⟩ := h
    have le := Paired.length sz
    have gf := g.few
    refine ⟨_, (pss_one (ps_ret (pe_call G_cells_of (hr.mono (by omega)) rfl T.m_cells_of T.F_cells_of.kp T.b_cells_of .nil pass0 (pa_cons (pe_call G_lengths_along (hr.mono (by omega)) rfl T.m_lengths_along T.F_lengths_along.kp T.b_lengths_along .nil pass0 (pa_cons (pv 0) (pa_cons (pv 1) pa_nil))) pa_nil)))), ?_⟩
    exact ⟨_, rfl, _, rfl, l, d, ys, lk, ls, rfl, hl, hd, sz, by omega, fun q1 H1 hq1 s1 h1 => ⟨q1, ls, rfl, h1, g, fun q H' hq s' c' => k q H' (s1.free hq) (s1.trans s') c'⟩⟩
end
end My

set_option Elab.async false
set_option linter.all false
set_option maxRecDepth 100000
set_option maxHeartbeats 4000000
namespace My
open PySem L2
local macro_rules | `(tactic| walk_at "lk") => `(tactic| first | with_reducible exact lk0 | (refine lk1 (by decide +kernel) ?_; walk_at "lk") | rfl)
/-! ### objects -/
def clsOf (A : Adr) : Op3 → Addr
  | .plus => A.C_Plus
  | .minus => A.C_Plus
  | .times => A.C_Times
inductive Ob (A : Adr) (H : Hp) : V → Tm → Prop
  | num {a dx : Addr} {z : Int} : H a = some (.ins A.C_Number dx [("number", .int z)]) → Ob A H (.ref a) (.num z)
  | read {a dx l : Addr} {x : Str} {ix : List (Str × Int)} : H a = some (.ins A.C_Read dx [("array", .str x), ("indexes", .ref l)]) → Rep H (.ref l) (encIx ix) → Ob A H (.ref a) (.read x ix)
  | pair {a dx : Addr} {k : Op3} {u w : V} {l r : Tm} : k ≠ .minus → H a = some (.ins (clsOf A k) dx [("left", u), ("right", w)]) → Ob A H u l → Ob A H w r → Ob A H (.ref a) (.pair k l r)
  | guard {a dx : Addr} {x : Str} {lo hi : Int} {u w : V} {l r : Tm} : H a = some (.ins A.C_Guard dx [("axis", .str x), ("low", .int lo), ("high", .int hi), ("inner", u), ("outer", w)]) → Ob A H u l → Ob A H w r → Ob A H (.ref a) (.guard x lo hi l r)
theorem Ob.imp {A : Adr} {H H' : Hp} (f : Same H H') {v : V} {t : Tm} (h : Ob A H v t) : Ob A H' v t := by
  induction h with
  | num e => exact .num (f _ _ e)
  | read e r => exact .read (f _ _ e) (r.same f)
  | pair n e _ _ i1 i2 => exact .pair n (f _ _ e) i1 i2
  | guard e _ _ i1 i2 => exact .guard (f _ _ e) i1 i2
/-- what a tree is asked with -/
structure AskD (n : Nat) (u : Tm) (H : Hp) (d l : Addr) (kvs lk : List (Key × V)) : Prop where
  good : Good u
  deep : dep u ≤ n
  hd : H d = some (.dK kvs)
  at_ : AtOk kvs u
  hl : H l = some (.dK lk)
  ax : ∃ AX, Axs AX u ∧ LenOk AX lk
  few : kvs.length + n ≤ 1000
  most : (rd (ai lk) u (ai kvs)).length ≤ 100000
theorem AskD.same {n : Nat} {u : Tm} {H H' : Hp} {d l : Addr} {kvs lk : List (Key × V)} (h : AskD n u H d l kvs lk) (s : Same H H') : AskD n u H' d l kvs lk := ⟨h.good, h.deep, s _ _ h.hd, h.at_, s _ _ h.hl, h.ax, h.few, h.most⟩
theorem AskD.left {n : Nat} {o : Op3} {a b : Tm} {H : Hp} {d l : Addr} {kvs lk : List (Key × V)} (h : AskD (n + 1) (.pair o a b) H d l kvs lk) : AskD n a H d l kvs lk := by
  obtain ⟨AX, a1, a2⟩ := h.ax
  have hdep := h.deep
  have hfew := h.few
  have hmost := h.most
  simp only [dep] at hdep
  simp only [rd, List.length_append] at hmost
  exact ⟨h.good.1, by omega, h.hd, fun x hx => h.at_ x (.inl hx), h.hl, ⟨AX, a1.1, a2⟩, by omega, by omega⟩
theorem AskD.right {n : Nat} {o : Op3} {a b : Tm} {H : Hp} {d l : Addr} {kvs lk : List (Key × V)} (h : AskD (n + 1) (.pair o a b) H d l kvs lk) : AskD n b H d l kvs lk := by
  obtain ⟨AX, a1, a2⟩ := h.ax
  have hdep := h.deep
  have hfew := h.few
  have hmost := h.most
  simp only [dep] at hdep
  simp only [rd, List.length_append] at hmost
  exact ⟨h.good.2, by omega, h.hd, fun x hx => h.at_ x (.inr hx), h.hl, ⟨AX, a1.2, a2⟩, by omega, by omega⟩
theorem AskD.inner {n : Nat} {x : Str} {lo hi : Int} {a b : Tm} {H : Hp} {d l : Addr} {kvs lk : List (Key × V)} (h : AskD (n + 1) (.guard x lo hi a b) H d l kvs lk) (c : lo ≤ ai kvs x ∧ ai kvs x < hi) : AskD n a H d l kvs lk ∧ rd (ai lk) (.guard x lo hi a b) (ai kvs) = rd (ai lk) a (ai kvs) := by
  obtain ⟨AX, a1, a2⟩ := h.ax
  have hdep := h.deep
  have hfew := h.few
  have hmost := h.most
  have e : rd (ai lk) (.guard x lo hi a b) (ai kvs) = rd (ai lk) a (ai kvs) := by simp only [rd]; rw [if_pos c]
  rw [e] at hmost
  simp only [dep] at hdep
  exact ⟨⟨h.good.2.2.2.1, by omega, h.hd, fun x hx => h.at_ x (.inr (.inl hx)), h.hl, ⟨AX, a1.2.1, a2⟩, by omega, hmost⟩, e⟩
theorem AskD.outer {n : Nat} {x : Str} {lo hi : Int} {a b : Tm} {H : Hp} {d l : Addr} {kvs lk : List (Key × V)} (h : AskD (n + 1) (.guard x lo hi a b) H d l kvs lk) (c : ¬ (lo ≤ ai kvs x ∧ ai kvs x < hi)) : AskD n b H d l kvs lk ∧ rd (ai lk) (.guard x lo hi a b) (ai kvs) = rd (ai lk) b (ai kvs) := by
  obtain ⟨AX, a1, a2⟩ := h.ax
  have hdep := h.deep
  have hfew := h.few
  have hmost := h.most
  have e : rd (ai lk) (.guard x lo hi a b) (ai kvs) = rd (ai lk) b (ai kvs) := by simp only [rd]; rw [if_neg c]
  rw [e] at hmost
  simp only [dep] at hdep
  exact ⟨⟨h.good.2.2.2.2, by omega, h.hd, fun x hx => h.at_ x (.inr (.inr hx)), h.hl, ⟨AX, a1.2.2, a2⟩, by omega, hmost⟩, e⟩
theorem AskD.gat {n : Nat} {x : Str} {lo hi : Int} {a b : Tm} {H : Hp} {d l : Addr} {kvs lk : List (Key × V)} (h : AskD n (.guard x lo hi a b) H d l kvs lk) {H' : Hp} (s : Same H H') : DGet H' d (.str x) (some (.int (ai kvs x))) := by
  have g := DGet.k (H := H') (a := d) (k := Sum.inr x) (s _ _ h.hd)
  rw [h.at_ x (.inl rfl)] at g
  exact g
def sp_index_at : Sp := fun vs H Q _ => ∃ (x : Str) (z : Int) (d : Addr) (kvs : List (Key × V)), vs = [.str x, .int z, .ref d] ∧ H d = some (.dK kvs) ∧ (¬ x = "" → valV kvs (Sum.inr x) = some (.int (ai kvs x))) ∧ Q (.int (if x = "" then z else ai kvs x + z)) H
def sp_cell_at (A : Adr) : Sp := fun vs H Q _ => ∃ (o dx d l : Addr) (a : Str) (ix : List (Str × Int)) (kvs : List (Key × V)), vs = [.ref o, .ref d] ∧ H o = some (.ins A.C_Read dx [("array", .str a), ("indexes", .ref l)]) ∧ Rep H (.ref l) (encIx ix) ∧ ix.length ≤ 3 ∧ H d = some (.dK kvs) ∧
  (∀ e ∈ ix, ¬ e.1 = "" → valV kvs (Sum.inr e.1) = some (.int (ai kvs e.1))) ∧ ∀ (p : Addr) (H' : Hp), H p = none → Same H H' → H' p = some (.tup ((cellM (ai kvs) ix).map V.int)) → Q (.ref p) H'
def sp_looked (A : Adr) : Sp := fun vs H Q _ => ∃ (o dx d : Addr) (x : Str) (lo hi : Int) (u v : V) (kvs : List (Key × V)), vs = [.ref o, .ref d] ∧ H o = some (.ins A.C_Guard dx [("axis", .str x), ("low", .int lo), ("high", .int hi), ("inner", u), ("outer", v)]) ∧ DGet H d (.str x) (some (.int (ai kvs x))) ∧
  (lo ≤ ai kvs x ∧ ai kvs x < hi → Q u H) ∧ (¬ (lo ≤ ai kvs x ∧ ai kvs x < hi) → Q v H)
/-! ### what a tree is worth -/
def opM : Op3 → Int → Int → Int
  | .plus, a, b => a + b
  | .minus, a, b => a - b
  | .times, a, b => a * b
def sumR (f : Nat → Int) : Nat → Int
  | 0 => 0
  | n + 1 => sumR f n + f n
def wo (len : Str → Int) (num : Str → List Int → Int) (wh : Int) : Tm → (Str → Int) → Int
  | .num z, _ => z % wh
  | .place x, f => f x % wh
  | .read a ix, f => num a (cellM f ix) % wh
  | .sum x b, f => sumR (fun (k : Nat) => wo len num wh b (setA f x (k : Int))) (len x).toNat % wh
  | .pair o l r, f => opM o (wo len num wh l f) (wo len num wh r f) % wh
  | .guard x lo hi l r, f => if lo ≤ f x ∧ f x < hi then wo len num wh l f else wo len num wh r f
theorem wo_rng {len : Str → Int} {num : Str → List Int → Int} {wh : Int} (h : 0 < wh) : ∀ (t : Tm) (f : Str → Int), 0 ≤ wo len num wh t f ∧ wo len num wh t f < wh
  | .num _, _ => ⟨Int.emod_nonneg _ (by omega), Int.emod_lt_of_pos _ h⟩
  | .place _, _ => ⟨Int.emod_nonneg _ (by omega), Int.emod_lt_of_pos _ h⟩
  | .read _ _, _ => ⟨Int.emod_nonneg _ (by omega), Int.emod_lt_of_pos _ h⟩
  | .sum _ _, _ => ⟨Int.emod_nonneg _ (by omega), Int.emod_lt_of_pos _ h⟩
  | .pair _ _ _, _ => ⟨Int.emod_nonneg _ (by omega), Int.emod_lt_of_pos _ h⟩
  | .guard x lo hi l r, f => by
    have a := wo_rng (len := len) (num := num) h l f
    have b := wo_rng (len := len) (num := num) h r f
    simp only [wo]
    split
    · exact a
    · exact b
def WhOk (wh : Int) : Prop := 2 ≤ wh ∧ wh ≤ 10 ^ 32
theorem wo_big {len : Str → Int} {num : Str → List Int → Int} {wh : Int} (h : WhOk wh) (a b : Tm) (f : Str → Int) : CBig (wo len num wh a f) (wo len num wh b f) := by
  have h1 : (2 : Int) ≤ wh := h.1
  have h2 : wh ≤ 10 ^ 32 := h.2
  have a1 := wo_rng (len := len) (num := num) (show 0 < wh by omega) a f
  have b1 := wo_rng (len := len) (num := num) (show 0 < wh by omega) b f
  have hh : (10 : Nat) ^ 32 < 2 ^ 4000 := by
    calc (10 : Nat) ^ 32 < 2 ^ 128 := by decide
      _ ≤ 2 ^ 4000 := Nat.pow_le_pow_right (by decide) (by decide)
  have e : ((10 : Int) ^ 32) = (((10 : Nat) ^ 32 : Nat) : Int) := by norm_cast
  rw [e] at h2
  generalize (10 : Nat) ^ 32 = N at h2 hh
  generalize wo len num wh a f = p at a1 ⊢
  generalize wo len num wh b f = q at b1 ⊢
  exact ⟨by omega, by omega⟩
/-- what the world holds -/
def NumOk (H : Hp) (nk : List (Key × V)) (num : Str → List Int → Int) (rs : List (Str × List Int)) : Prop :=
  ∀ e ∈ rs, ∃ p cs, valV nk (Sum.inr e.1) = some (.ref p) ∧ H p = some (.dT cs) ∧ valV cs (e.2.map Sum.inl) = some (.int (num e.1 e.2))
theorem NumOk.mono {H H' : Hp} {nk : List (Key × V)} {num : Str → List Int → Int} {rs rs' : List (Str × List Int)} (h : NumOk H nk num rs) (s : Same H H') (f : ∀ e ∈ rs', e ∈ rs) : NumOk H' nk num rs' := fun e he => by
  obtain ⟨p, cs, h1, h2, h3⟩ := h e (f e he)
  exact ⟨p, cs, h1, s _ _ h2, h3⟩
structure Wd (A : Adr) (H : Hp) (wd l : Addr) (wh : Int) (nk : List (Key × V)) : Prop where
  ob : ∃ dx nn, H wd = some (.ins A.C_GrowingWorld dx [("wheel", .int wh), ("lengths", .ref l), ("numbers", .ref nn)]) ∧ H nn = some (.dK nk)
  wh : WhOk wh
theorem Wd.same {A : Adr} {H H' : Hp} {wd l : Addr} {wh : Int} {nk : List (Key × V)} (h : Wd A H wd l wh nk) (s : Same H H') : Wd A H' wd l wh nk := by
  obtain ⟨⟨dx, nn, h1, h2⟩, h3⟩ := h
  exact ⟨⟨dx, nn, s _ _ h1, s _ _ h2⟩, h3⟩
theorem Wd.pos {A : Adr} {H : Hp} {wd l : Addr} {wh : Int} {nk : List (Key × V)} (h : Wd A H wd l wh nk) : 0 < wh := by have := h.wh.1; omega
def sp_W (A : Adr) (n : Nat) (is : Tm → Prop) : Sp := fun vs H Q _ => ∃ (v : V) (u : Tm) (d wd l : Addr) (kvs lk nk : List (Key × V)) (num : Str → List Int → Int) (wh : Int), vs = [v, .ref d, .ref wd] ∧ is u ∧ Ob A H v u ∧ AskD n u H d l kvs lk ∧ Wd A H wd l wh nk ∧ NumOk H nk num (rd (ai lk) u (ai kvs)) ∧
  ∀ H', Same H H' → Q (.int (wo (ai lk) num wh u (ai kvs))) H'
def sp_join (o : Op3) : Sp := fun vs H Q _ => ∃ (v : V) (x y : Int), vs = [v, .int x, .int y] ∧ CBig x y ∧ Q (.int (opM o x y)) H
section
variable {P : Program} {w : World} {K : PySem.W.Frag} {mg : Str → Option Value} {base : Heap} {t : Adr}
theorem ok_index_at (T : Txt K mg t) : FnOk P w K mg base CX0 1 t.f_index_at t.d_index_at ["axis", "shift", "at"] sp_index_at := by
  refine T.F_index_at.ok sc_index_at (fun vs H Q E h => ?_) (fun cdv A outer s H vs Q E hr h => ?_)
  · obtain ⟨x, z, d, kvs, rfl, _⟩ := h
    rfl
  · obtain ⟨x, z, d, kvs, rfl, hd, hx, k⟩ := h
    have hu := hu_of hr
    refine ⟨_, (pss_cons (ps_if (pt_cmpR op_eq (pv 0) pe_str (nomark _))
        (pss_one (ps_ret (pv 1)))
        pss_nil)
      (pss_one (ps_ret (pe_op op_add (pe_dget hu (pv 2) (pv 0) (fun _ _ => rfl)) (pv 1))))), ?_⟩
    refine ⟨_, rfl, rfl, _, rfl, iteD (fun h => ?_) (fun h => ?_)⟩
    · rw [if_pos (by injection h)] at k
      exact ⟨_, rfl, k⟩
    · have hn : ¬ x = "" := fun e => h (by rw [e])
      rw [if_neg hn] at k
      have g := DGet.k (H := H) (a := d) (k := Sum.inr x) hd
      rw [hx hn] at g
      exact ⟨_, rfl, _, rfl, d, _, rfl, g, _, rfl, _, _, rfl, rfl, k⟩
theorem ok_Read_cell_at (T : Txt K mg t) : FnOk P w K mg base CX0 2 t.f_Read_cell_at t.d_Read_cell_at ["self", "at"] (sp_cell_at t) := by
  have G_index_at := ok_index_at (P := P) (w := w) (base := base) T
  refine T.F_Read_cell_at.ok sc_Read_cell_at (fun vs H Q E h => ?_) (fun cdv A outer s H vs Q E hr h => ?_)
  · obtain ⟨o, dx, d, l, a, ix, kvs, rfl, _⟩ := h
    rfl
  · obtain ⟨o, dx, d, l, a, ix, kvs, rfl, ho, rp, hix, hd, hx, k⟩ := h
    obtain ⟨_, es, q, el, rs⟩ := rep_lst (show Rep H (.ref l) (.list (ix.map encI)) from rp)
    cases q
    have hl := rs.len
    rw [List.length_map] at hl
    refine ⟨_, (pss_one (ps_ret (pe_callTy call_tuple_of (by rfl) T.z_tuple PyProof.Rows.boot_tuple (pa_cons (pe_comp (N' := ["axis", "shift", "at"]) (ix := (List.replicate 2 none ++ [some 1])) (g := gTup K 2 (gCons (gName 0) (gCons (gName 1) gNil))) rfl (clok_one (x := "at") rfl rfl rfl (by decide +kernel) (by decide +kernel)) (ixok_last (N0 := ["axis", "shift"]) rfl (Or.inl rfl) (by first | exact Or.inl rfl | exact Or.inr rfl | (simp [relabel]; rfl) | (with_unfolding_all exact Or.inl rfl) | (with_unfolding_all exact Or.inr rfl) | (with_unfolding_all decide))) (pi_list (pe_fld (pv 0) rfl)) (fun _ _ _ _ => (pg_tup (n := 2) rfl (pgs_cons (pg_name (i := 0) nd_comp_3 rfl (Or.inl rfl) (Or.inr rfl)) (pgs_cons (pg_name (i := 1) nd_comp_3 rfl (Or.inl rfl) (Or.inr rfl)) pgs_nil)))) (fun _ _ _ _ => (pe_call G_index_at (hr.mono (by omega)) rfl T.m_index_at T.F_index_at.kp T.b_index_at .nil pass0 (pa_cons (pv 0) (pa_cons (pv 1) (pa_cons (pv 2) pa_nil)))))) pa_nil)))), ?_⟩
    refine ⟨_, rfl, o, _, dx, _, _, rfl, ho, T.cl_Read, T.na_Read_indexes, (by walk_at "lk"), l, rfl, ⟨_, SqL.of el⟩, fun D hD => ?_⟩
    refine comp_listQ (K := K) (a := l) (D := D) (xs := es) (fun i ys H2 => Same H H2 ∧ H2 D = some (.lst ys) ∧ ys = (cellM (ai kvs) (ix.take i)).map V.int) ⟨same_new hD, upd_same, rfl⟩ (fun i ys H2 ⟨s2, _⟩ => SqL.of (s2 _ _ el)) ?_ ?_
    · rintro i x ys H2 hx' ⟨s2, hD2, rfl⟩
      have hi : i < ix.length := by have := (List.getElem?_eq_some_iff.mp hx').1; omega
      obtain ⟨dd, hdd, rx⟩ := rs.get2 hx'
      have hie : ix[i]? = some ix[i] := List.getElem?_eq_getElem hi
      rw [List.getElem?_map, hie] at hdd
      cases hdd
      obtain ⟨q, rfl, eq⟩ := inv_ix rx
      refine ⟨q, _, rfl, SqT.of (s2 _ _ eq), rfl, _, _, rfl, _, _, rfl, rfl, ⟨rfl, True.intro⟩, _, rfl, _, rfl, _, rfl, ix[i].1, ix[i].2, d, kvs, rfl, s2 _ _ hd, hx _ (List.mem_of_getElem? hie), ?_⟩
      refine ⟨hD2, line_lt (by simp [cellM]; omega), same_fresh s2 hD, upd_same, ?_⟩
      rw [List.take_add_one, hie, Option.toList_some]
      unfold cellM
      rw [List.map_append, List.map_append]
      rfl
    · rintro ys H2 ⟨s2, hD2, rfl⟩
      rw [hl, List.take_length] at hD2
      exact ⟨D, _, rfl, .inl ⟨SqL.of hD2, fun p hp => k p _ (s2.free hp) (s2.trans (same_new hp)) upd_same⟩⟩
def sp_lets (A : Adr) : Sp := fun vs H Q _ => ∃ (o dx d : Addr) (x : Str) (lo hi : Int) (u v : V) (kvs : List (Key × V)), vs = [.ref o, .ref d] ∧ H o = some (.ins A.C_Guard dx [("axis", .str x), ("low", .int lo), ("high", .int hi), ("inner", u), ("outer", v)]) ∧ DGet H d (.str x) (some (.int (ai kvs x))) ∧
  (lo ≤ ai kvs x ∧ ai kvs x < hi → Q (.bl true) H) ∧ (¬ (lo ≤ ai kvs x ∧ ai kvs x < hi) → Q (.bl false) H)
theorem ok_Guard_lets_in (T : Txt K mg t) : FnOk P w K mg base CX0 1 t.f_Guard_lets_in t.d_Guard_lets_in ["self", "at"] (sp_lets t) := by
  refine T.F_Guard_lets_in.ok sc_Guard_lets_in (fun vs H Q E h => ?_) (fun cdv A outer s H vs Q E hr h => ?_)
  · obtain ⟨o, dx, d, x, lo, hi, u, v, kvs, rfl, _⟩ := h
    rfl
  · obtain ⟨o, dx, d, x, lo, hi, u, v, kvs, rfl, ho, g, k1, k2⟩ := h
    have hu := hu_of hr
    refine ⟨_, (pss_one (ps_ret (pe_chain op_le op_lt (pe_fld (pv 0) rfl) (pe_dget hu (pv 1) (pe_fld (pv 0) rfl) (fun _ _ => rfl)) (pe_fld (pv 0) rfl)))), ?_⟩
    refine ⟨_, rfl, o, _, dx, _, _, rfl, ho, T.cl_Guard, T.na_Guard_low, (by walk_at "lk"), _, rfl, _, rfl, o, _, dx, _, _, rfl, ho, T.cl_Guard, T.na_Guard_axis, (by walk_at "lk"), d, _, rfl, g, _, _, rfl, rfl, ?_⟩
    refine ⟨_, rfl, iteD (fun h1 => ?_) (fun h1 => ?_)⟩
    · have h1 : lo ≤ ai kvs x := h1
      refine ⟨_, rfl, o, _, dx, _, _, rfl, ho, T.cl_Guard, T.na_Guard_high, (by walk_at "lk"), _, _, rfl, rfl, ?_⟩
      show Q (.bl (decide (ai kvs x < hi))) H
      by_cases h2 : ai kvs x < hi
      · rw [decide_eq_true h2]; exact k1 ⟨h1, h2⟩
      · rw [decide_eq_false h2]; exact k2 fun z => h2 z.2
    · have h1 : ¬ lo ≤ ai kvs x := h1
      exact k2 fun z => h1 z.1
theorem ok_Guard_looked_at (T : Txt K mg t) : FnOk P w K mg base CX0 2 t.f_Guard_looked_at t.d_Guard_looked_at ["self", "at"] (sp_looked t) := by
  have G_Guard_lets_in := ok_Guard_lets_in (P := P) (w := w) (base := base) T
  refine T.F_Guard_looked_at.ok sc_Guard_looked_at (fun vs H Q E h => ?_) (fun cdv A outer s H vs Q E hr h => ?_)
  · obtain ⟨o, dx, d, x, lo, hi, u, v, kvs, rfl, _⟩ := h
    rfl
  · obtain ⟨o, dx, d, x, lo, hi, u, v, kvs, rfl, ho, g, k1, k2⟩ := h
    refine ⟨_, (pss_cons (ps_if (pt_val (pe_meth (pv 0) T.cl_Guard T.me_Guard_lets_in G_Guard_lets_in (hr.mono (by omega)) T.b_Guard_lets_in .nil pass0 (pa_cons (pv 1) pa_nil)))
        (pss_one (ps_ret (pe_fld (pv 0) rfl)))
        pss_nil)
      (pss_one (ps_ret (pe_fld (pv 0) rfl)))), ?_⟩
    refine ⟨_, rfl, o, dx, _, rfl, ho, (by walk_at "lk"), _, rfl, o, dx, d, x, lo, hi, u, v, kvs, rfl, ho, g, fun c => ⟨true, rfl, iteT ?_⟩, fun c => ⟨false, rfl, iteF ?_⟩⟩
    · exact ⟨_, rfl, o, _, dx, _, _, rfl, ho, T.cl_Guard, T.na_Guard_inner, (by walk_at "lk"), k1 c⟩
    · exact ⟨_, rfl, o, _, dx, _, _, rfl, ho, T.cl_Guard, T.na_Guard_outer, (by walk_at "lk"), k2 c⟩
theorem ok_Plus_joined (T : Txt K mg t) : FnOk P w K mg base CX0 1 t.f_Plus_joined t.d_Plus_joined ["self", "left", "right"] (sp_join .plus) := by
  refine T.F_Plus_joined.ok sc_Plus_joined (fun vs H Q E h => ?_) (fun cdv A outer s H vs Q E hr h => ?_)
  · obtain ⟨v, x, y, rfl, _⟩ := h
    rfl
  · obtain ⟨v, x, y, rfl, c, k⟩ := h
    exact ⟨_, (pss_one (ps_ret (pe_op op_add (pv 1) (pv 2)))), _, rfl, _, rfl, _, _, rfl, rfl, k⟩
theorem ok_Times_joined (T : Txt K mg t) : FnOk P w K mg base CX0 1 t.f_Times_joined t.d_Times_joined ["self", "left", "right"] (sp_join .times) := by
  refine T.F_Times_joined.ok sc_Times_joined (fun vs H Q E h => ?_) (fun cdv A outer s H vs Q E hr h => ?_)
  · obtain ⟨v, x, y, rfl, _⟩ := h
    rfl
  · obtain ⟨v, x, y, rfl, c, k⟩ := h
    exact ⟨_, (pss_one (ps_ret (pe_op op_mulB (pv 1) (pv 2)))), _, rfl, _, rfl, _, _, rfl, rfl, c, k⟩
theorem joinOk (T : Txt K mg t) (o : Op3) (ho : o ≠ .minus) : ∃ f fd, Meth K (clsOf t o) "joined" f ∧ FnOk P w K mg base CX0 1 f fd ["self", "left", "right"] (sp_join o) ∧ Binds K fd ["self", "left", "right"] [] := by cases o with
  | plus => exact ⟨_, _, T.me_Plus_joined, ok_Plus_joined T, T.b_Plus_joined⟩
  | minus => exact absurd rfl ho
  | times => exact ⟨_, _, T.me_Times_joined, ok_Times_joined T, T.b_Times_joined⟩
theorem ok_Number_worth (T : Txt K mg t) (n : Nat) : FnOk P w K mg base CX0 1 t.f_Number_worth t.d_Number_worth ["self", "at", "world"] (sp_W t n fun u => ∃ z, u = .num z) := by
  refine T.F_Number_worth.ok sc_Number_worth (fun vs H Q E h => ?_) (fun cdv A outer s H vs Q E hr h => ?_)
  · obtain ⟨v, u, d, wd, l, kvs, lk, nk, num, wh, rfl, _⟩ := h
    rfl
  · obtain ⟨v, u, d, wd, l, kvs, lk, nk, num, wh, rfl, ⟨z, rfl⟩, ob, ask, W, nu, k⟩ := h
    have hp := W.pos
    obtain ⟨⟨dw, nn, hw, hn⟩, _⟩ := W
    cases ob with
    | @num a dx _ e => exact ⟨_, (pss_one (ps_ret (pe_op op_mod (pe_fld (pv 0) rfl) (pe_fld (pv 2) rfl)))), _, rfl, a, _, dx, _, _, rfl, e, T.cl_Number, T.na_Number_number, (by walk_at "lk"), _, rfl, wd, _, dw, _, _, rfl, hw, T.cl_GrowingWorld, T.na_GrowingWorld_wheel, (by walk_at "lk"), _, _, rfl, rfl, hp, k H (Same.refl _)⟩
theorem cell_keys (c : List Int) : (c.map V.int) = (c.map (Sum.inl : Int → Key)).map kV := by rw [List.map_map]; rfl
theorem ok_Read_worth (T : Txt K mg t) (n : Nat) : FnOk P w K mg base CX0 3 t.f_Read_worth t.d_Read_worth ["self", "at", "world"] (sp_W t n fun u => ∃ z ix, u = .read z ix) := by
  have G_Read_cell_at := ok_Read_cell_at (P := P) (w := w) (base := base) T
  refine T.F_Read_worth.ok sc_Read_worth (fun vs H Q E h => ?_) (fun cdv A outer s H vs Q E hr h => ?_)
  · obtain ⟨v, u, d, wd, l, kvs, lk, nk, num, wh, rfl, _⟩ := h
    rfl
  · obtain ⟨v, u, d, wd, l, kvs, lk, nk, num, wh, rfl, ⟨z, ix, rfl⟩, ob, ask, W, nu, k⟩ := h
    have hu := hu_of hr
    have hp := W.pos
    obtain ⟨⟨dw, nn, hw, hn⟩, _⟩ := W
    obtain ⟨pc, cs, v1, h1, v2⟩ := nu (z, cellM (ai kvs) ix) (by simp [rd])
    have g1 := DGet.k (H := H) (a := nn) (k := Sum.inr z) hn
    rw [v1] at g1
    cases ob with
    | @read a dx li _ _ e rp =>
      refine ⟨_, (pss_one (ps_ret (pe_op op_mod (pe_dget hu (pe_dget hu (pe_fld (pv 2) rfl) (pe_fld (pv 0) rfl) (fun _ _ => rfl)) (pe_meth (pv 0) T.cl_Read T.me_Read_cell_at G_Read_cell_at (hr.mono (by omega)) T.b_Read_cell_at .nil pass0 (pa_cons (pv 1) pa_nil)) (fun _ _ => rfl)) (pe_fld (pv 2) rfl)))), ?_⟩
      refine ⟨_, rfl, wd, _, dw, _, _, rfl, hw, T.cl_GrowingWorld, T.na_GrowingWorld_numbers, (by walk_at "lk"), _, rfl, a, _, dx, _, _, rfl, e, T.cl_Read, T.na_Read_array, (by walk_at "lk"), nn, _, rfl, g1, _, rfl,
        a, dx, _, rfl, e, (by walk_at "lk"), _, rfl,
        a, dx, d, li, z, ix, kvs, rfl, e, rp, ask.good.2.1, ask.hd, fun e he hn => ask.at_ e.1 ⟨hn, e, he, rfl⟩, fun q H2 hq s2 h2 => ?_⟩
      rw [cell_keys] at h2
      have g2 := DGet.t (s2 _ _ h1) h2
      rw [v2] at g2
      exact ⟨pc, _, rfl, g2, _, rfl, wd, _, dw, _, _, rfl, s2 _ _ hw, T.cl_GrowingWorld, T.na_GrowingWorld_wheel, (by walk_at "lk"), _, _, rfl, rfl, hp, k H2 s2⟩
/-- a term's worth() can be called -/
def WOk (P : Program) (w : World) (K : PySem.W.Frag) (mg : Str → Option Value) (base : Heap) (A : Adr) (n : Nat) : Prop := ∀ (H : Hp) (v : V) (u : Tm), Ob A H v u → dep u ≤ n →
  ∃ (a C dx : Addr) (fs : List (Str × V)) (k : Nat) (f : Addr) (fd : FuncData) (ps : List Str) (sp : Sp), v = .ref a ∧ H a = some (.ins C dx fs) ∧ Cls K C ∧ Meth K C "worth" f ∧ fs.lookup ("worth" : Str) = none ∧ FnOk P w K mg base CX0 k f fd ps sp ∧ k ≤ n + 3 ∧ Binds K fd ps [] ∧
    ∀ (H' : Hp) (d wd l : Addr) (kvs lk nk : List (Key × V)) (num : Str → List Int → Int) (wh : Int) (Q : VK), Same H H' → AskD n u H' d l kvs lk → Wd A H' wd l wh nk → NumOk H' nk num (rd (ai lk) u (ai kvs)) → (∀ H2, Same H' H2 → Q (.int (wo (ai lk) num wh u (ai kvs))) H2) → sp [v, .ref d, .ref wd] H' Q E0
theorem pairCl (T : Txt K mg t) (k : Op3) : Cls K (clsOf t k) := by cases k with
  | plus => exact T.cl_Plus
  | minus => exact T.cl_Plus
  | times => exact T.cl_Times
theorem pairL (T : Txt K mg t) (k : Op3) : NoAttr K (clsOf t k) "left" := by cases k with
  | plus => exact T.na_Plus_left
  | minus => exact T.na_Plus_left
  | times => exact T.na_Times_left
theorem pairR (T : Txt K mg t) (k : Op3) : NoAttr K (clsOf t k) "right" := by cases k with
  | plus => exact T.na_Plus_right
  | minus => exact T.na_Plus_right
  | times => exact T.na_Times_right
theorem pairW (T : Txt K mg t) (k : Op3) : Meth K (clsOf t k) "worth" t.f_Pair_worth := by cases k with
  | plus => exact T.me_Plus_worth
  | minus => exact T.me_Plus_worth
  | times => exact T.me_Times_worth
theorem ok_Pair_worth (T : Txt K mg t) {n : Nat} (W : WOk P w K mg base t n) : FnOk P w K mg base CX0 (n + 4) t.f_Pair_worth t.d_Pair_worth ["self", "at", "world"] (sp_W t (n + 1) fun u => ∃ o x b, u = .pair o x b) := by
  refine T.F_Pair_worth.ok sc_Pair_worth (fun vs H Q E h => ?_) (fun cdv A outer s H vs Q E hr h => ?_)
  · obtain ⟨v, u, d, wd, l, kvs, lk, nk, num, wh, rfl, _⟩ := h
    rfl
  · obtain ⟨v, u, d, wd, l, kvs, lk, nk, num, wh, rfl, ⟨o, x, y, rfl⟩, ob, ask, Wo, nu, k⟩ := h
    have hp := Wo.pos
    cases ob with
    | @pair a dx _ u v _ _ ho e ob1 ob2 =>
      have a1 := ask.left
      have a2 := ask.right
      have n1 : NumOk H nk num (rd (ai lk) x (ai kvs)) := nu.mono (Same.refl _) fun e he => by simp only [rd, List.mem_append]; exact .inl he
      have n2 : NumOk H nk num (rd (ai lk) y (ai kvs)) := nu.mono (Same.refl _) fun e he => by simp only [rd, List.mem_append]; exact .inr he
      refine ⟨_, (pss_cons (ps_set (i := 3) sc_Pair_worth.nd rfl (Or.inl rfl) (pe_methD (pe_fld (pv 0) rfl) (pa_cons (pv 1) (pa_cons (pv 2) pa_nil))))
      (pss_cons (ps_set (i := 4) sc_Pair_worth.nd rfl (Or.inl rfl) (pe_methD (pe_fld (pv 0) rfl) (pa_cons (pv 1) (pa_cons (pv 2) pa_nil))))
      (pss_one (ps_ret (pe_op op_mod (pe_methD (pv 0) (pa_cons (pv 3) (pa_cons (pv 4) pa_nil))) (pe_fld (pv 2) rfl)))))), ?_⟩
      refine ⟨_, rfl, a, _, dx, _, _, rfl, e, pairCl T o, pairL T o, (by walk_at "lk"), ?_⟩
      obtain ⟨a', C', dx', fs', k', f', fd', ps', sp', rfl, e', c', m', l', F', hk', b', q'⟩ := W H u x ob1 a1.deep
      refine ⟨a', C', dx', fs', k', f', fd', ps', sp', rfl, e', c', m', l', F', hr.mono (by omega), b', _, rfl, _, rfl, q' H d wd l kvs lk nk num wh _ (Same.refl _) a1 Wo n1 fun H1 s1 => ?_⟩
      refine ⟨_, rfl, a, _, dx, _, _, rfl, s1 _ _ e, pairCl T o, pairR T o, (by walk_at "lk"), ?_⟩
      obtain ⟨a', C', dx', fs', k', f', fd', ps', sp', rfl, e', c', m', l', F', hk', b', q'⟩ := W H1 v y (ob2.imp s1) a2.deep
      refine ⟨a', C', dx', fs', k', f', fd', ps', sp', rfl, e', c', m', l', F', hr.mono (by omega), b', _, rfl, _, rfl, q' H1 d wd l kvs lk nk num wh _ (Same.refl _) (a2.same s1) (Wo.same s1) (n2.mono s1 fun _ z => z) fun H2 s2 => ?_⟩
      obtain ⟨fj, dj, mj, Fj, bj⟩ := joinOk (P := P) (w := w) (base := base) T o ho
      have s12 := s1.trans s2
      obtain ⟨⟨dw, nn, hw, hn⟩, hwh⟩ := Wo
      exact ⟨_, rfl, a, _, dx, _, 1, fj, dj, _, _, rfl, s12 _ _ e, pairCl T o, mj, (by walk_at "lk"), Fj, hr.mono (by omega), bj, _, rfl, _, rfl, _, _, _, rfl, wo_big hwh x y (ai kvs), _, rfl, wd, _, dw, _, _, rfl, s12 _ _ hw, T.cl_GrowingWorld, T.na_GrowingWorld_wheel, (by walk_at "lk"), _, _, rfl, rfl, hp, k H2 s12⟩
theorem ok_Guard_worth (T : Txt K mg t) {n : Nat} (W : WOk P w K mg base t n) : FnOk P w K mg base CX0 (n + 4) t.f_Guard_worth t.d_Guard_worth ["self", "at", "world"] (sp_W t (n + 1) fun u => ∃ x lo hi l r, u = .guard x lo hi l r) := by
  have G_Guard_looked_at := ok_Guard_looked_at (P := P) (w := w) (base := base) T
  refine T.F_Guard_worth.ok sc_Guard_worth (fun vs H Q E h => ?_) (fun cdv A outer s H vs Q E hr h => ?_)
  · obtain ⟨v, u, d, wd, l, kvs, lk, nk, num, wh, rfl, _⟩ := h
    rfl
  · obtain ⟨v, u, d, wd, l, kvs, lk, nk, num, wh, rfl, ⟨x, lo, hi, y, z, rfl⟩, ob, ask, Wo, nu, k⟩ := h
    cases ob with
    | @guard a dx _ _ _ u v _ _ e ob1 ob2 =>
      refine ⟨_, (pss_one (ps_ret (pe_methD (pe_meth (pv 0) T.cl_Guard T.me_Guard_looked_at G_Guard_looked_at (hr.mono (by omega)) T.b_Guard_looked_at .nil pass0 (pa_cons (pv 1) pa_nil)) (pa_cons (pv 1) (pa_cons (pv 2) pa_nil))))), ?_⟩
      refine ⟨_, rfl, a, dx, _, rfl, e, (by walk_at "lk"), _, rfl,
        a, dx, d, x, lo, hi, u, v, kvs, rfl, e, ask.gat (Same.refl _), fun c => ?_, fun c => ?_⟩
      · obtain ⟨a1, eq⟩ := ask.inner c
        rw [eq] at nu
        have ew : wo (ai lk) num wh (.guard x lo hi y z) (ai kvs) = wo (ai lk) num wh y (ai kvs) := by simp only [wo]; rw [if_pos c]
        rw [ew] at k
        obtain ⟨a', C', dx', fs', k', f', fd', ps', sp', rfl, e', c', m', l', F', hk', b', q'⟩ := W H u y ob1 a1.deep
        exact ⟨a', C', dx', fs', k', f', fd', ps', sp', rfl, e', c', m', l', F', hr.mono (by omega), b', _, rfl, _, rfl, q' H d wd l kvs lk nk num wh _ (Same.refl _) a1 Wo nu k⟩
      · obtain ⟨a1, eq⟩ := ask.outer c
        rw [eq] at nu
        have ew : wo (ai lk) num wh (.guard x lo hi y z) (ai kvs) = wo (ai lk) num wh z (ai kvs) := by simp only [wo]; rw [if_neg c]
        rw [ew] at k
        obtain ⟨a', C', dx', fs', k', f', fd', ps', sp', rfl, e', c', m', l', F', hk', b', q'⟩ := W H v z ob2 a1.deep
        exact ⟨a', C', dx', fs', k', f', fd', ps', sp', rfl, e', c', m', l', F', hr.mono (by omega), b', _, rfl, _, rfl, q' H d wd l kvs lk nk num wh _ (Same.refl _) a1 Wo nu k⟩
theorem wok (T : Txt K mg t) : ∀ n : Nat, WOk P w K mg base t n
  | 0 => fun H v u ob hd => absurd hd (by have := dep_pos u; omega)
  | n + 1 => fun H v u ob hd => by
    have W := wok T n
    cases id ob with
    | num e => exact ⟨_, _, _, _, _, _, _, _, _, rfl, e, T.cl_Number, T.me_Number_worth, (by walk_at "lk"), ok_Number_worth T (n + 1), by omega, T.b_Number_worth, fun H' d wd l kvs lk nk num wh Q s a W2 nu k => ⟨_, _, d, wd, l, kvs, lk, nk, num, wh, rfl, ⟨_, rfl⟩, ob.imp s, a, W2, nu, k⟩⟩
    | read e r => exact ⟨_, _, _, _, _, _, _, _, _, rfl, e, T.cl_Read, T.me_Read_worth, (by walk_at "lk"), ok_Read_worth T (n + 1), by omega, T.b_Read_worth, fun H' d wd l kvs lk nk num wh Q s a W2 nu k => ⟨_, _, d, wd, l, kvs, lk, nk, num, wh, rfl, ⟨_, _, rfl⟩, ob.imp s, a, W2, nu, k⟩⟩
    | @pair _ _ o _ _ _ _ ho e o1 o2 => exact ⟨_, _, _, _, _, _, _, _, _, rfl, e, pairCl T o, pairW T o, (by walk_at "lk"), ok_Pair_worth T W, by omega, T.b_Pair_worth, fun H' d wd l kvs lk nk num wh Q s a W2 nu k => ⟨_, _, d, wd, l, kvs, lk, nk, num, wh, rfl, ⟨_, _, _, rfl⟩, ob.imp s, a, W2, nu, k⟩⟩
    | guard e o1 o2 => exact ⟨_, _, _, _, _, _, _, _, _, rfl, e, T.cl_Guard, T.me_Guard_worth, (by walk_at "lk"), ok_Guard_worth T W, by omega, T.b_Guard_worth, fun H' d wd l kvs lk nk num wh Q s a W2 nu k => ⟨_, _, d, wd, l, kvs, lk, nk, num, wh, rfl, ⟨_, _, _, _, _, rfl⟩, ob.imp s, a, W2, nu, k⟩⟩
end
end My

set_option Elab.async false
set_option linter.all false
set_option maxRecDepth 100000
set_option maxHeartbeats 4000000
namespace My
open PySem L2
local macro_rules | `(tactic| walk_at "lk") => `(tactic| first | with_reducible exact lk0 | (refine lk1 (by decide +kernel) ?_; walk_at "lk") | rfl)
def sp_initG (A : Adr) : Sp := fun vs H Q _ => ∃ (p dx : Addr) (a b c d e : V), vs = [.ref p, a, b, c, d, e] ∧ H p = some (.ins A.C_Guard dx []) ∧ Q .non (upd H p (.ins A.C_Guard dx [("axis", a), ("low", b), ("high", c), ("inner", d), ("outer", e)]))
def sp_initR (A : Adr) : Sp := fun vs H Q _ => ∃ (p dx l : Addr) (x : Str) (ix : List (Str × Int)), vs = [.ref p, .str x, .ref l] ∧ H p = some (.ins A.C_Read dx []) ∧ Rep H (.ref l) (encIx ix) ∧ ix.length ≤ 1000 ∧
  ∀ (l' : Addr) (H' : Hp), H' p = some (.ins A.C_Read dx [("array", .str x), ("indexes", .ref l')]) → Rep H' (.ref l') (encIx ix) → (∀ b o, b ≠ p → H b = some o → H' b = some o) → Q .non H'
def sp_initW (A : Adr) : Sp := fun vs H Q _ => ∃ (p dx l nn : Addr) (wh : Int) (lk : List (Key × V)) (is : List Int), vs = [.ref p, .int wh, .ref l, .ref nn] ∧ H p = some (.ins A.C_GrowingWorld dx []) ∧ H l = some (.dK lk) ∧ Ints' lk is ∧ lk.length ≤ 1000 ∧ H nn = some (.dK []) ∧
  ∀ (l' n' : Addr) (H' : Hp), H l' = none → H n' = none → n' ≠ l' → H' p = some (.ins A.C_GrowingWorld dx [("wheel", .int wh), ("lengths", .ref l'), ("numbers", .ref n')]) → H' l' = some (.dK lk) → H' n' = some (.dK []) → KB p H H' → Q .non H'
section
variable {P : Program} {w : World} {K : PySem.W.Frag} {mg : Str → Option Value} {base : Heap} {t : Adr}
theorem ok_Guard_init (T : Txt K mg t) : FnOk P w K mg base CX0 1 t.f_Guard_init t.d_Guard_init ["self", "axis", "low", "high", "inner", "outer"] (sp_initG t) := by
  refine T.F_Guard_init.ok sc_Guard_init (fun vs H Q E h => ?_) (fun cdv A outer s H vs Q E hr h => ?_)
  · obtain ⟨p, dx, a, b, c, d, e, rfl, _⟩ := h
    rfl
  · obtain ⟨p, dx, a, b, c, d, e, rfl, hp, k⟩ := h
    have e1 : putF "low" b (putF "axis" a []) = ([("axis", a), ("low", b)] : List (Str × V)) := by rw [putF_nil, putF_ne (by decide +kernel), putF_nil]
    have e2 : putF "high" c ([("axis", a), ("low", b)] : List (Str × V)) = ([("axis", a), ("low", b), ("high", c)] : List (Str × V)) := by rw [putF_ne (by decide +kernel), putF_ne (by decide +kernel), putF_nil]
    have e3 : putF "inner" d ([("axis", a), ("low", b), ("high", c)] : List (Str × V)) = ([("axis", a), ("low", b), ("high", c), ("inner", d)] : List (Str × V)) := by rw [putF_ne (by decide +kernel), putF_ne (by decide +kernel), putF_ne (by decide +kernel), putF_nil]
    have e4 : putF "outer" e ([("axis", a), ("low", b), ("high", c), ("inner", d)] : List (Str × V)) = ([("axis", a), ("low", b), ("high", c), ("inner", d), ("outer", e)] : List (Str × V)) := by rw [putF_ne (by decide +kernel), putF_ne (by decide +kernel), putF_ne (by decide +kernel), putF_ne (by decide +kernel), putF_nil]
    refine ⟨_, (pss_cons (ps_fld (pv 0) (pv 1) rfl)
      (pss_cons (ps_fld (pv 0) (pv 2) rfl)
      (pss_cons (ps_fld (pv 0) (pv 3) rfl)
      (pss_cons (ps_fld (pv 0) (pv 4) rfl)
      (pss_one (ps_fld (pv 0) (pv 5) rfl)))))), _, rfl, _, rfl, p, _, dx, [], rfl, hp, T.cl_Guard, T.na_Guard_axis, (by decide), _, rfl, _, rfl, p, _, dx, _, rfl, upd_same, T.cl_Guard, T.na_Guard_low, (by show 1 < 1000; decide), ?_⟩
    rw [upd_upd, e1]
    refine ⟨_, rfl, _, rfl, p, _, dx, _, rfl, upd_same, T.cl_Guard, T.na_Guard_high, (by show 2 < 1000; decide), ?_⟩
    rw [upd_upd, e2]
    refine ⟨_, rfl, _, rfl, p, _, dx, _, rfl, upd_same, T.cl_Guard, T.na_Guard_inner, (by show 3 < 1000; decide), ?_⟩
    rw [upd_upd, e3]
    refine ⟨_, rfl, _, rfl, p, _, dx, _, rfl, upd_same, T.cl_Guard, T.na_Guard_outer, (by show 4 < 1000; decide), ?_⟩
    show Q V.non (upd (upd H p _) p _)
    rw [upd_upd, e4]
    exact k
theorem ok_Read_init (T : Txt K mg t) : FnOk P w K mg base CX0 5 t.f_Read_init t.d_Read_init ["self", "array", "indexes"] (sp_initR t) := by
  have G_copied := ok_copied (P := P) (w := w) (base := base) T 2
  refine T.F_Read_init.ok sc_Read_init (fun vs H Q E h => ?_) (fun cdv A outer s H vs Q E hr h => ?_)
  · obtain ⟨p, dx, l, x, ix, rfl, _⟩ := h
    rfl
  · obtain ⟨p, dx, l, x, ix, rfl, hp, rp, hix, k⟩ := h
    have hcn := ix_cnt (ix := ix)
    refine ⟨_, (pss_cons (ps_fld (pv 0) (pv 1) rfl)
      (pss_one (ps_fld (pv 0) (pe_call G_copied (hr.mono (by omega)) rfl T.m_copied T.F_copied.kp T.b_copied .nil pass0 (pa_cons (pv 2) pa_nil)) rfl))), _, rfl, _, rfl, p, _, dx, [], rfl, hp, T.cl_Read, T.na_Read_array, (by decide), ?_⟩
    refine ⟨_, rfl, .ref l, encIx ix, rfl, rp.ins hp, ix_depth, by omega, fun v' H2 s2 rp2 => ?_⟩
    have hp2 := s2 _ _ (upd_same (H := H) (a := p))
    obtain ⟨l', xs, rfl, el, rs⟩ := rep_lst (show Rep _ v' (.list (ix.map encI)) from rp2)
    refine ⟨_, rfl, p, _, dx, _, rfl, hp2, T.cl_Read, T.na_Read_indexes, (by show 1 < 1000; decide), ?_⟩
    show Q V.non (upd H2 p (.ins t.C_Read dx (putF "indexes" (.ref l') (putF "array" (.str x) []))))
    rw [putF_nil, putF_ne (by decide +kernel), putF_nil]
    refine k l' _ upd_same ((rp2.same restr_sub).ins hp2) fun b o hb e => ?_
    rw [upd_ne hb]
    exact s2 _ _ (by rw [upd_ne hb]; exact e)
theorem ok_World_init (T : Txt K mg t) : FnOk P w K mg base CX0 5 t.f_World_init t.d_World_init ["self", "wheel", "lengths", "numbers"] (sp_initW t) := by
  have G_copied := ok_cop (P := P) (w := w) (base := base) T
  refine T.F_World_init.ok sc_World_init (fun vs H Q E h => ?_) (fun cdv A outer s H vs Q E hr h => ?_)
  · obtain ⟨p, dx, l, nn, wh, lk, is, rfl, _⟩ := h
    rfl
  · obtain ⟨p, dx, l, nn, wh, lk, is, rfl, hp, hld, il, ll, hnn, k⟩ := h
    have f1 : ∀ v : V, putF "lengths" v [("wheel", .int wh)] = ([("wheel", .int wh), ("lengths", v)] : List (Str × V)) := fun v => by rw [putF_ne (by decide +kernel), putF_nil]
    have f2 : ∀ u v : V, putF "numbers" v [("wheel", .int wh), ("lengths", u)] = ([("wheel", .int wh), ("lengths", u), ("numbers", v)] : List (Str × V)) := fun u v => by rw [putF_ne (by decide +kernel), putF_ne (by decide +kernel), putF_nil]
    have np : ∀ {b : Addr} {u : HO}, H b = some u → (∀ C d fs, u ≠ .ins C d fs) → b ≠ p := fun e n z => by subst z; rw [hp] at e; cases e; exact n _ _ _ rfl
    have nn' : ∀ {b : Addr}, H b = none → b ≠ p := fun e z => by subst z; rw [hp] at e; cases e
    refine ⟨_, (pss_cons (ps_fld (pv 0) (pv 1) rfl)
      (pss_cons (ps_fld (pv 0) (pe_call G_copied (hr.mono (by omega)) rfl T.m_copied T.F_copied.kp T.b_copied .nil pass0 (pa_cons (pv 2) pa_nil)) rfl)
      (pss_one (ps_fld (pv 0) (pe_call G_copied (hr.mono (by omega)) rfl T.m_copied T.F_copied.kp T.b_copied .nil pass0 (pa_cons (pv 3) pa_nil)) rfl)))), _, rfl, _, rfl, p, _, dx, [], rfl, hp, T.cl_GrowingWorld, T.na_GrowingWorld_wheel, (by decide), ?_⟩
    rw [putF_nil]
    obtain ⟨G0, hG0⟩ : ∃ G0, G0 = upd H p (.ins t.C_GrowingWorld dx [("wheel", .int wh)]) := ⟨_, rfl⟩
    rw [← hG0]
    have p0 : G0 p = some (.ins t.C_GrowingWorld dx [("wheel", .int wh)]) := by rw [hG0]; exact upd_same
    have k0 : KB p H G0 := by rw [hG0]; exact KB.refl.upd
    refine ⟨_, rfl, .inr ⟨l, lk, is.map PyData.int, rfl, k0 _ _ (np hld (by intros; intro z; cases z)) hld, by omega, ints_src il, fun l' lk' H1 hl' s1 h1 ks cp => ?_⟩⟩
    have ek := ints_of il ks cp
    subst ek
    have nl : H l' = none := k0.free p0 hl'
    refine ⟨_, rfl, p, _, dx, _, rfl, s1 _ _ p0, T.cl_GrowingWorld, T.na_GrowingWorld_lengths, (by show 1 < 1000; decide), ?_⟩
    rw [f1]
    obtain ⟨G1, hG1⟩ : ∃ G1, G1 = upd H1 p (.ins t.C_GrowingWorld dx [("wheel", .int wh), ("lengths", .ref l')]) := ⟨_, rfl⟩
    rw [← hG1]
    have p1 : G1 p = some (.ins t.C_GrowingWorld dx [("wheel", .int wh), ("lengths", .ref l')]) := by rw [hG1]; exact upd_same
    have k1 : KB p H G1 := by rw [hG1]; exact (k0.trans (KB.of s1)).upd
    have gl1 : G1 l' = some (.dK lk') := by rw [hG1, upd_ne (nn' nl)]; exact h1
    refine ⟨_, rfl, .inr ⟨nn, [], [], rfl, k1 _ _ (np hnn (by intros; intro z; cases z)) hnn, by simp, .nil, fun n' nk' H2 hn' s2 h2 ks2 _ => ?_⟩⟩
    have en : nk' = [] := by cases nk' with
      | nil => rfl
      | cons a r => simp at ks2
    subst en
    have n0 : H n' = none := k1.free p1 hn'
    have nl' : n' ≠ l' := fun z => by subst z; rw [gl1] at hn'; cases hn'
    refine ⟨_, rfl, p, _, dx, _, rfl, s2 _ _ p1, T.cl_GrowingWorld, T.na_GrowingWorld_numbers, (by show 2 < 1000; decide), ?_⟩
    show Q V.non (upd H2 p _)
    rw [f2]
    exact k l' n' _ nl n0 nl' upd_same (by rw [upd_ne (nn' nl)]; exact s2 _ _ gl1) (by rw [upd_ne (nn' n0)]; exact h2) (k1.trans (KB.of s2)).upd
end
end My

set_option Elab.async false
set_option linter.all false
set_option maxRecDepth 100000
set_option maxHeartbeats 4000000
namespace My
open PySem L2
local macro_rules | `(tactic| walk_at "lk") => `(tactic| first | with_reducible exact lk0 | (refine lk1 (by decide +kernel) ?_; walk_at "lk") | rfl)
/-- the numbers of an array, as its dict holds them -/
def cD (cs : List (List Int × Int)) : List (List Key × V) := cs.map fun c => (c.1.map Sum.inl, V.int c.2)
abbrev AD (M : List Addr) (H : Hp) (nk : List (Key × V)) (ns : List (Str × List (List Int × Int))) : Prop := Paired (fun (p : Key × V) (e : Str × List (List Int × Int)) => p.1 = Sum.inr e.1 ∧ ∃ b, p.2 = .ref b ∧ b ∈ M ∧ H b = some (.dT (cD e.2))) nk ns
/-- the arrays, the last one not yet there while it has no numbers -/
def fullN (ms : List (Str × List (List Int × Int))) (a : Str) (cs : List (List Int × Int)) : List (Str × List (List Int × Int)) := ms ++ (if cs = [] then [] else [(a, cs)])
theorem put_ninT {ws : List (List Key × V)} {k : List Key} (n : ∀ p ∈ ws, p.1 ≠ k) (u : V) : putK ws k u = ws ++ [(k, u)] := by
  unfold putK
  rw [if_neg]
  intro h
  obtain ⟨p, hp, e⟩ := List.any_eq_true.mp h
  exact n p hp (of_decide_eq_true e)
theorem put_ninK {ws : List (Key × V)} {k : Key} (n : ∀ p ∈ ws, p.1 ≠ k) (u : V) : putK ws k u = ws ++ [(k, u)] := by
  unfold putK
  rw [if_neg]
  intro h
  obtain ⟨p, hp, e⟩ := List.any_eq_true.mp h
  exact n p hp (of_decide_eq_true e)
theorem inl_inj : ∀ {a b : List Int}, a.map (Sum.inl : Int → Key) = b.map Sum.inl → a = b
  | [], [], _ => rfl
  | [], _ :: _, h => by simp at h
  | _ :: _, [], h => by simp at h
  | x :: a, y :: b, h => by
    rw [List.map_cons, List.map_cons] at h
    injection h with h1 h2
    injection h1 with h1
    rw [h1, inl_inj h2]
theorem put_cell {cs : List (List Int × Int)} {c : List Int} {n : Int} (h : c ∉ cs.map (·.1)) : putK (cD cs) (c.map Sum.inl) (.int n) = cD (cs ++ [(c, n)]) := by
  rw [put_ninT (fun p hp z => ?_)]
  · unfold cD; rw [List.map_append]; rfl
  · obtain ⟨e, he, rfl⟩ := List.mem_map.mp hp
    exact h (List.mem_map.mpr ⟨e, he, inl_inj z⟩)
theorem ad_key {M : List Addr} {H : Hp} {nk : List (Key × V)} {ns : List (Str × List (List Int × Int))} {a : Str} (h : AD M H nk ns) (n : a ∉ ns.map (·.1)) : ∀ p ∈ nk, p.1 ≠ Sum.inr a := fun p hp z => by
  obtain ⟨i, hi⟩ := List.getElem?_of_mem hp
  obtain ⟨e, he, ek, _⟩ := pget h hi
  have ek : p.1 = Sum.inr e.1 := ek
  rw [z] at ek
  injection ek with ek
  exact n (List.mem_map.mpr ⟨e, List.mem_of_getElem? he, ek.symm⟩)
theorem val_nin {kvs : List (Key × V)} {k : Key} (h : ∀ p ∈ kvs, p.1 ≠ k) : valV kvs k = none := by
  unfold valV
  rw [List.find?_eq_none.mpr fun p hp z => h p hp (of_decide_eq_true z)]
  rfl
theorem val_last {kvs : List (Key × V)} {k : Key} {v : V} (h : ∀ p ∈ kvs, p.1 ≠ k) : valV (kvs ++ [(k, v)]) k = some v := by
  induction kvs with
  | nil => exact valV_pos rfl
  | cons p r ih =>
    rw [List.cons_append, valV_neg (h p (.head _))]
    exact ih fun q hq => h q (.tail _ hq)
theorem AD.imp {M M' : List Addr} {H H' : Hp} {nk : List (Key × V)} {ns : List (Str × List (List Int × Int))} (h : AD M H nk ns) (f : ∀ b kvs, b ∈ M → H b = some (.dT kvs) → b ∈ M' ∧ H' b = some (.dT kvs)) : AD M' H' nk ns :=
  Paired.mapP h fun _ _ ⟨e1, b, e2, m, hb⟩ => ⟨e1, b, e2, (f _ _ m hb).1, (f _ _ m hb).2⟩
def sp_put (A : Adr) : Sp := fun vs H Q _ => ∃ (wo dx l nn cr : Addr) (M : List Addr) (wh : Int) (nk : List (Key × V)) (ms : List (Str × List (List Int × Int))) (a : Str) (cs : List (List Int × Int)) (c : List Int) (n : Int), vs = [.ref wo, .str a, .ref cr, .int n] ∧
  H wo = some (.ins A.C_GrowingWorld dx [("wheel", .int wh), ("lengths", .ref l), ("numbers", .ref nn)]) ∧ H nn = some (.dK nk) ∧ AD M H nk (fullN ms a cs) ∧ ms.length ≤ 100 ∧ a ∉ ms.map (·.1) ∧ H cr = some (.tup (c.map V.int)) ∧ c ∉ cs.map (·.1) ∧ cs.length ≤ 100000 ∧
  (nk.map (·.2)).Nodup ∧ (∀ b ∈ M, ∃ kvs, H b = some (.dT kvs)) ∧
  ∀ (M' : List Addr) (nk' : List (Key × V)) (H' : Hp), H' nn = some (.dK nk') → AD M' H' nk' (fullN ms a (cs ++ [(c, n)])) → (∀ b o, b ≠ nn → b ∉ M → H b = some o → H' b = some o) → (∀ b ∈ M', b ∈ M ∨ H b = none) → (nk'.map (·.2)).Nodup → (∀ b ∈ M', ∃ kvs, H' b = some (.dT kvs)) → Q .non H'
theorem psplit {α β : Type} {F : α → β → Prop} : ∀ {l : List α} {m : List β} {e : β}, Paired F l (m ++ [e]) → ∃ l0 x, l = l0 ++ [x] ∧ Paired F l0 m ∧ F x e
  | _, [], e, h => by
    cases h with
    | cons r t => cases t; exact ⟨[], _, rfl, .nil, r⟩
  | _, y :: m, e, h => by
    cases h with
    | cons r t =>
      obtain ⟨l0, x, rfl, h1, h2⟩ := psplit t
      exact ⟨_ :: l0, x, rfl, .cons r h1, h2⟩
theorem pand {α β : Type} {F : α → β → Prop} {G : α → Prop} : ∀ {l : List α} {m : List β}, Paired F l m → (∀ x ∈ l, G x) → Paired (fun x y => F x y ∧ G x) l m
  | _, _, .nil, _ => .nil
  | _, _, .cons r t, h => .cons ⟨r, h _ (.head _)⟩ (pand t fun x hx => h x (.tail _ hx))
theorem nd_snoc {α : Type} {xs : List α} {y : α} (h : xs.Nodup) (n : y ∉ xs) : (xs ++ [y]).Nodup :=
  List.pairwise_append.mpr ⟨h, List.pairwise_singleton .., fun a ha b hb z => n (by rw [List.mem_singleton.mp hb] at z; rw [← z]; exact ha)⟩
section
variable {P : Program} {w : World} {K : PySem.W.Frag} {mg : Str → Option Value} {base : Heap} {t : Adr}
theorem ok_GrowingWorld_put (T : Txt K mg t) : FnOk P w K mg base CX0 1 t.f_GrowingWorld_put t.d_GrowingWorld_put ["self", "array", "cell", "number"] (sp_put t) := by
  refine T.F_GrowingWorld_put.ok sc_GrowingWorld_put (fun vs H Q E h => ?_) (fun cdv A outer s H vs Q E hr h => ?_)
  · obtain ⟨wo, dx, l, nn, cr, M, wh, nk, ms, a, cs, c, n, rfl, _⟩ := h
    rfl
  · obtain ⟨wo, dx, l, nn, cr, M, wh, nk, ms, a, cs, c, n, rfl, hw, hn, ad, lms, na, hcr, nc, lcs, nd, dm, k⟩ := h
    have hu := hu_of hr
    refine ⟨_, (pss_cut (ps_if (pt_cmp (pc_dnotin hu (pv 1) (pe_fld (pv 0) rfl)) (by with_unfolding_all rfl))
        (pss_one (ps_dput hu (pe_fld (pv 0) rfl) (pv 1) pe_dnewT rfl))
        pss_nil)
      (pss_one (ps_dput hu (pe_dget hu (pe_fld (pv 0) rfl) (pv 1) (fun _ _ => rfl)) (pv 2) (pv 3) rfl))), ?_⟩
    refine ⟨fun σ H1 => ∃ (M1 : List Addr) (nk1 : List (Key × V)), σ = [some (.ref wo), some (.str a), some (.ref cr), some (.int n)] ∧ H1 nn = some (.dK nk1) ∧ AD M1 H1 nk1 (ms ++ [(a, cs)]) ∧ (nk1.map (·.2)).Nodup ∧ (∀ b o, b ≠ nn → H b = some o → H1 b = some o) ∧ (∀ b ∈ M1, b ∈ M ∨ H b = none) ∧ ∀ b ∈ M1, ∃ kvs, H1 b = some (.dT kvs), ?_, ?_⟩
    · by_cases he : cs = []
      · subst he
        have ad : AD M H nk ms := by unfold fullN at ad; rw [if_pos rfl, List.append_nil] at ad; exact ad
        have kn := ad_key ad na
        have lnk := Paired.length ad
        have g : DGet H nn (.str a) none := .inl ⟨nk, Sum.inr a, .inl hn, rfl, (val_nin kn).symm⟩
        refine ⟨_, rfl, _, rfl, wo, _, dx, _, _, rfl, hw, T.cl_GrowingWorld, T.na_GrowingWorld_numbers, (by walk_at "lk"), nn, _, rfl, g, _, rfl, iteT ?_⟩
        refine fun p hp => ?_
        have s1 : Same H (upd H p (.dT [])) := same_new hp
        refine ⟨_, rfl, wo, _, dx, _, _, rfl, s1 _ _ hw, T.cl_GrowingWorld, T.na_GrowingWorld_numbers, (by walk_at "lk"), _, rfl, nn, _, rfl, DPut.k (k := Sum.inr a) (s1 _ _ hn) (line_lt (by omega)), ?_⟩
        rw [put_ninK kn]
        have pn : p ≠ nn := fun z => by subst z; rw [hn] at hp; cases hp
        refine ⟨p :: M, nk ++ [(Sum.inr a, .ref p)], rfl, upd_same, ?_, ?_, fun b o hb e => by rw [upd_ne hb]; exact s1 _ _ e, fun b hb => ?_, fun b hb => ?_⟩
        · refine papp (ad.imp fun b kvs m e => ⟨.tail _ m, by rw [upd_ne (ne_of e hn (by intro z; cases z))]; exact s1 _ _ e⟩) (.cons ⟨rfl, p, rfl, .head _, ?_⟩ .nil)
          rw [upd_ne pn]
          exact upd_same
        · rw [List.map_append]
          refine nd_snoc nd fun m => ?_
          obtain ⟨q, hq, e⟩ := List.mem_map.mp m
          obtain ⟨i, hi⟩ := List.getElem?_of_mem hq
          obtain ⟨e', _, _, b, eb, _, hb⟩ := pget ad hi
          have eb : q.2 = .ref b := eb
          rw [eb] at e
          injection e with e
          rw [e, hp] at hb
          cases hb
        · rcases List.mem_cons.mp hb with rfl | hb
          · exact .inr hp
          · exact .inl hb
        · rcases List.mem_cons.mp hb with rfl | hb
          · exact ⟨[], by rw [upd_ne pn]; exact upd_same⟩
          · obtain ⟨kvs, e⟩ := dm b hb
            exact ⟨kvs, by rw [upd_ne (ne_of e hn (by intro z; cases z))]; exact s1 _ _ e⟩
      · have ad : AD M H nk (ms ++ [(a, cs)]) := by unfold fullN at ad; rw [if_neg he] at ad; exact ad
        obtain ⟨⟨k', v⟩, hkv, ek, b, eb, mb, hb⟩ := paired_at ad (i := ms.length) (y := (a, cs)) (by rw [List.getElem?_append_right (Nat.le_refl _), Nat.sub_self]; rfl)
        have ek : k' = Sum.inr a := ek
        subst ek
        have hv : ∃ v', valV nk (Sum.inr a) = some v' := by
          cases hval : valV nk (Sum.inr a) with
          | some v' => exact ⟨v', rfl⟩
          | none =>
            exfalso
            unfold valV at hval
            have := List.find?_eq_none.mp (Option.map_eq_none_iff.mp hval) _ (List.mem_of_getElem? hkv)
            exact this (decide_eq_true rfl)
        obtain ⟨v', hv'⟩ := hv
        have g : DGet H nn (.str a) (some v') := .inl ⟨nk, Sum.inr a, .inl hn, rfl, hv'.symm⟩
        exact ⟨_, rfl, _, rfl, wo, _, dx, _, _, rfl, hw, T.cl_GrowingWorld, T.na_GrowingWorld_numbers, (by walk_at "lk"), nn, _, rfl, g, _, rfl, iteF ⟨M, nk, rfl, hn, ad, nd, fun b o _ e => e, fun b hb => .inl hb, dm⟩⟩
    rintro σ H1 ⟨M1, nk1, rfl, hn1, ad1, nd1, fr, sub, dm1⟩
    obtain ⟨nk0, ⟨k', v⟩, rfl, ad0, ek, b, eb, mb, hb⟩ := psplit ad1
    have ek : k' = Sum.inr a := ek
    have eb : v = .ref b := eb
    subst ek eb
    have hb : H1 b = some (.dT (cD cs)) := hb
    have g : DGet H1 nn (.str a) (some (.ref b)) := .inl ⟨_, Sum.inr a, .inl hn1, rfl, (val_last (ad_key ad0 na)).symm⟩
    have wn : wo ≠ nn := ne_of hw hn (by intro z; cases z)
    have cn : cr ≠ nn := ne_of hcr hn (by intro z; cases z)
    have hw1 := fr _ _ wn hw
    have hcr1 := fr _ _ cn hcr
    rw [cell_keys] at hcr1
    have bn : b ≠ nn := ne_of hb hn1 (by intro z; cases z)
    refine ⟨_, rfl, _, rfl, wo, _, dx, _, _, rfl, hw1, T.cl_GrowingWorld, T.na_GrowingWorld_numbers, (by walk_at "lk"), _, rfl, nn, _, rfl, g, _, rfl, b, _, rfl, DPut.t (k := c.map Sum.inl) hb hcr1 (line_lt (by have : (cD cs).length = cs.length := List.length_map ..; omega)), ?_⟩
    rw [put_cell nc]
    have ef : fullN ms a (cs ++ [(c, n)]) = ms ++ [(a, cs ++ [(c, n)])] := by unfold fullN; rw [if_neg (by simp)]
    refine k M1 _ _ (by rw [upd_ne bn.symm]; exact hn1) ?_ (fun b' o h1 h2 e => ?_) sub nd1 fun b' m => ?_
    · rw [ef]
      refine papp (Paired.mapP (F := fun (p : Key × V) (e : Str × List (List Int × Int)) => (p.1 = Sum.inr e.1 ∧ ∃ b, p.2 = .ref b ∧ b ∈ M1 ∧ H1 b = some (.dT (cD e.2))) ∧ p.2 ≠ .ref b) ?_ fun _ _ ⟨⟨e1, b2, e2, m2, h2⟩, ne⟩ => ⟨e1, b2, e2, m2, by rw [upd_ne (fun z => ne (by rw [e2, z]))]; exact h2⟩) (.cons ⟨rfl, b, rfl, mb, upd_same⟩ .nil)
      rw [List.map_append] at nd1
      have nb : ∀ p ∈ nk0, p.2 ≠ V.ref b := fun p hp z => (List.pairwise_append.mp nd1).2.2 _ (List.mem_map.mpr ⟨p, hp, rfl⟩) (V.ref b) (.head _) z
      exact pand ad0 nb
    · have ne : b' ≠ b := fun z => by
        subst z
        rcases sub _ mb with m | m
        · exact h2 m
        · rw [m] at e; cases e
      rw [upd_ne ne]
      exact fr _ _ h1 e
    · by_cases z : b' = b
      · subst z; exact ⟨_, upd_same⟩
      · obtain ⟨kvs, e⟩ := dm1 b' m
        exact ⟨kvs, by rw [upd_ne z]; exact e⟩
end
end My

set_option Elab.async false
set_option linter.all false
set_option maxRecDepth 100000
set_option maxHeartbeats 4000000
namespace My
open PySem L2
local macro_rules | `(tactic| walk_at "lk") => `(tactic| first | with_reducible exact lk0 | (refine lk1 (by decide +kernel) ?_; walk_at "lk") | rfl)
/-- the rows that meaning gives: lists of numbers, all new -/
abbrev RowsAt (S : Addr → Prop) (H : Hp) (rk : List (Key × V)) (ns : List (Str × List (List Int × Int))) : Prop := Paired (fun (p : Key × V) (e : Str × List (List Int × Int)) => p.1 = Sum.inr e.1 ∧ ∃ b, p.2 = .ref b ∧ S b ∧ H b = some (.lst (e.2.map fun c => V.int c.2))) rk ns
theorem RowsAt.imp {S S' : Addr → Prop} {H H' : Hp} {rk : List (Key × V)} {ns : List (Str × List (List Int × Int))} (h : RowsAt S H rk ns) (f : ∀ b xs, S b → H b = some (.lst xs) → S' b ∧ H' b = some (.lst xs)) : RowsAt S' H' rk ns :=
  Paired.mapP h fun _ _ ⟨e1, b, e2, m, hb⟩ => ⟨e1, b, e2, (f _ _ m hb).1, (f _ _ m hb).2⟩
def sp_rows (A : Adr) : Sp := fun vs H Q _ => ∃ (wo dx l nn : Addr) (M : List Addr) (wh : Int) (nk : List (Key × V)) (ns : List (Str × List (List Int × Int))), vs = [.ref wo] ∧ H wo = some (.ins A.C_GrowingWorld dx [("wheel", .int wh), ("lengths", .ref l), ("numbers", .ref nn)]) ∧ H nn = some (.dK nk) ∧ AD M H nk ns ∧ (ns.map (·.1)).Nodup ∧ ns.length ≤ 100 ∧
  ∀ (r : Addr) (rk : List (Key × V)) (H' : Hp), H r = none → Same H H' → H' r = some (.dK rk) → RowsAt (fun b => H b = none) H' rk ns → Q (.ref r) H'
section
variable {P : Program} {w : World} {K : PySem.W.Frag} {mg : Str → Option Value} {base : Heap} {t : Adr}
theorem ok_rows_of (T : Txt K mg t) : FnOk P w K mg base CX0 1 t.f_rows_of t.d_rows_of ["world"] (sp_rows t) := by
  refine T.F_rows_of.ok sc_rows_of (fun vs H Q E h => ?_) (fun cdv A outer s H vs Q E hr h => ?_)
  · obtain ⟨wo, dx, l, nn, M, wh, nk, ns, rfl, _⟩ := h
    rfl
  · obtain ⟨wo, dx, l, nn, M, wh, nk, ns, rfl, hw, hn, ad, nd, lns, k⟩ := h
    have hu := hu_of hr
    have lnk := Paired.length ad
    refine ⟨_, (pss_cons (ps_set (i := 1) sc_rows_of.nd rfl (Or.inl rfl) pe_dnewK)
      (pss_cons (ps_for PassesOwn.never rfl (pi_items (pe_bm0 PySem.F.plainAttrs_dict PySem.F.slot_dict_items PySem.F.type_dict_items mt_items (pe_fld (pv 0) rfl))) (pg_tup (n := 2) rfl (pgs_cons (pg_name (i := 2) sc_rows_of.nd rfl (Or.inl rfl) (Or.inl rfl)) (pgs_cons (pg_name (i := 3) sc_rows_of.nd rfl (Or.inl rfl) (Or.inl rfl)) pgs_nil)))
        (pss_one (ps_dput hu (pv 1) (pv 2) (pe_callTy (call_listV rfl) (by rfl) T.z_list PyProof.Rows.boot_list (pa_cons (pe_bm0 PySem.F.plainAttrs_dict PySem.F.slot_dict_values PySem.F.type_dict_values mt_valuesD (pv 3)) pa_nil)) rfl)))
      (pss_thawD (pss_one (ps_ret (pv 1)))))), ?_⟩
    refine fun r hr0 => ?_
    have s1 : Same H (upd H r (.dK [])) := same_new hr0
    have nr : nn ≠ r := ne_of_none hn hr0
    refine ⟨_, rfl, wo, _, dx, _, .ref nn, rfl, s1 _ _ hw, T.cl_GrowingWorld, T.na_GrowingWorld_numbers, (by walk_at "lk"), .inr (.inr (.inl ⟨rfl, .inl ⟨_, s1 _ _ hn⟩⟩)), nn, _, rfl, rfl, s1 _ _ hn, .inl ⟨_, rfl⟩, fun vw hvw => ?_⟩
    have s2 : Same (upd H r (.dK [])) (upd (upd H r (.dK [])) vw (viewO vw nn)) := same_new hvw
    refine ⟨vw, nn, _, rfl, upd_same, s2 _ _ (s1 _ _ hn), .inl ⟨nk, rfl, fun o => ?_⟩⟩
    have hv0 : H vw = none := s1.free hvw
    have vr : r ≠ vw := ne_of_none upd_same hvw
    have g0 : Same (upd H nn (.frz o (.dK nk))) (upd (upd (upd H r (.dK [])) vw (viewO vw nn)) nn (.frz o (.dK nk))) := fun b v e => by
      by_cases hb : b = nn
      · subst hb; rw [upd_same] at e ⊢; exact e
      · rw [upd_ne hb] at e ⊢
        exact s2 _ _ (s1 _ _ e)
    have hrG : upd H nn (.frz o (.dK nk)) r = none := by rw [upd_ne nr.symm]; exact hr0
    have nd0 : ∀ b, upd H nn (.frz o (.dK nk)) b = none → H b = none := fun b e => by
      by_cases hb : b = nn
      · subst hb; rw [upd_same] at e; cases e
      · rw [upd_ne hb] at e; exact e
    refine for_items (L := nk.map fun q => (kV q.1, q.2)) (fun i σ H4 => ∃ (o2 o3 : Option V) (ws : List (Key × V)), σ = [some (.ref wo), some (.ref r), o2, o3] ∧ Same (upd H nn (.frz o (.dK nk))) H4 ∧ H4 r = some (.dK ws) ∧ RowsAt (fun b => H b = none) H4 ws (ns.take i))
      ⟨none, none, [], rfl, g0, (by rw [upd_ne nr.symm, upd_ne vr, upd_same]), .nil⟩ (fun i σ H4 ⟨_, _, _, _, s4, _⟩ => s4 _ _ upd_same) ?_ ?_
    · rintro i kx vx q σ H4 hx hq ⟨o2, o3, ws, rfl, s4, h4, rw4⟩
      rw [List.getElem?_map] at hx
      obtain ⟨⟨k', v⟩, hk, e⟩ := Option.map_eq_some_iff.mp hx
      cases e
      obtain ⟨x, hxd, ek, b, eb, mb, hb⟩ := pget ad hk
      have ek : k' = Sum.inr x.1 := ek
      have eb : v = .ref b := eb
      subst ek eb
      have sq : Same H4 (upd H4 q (.tup [kV (Sum.inr x.1), .ref b])) := same_new hq
      have hb4 : H4 b = some (.dT (cD x.2)) := s4 _ _ (by rw [upd_ne (ne_of hb hn (by intro z; cases z))]; exact hb)
      have hqq : upd H4 q (.tup [kV (Sum.inr x.1), .ref b]) q = some (.tup [kV (Sum.inr x.1), .ref b]) := upd_same
      generalize upd H4 q (.tup [kV (Sum.inr x.1), .ref b]) = H5 at sq hqq
      refine ⟨q, _, rfl, SqT.of hqq, rfl, _, _, rfl, _, _, rfl, rfl, _, rfl, .inr (.inr (.inl ⟨rfl, .inr ⟨_, sq _ _ hb4⟩⟩)), b, _, rfl, rfl, .inr ⟨_, .inl (sq _ _ hb4), rfl⟩, fun vv hvv => ?_⟩
      have sv : Same H5 (upd H5 vv (viewV vv b)) := same_new hvv
      have hvv' : upd H5 vv (viewV vv b) vv = some (viewV vv b) := upd_same
      generalize upd H5 vv (viewV vv b) = H6 at sv hvv'
      refine ⟨vv, b, _, rfl, hvv', .inr ⟨_, .inl (sv _ _ (sq _ _ hb4)), rfl⟩, fun ll hll => ?_⟩
      have e2 : (cD x.2).map (·.2) = x.2.map fun c => V.int c.2 := by unfold cD; rw [List.map_map]; rfl
      rw [e2]
      have sl : Same H6 (upd H6 ll (.lst (x.2.map fun c => V.int c.2))) := same_new hll
      have hll' : upd H6 ll (.lst (x.2.map fun c => V.int c.2)) ll = some (.lst (x.2.map fun c => V.int c.2)) := upd_same
      generalize upd H6 ll (.lst (x.2.map fun c => V.int c.2)) = H7 at sl hll'
      have s47 := sq.trans (sv.trans sl)
      have h7 := s47 _ _ h4
      have lws := Paired.length rw4
      rw [List.length_take] at lws
      refine ⟨_, rfl, _, rfl, r, _, rfl, DPut.k (k := Sum.inr x.1) h7 (line_lt (by omega)), ?_⟩
      have kn : ∀ p ∈ ws, p.1 ≠ Sum.inr x.1 := fun p hp z => by
        obtain ⟨j, hj⟩ := List.getElem?_of_mem hp
        obtain ⟨e, he, ek, _⟩ := pget rw4 hj
        have ek : p.1 = Sum.inr e.1 := ek
        rw [z] at ek
        injection ek with ek
        have hji : j < i := by
          have := (List.getElem?_eq_some_iff.mp he).1
          rw [List.length_take] at this
          omega
        rw [List.getElem?_take, if_pos hji] at he
        have a1 : (ns.map (·.1))[j]? = some x.1 := by rw [List.getElem?_map, he, Option.map_some, ek]
        have a2 : (ns.map (·.1))[i]? = some x.1 := by rw [List.getElem?_map, hxd]; rfl
        have b1 := (List.getElem?_eq_some_iff.mp a1).1
        have := (List.getElem?_inj b1 nd).mp (a1.trans a2.symm)
        omega
      rw [put_ninK kn]
      have lr : ll ≠ r := fun z => by subst z; rw [sv _ _ (sq _ _ h4)] at hll; cases hll
      refine ⟨_, _, _, rfl, same_fresh (s4.trans s47) hrG, upd_same, ?_⟩
      rw [List.take_add_one, hxd]
      refine papp (rw4.imp fun c ys m e => ⟨m, by rw [upd_ne (ne_of e h4 (by intro z; cases z))]; exact s47 _ _ e⟩) (.cons ⟨rfl, ll, rfl, nd0 _ (s4.free (sq.free (sv.free hll))), by rw [upd_ne lr]; exact hll'⟩ .nil)
    · rintro σ H4 ⟨o2, o3, ws, rfl, s4, h4, rw4⟩
      rw [List.length_map, lnk, List.take_length] at rw4
      have hd4 : H4 nn = some (.frz o (.dK nk)) := s4 _ _ upd_same
      refine ⟨nn, o, _, hd4, .inl ⟨_, rfl⟩, (fun o' u' z => by have z : H nn = some (.frz o' u') := z; rw [hn] at z; cases z), _, rfl, ?_⟩
      exact k r ws _ hr0 (same_thaw hn s4) (by rw [upd_ne nr.symm]; exact h4) (rw4.imp fun b xs m e => ⟨m, by rw [upd_ne (fun z => by subst z; have m : H _ = none := m; rw [hn] at m; cases m)]; exact e⟩)
end
end My

set_option Elab.async false
set_option linter.all false
set_option maxRecDepth 100000
set_option maxHeartbeats 4000000
namespace My
open PySem L2
local macro_rules | `(tactic| walk_at "lk") => `(tactic| first | with_reducible exact lk0 | (refine lk1 (by decide +kernel) ?_; walk_at "lk") | rfl)
/-- the tables that are handed in: a list of numbers for each table of the program, in its order -/
abbrev TbOk (H : Hp) (ax : List (Str × Int)) (tk : List (Key × V)) (tb : List (Str × List Str)) : Prop := Paired (fun (p : Key × V) (e : Str × List Str) => p.1 = Sum.inr e.1 ∧ ∃ (b : Addr) (ns ls : List Int), p.2 = .ref b ∧ H b = some (.lst (ns.map V.int)) ∧ Sz (lenK ax) e.2 ls ∧ GoodL ls ∧ ns.length = (cellsM ls).length) tk tb
theorem tb_keys {H : Hp} {ax : List (Str × Int)} : ∀ {tk : List (Key × V)} {tb : List (Str × List Str)}, TbOk H ax tk tb → tk.map (·.1) = tb.map fun e => (Sum.inr e.1 : Key)
  | _, _, .nil => rfl
  | _, _, .cons r t => by rw [List.map_cons, List.map_cons, tb_keys t, r.1]
theorem val_at' {kvs : List (Key × V)} {i : Nat} {k : Key} {v : V} : (kvs.map (·.1)).Nodup → kvs[i]? = some (k, v) → valV kvs k = some v := by
  induction kvs generalizing i with
  | nil => intro _ h; simp at h
  | cons p r ih =>
    intro n h
    have n : (p.1 :: r.map (·.1)).Nodup := n
    obtain ⟨n1, n2⟩ := List.nodup_cons.mp n
    cases i with
    | zero =>
      simp at h
      subst h
      exact valV_pos rfl
    | succ j =>
      have h : r[j]? = some (k, v) := by simpa using h
      rw [valV_neg (fun e => n1 (by rw [e]; exact List.mem_map.mpr ⟨_, List.mem_of_getElem? h, rfl⟩))]
      exact ih n2 h
theorem tb_nodup {H : Hp} {ax : List (Str × Int)} {tk : List (Key × V)} {tb : List (Str × List Str)} (h : TbOk H ax tk tb) (n : (tb.map (·.1)).Nodup) : (tk.map (·.1)).Nodup := by
  rw [tb_keys h, show (tb.map fun e => (Sum.inr e.1 : Key)) = (tb.map (·.1)).map (Sum.inr : Str → Key) by rw [List.map_map]; rfl]
  exact List.Pairwise.map _ (fun a b h z => h (by injection z)) n
def sp_look (A : Adr) : Sp := fun vs H Q _ => ∃ (p d : Addr) (wh : Int) (ax : List (Str × Int)) (tb : List (Str × List Str)) (ls : List V) (os : List Str) (tk : List (Key × V)), vs = [.ref p, .ref d] ∧ PrAt A H p wh ax tb ls os ∧ (ax.map (·.1)).Nodup ∧ (tb.map (·.1)).Nodup ∧ tb.length ≤ 6 ∧ H d = some (.dK tk) ∧ TbOk H ax tk tb ∧ ∀ H', Same H H' → Q .non H'
section
variable {P : Program} {w : World} {K : PySem.W.Frag} {mg : Str → Option Value} {base : Heap} {t : Adr}
theorem ok_look_tables (T : Txt K mg t) : FnOk P w K mg base CX0 4 t.f_look_tables t.d_look_tables ["program", "tables"] (sp_look t) := by
  have G_table_names := ok_table_names (P := P) (w := w) (base := base) T
  have G_lengths_of := ok_lengths_of (P := P) (w := w) (base := base) T
  have G_cells_along := ok_cells_along (P := P) (w := w) (base := base) T
  refine T.F_look_tables.ok sc_look_tables (fun vs H Q E h => ?_) (fun cdv A outer s H vs Q E hr h => ?_)
  · obtain ⟨p, d, wh, ax, tb, ls, os, tk, rfl, _⟩ := h
    rfl
  · obtain ⟨p, d, wh, ax, tb, ls, os, tk, rfl, pr, ndx, ndt, l6, hd, ok, k⟩ := h
    have hu := hu_of hr
    have ltk := Paired.length ok
    refine ⟨_, (pss_cons (ps_if (pt_cmpR (op_neSet hr.units0) (pe_callTy (call_set rfl) (by rfl) T.z_set PyProof.Rows.boot_set (pa_cons (pv 1) pa_nil)) (pe_callTy (call_set rfl) (by rfl) T.z_set PyProof.Rows.boot_set (pa_cons (pe_call G_table_names (hr.mono (by omega)) rfl T.m_table_names T.F_table_names.kp T.b_table_names .nil pass0 (pa_cons (pv 0) pa_nil)) pa_nil)) (nomark _))
        (pss_one ps_never)
        pss_nil)
      (pss_cons (ps_set (i := 2) sc_look_tables.nd rfl (Or.inl rfl) (pe_call G_lengths_of (hr.mono (by omega)) rfl T.m_lengths_of T.F_lengths_of.kp T.b_lengths_of .nil pass0 (pa_cons (pv 0) pa_nil)))
      (pss_one (ps_for PassesOwn.never rfl (pi_list (pe_fld (pv 0) rfl)) (pg_tup (n := 2) rfl (pgs_cons (pg_name (i := 3) sc_look_tables.nd rfl (Or.inl rfl) (Or.inl rfl)) (pgs_cons (pg_name (i := 4) sc_look_tables.nd rfl (Or.inl rfl) (Or.inl rfl)) pgs_nil)))
        (pss_one (ps_if (pt_cmpR op_ne (pe_callB call_len_seq (by rfl) T.z_len PySem.boot_len (pa_cons (pe_dget hu (pv 1) (pv 3) (fun _ _ => rfl)) pa_nil)) (pe_callB call_len_seq (by rfl) T.z_len PySem.boot_len (pa_cons (pe_call G_cells_along (hr.mono (by omega)) rfl T.m_cells_along T.F_cells_along.kp T.b_cells_along .nil pass0 (pa_cons (pv 4) (pa_cons (pv 2) pa_nil))) pa_nil)) (nomark _))
          (pss_one ps_never)
          pss_nil)))))), ?_⟩
    refine ⟨_, rfl, d, tk.map (·.1), rfl, .inr ⟨tk, .inl hd, by omega, rfl⟩, fun p1 hp1 => ?_⟩
    have s1 : Same H (upd H p1 (setV P w p1 (memK (disK (tk.map (·.1)))) (disK (tk.map (·.1))).length)) := same_new hp1
    have h1 : upd H p1 (setV P w p1 (memK (disK (tk.map (·.1)))) (disK (tk.map (·.1))).length) p1 = some (setV P w p1 (memK (disK (tk.map (·.1)))) (disK (tk.map (·.1))).length) := upd_same
    refine ⟨_, rfl, p, wh, ax, tb, ls, os, rfl, pr.same s1, by omega, fun q H2 hq s2 hq2 => ?_⟩
    have ek : (tb.map (·.1)).map V.str = (tk.map (·.1)).map kV := by rw [tb_keys ok, List.map_map, List.map_map]; rfl
    rw [ek] at hq2
    refine ⟨q, tk.map (·.1), rfl, .inl ⟨SqL.of hq2, by rw [List.length_map]; omega⟩, fun p2 hp2 => ?_⟩
    have s3 : Same H2 (upd H2 p2 (setV P w p2 (memK (disK (tk.map (·.1)))) (disK (tk.map (·.1))).length)) := same_new hp2
    refine ⟨p1, p2, _, _, _, _, true, rfl, rfl, s3 _ _ (s2 _ _ h1), upd_same, ⟨fun _ => ⟨rfl, fun _ z => z⟩, fun _ => rfl⟩, _, rfl, iteF ?_⟩
    have s03 := s1.trans (s2.trans s3)
    refine ⟨_, rfl, p, wh, ax, tb, ls, os, rfl, pr.same s03, ndx, fun ld hld => ?_⟩
    have s4 := s03.trans (same_new (o := .dK (lenK ax)) hld)
    have hld4 : upd (upd H2 p2 (setV P w p2 (memK (disK (tk.map (·.1)))) (disK (tk.map (·.1))).length)) ld (.dK (lenK ax)) ld = some (.dK (lenK ax)) := upd_same
    obtain ⟨dx, a, tt, l, o, e, ra, rt, hl, ho⟩ := (pr.same s4).ob
    obtain ⟨t2, xs, et, hx, rs⟩ := rep_lst (show Rep _ (.ref tt) (.list (tb.map encT)) from rt)
    cases et
    refine ⟨_, rfl, p, _, dx, _, .ref tt, rfl, e, T.cl_Program, T.na_Program_tables, (by walk_at "lk"), tt, rfl, ⟨_, SqL.of hx⟩, ?_⟩
    refine for_list (K := K) (a := tt) (xs := xs) (fun i σ H5 => ∃ (o3 o4 : Option V), σ = [some (.ref p), some (.ref d), some (.ref ld), o3, o4] ∧ Same (upd (upd H2 p2 (setV P w p2 (memK (disK (tk.map (·.1)))) (disK (tk.map (·.1))).length)) ld (.dK (lenK ax))) H5) ⟨none, none, rfl, Same.refl _⟩ (fun i σ H5 _ ⟨_, _, _, s5⟩ => SqL.of (s5 _ _ hx)) ?_ ?_
    · rintro i x σ H5 hi ⟨o3, o4, rfl, s5⟩
      obtain ⟨en, he, rx⟩ := reps_of rs hi
      obtain ⟨b, c, rfl, eb, ec⟩ := rep_T rx
      obtain ⟨⟨k', v⟩, hkv, ek, tb', ns, lsz, ev, hb, sz, good, len⟩ := paired_at ok he
      have ek : k' = Sum.inr en.1 := ek
      have ev : v = .ref tb' := ev
      subst ek ev
      have s05 := s4.trans s5
      have g : DGet H5 d (.str en.1) (some (.ref tb')) := .inl ⟨tk, Sum.inr en.1, .inl (s05 _ _ hd), rfl, (val_at' (tb_nodup ok ndt) hkv).symm⟩
      refine ⟨b, _, rfl, SqT.of (s5 _ _ eb), rfl, _, _, rfl, _, _, rfl, rfl, ?_⟩
      refine ⟨_, rfl, _, rfl, d, _, rfl, g, tb', _, rfl, .inl (SqL.of (s05 _ _ hb)), _, rfl, _, rfl, c, ld, en.2, lenK ax, lsz, rfl, s5 _ _ ec, s5 _ _ hld4, sz, good, fun q H6 hq s6 ct => ?_⟩
      obtain ⟨ps, hq6, tp⟩ := ct.ex
      have lps := tp.len
      exact ⟨q, _, rfl, .inl (SqL.of hq6), rfl, _, rfl, iteNS (by rw [List.length_map, List.length_map, len, lps]) ⟨_, _, rfl, s5.trans s6⟩⟩
    · rintro σ H5 ⟨o3, o4, rfl, s5⟩
      exact k _ (s4.trans s5)
end
end My

set_option Elab.async false
set_option linter.all false
set_option maxRecDepth 100000
set_option maxHeartbeats 4000000
namespace My
open PySem L2
local macro_rules | `(tactic| walk_at "lk") => `(tactic| first | with_reducible exact lk0 | (refine lk1 (by decide +kernel) ?_; walk_at "lk") | rfl)
theorem Ahead.ne {xs ys : List Int} (h : Ahead xs ys) : xs ≠ ys := fun z => by
  subst z
  obtain ⟨j, x, y, h1, h2, h3, _⟩ := h
  rw [h1] at h2
  cases h2
  omega
theorem cells_nodup (ls : List Int) : (cellsM ls).Nodup := (cells_sorted ls).imp fun h => h.ne
abbrev TD := (Str × List Str) × List Int × List Int
/-- a table's numbers, as the world holds them -/
def tabN (wh : Int) (e : TD) : Str × List (List Int × Int) := (e.1.1, (cellsM e.2.1).zip (e.2.2.map (· % wh)))
abbrev TbX (H : Hp) (ax : List (Str × Int)) (tk : List (Key × V)) (td : List TD) : Prop := Paired (fun (p : Key × V) (e : TD) => p.1 = Sum.inr e.1.1 ∧ ∃ b : Addr, p.2 = .ref b ∧ H b = some (.lst (e.2.2.map V.int)) ∧ Sz (lenK ax) e.1.2 e.2.1 ∧ GoodL e.2.1 ∧ e.2.2.length = (cellsM e.2.1).length) tk td
theorem TbX.same {H H' : Hp} {ax : List (Str × Int)} {tk : List (Key × V)} {td : List TD} (h : TbX H ax tk td) (s : Same H H') : TbX H' ax tk td :=
  Paired.mapP h fun _ _ ⟨e1, b, e2, hb, r⟩ => ⟨e1, b, e2, s _ _ hb, r⟩
theorem TbX.ok {H : Hp} {ax : List (Str × Int)} : ∀ {tk : List (Key × V)} {td : List TD}, TbX H ax tk td → TbOk H ax tk (td.map (·.1))
  | _, _, .nil => .nil
  | _, _, .cons ⟨e1, b, e2, hb, sz, g, l⟩ t => .cons ⟨e1, b, _, _, e2, hb, sz, g, l⟩ (TbX.ok t)
def sp_pt (A : Adr) : Sp := fun vs H Q _ => ∃ (p d wo dx l nn : Addr) (wh : Int) (ax : List (Str × Int)) (td : List TD) (ls : List V) (os : List Str) (tk : List (Key × V)), vs = [.ref p, .ref d, .ref wo] ∧ PrAt A H p wh ax (td.map (·.1)) ls os ∧ ((td.map (·.1)).map (·.1)).Nodup ∧ td.length ≤ 6 ∧ H d = some (.dK tk) ∧ d ≠ nn ∧ TbX H ax tk td ∧
  H wo = some (.ins A.C_GrowingWorld dx [("wheel", .int wh), ("lengths", .ref l), ("numbers", .ref nn)]) ∧ H l = some (.dK (lenK ax)) ∧ l ≠ nn ∧ H nn = some (.dK []) ∧ 0 < wh ∧
  ∀ (M : List Addr) (nk : List (Key × V)) (H' : Hp), H' nn = some (.dK nk) → AD M H' nk (td.map (tabN wh)) → (nk.map (·.2)).Nodup → KB nn H H' → (∀ b ∈ M, H b = none ∧ ∃ kvs, H' b = some (.dT kvs)) → Q .non H'
section
variable {P : Program} {w : World} {K : PySem.W.Frag} {mg : Str → Option Value} {base : Heap} {t : Adr}
theorem ok_put_tables (T : Txt K mg t) : FnOk P w K mg base CX0 4 t.f_put_tables t.d_put_tables ["program", "tables", "world"] (sp_pt t) := by
  have G_cells_along := ok_cells_along (P := P) (w := w) (base := base) T
  have G_GrowingWorld_put := ok_GrowingWorld_put (P := P) (w := w) (base := base) T
  refine T.F_put_tables.ok sc_put_tables (fun vs H Q E h => ?_) (fun cdv A outer s H vs Q E hr h => ?_)
  · obtain ⟨p, d, wo, dx, l, nn, wh, ax, td, ls, os, tk, rfl, _⟩ := h
    rfl
  · obtain ⟨p, d, wo, dx, l, nn, wh, ax, td, ls, os, tk, rfl, pr, ndt, l6, hd, dn, ok, hw, hl, ln, hn, wh0, k⟩ := h
    have hu := hu_of hr
    obtain ⟨dp, a, tt, ll, o, e, ra, rt, _, _⟩ := pr.ob
    obtain ⟨t2, xs, et, hx, rs⟩ := rep_lst (show Rep H (.ref tt) (.list ((td.map (·.1)).map encT)) from rt)
    cases et
    have nk' : ∀ {b : Addr} {u : HO}, H b = some u → (∀ kvs, u ≠ .dK kvs) → b ≠ nn := fun e n => ne_of e hn (n _)
    have wn := nk' hw (by intro y z; cases z)
    refine ⟨_, (pss_one (ps_for PassesOwn.never rfl (pi_list (pe_fld (pv 0) rfl)) (pg_tup (n := 2) rfl (pgs_cons (pg_name (i := 3) sc_put_tables.nd rfl (Or.inl rfl) (Or.inl rfl)) (pgs_cons (pg_name (i := 4) sc_put_tables.nd rfl (Or.inl rfl) (Or.inl rfl)) pgs_nil)))
        (pss_one (ps_for PassesOwn.never rfl (pi_zipLL rfl T.z_zip (pa_cons (pe_call G_cells_along (hr.mono (by omega)) rfl T.m_cells_along T.F_cells_along.kp T.b_cells_along .nil pass0 (pa_cons (pv 4) (pa_cons (pe_fld (pv 2) rfl) pa_nil))) (pa_cons (pe_dget hu (pv 1) (pv 3) (fun _ _ => rfl)) pa_nil))) (pg_tup (n := 2) rfl (pgs_cons (pg_name (i := 5) sc_put_tables.nd rfl (Or.inl rfl) (Or.inl rfl)) (pgs_cons (pg_name (i := 6) sc_put_tables.nd rfl (Or.inl rfl) (Or.inl rfl)) pgs_nil)))
          (pss_one (ps_expr (pe_meth (pv 2) T.cl_GrowingWorld T.me_GrowingWorld_put G_GrowingWorld_put (hr.mono (by omega)) T.b_GrowingWorld_put .nil pass0 (pa_cons (pv 3) (pa_cons (pv 5) (pa_cons (pe_op op_mod (pv 6) (pe_fld (pv 2) rfl)) pa_nil)))))))))), ?_⟩
    refine ⟨_, rfl, p, _, dp, _, .ref tt, rfl, e, T.cl_Program, T.na_Program_tables, (by walk_at "lk"), tt, rfl, ⟨_, SqL.of hx⟩, ?_⟩
    refine for_list (K := K) (a := tt) (xs := xs) (fun i σ H5 => ∃ (o3 o4 o5 o6 : Option V) (M : List Addr) (nk : List (Key × V)), σ = [some (.ref p), some (.ref d), some (.ref wo), o3, o4, o5, o6] ∧ KB nn H H5 ∧ H5 nn = some (.dK nk) ∧ AD M H5 nk ((td.take i).map (tabN wh)) ∧ (nk.map (·.2)).Nodup ∧ ∀ b ∈ M, H b = none ∧ ∃ kvs, H5 b = some (.dT kvs))
      ⟨none, none, none, none, [], [], rfl, KB.refl, hn, .nil, List.Pairwise.nil, (by intro b hb; cases hb)⟩ (fun i σ H5 _ ⟨_, _, _, _, _, _, _, kb, _⟩ => SqL.of (kb _ _ (nk' hx (by intro y z; cases z)) hx)) ?_ ?_
    · rintro i x σ H5 hi ⟨o3, o4, o5, o6, M, nk, rfl, kb, hn5, ad, nd, dm⟩
      obtain ⟨en, he, rx⟩ := reps_of rs hi
      rw [List.getElem?_map] at he
      obtain ⟨te, hte, rfl⟩ := Option.map_eq_some_iff.mp he
      obtain ⟨b, c, rfl, eb, ec⟩ := rep_T rx
      obtain ⟨⟨k', v⟩, hkv, ek, tb', ev, hb, sz, good, len⟩ := paired_at ok hte
      have ek : k' = Sum.inr te.1.1 := ek
      have ev : v = .ref tb' := ev
      subst ek ev
      have up : ∀ {b : Addr} {u : HO}, b ≠ nn → H b = some u → H5 b = some u := fun n y => kb _ _ n y
      have g : DGet H5 d (.str te.1.1) (some (.ref tb')) := .inl ⟨tk, Sum.inr te.1.1, .inl (up dn hd), rfl, (val_at' (tb_nodup ok.ok ndt) hkv).symm⟩
      refine ⟨b, _, rfl, SqT.of (up (nk' eb (by intro y z; cases z)) eb), rfl, _, _, rfl, _, _, rfl, rfl, ?_⟩
      refine ⟨_, rfl, _, rfl, wo, _, dx, _, .ref l, rfl, up wn hw, T.cl_GrowingWorld, T.na_GrowingWorld_lengths, (by walk_at "lk"), c, l, te.1.2, lenK ax, te.2.1, rfl, up (nk' ec (by intro y z; cases z)) ec, up ln hl, sz, good, fun q H6 hq s6 ct => ?_⟩
      obtain ⟨ps, hq6, tp⟩ := ct.ex
      have lps := tp.len
      have g6 : DGet H6 d (.str te.1.1) (some (.ref tb')) := .inl ⟨tk, Sum.inr te.1.1, .inl (s6 _ _ (up dn hd)), rfl, (val_at' (tb_nodup ok.ok ndt) hkv).symm⟩
      have hb6 := s6 _ _ (up (nk' hb (by intro y z; cases z)) hb)
      have kb6 : KB nn H H6 := fun b u n y => s6 _ _ (up n y)
      have hn6 := s6 _ _ hn5
      have qn : q ≠ nn := ne_of hq6 hn6 (by intro z; cases z)
      have bn : tb' ≠ nn := ne_of hb6 hn6 (by intro z; cases z)
      have lz : ((cellsM te.2.1).zip (te.2.2.map (· % wh))).length = (cellsM te.2.1).length := by rw [List.length_zip, List.length_map]; omega
      have lc := (cells_length te.2.1 fun n hn => (good.pos n hn).1)
      have lm := good.most
      refine ⟨_, rfl, _, rfl, d, _, rfl, g6, q, tb', _, _, rfl, SqL.of hq6, SqL.of hb6, ?_⟩
      refine for_zipL (K := K) (a := q) (b := tb') (xs := ps.map V.ref) (ys := te.2.2.map V.int) (fun j σ H7 => ∃ (o5 o6 : Option V) (M : List Addr) (nk : List (Key × V)), σ = [some (.ref p), some (.ref d), some (.ref wo), some (.str te.1.1), some (.ref c), o5, o6] ∧ (∀ b u, b ≠ nn → (∀ kvs, u ≠ .dT kvs) → H6 b = some u → H7 b = some u) ∧ KB nn H H7 ∧ H7 nn = some (.dK nk) ∧ AD M H7 nk (fullN ((td.take i).map (tabN wh)) te.1.1 (((cellsM te.2.1).zip (te.2.2.map (· % wh))).take j)) ∧ (nk.map (·.2)).Nodup ∧ ∀ b ∈ M, H b = none ∧ ∃ kvs, H7 b = some (.dT kvs))
        ⟨o5, o6, M, nk, rfl, fun b u _ _ y => y, kb6, hn6, ?_, nd, fun b hb => ⟨(dm b hb).1, let ⟨kvs, e⟩ := (dm b hb).2; ⟨kvs, s6 _ _ e⟩⟩⟩ (fun j σ H7 ⟨_, _, _, _, _, kx, _⟩ => ⟨SqL.of (kx _ _ qn (by intro y z; cases z) hq6), SqL.of (kx _ _ bn (by intro y z; cases z) hb6)⟩) (by rw [List.length_map, List.length_map]; omega) ?_ ?_
      · unfold fullN
        rw [List.take_zero, if_pos rfl, List.append_nil]
        exact ad.imp fun b kvs m y => ⟨m, s6 _ _ y⟩
      · rintro j x y σ H7 pq hx hy ⟨o5, o6, M, nk, rfl, kx, kb7, hn7, ad7, nd7, dm7⟩ hpq
        obtain ⟨pa, hpa, rfl⟩ := get_map hx
        obtain ⟨num, hnum, rfl⟩ := get_map hy
        obtain ⟨ce, hce, hcp⟩ := tp.get hpa
        have sq : Same H7 (upd H7 pq (.tup [.ref pa, .int num])) := same_new hpq
        have hqq : upd H7 pq (.tup [.ref pa, .int num]) pq = some (.tup [.ref pa, .int num]) := upd_same
        generalize upd H7 pq (.tup [.ref pa, .int num]) = H8 at sq hqq
        have hw8 := sq _ _ (kb7 _ _ wn hw)
        have hcp8 := sq _ _ (kx _ _ (ne_of hcp hn6 (by intro z; cases z)) (by intro y z; cases z) hcp)
        have zj : ((cellsM te.2.1).zip (te.2.2.map (· % wh)))[j]? = some (ce, num % wh) := List.getElem?_zip_eq_some.mpr ⟨hce, by rw [List.getElem?_map, hnum]; rfl⟩
        have hn8 := sq _ _ hn7
        have ad8 : AD M H8 nk (fullN ((td.take i).map (tabN wh)) te.1.1 (((cellsM te.2.1).zip (te.2.2.map (· % wh))).take j)) := ad7.imp fun b kvs m y => ⟨m, sq _ _ y⟩
        have na : te.1.1 ∉ ((td.take i).map (tabN wh)).map (·.1) := fun m => by
          obtain ⟨e1, he1, z1⟩ := List.mem_map.mp m
          obtain ⟨e2, he2, rfl⟩ := List.mem_map.mp he1
          obtain ⟨m', hm'⟩ := List.getElem?_of_mem he2
          have hlt : m' < i := by
            have := (List.getElem?_eq_some_iff.mp hm').1
            rw [List.length_take] at this
            omega
          rw [List.getElem?_take, if_pos hlt] at hm'
          have z1 : e2.1.1 = te.1.1 := z1
          have a1 : ((td.map (·.1)).map (·.1))[m']? = some te.1.1 := by rw [List.getElem?_map, List.getElem?_map, hm', Option.map_some, Option.map_some, z1]
          have a2 : ((td.map (·.1)).map (·.1))[i]? = some te.1.1 := by rw [List.getElem?_map, List.getElem?_map, hte]; rfl
          have := (List.getElem?_inj (List.getElem?_eq_some_iff.mp a1).1 ndt).mp (a1.trans a2.symm)
          omega
        have nc : ce ∉ (((cellsM te.2.1).zip (te.2.2.map (· % wh))).take j).map (·.1) := fun m => by
          obtain ⟨e1, he1, z1⟩ := List.mem_map.mp m
          obtain ⟨m', hm'⟩ := List.getElem?_of_mem he1
          have hlt : m' < j := by
            have := (List.getElem?_eq_some_iff.mp hm').1
            rw [List.length_take] at this
            omega
          rw [List.getElem?_take, if_pos hlt] at hm'
          have a1 := (List.getElem?_zip_eq_some.mp hm').1
          rw [z1] at a1
          have := (List.getElem?_inj (List.getElem?_eq_some_iff.mp a1).1 (cells_nodup _)).mp (a1.trans hce.symm)
          omega
        have lt1 : (((cellsM te.2.1).zip (te.2.2.map (· % wh))).take j).length ≤ 100000 := by
          rw [List.length_take, lz]
          have h1 := lc.1
          omega
        refine ⟨pq, _, rfl, SqT.of hqq, rfl, _, _, rfl, _, _, rfl, rfl, ?_⟩
        refine ⟨_, rfl, wo, dx, _, rfl, hw8, (by walk_at "lk"), _, rfl, _, rfl, _, rfl, _, rfl, wo, _, dx, _, _, rfl, hw8, T.cl_GrowingWorld, T.na_GrowingWorld_wheel, (by walk_at "lk"), _, _, rfl, rfl, wh0, wo, dx, l, nn, pa, M, wh, nk, (td.take i).map (tabN wh), te.1.1, _, ce, num % wh, rfl, hw8, hn8, ad8, by rw [List.length_map, List.length_take]; omega, na, hcp8, nc, lt1, nd7, fun b hb => let ⟨kvs, e⟩ := (dm7 b hb).2; ⟨kvs, sq _ _ e⟩, fun M' nk2 H9 hn9 ad9 fr9 sub9 nd9 dm9 => ?_⟩
        refine ⟨_, _, M', nk2, rfl, fun b u n1 n2 y => ?_, fun b u n1 y => ?_, hn9, ?_, nd9, fun b hb => ⟨?_, dm9 b hb⟩⟩
        · have y7 := kx _ _ n1 n2 y
          exact fr9 _ _ n1 (fun m => by obtain ⟨kvs, e⟩ := (dm7 b m).2; rw [y7] at e; exact n2 kvs (Option.some.inj e)) (sq _ _ y7)
        · exact fr9 _ _ n1 (fun m => by have := (dm7 b m).1; rw [y] at this; cases this) (sq _ _ (kb7 _ _ n1 y))
        · rw [List.take_add_one, zj, Option.toList_some]
          exact ad9
        · rcases sub9 b hb with m | m
          · exact (dm7 b m).1
          · exact kb7.free hn7 (sq.free m)
      · rintro σ H7 ⟨o5, o6, M, nk, rfl, kx, kb7, hn7, ad7, nd7, dm7⟩
        rw [List.length_map, lps, ← lz, List.take_length] at ad7
        have hne : (cellsM te.2.1).zip (te.2.2.map (· % wh)) ≠ [] := fun z => by
          have := congrArg List.length z
          rw [lz] at this
          simp at this
          have h2 := lc.2
          have h1 := lc.1
          rw [this] at h1
          simp at h1
          omega
        unfold fullN at ad7
        rw [if_neg hne] at ad7
        refine ⟨_, _, _, _, M, nk, rfl, kb7, hn7, ?_, nd7, dm7⟩
        rw [List.take_add_one, hte, Option.toList_some, List.map_append]
        exact ad7
    · rintro σ H5 ⟨o3, o4, o5, o6, M, nk, rfl, kb, hn5, ad, nd, dm⟩
      have lx : xs.length = td.length := by have := rs.len; rw [List.length_map, List.length_map] at this; exact this
      rw [lx, List.take_length] at ad
      exact k M nk H5 hn5 ad nd kb dm
end
end My

set_option Elab.async false
set_option linter.all false
set_option maxRecDepth 100000
set_option maxHeartbeats 4000000
namespace My
open PySem L2
local macro_rules | `(tactic| walk_at "lk") => `(tactic| first | with_reducible exact lk0 | (refine lk1 (by decide +kernel) ?_; walk_at "lk") | rfl)
abbrev NS := List (Str × List (List Int × Int))
def lookC (cs : List (List Int × Int)) (c : List Int) : Option Int := (cs.find? fun e => decide (e.1 = c)).map (·.2)
def lookN (ns : NS) (a : Str) (c : List Int) : Option Int := (ns.find? fun e => decide (e.1 = a)).bind fun e => lookC e.2 c
theorem look_cell : ∀ {cs : List (List Int × Int)} {c : List Int} {v : Int}, lookC cs c = some v → valV (cD cs) (c.map Sum.inl) = some (.int v)
  | [], _, _, h => by simp [lookC] at h
  | e :: cs, c, v, h => by
    unfold lookC at h
    rw [List.find?_cons] at h
    by_cases he : e.1 = c
    · rw [decide_eq_true he] at h
      have hv : e.2 = v := by simpa using h
      rw [← hv, ← he]
      exact valV_pos rfl
    · rw [decide_eq_false he] at h
      show valV ((e.1.map Sum.inl, V.int e.2) :: cD cs) _ = _
      rw [valV_neg (fun z => he (inl_inj z))]
      exact look_cell h
theorem look_ok {M : List Addr} {H : Hp} {a : Str} {c : List Int} {v : Int} : ∀ {nk : List (Key × V)} {ns : NS}, AD M H nk ns → lookN ns a c = some v → ∃ p cs, valV nk (Sum.inr a) = some (.ref p) ∧ H p = some (.dT cs) ∧ valV cs (c.map Sum.inl) = some (.int v)
  | _, _, .nil, h => by simp [lookN] at h
  | _, _, @Paired.cons _ _ _ p e _ _ ⟨ek, b, eb, _, hb⟩ t, h => by
    unfold lookN at h
    rw [List.find?_cons] at h
    by_cases he : e.1 = a
    · rw [decide_eq_true he] at h
      have h : lookC e.2 c = some v := by simpa using h
      exact ⟨b, _, by rw [valV_pos (by rw [ek, he]), eb], hb, look_cell h⟩
    · rw [decide_eq_false he] at h
      obtain ⟨q, cs, h1, h2, h3⟩ := look_ok t h
      exact ⟨q, cs, by rw [valV_neg (fun z => he (by rw [ek] at z; injection z))]; exact h1, h2, h3⟩
/-- where the axes stand at a cell -/
def envK (ys : List Str) (c : List Int) : List (Key × V) := mergeK [] ((ys.map (Sum.inr : Str → Key)).zip (c.map V.int))
/-- a let's numbers, cell by cell -/
def stepL (len : Str → Int) (wh : Int) (u : Tm) (ys : List Str) (ms : NS) (x : Str) (cs : List (List Int × Int)) (c : List Int) : List (List Int × Int) :=
  cs ++ [(c, wo len (fun a d => (lookN (fullN ms x cs) a d).getD 0) wh u (ai (envK ys c)))]
def runL (len : Str → Int) (wh : Int) (u : Tm) (ys : List Str) (ms : NS) (x : Str) (cells : List (List Int)) : List (List Int × Int) := cells.foldl (stepL len wh u ys ms x) []
theorem runL_snoc {len : Str → Int} {wh : Int} {u : Tm} {ys : List Str} {ms : NS} {x : Str} {cells : List (List Int)} {c : List Int} : runL len wh u ys ms x (cells ++ [c]) = stepL len wh u ys ms x (runL len wh u ys ms x cells) c := by unfold runL; rw [List.foldl_append]; rfl
theorem runL_fst {len : Str → Int} {wh : Int} {u : Tm} {ys : List Str} {ms : NS} {x : Str} (cells : List (List Int)) : ∀ i, (runL len wh u ys ms x (cells.take i)).map (·.1) = cells.take i := by
  intro i
  induction i with
  | zero => rfl
  | succ i ih =>
    rw [List.take_add_one]
    cases h : cells[i]? with
    | none => simpa using ih
    | some c =>
      rw [Option.toList_some, runL_snoc]
      unfold stepL
      rw [List.map_append, ih]
      rfl
/-- each cell that is read is there -/
def RunOk (len : Str → Int) (wh : Int) (u : Tm) (ys : List Str) (ms : NS) (x : Str) (cells : List (List Int)) : Prop := ∀ (i : Nat) (c : List Int), cells[i]? = some c → (∀ e ∈ rd len u (ai (envK ys c)), (lookN (fullN ms x (runL len wh u ys ms x (cells.take i))) e.1 e.2).isSome = true) ∧ AtOk (envK ys c) u ∧ (rd len u (ai (envK ys c))).length ≤ 100000
def sp_pl (A : Adr) : Sp := fun vs H Q _ => ∃ (lt dl cx wo dx l nn : Addr) (tv : V) (u : Tm) (x : Str) (ys : List Str) (ls : List Int) (ax : List (Str × Int)) (wh : Int) (M : List Addr) (nk : List (Key × V)) (ms : NS), vs = [.ref lt, .ref wo] ∧
  H lt = some (.ins A.C_Let dl [("name", .str x), ("axes", .ref cx), ("term", tv)]) ∧ H cx = some (.lst (ys.map V.str)) ∧ Ob A H tv u ∧ Good u ∧ dep u ≤ 6 ∧ (∃ AX, Axs AX u ∧ LenOk AX (lenK ax)) ∧ Sz (lenK ax) ys ls ∧ GoodL ls ∧ RunOk (ai (lenK ax)) wh u ys ms x (cellsM ls) ∧
  H wo = some (.ins A.C_GrowingWorld dx [("wheel", .int wh), ("lengths", .ref l), ("numbers", .ref nn)]) ∧ H l = some (.dK (lenK ax)) ∧ l ≠ nn ∧ H nn = some (.dK nk) ∧ WhOk wh ∧ AD M H nk ms ∧ ms.length ≤ 100 ∧ x ∉ ms.map (·.1) ∧ (nk.map (·.2)).Nodup ∧ (∀ b ∈ M, ∃ kvs, H b = some (.dT kvs)) ∧
  ∀ (M' : List Addr) (nk' : List (Key × V)) (H' : Hp), H' nn = some (.dK nk') → AD M' H' nk' (ms ++ [(x, runL (ai (lenK ax)) wh u ys ms x (cellsM ls))]) → (nk'.map (·.2)).Nodup → (∀ b o, b ≠ nn → b ∉ M → H b = some o → H' b = some o) → (∀ b ∈ M', (b ∈ M ∨ H b = none) ∧ ∃ kvs, H' b = some (.dT kvs)) → Q .non H'
end My

set_option Elab.async false
set_option linter.all false
set_option maxRecDepth 100000
set_option maxHeartbeats 4000000
namespace My
open PySem L2
local macro_rules | `(tactic| walk_at "lk") => `(tactic| first | with_reducible exact lk0 | (refine lk1 (by decide +kernel) ?_; walk_at "lk") | rfl)
/-- all that is no dict stays -/
def KX (H H' : Hp) : Prop := ∀ b u, (∀ kvs, u ≠ .dK kvs) → (∀ kvs, u ≠ .dT kvs) → H b = some u → H' b = some u
theorem Ob.kx {A : Adr} {H H' : Hp} (f : KX H H') {v : V} {t : Tm} (h : Ob A H v t) : Ob A H' v t := by
  have i : ∀ {a C d : Addr} {fs : List (Str × V)}, H a = some (.ins C d fs) → H' a = some (.ins C d fs) := fun e => f _ _ (by intro y z; cases z) (by intro y z; cases z) e
  induction h with
  | num e => exact .num (i e)
  | read e r => exact .read (i e) (r.imp2 (fun b ys z => f _ _ (by intro y z; cases z) (by intro y z; cases z) z) fun b ys z => f _ _ (by intro y z; cases z) (by intro y z; cases z) z)
  | pair n e _ _ i1 i2 => exact .pair n (i e) i1 i2
  | guard e _ _ i1 i2 => exact .guard (i e) i1 i2
section
variable {P : Program} {w : World} {K : PySem.W.Frag} {mg : Str → Option Value} {base : Heap} {t : Adr}
theorem ok_put_let (T : Txt K mg t) : FnOk P w K mg base CX0 11 t.f_put_let t.d_put_let ["let", "world"] (sp_pl t) := by
  have G_cells_along := ok_cells_along (P := P) (w := w) (base := base) T
  have G_GrowingWorld_put := ok_GrowingWorld_put (P := P) (w := w) (base := base) T
  have WK := wok (P := P) (w := w) (base := base) T 6
  refine T.F_put_let.ok sc_put_let (fun vs H Q E h => ?_) (fun cdv A outer s H vs Q E hr h => ?_)
  · obtain ⟨lt, dl, cx, wo, dx, l, nn, tv, u, x, ys, ls, ax, wh, M, nk, ms, rfl, _⟩ := h
    rfl
  · obtain ⟨lt, dl, cx, wo, dx, l, nn, tv, u, x, ys, ls, ax, wh, M, nk, ms, rfl, hlt, hcx, ob, gu, dep6, axs, sz, good, run, hw, hl, ln, hn, whok, ad, lms, nx, nd, dm, k⟩ := h
    have lc := (cells_length ls fun n hn => (good.pos n hn).1)
    have lm := good.most
    have lys := Paired.length sz
    have few := good.few
    refine ⟨_, (pss_one (ps_for PassesOwn.never rfl (pi_list (pe_call G_cells_along (hr.mono (by omega)) rfl T.m_cells_along T.F_cells_along.kp T.b_cells_along .nil pass0 (pa_cons (pe_fld (pv 0) rfl) (pa_cons (pe_fld (pv 1) rfl) pa_nil)))) (pg_name (i := 2) sc_put_let.nd rfl (Or.inl rfl) (Or.inl rfl))
        (pss_cons (ps_set (i := 3) sc_put_let.nd rfl (Or.inl rfl) (pe_dictzip rfl (by rfl) T.z_dict (by rfl) T.z_zip (pa_cons (pe_fld (pv 0) rfl) (pa_cons (pv 2) pa_nil))))
        (pss_one (ps_expr (pe_meth (pv 1) T.cl_GrowingWorld T.me_GrowingWorld_put G_GrowingWorld_put (hr.mono (by omega)) T.b_GrowingWorld_put .nil pass0 (pa_cons (pe_fld (pv 0) rfl) (pa_cons (pv 2) (pa_cons (pe_methD (pe_fld (pv 0) rfl) (pa_cons (pv 3) (pa_cons (pv 1) pa_nil))) pa_nil))))))))), ?_⟩
    refine ⟨_, rfl, lt, _, dl, _, .ref cx, rfl, hlt, T.cl_Let, T.na_Let_axes, (by walk_at "lk"), _, rfl, wo, _, dx, _, .ref l, rfl, hw, T.cl_GrowingWorld, T.na_GrowingWorld_lengths, (by walk_at "lk"), cx, l, ys, lenK ax, ls, rfl, hcx, hl, sz, good, fun q H1 hq s1 ct => ?_⟩
    obtain ⟨ps, hq1, tp⟩ := ct.ex
    have lps := tp.len
    refine ⟨q, rfl, ⟨_, SqL.of hq1⟩, ?_⟩
    refine for_list (K := K) (a := q) (xs := ps.map V.ref) (fun i σ H2 => ∃ (o2 o3 : Option V) (M2 : List Addr) (nk2 : List (Key × V)), σ = [some (.ref lt), some (.ref wo), o2, o3] ∧ KX H1 H2 ∧ (∀ b o, b ≠ nn → b ∉ M → H b = some o → H2 b = some o) ∧ H2 nn = some (.dK nk2) ∧ AD M2 H2 nk2 (fullN ms x (runL (ai (lenK ax)) wh u ys ms x ((cellsM ls).take i))) ∧ (nk2.map (·.2)).Nodup ∧ ∀ b ∈ M2, (b ∈ M ∨ H b = none) ∧ ∃ kvs, H2 b = some (.dT kvs))
      ⟨none, none, M, nk, rfl, fun b u _ _ y => y, fun b o _ _ y => s1 _ _ y, s1 _ _ hn, ?_, nd, fun b hb => ⟨.inl hb, let ⟨kvs, e⟩ := dm b hb; ⟨kvs, s1 _ _ e⟩⟩⟩ (fun i σ H2 _ ⟨_, _, _, _, _, kx, _⟩ => SqL.of (kx _ _ (by intro y z; cases z) (by intro y z; cases z) hq1)) ?_ ?_
    · rw [List.take_zero]
      show AD M H1 nk (fullN ms x [])
      unfold fullN
      rw [if_pos rfl, List.append_nil]
      exact ad.imp fun b kvs m y => ⟨m, s1 _ _ y⟩
    · rintro i v σ H2 hi ⟨o2, o3, M2, nk2, rfl, kx, fr, hn2, ad2, nd2, dm2⟩
      obtain ⟨pa, hpa, rfl⟩ := get_map hi
      obtain ⟨ce, hce, hcp⟩ := tp.get hpa
      have nok : ∀ {b : Addr} {u : HO}, (∀ kvs, u ≠ .dK kvs) → (∀ kvs, u ≠ .dT kvs) → H b = some u → H2 b = some u := fun n1 n2 y => kx _ _ n1 n2 (s1 _ _ y)
      have hlt2 := nok (by intro y z; cases z) (by intro y z; cases z) hlt
      have hcx2 := nok (by intro y z; cases z) (by intro y z; cases z) hcx
      have hw2 := nok (by intro y z; cases z) (by intro y z; cases z) hw
      have hl2 : H2 l = some (.dK (lenK ax)) := fr _ _ ln (fun m => by obtain ⟨kvs, e⟩ := dm l m; rw [hl] at e; cases e) hl
      have hcp2 := kx _ _ (by intro y z; cases z) (by intro y z; cases z) hcp
      have ob2 : Ob t H2 tv u := (ob.imp s1).kx kx
      have ekv : ys.map V.str = (ys.map (Sum.inr : Str → Key)).map kV := by rw [List.map_map]; rfl
      have lce : ce.length = ls.length := (cells_within ls ce (List.mem_of_getElem? hce)).1
      refine ⟨_, rfl, lt, _, dl, _, .ref cx, rfl, hlt2, T.cl_Let, T.na_Let_axes, (by walk_at "lk"), _, rfl, cx, pa, ys.map Sum.inr, ce.map V.int, rfl, by rw [← ekv]; exact SqL.of hcx2, SqT.of hcp2, by rw [List.length_map, List.length_map]; omega, fun d hd => ?_⟩
      have s3 : Same H2 (upd H2 d (.dK (mergeK [] ((ys.map Sum.inr).zip (ce.map V.int))))) := same_new hd
      have hd3 : upd H2 d (.dK (mergeK [] ((ys.map Sum.inr).zip (ce.map V.int)))) d = some (.dK (envK ys ce)) := upd_same
      generalize upd H2 d (.dK (mergeK [] ((ys.map Sum.inr).zip (ce.map V.int)))) = H3 at s3 hd3
      obtain ⟨r1, r2, r3⟩ := run i ce hce
      have lenv : (envK ys ce).length ≤ 8 := by
        have := length_mergeK ((ys.map (Sum.inr : Str → Key)).zip (ce.map V.int)) []
        unfold envK
        rw [List.length_zip, List.length_map] at this
        simp only [List.length_nil] at this
        omega
      have ask : AskD 6 u H3 d l (envK ys ce) (lenK ax) := ⟨gu, dep6, hd3, r2, s3 _ _ hl2, axs, by omega, r3⟩
      have W : Wd t H3 wo l wh nk2 := ⟨⟨dx, nn, s3 _ _ hw2, s3 _ _ hn2⟩, whok⟩
      have nu : NumOk H3 nk2 (fun a d => (lookN (fullN ms x (runL (ai (lenK ax)) wh u ys ms x ((cellsM ls).take i))) a d).getD 0) (rd (ai (lenK ax)) u (ai (envK ys ce))) := fun e he => by
        obtain ⟨v, hv⟩ := Option.isSome_iff_exists.mp (r1 e he)
        obtain ⟨p, cs, h1, h2, h3⟩ := look_ok ad2 hv
        exact ⟨p, cs, h1, s3 _ _ h2, by rw [h3]; show _ = some (V.int ((lookN _ e.1 e.2).getD 0)); rw [hv]; rfl⟩
      refine ⟨_, rfl, wo, dx, _, rfl, s3 _ _ hw2, (by walk_at "lk"), _, rfl, lt, _, dl, _, .str x, rfl, s3 _ _ hlt2, T.cl_Let, T.na_Let_name, (by walk_at "lk"), _, rfl, _, rfl, lt, _, dl, _, tv, rfl, s3 _ _ hlt2, T.cl_Let, T.na_Let_term, (by walk_at "lk"), ?_⟩
      obtain ⟨a', C', dx', fs', k', f', fd', ps', sp', etv, e', c', m', l', F', hk', b', q'⟩ := WK H3 tv u (ob2.imp s3) dep6
      refine ⟨a', C', dx', fs', k', f', fd', ps', sp', etv, e', c', m', l', F', hr.mono (by omega), b', _, rfl, _, rfl, ?_⟩
      refine q' H3 d wo l (envK ys ce) (lenK ax) nk2 _ wh _ (Same.refl _) ask W nu fun H4 s4 => ?_
      have s24 := s3.trans s4
      have hn4 := s24 _ _ hn2
      have fst := runL_fst (len := ai (lenK ax)) (wh := wh) (u := u) (ys := ys) (ms := ms) (x := x) (cellsM ls) i
      have nc : ce ∉ (runL (ai (lenK ax)) wh u ys ms x ((cellsM ls).take i)).map (·.1) := fun m => by
        rw [fst] at m
        obtain ⟨m', hm'⟩ := List.getElem?_of_mem m
        have hlt : m' < i := by
          have := (List.getElem?_eq_some_iff.mp hm').1
          rw [List.length_take] at this
          omega
        rw [List.getElem?_take, if_pos hlt] at hm'
        have := (List.getElem?_inj (List.getElem?_eq_some_iff.mp hm').1 (cells_nodup _)).mp (hm'.trans hce.symm)
        omega
      have lrun : (runL (ai (lenK ax)) wh u ys ms x ((cellsM ls).take i)).length ≤ 100000 := by
        have := congrArg List.length fst
        rw [List.length_map, List.length_take] at this
        have h1 := lc.1
        omega
      refine ⟨wo, dx, l, nn, pa, M2, wh, nk2, ms, x, _, ce, _, rfl, s24 _ _ hw2, hn4, ad2.imp fun b kvs m y => ⟨m, s24 _ _ y⟩, lms, nx, s24 _ _ hcp2, nc, lrun, nd2, fun b hb => let ⟨kvs, e⟩ := (dm2 b hb).2; ⟨kvs, s24 _ _ e⟩, fun M' nk3 H5 hn5 ad5 fr5 sub5 nd5 dm5 => ?_⟩
      refine ⟨_, _, M', nk3, rfl, fun b o n1 n2 y => ?_, fun b o n1 n2 y => ?_, hn5, ?_, nd5, fun b hb => ⟨?_, dm5 b hb⟩⟩
      · have y2 := kx _ _ n1 n2 y
        exact fr5 _ _ (ne_of (s24 _ _ y2) hn4 (n1 _)) (fun m => by obtain ⟨kvs, e⟩ := (dm2 b m).2; rw [y2] at e; exact n2 kvs (Option.some.inj e)) (s24 _ _ y2)
      · refine fr5 _ _ n1 (fun m => ?_) (s24 _ _ (fr _ _ n1 n2 y))
        rcases (dm2 b m).1 with z | z
        · exact n2 z
        · rw [y] at z; cases z
      · rw [List.take_add_one, hce, Option.toList_some, runL_snoc]
        exact ad5
      · rcases sub5 b hb with m | m
        · exact (dm2 b m).1
        · by_cases hm : b ∈ M
          · exact .inl hm
          · refine .inr ?_
            have h2 := s24.free m
            cases hb' : H b with
            | none => rfl
            | some o =>
              have bn : b ≠ nn := fun z => by rw [z, hn2] at h2; cases h2
              rw [fr _ _ bn hm hb'] at h2
              cases h2
    · rintro σ H2 ⟨o2, o3, M2, nk2, rfl, kx, fr, hn2, ad2, nd2, dm2⟩
      rw [List.length_map, lps, List.take_length] at ad2
      have hne : runL (ai (lenK ax)) wh u ys ms x (cellsM ls) ≠ [] := fun z => by
        have h1 := runL_fst (len := ai (lenK ax)) (wh := wh) (u := u) (ys := ys) (ms := ms) (x := x) (cellsM ls) (cellsM ls).length
        rw [List.take_length, z] at h1
        have h2 := congrArg List.length h1
        simp at h2
        have h3 := lc.1
        have h4 := lc.2
        rw [← h2] at h3
        simp at h3
        omega
      unfold fullN at ad2
      rw [if_neg hne] at ad2
      exact k M2 nk2 H2 hn2 ad2 nd2 fr dm2
end
end My

set_option Elab.async false
set_option linter.all false
set_option maxRecDepth 100000
set_option maxHeartbeats 4000000
namespace My
open PySem L2
local macro_rules | `(tactic| walk_at "lk") => `(tactic| first | with_reducible exact lk0 | (refine lk1 (by decide +kernel) ?_; walk_at "lk") | rfl)
theorem len_ints : ∀ (ax : List (Str × Int)), Ints' (lenK ax) (ax.map (·.2))
  | [] => .nil
  | _ :: r => .cons rfl (len_ints r)
/-- a let: its name, its axes, their lengths, its term -/
structure LD where
  x : Str
  ys : List Str
  ls : List Int
  u : Tm
def LetOk (A : Adr) (ax : List (Str × Int)) (H : Hp) (v : V) (e : LD) : Prop := ∃ (lt dl cx : Addr) (tv : V), v = .ref lt ∧ H lt = some (.ins A.C_Let dl [("name", .str e.x), ("axes", .ref cx), ("term", tv)]) ∧ H cx = some (.lst (e.ys.map V.str)) ∧ Ob A H tv e.u ∧ Good e.u ∧ dep e.u ≤ 6 ∧ (∃ AX, Axs AX e.u ∧ LenOk AX (lenK ax)) ∧ Sz (lenK ax) e.ys e.ls ∧ GoodL e.ls
theorem LetOk.kx {A : Adr} {ax : List (Str × Int)} {H H' : Hp} {v : V} {e : LD} (h : LetOk A ax H v e) (f : KX H H') : LetOk A ax H' v e := by
  obtain ⟨lt, dl, cx, tv, e1, h1, h2, h3, r⟩ := h
  exact ⟨lt, dl, cx, tv, e1, f _ _ (by intro y z; cases z) (by intro y z; cases z) h1, f _ _ (by intro y z; cases z) (by intro y z; cases z) h2, h3.kx f, r⟩
def runAll (len : Str → Int) (wh : Int) (ms : NS) (lds : List LD) : NS := lds.foldl (fun ms e => ms ++ [(e.x, runL len wh e.u e.ys ms e.x (cellsM e.ls))]) ms
theorem runAll_snoc {len : Str → Int} {wh : Int} {ms : NS} {lds : List LD} {e : LD} : runAll len wh ms (lds ++ [e]) = runAll len wh ms lds ++ [(e.x, runL len wh e.u e.ys (runAll len wh ms lds) e.x (cellsM e.ls))] := by unfold runAll; rw [List.foldl_append]; rfl
theorem runAll_names {len : Str → Int} {wh : Int} {ms : NS} (lds : List LD) : ∀ i, (runAll len wh ms (lds.take i)).map (·.1) = ms.map (·.1) ++ (lds.take i).map (·.x) := by
  intro i
  induction i with
  | zero => simp [runAll]
  | succ i ih =>
    rw [List.take_add_one]
    cases h : lds[i]? with
    | none => simpa using ih
    | some c =>
      rw [Option.toList_some, runAll_snoc, List.map_append, ih, List.map_append, List.append_assoc]
      rfl
def sp_mean (A : Adr) : Sp := fun vs H Q _ => ∃ (p d : Addr) (wh : Int) (ax : List (Str × Int)) (td : List TD) (lds : List LD) (lv : List V) (os : List Str) (tk : List (Key × V)), vs = [.ref p, .ref d] ∧ PrAt A H p wh ax (td.map (·.1)) lv os ∧ (ax.map (·.1)).Nodup ∧ ax.length ≤ 100 ∧ (((td.map (tabN wh)).map (·.1)) ++ lds.map (·.x)).Nodup ∧ td.length ≤ 6 ∧ lds.length ≤ 50 ∧ H d = some (.dK tk) ∧ TbX H ax tk td ∧ WhOk wh ∧ Paired (LetOk A ax H) lv lds ∧
  (∀ (i : Nat) (e : LD), lds[i]? = some e → RunOk (ai (lenK ax)) wh e.u e.ys (runAll (ai (lenK ax)) wh (td.map (tabN wh)) (lds.take i)) e.x (cellsM e.ls)) ∧
  ∀ (r : Addr) (rk : List (Key × V)) (H' : Hp), H r = none → Same H H' → H' r = some (.dK rk) → RowsAt (fun b => H b = none) H' rk (runAll (ai (lenK ax)) wh (td.map (tabN wh)) lds) → Q (.ref r) H'
section
variable {P : Program} {w : World} {K : PySem.W.Frag} {mg : Str → Option Value} {base : Heap} {t : Adr}
theorem ok_meaning (T : Txt K mg t) : FnOk P w K mg base CX0 12 t.f_meaning t.d_meaning ["program", "tables"] (sp_mean t) := by
  have G_look_tables := ok_look_tables (P := P) (w := w) (base := base) T
  have G_lengths_of := ok_lengths_of (P := P) (w := w) (base := base) T
  have G_World_init := ok_World_init (P := P) (w := w) (base := base) T
  have G_put_tables := ok_put_tables (P := P) (w := w) (base := base) T
  have G_put_let := ok_put_let (P := P) (w := w) (base := base) T
  have G_rows_of := ok_rows_of (P := P) (w := w) (base := base) T
  refine T.F_meaning.ok sc_meaning (fun vs H Q E h => ?_) (fun cdv A outer s H vs Q E hr h => ?_)
  · obtain ⟨p, d, wh, ax, td, lds, lv, os, tk, rfl, _⟩ := h
    rfl
  · obtain ⟨p, d, wh, ax, td, lds, lv, os, tk, rfl, pr, ndx, lax, ndA, l6, l50, hd, ok, whok, lets, run, k⟩ := h
    have ndt : ((td.map (·.1)).map (·.1)).Nodup := by
      have := (List.pairwise_append.mp ndA).1
      rw [List.map_map] at this ⊢
      exact this
    have wh0 : 0 < wh := by have := whok.1; omega
    refine ⟨_, (pss_cons (ps_expr (pe_call G_look_tables (hr.mono (by omega)) rfl T.m_look_tables T.F_look_tables.kp T.b_look_tables .nil pass0 (pa_cons (pv 0) (pa_cons (pv 1) pa_nil))))
      (pss_cons (ps_set (i := 2) sc_meaning.nd rfl (Or.inl rfl) (pe_make T.mk_GrowingWorld G_World_init (hr.mono (by omega)) rfl T.m_GrowingWorld T.b_World_init .nil pass0 (pa_cons (pe_fld (pv 0) rfl) (pa_cons (pe_call G_lengths_of (hr.mono (by omega)) rfl T.m_lengths_of T.F_lengths_of.kp T.b_lengths_of .nil pass0 (pa_cons (pv 0) pa_nil)) (pa_cons pe_dnewK pa_nil)))))
      (pss_cons (ps_expr (pe_call G_put_tables (hr.mono (by omega)) rfl T.m_put_tables T.F_put_tables.kp T.b_put_tables .nil pass0 (pa_cons (pv 0) (pa_cons (pv 1) (pa_cons (pv 2) pa_nil)))))
      (pss_cons (ps_for PassesOwn.never rfl (pi_list (pe_fld (pv 0) rfl)) (pg_name (i := 3) sc_meaning.nd rfl (Or.inl rfl) (Or.inl rfl))
        (pss_one (ps_expr (pe_call G_put_let (hr.mono (by omega)) rfl T.m_put_let T.F_put_let.kp T.b_put_let .nil pass0 (pa_cons (pv 3) (pa_cons (pv 2) pa_nil))))))
      (pss_one (ps_ret (pe_call G_rows_of (hr.mono (by omega)) rfl T.m_rows_of T.F_rows_of.kp T.b_rows_of .nil pass0 (pa_cons (pv 2) pa_nil)))))))), ?_⟩
    refine ⟨_, rfl, _, rfl, p, d, wh, ax, td.map (·.1), lv, os, tk, rfl, pr, ndx, ndt, by rw [List.length_map]; exact l6, hd, ok.ok, fun H1 s1 => ?_⟩
    obtain ⟨dp, a, tt, ll, o, e, ra, rt, hll, _⟩ := (pr.same s1).ob
    refine ⟨_, rfl, p, _, dp, _, _, rfl, e, T.cl_Program, T.na_Program_wheel, (by walk_at "lk"), _, rfl, p, wh, ax, td.map (·.1), lv, os, rfl, pr.same s1, ndx, fun l0 hl0 n0 hn0 wo dx hwo hdx hne => ?_⟩
    have t1 : Same H1 (upd H1 l0 (.dK (lenK ax))) := same_new hl0
    have t2 : Same H1 (upd (upd H1 l0 (.dK (lenK ax))) n0 (.dK [])) := t1.trans (same_new hn0)
    have hl0' : upd (upd H1 l0 (.dK (lenK ax))) n0 (.dK []) l0 = some (.dK (lenK ax)) := (same_new hn0) _ _ upd_same
    have hn0' : upd (upd H1 l0 (.dK (lenK ax))) n0 (.dK []) n0 = some (.dK []) := upd_same
    generalize upd (upd H1 l0 (.dK (lenK ax))) n0 (.dK []) = G at t2 hl0' hn0' hwo hdx
    have t3 : Same G (upd (upd G dx (.own wo)) wo (.ins t.C_GrowingWorld dx [])) := same_fresh (same_new hdx) hwo
    have ew : upd (upd G dx (.own wo)) wo (.ins t.C_GrowingWorld dx []) wo = some (.ins t.C_GrowingWorld dx []) := upd_same
    generalize upd (upd G dx (.own wo)) wo (.ins t.C_GrowingWorld dx []) = G2 at t3 ew
    refine ⟨wo, dx, l0, n0, wh, lenK ax, _, rfl, ew, t3 _ _ hl0', len_ints ax, by unfold lenK; rw [List.length_map]; omega, t3 _ _ hn0', fun l nn H2 hl hn ne hw2 hl2 hn2 kb => ⟨rfl, ?_⟩⟩
    have sG : Same G H2 := KB.same t3 kb hwo
    have s2 : Same H H2 := s1.trans (t2.trans sG)
    have nnH : H nn = none := s1.free (t2.free (t3.free hn))
    have dn : d ≠ nn := fun z => by rw [z, nnH] at hd; cases hd
    refine ⟨_, rfl, _, rfl, _, rfl, p, d, wo, dx, l, nn, wh, ax, td, lv, os, tk, rfl, pr.same s2, ndt, l6, s2 _ _ hd, dn, ok.same s2, hw2, hl2, ne.symm, hn2, wh0, fun M nk H3 hn3 ad3 nd3 kb3 dm3 => ?_⟩
    have kn : ∀ {b : Addr} {u : HO}, H2 b = some u → (∀ kvs, u ≠ .dK kvs) → b ≠ nn := fun e n => ne_of e hn2 (n _)
    obtain ⟨dp2, a2, tt2, ll2, o2, e2, _, _, hll2, _⟩ := (pr.same s2).ob
    refine ⟨_, rfl, p, _, dp2, _, .ref ll2, rfl, kb3 _ _ (kn e2 (by intro y z; cases z)) e2, T.cl_Program, T.na_Program_lets, (by walk_at "lk"), ll2, rfl, ⟨_, SqL.of (kb3 _ _ (kn hll2 (by intro y z; cases z)) hll2)⟩, ?_⟩
    refine for_list (K := K) (a := ll2) (xs := lv) (fun i σ H4 => ∃ (o3 : Option V) (M : List Addr) (nk : List (Key × V)), σ = [some (.ref p), some (.ref d), some (.ref wo), o3] ∧ KB nn H2 H4 ∧ H4 nn = some (.dK nk) ∧ AD M H4 nk (runAll (ai (lenK ax)) wh (td.map (tabN wh)) (lds.take i)) ∧ (nk.map (·.2)).Nodup ∧ ∀ b ∈ M, H2 b = none ∧ ∃ kvs, H4 b = some (.dT kvs))
      ⟨none, M, nk, rfl, kb3, hn3, ad3, nd3, dm3⟩ (fun i σ H4 _ ⟨_, _, _, _, kb4, _⟩ => SqL.of (kb4 _ _ (kn hll2 (by intro y z; cases z)) hll2)) ?_ ?_
    · rintro i v σ H4 hv ⟨o3, M, nk, rfl, kb4, hn4, ad4, nd4, dm4⟩
      obtain ⟨el, hel, leto⟩ := pget lets hv
      have kx : KX H H4 := fun b u n1 n2 y => kb4 _ _ (kn (s2 _ _ y) n1) (s2 _ _ y)
      obtain ⟨lt, dl, cx, tv, rfl, hlt, hcx, ob, gu, dp6, axs, sz, good⟩ := leto.kx kx
      have names := runAll_names (len := ai (lenK ax)) (wh := wh) (ms := td.map (tabN wh)) lds i
      have nx : el.x ∉ (runAll (ai (lenK ax)) wh (td.map (tabN wh)) (lds.take i)).map (·.1) := by
        rw [names]
        have h1 : List.Sublist (((td.map (tabN wh)).map (·.1)) ++ (lds.take (i + 1)).map (·.x)) (((td.map (tabN wh)).map (·.1)) ++ lds.map (·.x)) := (List.Sublist.refl _).append ((List.take_sublist _ _).map _)
        have h2 := List.Pairwise.sublist h1 ndA
        rw [List.take_add_one, hel, Option.toList_some, List.map_append, ← List.append_assoc] at h2
        exact fun m => (List.pairwise_append.mp h2).2.2 el.x m el.x (.head _) rfl
      have lms : (runAll (ai (lenK ax)) wh (td.map (tabN wh)) (lds.take i)).length ≤ 100 := by
        have := congrArg List.length names
        rw [List.length_map, List.length_append, List.length_map, List.length_map, List.length_map, List.length_take] at this
        omega
      refine ⟨_, rfl, _, rfl, lt, dl, cx, wo, dx, l, nn, tv, el.u, el.x, el.ys, el.ls, ax, wh, M, nk, _, rfl, hlt, hcx, ob, gu, dp6, axs, sz, good, run i el hel, kb4 _ _ (kn hw2 (by intro y z; cases z)) hw2, kb4 _ _ ne.symm hl2, ne.symm, hn4, whok, ad4, lms, nx, nd4, fun b hb => (dm4 b hb).2, fun M' nk' H5 hn5 ad5 nd5 fr5 sub5 => ?_⟩
      refine ⟨_, M', nk', rfl, fun b u n1 y => fr5 _ _ n1 (fun m => by have := (dm4 b m).1; rw [y] at this; cases this) (kb4 _ _ n1 y), hn5, ?_, nd5, fun b hb => ⟨?_, (sub5 b hb).2⟩⟩
      · rw [List.take_add_one, hel, Option.toList_some, runAll_snoc]
        exact ad5
      · rcases (sub5 b hb).1 with m | m
        · exact (dm4 b m).1
        · exact kb4.free hn4 m
    · rintro σ H4 ⟨o3, M, nk, rfl, kb4, hn4, ad4, nd4, dm4⟩
      have ll := Paired.length lets
      rw [ll, List.take_length] at ad4
      have names := runAll_names (len := ai (lenK ax)) (wh := wh) (ms := td.map (tabN wh)) lds lds.length
      rw [List.take_length] at names
      have lms : (runAll (ai (lenK ax)) wh (td.map (tabN wh)) lds).length ≤ 100 := by
        have := congrArg List.length names
        rw [List.length_map, List.length_append, List.length_map, List.length_map, List.length_map] at this
        omega
      have s4 : Same H H4 := KB.same s2 kb4 nnH
      refine ⟨_, rfl, wo, dx, l, nn, M, wh, nk, _, rfl, kb4 _ _ (kn hw2 (by intro y z; cases z)) hw2, hn4, ad4, by rw [names]; exact ndA, lms, fun r rk H6 hr0 s6 hr6 rows => ?_⟩
      exact k r rk H6 (s4.free hr0) (s4.trans s6) hr6 (rows.imp fun b xs m y => ⟨s4.free m, y⟩)
end
end My

set_option Elab.async false
set_option linter.all false
set_option maxRecDepth 100000
set_option maxHeartbeats 4000000
namespace My
open PySem L2
local macro_rules | `(tactic| walk_at "lk") => `(tactic| first | with_reducible exact lk0 | (refine lk1 (by decide +kernel) ?_; walk_at "lk") | rfl)
def sp_l_cell_at (K : PySem.W.Frag) : Sp := fun vs H Q _ => ∃ (a : Addr) (ns : List Int) (k : Int), vs = [.ref a, .int k] ∧ SqL K H a (ns.map V.int) ∧ 0 ≤ k ∧ ∀ z : Int, Q (.int z) H
def sp_l_list : Sp := fun vs H Q _ => ∃ (f d : Addr) (zs : List Int), vs = [.ref f, .ref d] ∧ H f = some (.lst (zs.map V.int)) ∧ H d = some (.lst (zs.map V.int)) ∧ ∀ H', Same H H' → Q (.bl true) H'
section
variable {P : Program} {w : World} {K : PySem.W.Frag} {mg : Str → Option Value} {base : Heap} {t : Adr}
theorem ok_l_cell_at (T : Txt K mg t) : FnOk P w K mg base CX0 1 t.f_l_cell_at t.d_l_cell_at ["_law_script", "_law_k"] (sp_l_cell_at K) := by
  refine T.F_l_cell_at.ok sc_l_cell_at (fun vs H Q E h => ?_) (fun cdv A outer s H vs Q E hr h => ?_)
  · obtain ⟨a, ns, k, rfl, _⟩ := h
    rfl
  · obtain ⟨a, ns, k, rfl, hS, k0, q⟩ := h
    refine ⟨_, (pss_cons (ps_if (pt_cmpR op_lt (pv 1) (pe_callB call_len_seq (by rfl) T.z_len PySem.boot_len (pa_cons (pv 0) pa_nil)) (nomark _))
        (pss_one (ps_ret (pe_ix ix_list (pv 0) (pv 1) (fun _ _ => rfl))))
        pss_nil)
      (pss_one (ps_ret pe_int))), ?_⟩
    refine ⟨_, rfl, _, rfl, a, _, rfl, .inl hS, _, _, rfl, rfl, _, rfl, ?_⟩
    refine iteD (fun hk => ?_) (fun _ => q 0)
    obtain ⟨z, _, e⟩ := at_mapV (f := V.int) (xs := ns) k0 (by simpa using hk)
    exact ⟨_, rfl, _, rfl, a, _, _, _, rfl, rfl, hS, e, q _⟩
theorem ok_l_list (T : Txt K mg t) : FnOk P w K mg base CX0 1 t.f_l_list t.d_l_list ["_law_found", "_law_due_here"] sp_l_list := by
  refine T.F_l_list.ok sc_l_list (fun vs H Q E h => ?_) (fun cdv A outer s H vs Q E hr h => ?_)
  · obtain ⟨f, d, zs, rfl, _⟩ := h
    rfl
  · obtain ⟨f, d, zs, rfl, hf, hd, k⟩ := h
    refine ⟨_, (pss_cons (ps_if (PW.pt (pw_or (pt_not (pt_val (pe_callB call_isinst (by rfl) T.z_isinstance PyProof.Rows.boot_isinstance (pa_cons (pv 0) (pa_cons (pe_bltn (v := V.ty "list") rfl T.z_list PyProof.Rows.boot_list rfl) pa_nil))))) (pw_or1 (pt_cmpR op_ne (pe_callB call_len_seq (by rfl) T.z_len PySem.boot_len (pa_cons (pv 0) pa_nil)) (pe_callB call_len_seq (by rfl) T.z_len PySem.boot_len (pa_cons (pv 1) pa_nil)) (nomark _)))))
        (pss_one (ps_ret pe_bl))
        pss_nil)
      (pss_cons (ps_for PassesOwn.never rfl (pi_zipLL rfl T.z_zip (pa_cons (pv 0) (pa_cons (pv 1) pa_nil))) (pg_tup (n := 2) rfl (pgs_cons (pg_name (i := 2) sc_l_list.nd rfl (Or.inl rfl) (Or.inl rfl)) (pgs_cons (pg_name (i := 3) sc_l_list.nd rfl (Or.inl rfl) (Or.inl rfl)) pgs_nil)))
        (pss_one (ps_if (PW.pt (pw_or (pt_not (pt_val (pe_callB call_isinst (by rfl) T.z_isinstance PyProof.Rows.boot_isinstance (pa_cons (pv 2) (pa_cons (pe_bltn (v := V.ty "int") rfl T.z_int PyProof.Rows.boot_int rfl) pa_nil))))) (pw_or (pt_val (pe_callB call_isinst (by rfl) T.z_isinstance PyProof.Rows.boot_isinstance (pa_cons (pv 2) (pa_cons (pe_bltn (v := V.ty "bool") rfl T.z_bool PyProof.Rows.boot_bool rfl) pa_nil)))) (pw_or1 (pt_cmpR op_ne (pv 2) (pv 3) (nomark _))))))
          (pss_one (ps_ret pe_bl))
          pss_nil)))
      (pss_one (ps_ret pe_bl)))), ?_⟩
    refine ⟨_, rfl, _, _, _, _, rfl, .lst hf, isi_same "list", true, rfl, iteF ?_⟩
    refine ⟨_, rfl, f, _, rfl, .inl (SqL.of hf), _, rfl, d, _, rfl, .inl (SqL.of hd), rfl, _, rfl, iteNS rfl ?_⟩
    refine ⟨_, rfl, _, rfl, f, d, _, _, rfl, SqL.of hf, SqL.of hd, ?_⟩
    refine for_zipL (K := K) (a := f) (b := d) (xs := zs.map V.int) (ys := zs.map V.int) (fun i σ H2 => ∃ (o2 o3 : Option V), σ = [some (.ref f), some (.ref d), o2, o3] ∧ Same H H2) ⟨none, none, rfl, Same.refl _⟩ (fun i σ H2 ⟨_, _, _, s2⟩ => ⟨SqL.of (s2 _ _ hf), SqL.of (s2 _ _ hd)⟩) rfl ?_ ?_
    · rintro i x y σ H2 pq hx hy ⟨o2, o3, rfl, s2⟩ hpq
      rw [hx] at hy
      cases hy
      obtain ⟨z, _, rfl⟩ := get_map hx
      refine ⟨pq, _, rfl, SqT.of upd_same, rfl, _, _, rfl, _, _, rfl, rfl, ?_⟩
      refine ⟨_, rfl, _, _, _, _, rfl, .int z, isi_same "int", true, rfl, iteF ?_⟩
      refine ⟨_, rfl, _, _, _, _, rfl, .int z, isi_by (by decide +kernel) (by decide +kernel) (by decide +kernel), false, rfl, iteF ?_⟩
      exact ⟨_, rfl, _, rfl, rfl, _, rfl, iteNS rfl ⟨_, _, rfl, s2.trans (same_new hpq)⟩⟩
    · rintro σ H2 ⟨o2, o3, rfl, s2⟩
      exact k H2 s2
end
end My

set_option Elab.async false
set_option linter.all false
set_option maxRecDepth 100000
set_option maxHeartbeats 4000000
namespace My
open PySem L2
/-! ### the cells of two lengths -/
theorem cells2 (n m : Nat) : cellsM [(n : Int), (m : Int)] = (List.range (n * m)).map fun (p : Nat) => [((p / m : Nat) : Int), ((p % m : Nat) : Int)] := by
  have e : cellsM [(n : Int), (m : Int)] = (List.range n).flatMap fun (q : Nat) => (List.range m).map fun (k : Nat) => [(q : Int), (k : Int)] := by
    simp [cellsM, lenM, List.flatMap_map]
  rw [e, range_flat, List.map_flatMap]
  congr 1
  funext q
  rw [List.map_map]
  apply List.map_congr_left
  intro k hk
  have hk := List.mem_range.mp hk
  have hm : 0 < m := by omega
  simp only [Function.comp]
  rw [Nat.mul_comm q m, Nat.mul_add_div hm, Nat.mul_add_mod, Nat.div_eq_of_lt hk, Nat.mod_eq_of_lt hk, Nat.add_zero]
theorem cells2_at {n m k j : Nat} (hk : k < n) (hj : j < m) : (cellsM [(n : Int), (m : Int)])[k * m + j]? = some [(k : Int), (j : Int)] := by
  have hlt : k * m + j < n * m := by
    have := Nat.mul_le_mul_right m (show k + 1 ≤ n from hk)
    rw [Nat.add_mul, Nat.one_mul] at this
    omega
  have hm : 0 < m := by omega
  rw [cells2, List.getElem?_map, List.getElem?_range hlt]
  simp only [Option.map_some]
  rw [Nat.mul_comm k m, Nat.mul_add_div hm, Nat.mul_add_mod, Nat.div_eq_of_lt hj, Nat.mod_eq_of_lt hj, Nat.add_zero]
theorem cells2_len (n m : Nat) : (cellsM [(n : Int), (m : Int)]).length = n * m := by rw [cells2, List.length_map, List.length_range]
theorem lookC_at : ∀ {cs : List (List Int × Int)} {p : Nat} {c : List Int} {v : Int}, (cs.map (·.1)).Nodup → cs[p]? = some (c, v) → lookC cs c = some v
  | [], p, c, v, _, h => by simp at h
  | e :: cs, 0, c, v, _, h => by
    simp at h
    subst h
    simp [lookC]
  | e :: cs, p + 1, c, v, nd, h => by
    rw [List.map_cons, List.nodup_cons] at nd
    have h : cs[p]? = some (c, v) := by simpa using h
    have hn : ¬ e.1 = c := fun z => nd.1 (by rw [z]; exact List.mem_map.mpr ⟨_, List.mem_of_getElem? h, rfl⟩)
    have := lookC_at nd.2 h
    unfold lookC at this ⊢
    rw [List.find?_cons_of_neg (by simpa using hn)]
    exact this
theorem lookN_here {ms : NS} {a : Str} {r : List (List Int × Int)} {rest : NS} {c : List Int} (h : ms = (a, r) :: rest) : lookN ms a c = lookC r c := by
  subst h
  simp [lookN]
theorem lookN_next {e : Str × List (List Int × Int)} {rest : NS} {a : Str} {c : List Int} (h : ¬ e.1 = a) : lookN (e :: rest) a c = lookN rest a c := by
  unfold lookN
  rw [List.find?_cons_of_neg (by simpa using h)]
theorem cellM2 {g : Str → Int} {x y : Str} {i j : Int} (hx : ¬ x = "") (hy : ¬ y = "") : cellM g [(x, i), (y, j)] = [g x + i, g y + j] := by
  unfold cellM
  simp only [List.map_cons, List.map_nil]
  rw [if_neg hx, if_neg hy]
/-! ### what is due -/
/-- the number of a cell -/
def dv (ns : List Int) (f s : Nat) (tu : Bool) (b a F wh : Int) (ds : List Int) (k j : Nat) : Int :=
  ((if tu = true then ns.getD (j * f + k) 0 else ns.getD (k * s + j) 0) + (if b ≤ (k : Int) ∧ 0 ≤ (j : Int) - a ∧ (j : Int) - a < (s : Int) then F * ds.getD (((k : Int) - b) * (s : Int) + (j : Int) - a).toNat 0 else 0)) % wh
def dueP (ns : List Int) (f s : Nat) (tu : Bool) (b a F wh : Int) : Nat → List Int
  | 0 => []
  | n + 1 => dueP ns f s tu b a F wh n ++ [dv ns f s tu b a F wh (dueP ns f s tu b a F wh n) (n / s) (n % s)]
theorem due_len {ns : List Int} {f s : Nat} {tu : Bool} {b a F wh : Int} : ∀ n, (dueP ns f s tu b a F wh n).length = n
  | 0 => rfl
  | n + 1 => by simp [dueP, due_len n]
theorem due_step {ns : List Int} {f s : Nat} {tu : Bool} {b a F wh : Int} {k j : Nat} (hj : j < s) : dueP ns f s tu b a F wh (k * s + j + 1) = dueP ns f s tu b a F wh (k * s + j) ++ [dv ns f s tu b a F wh (dueP ns f s tu b a F wh (k * s + j)) k j] := by
  have hs : 0 < s := by omega
  have e1 : (k * s + j) / s = k := by rw [Nat.mul_comm k s, Nat.mul_add_div hs, Nat.div_eq_of_lt hj, Nat.add_zero]
  have e2 : (k * s + j) % s = j := by rw [Nat.mul_comm k s, Nat.mul_add_mod, Nat.mod_eq_of_lt hj]
  simp only [dueP, e1, e2]
/-- the cell that is read back -/
theorem back_lt {k j s : Nat} {b a : Int} (hb : 1 ≤ b) (hk : b ≤ (k : Int)) (h1 : 0 ≤ (j : Int) - a) (h2 : (j : Int) - a < (s : Int)) : ∃ k' j' : Nat, (k : Int) - b = (k' : Int) ∧ (j : Int) - a = (j' : Int) ∧ j' < s ∧ k' < k ∧ (((k : Int) - b) * (s : Int) + (j : Int) - a) = ((k' * s + j' : Nat) : Int) ∧ k' * s + j' < k * s + j := by
  refine ⟨((k : Int) - b).toNat, ((j : Int) - a).toNat, by omega, by omega, by omega, by omega, ?_, ?_⟩
  · have e1 : (k : Int) - b = ((((k : Int) - b).toNat : Nat) : Int) := by omega
    have e2 : (j : Int) - a = ((((j : Int) - a).toNat : Nat) : Int) := by omega
    rw [Int.natCast_add, Int.natCast_mul, ← e1, ← e2, Int.add_sub_assoc]
  · have hk' : ((k : Int) - b).toNat + 1 ≤ k := by omega
    have := Nat.mul_le_mul_right s hk'
    rw [Nat.add_mul, Nat.one_mul] at this
    omega
/-! ### the let's term -/
def theTerm (x y : Str) (f s : Nat) (b a F : Int) : Tm :=
  .guard "u" b (f : Int) (.guard "v" a ((s : Int) + a) (.pair .plus (.read "t" [(x, 0), (y, 0)]) (.pair .times (.num F) (.read "it" [("u", -b), ("v", -a)]))) (.read "t" [(x, 0), (y, 0)])) (.read "t" [(x, 0), (y, 0)])
/-- what is told of the axes -/
structure EnvOk : Prop where
  u : ∀ k j : Int, ai (envK ["u", "v"] [k, j]) "u" = k
  v : ∀ k j : Int, ai (envK ["u", "v"] [k, j]) "v" = j
  un : ¬ ("u" : Str) = ""
  vn : ¬ ("v" : Str) = ""
  ti : ¬ ("t" : Str) = "it"
  at_ : ∀ (x y : Str) (f s : Nat) (b a F k j : Int), (x = "u" ∨ x = "v") → (y = "u" ∨ y = "v") → AtOk (envK ["u", "v"] [k, j]) (theTerm x y f s b a F)
abbrev tabT (ns : List Int) (wh : Int) (n m : Nat) : NS := [("t", (cellsM [(n : Int), (m : Int)]).zip (ns.map (· % wh)))]
theorem look_t {ns : List Int} {wh : Int} {n m k j : Nat} (hl : ns.length = n * m) (hk : k < n) (hj : j < m) (x : Str) (cs : List (List Int × Int)) : lookN (fullN (tabT ns wh n m) x cs) "t" [(k : Int), (j : Int)] = some (ns.getD (k * m + j) 0 % wh) := by
  have hlt : k * m + j < n * m := by
    have := Nat.mul_le_mul_right m (show k + 1 ≤ n from hk)
    rw [Nat.add_mul, Nat.one_mul] at this
    omega
  rw [lookN_here (show fullN (tabT ns wh n m) x cs = (("t" : Str), _) :: _ from rfl)]
  refine lookC_at (p := k * m + j) ?_ ?_
  · rw [List.map_fst_zip (by rw [cells2_len, List.length_map, hl]; exact Nat.le_refl _)]
    exact cells_nodup _
  · rw [List.getElem?_zip_eq_some]
    refine ⟨cells2_at hk hj, ?_⟩
    rw [List.getElem?_map, List.getElem?_eq_getElem (by omega), List.getD_eq_getElem?_getD, List.getElem?_eq_getElem (by omega)]
    rfl
section
variable {len : Str → Int} {ns : List Int} {f s : Nat} {tu : Bool} {b a F wh : Int}
/-- the axes of the table, and its lengths -/
def axO (tu : Bool) : Str × Str := if tu = true then ("v", "u") else ("u", "v")
def lsO (tu : Bool) (f s : Nat) : Nat × Nat := if tu = true then (s, f) else (f, s)
def uO (tu : Bool) (f s : Nat) (b a F : Int) : Tm := theTerm (axO tu).1 (axO tu).2 f s b a F
abbrev msO (ns : List Int) (wh : Int) (tu : Bool) (f s : Nat) : NS := tabT ns wh (lsO tu f s).1 (lsO tu f s).2
abbrev runO (len : Str → Int) (ns : List Int) (f s : Nat) (tu : Bool) (b a F wh : Int) (n : Nat) : List (List Int × Int) := runL len wh (uO tu f s b a F) ["u", "v"] (msO ns wh tu f s) "it" ((cellsM [(f : Int), (s : Int)]).take n)
theorem look_tt (E : EnvOk) (hl : ns.length = f * s) {k j : Nat} (hk : k < f) (hj : j < s) (x : Str) (cs : List (List Int × Int)) : lookN (fullN (msO ns wh tu f s) x cs) "t" (cellM (ai (envK ["u", "v"] [(k : Int), (j : Int)])) [((axO tu).1, 0), ((axO tu).2, 0)]) = some ((if tu = true then ns.getD (j * f + k) 0 else ns.getD (k * s + j) 0) % wh) := by
  cases tu with
  | true =>
    show lookN (fullN (tabT ns wh s f) x cs) "t" (cellM _ [("v", 0), ("u", 0)]) = _
    rw [cellM2 E.vn E.un, E.u, E.v, Int.add_zero, Int.add_zero, look_t (by rw [hl, Nat.mul_comm]) hj hk, if_pos rfl]
  | false =>
    show lookN (fullN (tabT ns wh f s) x cs) "t" (cellM _ [("u", 0), ("v", 0)]) = _
    rw [cellM2 E.un E.vn, E.u, E.v, Int.add_zero, Int.add_zero, look_t hl hk hj, if_neg (by decide)]
theorem look_own (E : EnvOk) {cs : List (List Int × Int)} {k j : Nat} (hk : k < f) (hj : j < s) (h1 : cs.map (·.1) = (cellsM [(f : Int), (s : Int)]).take (k * s + j)) (hb : 1 ≤ b) (c1 : b ≤ (k : Int)) (c2 : 0 ≤ (j : Int) - a) (c3 : (j : Int) - a < (s : Int)) : lookN (fullN (msO ns wh tu f s) "it" cs) "it" (cellM (ai (envK ["u", "v"] [(k : Int), (j : Int)])) [("u", -b), ("v", -a)]) = some ((cs.map (·.2)).getD (((k : Int) - b) * (s : Int) + (j : Int) - a).toNat 0) := by
  obtain ⟨k', j', e1, e2, hj', hk', e3, hlt⟩ := back_lt hb c1 c2 c3
  have hn : k * s + j < f * s := by
    have := Nat.mul_le_mul_right s (show k + 1 ≤ f from hk)
    rw [Nat.add_mul, Nat.one_mul] at this
    omega
  have hlen : cs.length = k * s + j := by
    have := congrArg List.length h1
    rw [List.length_map, List.length_take, cells2_len] at this
    omega
  have hne : cs ≠ [] := fun z => by rw [z] at hlen; simp at hlen; omega
  rw [e3, Int.toNat_natCast, cellM2 E.un E.vn, E.u, E.v, ← Int.sub_eq_add_neg, ← Int.sub_eq_add_neg, e1, e2]
  unfold fullN
  rw [if_neg hne]
  show lookN ((("t" : Str), _) :: [(("it" : Str), cs)]) "it" _ = _
  rw [lookN_next E.ti, lookN_here rfl]
  have hp : k' * s + j' < cs.length := by omega
  have hc : cs[k' * s + j'].1 = [(k' : Int), (j' : Int)] := by
    have h2 : (cs.map (·.1))[k' * s + j']? = some [(k' : Int), (j' : Int)] := by
      rw [h1, List.getElem?_take_of_lt hlt]
      exact cells2_at (by omega) hj'
    rw [List.getElem?_map, List.getElem?_eq_getElem hp] at h2
    simpa using h2
  refine lookC_at (p := k' * s + j') ?_ ?_
  · rw [h1]
    exact (cells_nodup _).sublist (List.take_sublist _ _)
  · rw [List.getElem?_eq_getElem hp, List.getD_eq_getElem?_getD, List.getElem?_map, List.getElem?_eq_getElem hp]
    congr 1
    exact Prod.ext hc rfl
theorem run_due (E : EnvOk) (hl : ns.length = f * s) (hb : 1 ≤ b) : ∀ n, n ≤ f * s → (runO len ns f s tu b a F wh n).map (·.2) = dueP ns f s tu b a F wh n
  | 0, _ => rfl
  | n + 1, h => by
    have ih := run_due E hl hb n (by omega)
    have hs : 0 < s := Nat.pos_of_ne_zero fun z => by subst z; simp at h
    have hj : n % s < s := Nat.mod_lt _ hs
    have hk : n / s < f := Nat.div_lt_of_lt_mul (by rw [Nat.mul_comm]; omega)
    have en : n / s * s + n % s = n := by rw [Nat.mul_comm]; exact Nat.div_add_mod n s
    have hc : (cellsM [(f : Int), (s : Int)])[n]? = some [((n / s : Nat) : Int), ((n % s : Nat) : Int)] := by
      have := cells2_at hk hj
      rw [en] at this
      exact this
    have e : runO len ns f s tu b a F wh (n + 1) = stepL len wh (uO tu f s b a F) ["u", "v"] (msO ns wh tu f s) "it" (runO len ns f s tu b a F wh n) [((n / s : Nat) : Int), ((n % s : Nat) : Int)] := by
      unfold runO
      rw [List.take_add_one, hc, Option.toList_some, runL_snoc]
    have h1 : (runO len ns f s tu b a F wh n).map (·.1) = (cellsM [(f : Int), (s : Int)]).take (n / s * s + n % s) := by rw [en]; exact runL_fst _ _
    rw [e]
    unfold stepL
    rw [List.map_append, ih]
    show dueP ns f s tu b a F wh n ++ [_] = dueP ns f s tu b a F wh n ++ [dv ns f s tu b a F wh (dueP ns f s tu b a F wh n) (n / s) (n % s)]
    congr 2
    generalize runO len ns f s tu b a F wh n = cs at ih h1 ⊢
    generalize n / s = k at hk h1 ⊢
    generalize n % s = j at hj h1 ⊢
    have ht := look_tt (tu := tu) (wh := wh) E hl hk hj "it" cs
    rw [← ih]
    unfold dv
    generalize (if tu = true then ns.getD (j * f + k) 0 else ns.getD (k * s + j) 0) = N at ht ⊢
    by_cases c : b ≤ (k : Int) ∧ 0 ≤ (j : Int) - a ∧ (j : Int) - a < (s : Int)
    · have ho := look_own (ns := ns) (wh := wh) (tu := tu) E hk hj h1 hb c.1 c.2.1 c.2.2
      rw [if_pos c]
      simp only [uO, theTerm, wo, E.u, E.v]
      rw [if_pos ⟨c.1, by omega⟩, if_pos ⟨by omega, by omega⟩, ht, ho]
      simp only [Option.getD_some, opM]
      generalize (cs.map (·.2)).getD _ 0 = O
      rw [Int.emod_emod_of_dvd _ (Int.dvd_refl _), ← Int.mul_emod, ← Int.add_emod]
    · rw [if_neg c, Int.add_zero]
      simp only [uO, theTerm, wo, E.u, E.v]
      split
      · rw [if_neg (fun z => c ⟨by omega, by omega, by omega⟩), ht]
        simp
      · rw [ht]
        simp
theorem run_ok (E : EnvOk) (hl : ns.length = f * s) (hb : 1 ≤ b) : RunOk len wh (uO tu f s b a F) ["u", "v"] (msO ns wh tu f s) "it" (cellsM [(f : Int), (s : Int)]) := by
  intro n c hc
  have hn : n < f * s := by
    have := (List.getElem?_eq_some_iff.mp hc).1
    rw [cells2_len] at this
    exact this
  have hs : 0 < s := Nat.pos_of_ne_zero fun z => by subst z; simp at hn
  have hj : n % s < s := Nat.mod_lt _ hs
  have hk : n / s < f := Nat.div_lt_of_lt_mul (by rw [Nat.mul_comm]; omega)
  have en : n / s * s + n % s = n := by rw [Nat.mul_comm]; exact Nat.div_add_mod n s
  have hc' := cells2_at hk hj
  rw [en, hc] at hc'
  cases hc'
  have h1 : (runO len ns f s tu b a F wh n).map (·.1) = (cellsM [(f : Int), (s : Int)]).take (n / s * s + n % s) := by rw [en]; exact runL_fst _ _
  have ax : ∀ z, (axO tu).1 = z ∨ (axO tu).2 = z → z = "u" ∨ z = "v" := by
    intro z h
    cases tu
    · rcases h with h | h
      · exact .inl h.symm
      · exact .inr h.symm
    · rcases h with h | h
      · exact .inr h.symm
      · exact .inl h.symm
  show (∀ e ∈ rd len (uO tu f s b a F) _, (lookN (fullN (msO ns wh tu f s) "it" (runO len ns f s tu b a F wh n)) e.1 e.2).isSome = true) ∧ _
  generalize runO len ns f s tu b a F wh n = cs at h1 ⊢
  generalize n / s = k at hk h1 ⊢
  generalize n % s = j at hj h1 ⊢
  have ht := look_tt (tu := tu) (wh := wh) E hl hk hj "it" cs
  refine ⟨?_, E.at_ _ _ _ _ _ _ _ _ _ (ax _ (.inl rfl)) (ax _ (.inr rfl)), ?_⟩
  · intro e he
    simp only [uO, theTerm, rd, E.u, E.v] at he
    have tt : ∀ e ∈ [(("t" : Str), cellM (ai (envK ["u", "v"] [(k : Int), (j : Int)])) [((axO tu).1, 0), ((axO tu).2, 0)])], (lookN (fullN (msO ns wh tu f s) "it" cs) e.1 e.2).isSome = true := by
      intro e he
      rw [List.mem_singleton.mp he]
      show (lookN _ "t" _).isSome = true
      rw [ht]
      rfl
    split at he
    · split at he
      · rename_i c1 c2
        rcases List.mem_append.mp he with he | he
        · exact tt e he
        · rw [List.nil_append] at he
          rw [List.mem_singleton.mp he]
          show (lookN _ "it" _).isSome = true
          rw [look_own (ns := ns) (wh := wh) (tu := tu) E hk hj h1 hb c1.1 (by omega) (by omega)]
          rfl
      · exact tt e he
    · exact tt e he
  · simp only [uO, theTerm, rd]
    split
    · split <;> simp
    · simp
end
theorem env_uv (k j : Int) : envK ["u", "v"] [k, j] = [((Sum.inr ("u" : Str) : Key), V.int k), (Sum.inr ("v" : Str), V.int j)] := by
  unfold envK
  exact merge_nodup (ws := [((Sum.inr ("u" : Str) : Key), V.int k), (Sum.inr ("v" : Str), V.int j)]) (show ([(Sum.inr ("u" : Str) : Key), Sum.inr ("v" : Str)]).Nodup by decide +kernel)
theorem uv_ne : ¬ ((Sum.inr ("u" : Str) : Key) = Sum.inr ("v" : Str)) := by decide +kernel
theorem env_u (k j : Int) : valV (envK ["u", "v"] [k, j]) (Sum.inr "u") = some (.int k) := by rw [env_uv]; exact valV_pos rfl
theorem env_v (k j : Int) : valV (envK ["u", "v"] [k, j]) (Sum.inr "v") = some (.int j) := by
  rw [env_uv, valV_neg (p := ((Sum.inr ("u" : Str) : Key), V.int k)) uv_ne]
  exact valV_pos rfl
theorem fv_read {z a p q : Str} {i j : Int} (hp : p = "u" ∨ p = "v") (hq : q = "u" ∨ q = "v") (h : Fv (.read a [(p, i), (q, j)]) z) : z = "u" ∨ z = "v" := by
  obtain ⟨_, e, he, ez⟩ := h
  rcases List.mem_cons.mp he with rfl | he
  · rw [← ez]; exact hp
  · rcases List.mem_cons.mp he with rfl | he
    · rw [← ez]; exact hq
    · cases he
theorem fv_term {x y z : Str} {f s : Nat} {b a F : Int} (hx : x = "u" ∨ x = "v") (hy : y = "u" ∨ y = "v") (h : Fv (theTerm x y f s b a F) z) : z = "u" ∨ z = "v" := by
  unfold theTerm at h
  rcases h with h | h | h
  · exact .inl h
  · rcases h with h | h | h
    · exact .inr h
    · rcases h with h | h
      · exact fv_read hx hy h
      · rcases h with h | h
        · exact h.elim
        · exact fv_read (.inl rfl) (.inr rfl) h
    · exact fv_read hx hy h
  · exact fv_read hx hy h
theorem envOk : EnvOk where
  u := fun k j => ai_of (env_u k j)
  v := fun k j => ai_of (env_v k j)
  un := by decide +kernel
  vn := by decide +kernel
  ti := by decide +kernel
  at_ := fun x y f s b a F k j hx hy z hz => by
    rcases fv_term hx hy hz with rfl | rfl
    · rw [ai_of (env_u k j)]; exact env_u k j
    · rw [ai_of (env_v k j)]; exact env_v k j
/-! ### the law's own -/
theorem due_rng {ns : List Int} {f s : Nat} {tu : Bool} {b a F wh : Int} (h : 0 < wh) : ∀ n, ∀ z ∈ dueP ns f s tu b a F wh n, 0 ≤ z ∧ z < wh
  | 0, z, hz => by cases hz
  | n + 1, z, hz => by
    rcases List.mem_append.mp hz with hz | hz
    · exact due_rng h n z hz
    · rw [List.mem_singleton.mp hz]
      exact ⟨Int.emod_nonneg _ (by omega), Int.emod_lt_of_pos _ h⟩
def BigOk (z : Int) : Prop := 0 ≤ z ∧ z ≤ 10 ^ 32
theorem BigOk.lt {z : Int} (h : BigOk z) : z.natAbs < 2 ^ 4000 := by
  have h2 : z ≤ 10 ^ 32 := h.2
  have h1 := h.1
  have hh : (10 : Nat) ^ 32 < 2 ^ 4000 := by
    calc (10 : Nat) ^ 32 < 2 ^ 128 := by decide
      _ ≤ 2 ^ 4000 := Nat.pow_le_pow_right (by decide) (by decide)
  have e : ((10 : Int) ^ 32) = (((10 : Nat) ^ 32 : Nat) : Int) := by norm_cast
  rw [e] at h2
  generalize (10 : Nat) ^ 32 = N at h2 hh
  omega
def sp_l_number (K : PySem.W.Frag) : Sp := fun vs H Q _ => ∃ (a : Addr) (ns : List Int) (k sd : Int), vs = [.ref a, .int k, .int sd] ∧ SqL K H a (ns.map V.int) ∧ 0 ≤ k ∧ k ≤ 100 ∧ ∀ z : Int, Q (.int z) H
def sp_l_due : Sp := fun vs H Q _ => ∃ (nl zt st : Addr) (ns : List Int) (f s : Nat) (tu : Bool) (b a F wh : Int), vs = [.ref nl, .ref zt, .bl tu, .ref st, .int wh] ∧ H nl = some (.lst (ns.map V.int)) ∧ H zt = some (.tup [.int f, .int s]) ∧ H st = some (.tup [.int b, .int a, .int F]) ∧ ns.length = f * s ∧ f ≤ 9 ∧ s ≤ 6 ∧ 1 ≤ b ∧ b ≤ 3 ∧ BigOk F ∧ WhOk wh ∧
  ∀ (q : Addr) (H' : Hp), H q = none → Same H H' → H' q = some (.lst ((dueP ns f s tu b a F wh (f * s)).map V.int)) → Q (.ref q) H'
theorem at_getD {ns : List Int} {n : Nat} {i : Int} (h : n < ns.length) (e : i = (n : Int)) : atI (ns.map V.int) i = some (.int (ns.getD n 0)) := by
  subst e
  refine atI_nat ?_
  rw [List.getElem?_map, List.getD_eq_getElem?_getD, List.getElem?_eq_getElem h]
  rfl
theorem spot_lt {f s k j : Nat} (hk : k < f) (hj : j < s) : k * s + j < f * s := by
  have := Nat.mul_le_mul_right s (show k + 1 ≤ f from hk)
  rw [Nat.add_mul, Nat.one_mul] at this
  omega
section
variable {P : Program} {w : World} {K : PySem.W.Frag} {mg : Str → Option Value} {base : Heap} {t : Adr}
theorem ok_l_number (T : Txt K mg t) : FnOk P w K mg base CX0 1 t.f_l_number t.d_l_number ["_law_script", "_law_k", "_law_seed"] (sp_l_number K) := by
  refine T.F_l_number.ok sc_l_number (fun vs H Q E h => ?_) (fun cdv A outer s H vs Q E hr h => ?_)
  · obtain ⟨a, ns, k, sd, rfl, _⟩ := h
    rfl
  · obtain ⟨a, ns, k, sd, rfl, hS, k0, k1, q⟩ := h
    refine ⟨_, (pss_cons (ps_if (pt_cmpR op_eq (pe_callB call_len_seq (by rfl) T.z_len PySem.boot_len (pa_cons (pv 0) pa_nil)) pe_int (nomark _))
        (pss_one (ps_ret (pv 1)))
        pss_nil)
      (pss_one (ps_ret (pe_op op_sub (pe_op op_mod (pe_op op_add (pe_op op_mul (pe_ix ix_list (pv 0) (pe_op op_mod (pv 1) (pe_callB call_len_seq (by rfl) T.z_len PySem.boot_len (pa_cons (pv 0) pa_nil))) (fun _ _ => rfl)) (pe_op op_add pe_int (pv 1))) (pe_op op_mul (pv 1) (pv 2))) (pe_op op_mul pe_int (pe_op op_pow pe_int pe_int))) (pe_op op_pow pe_int pe_int))))), ?_⟩
    refine ⟨_, rfl, a, _, rfl, .inl hS, rfl, _, rfl, iteD (fun _ => ⟨_, rfl, q k⟩) (fun hn => ?_)⟩
    have hl : (0 : Int) < ((ns.map V.int).length : Int) := by
      rcases Nat.eq_zero_or_pos (ns.map V.int).length with z | z
      · exact absurd (by rw [z]; rfl) hn
      · omega
    have e0 := Int.emod_nonneg k (show ((ns.map V.int).length : Int) ≠ 0 by omega)
    have e1 := Int.emod_lt_of_pos k hl
    obtain ⟨z, _, e⟩ := at_mapV (f := V.int) (xs := ns) e0 (by rw [List.length_map] at e1 ⊢; exact e1)
    exact ⟨_, rfl, _, rfl, _, rfl, a, _, rfl, .inl hS, _, _, rfl, rfl, hl, a, _, _, _, rfl, rfl, hS, e, _, rfl, _, _, rfl, rfl, _, _, rfl, rfl, .inr ⟨by show -(2 ^ 64) < 1 + k; omega, by show 1 + k < 2 ^ 64; omega⟩, _, rfl, _, rfl, _, _, rfl, rfl, .inl ⟨by omega, by omega⟩, _, _, rfl, rfl, _, _, rfl, rfl, ⟨by decide, by decide, by decide⟩, _, _, rfl, rfl, .inl ⟨by decide, by decide⟩, _, _, rfl, rfl, (by show (0 : Int) < 2 * 10 ^ (59 : Int).toNat; decide +kernel), _, _, rfl, rfl, ⟨by decide, by decide, by decide⟩, _, _, rfl, rfl, q _⟩
theorem ok_l_due (T : Txt K mg t) : FnOk P w K mg base CX0 1 t.f_l_due t.d_l_due ["_law_numbers", "_law_sizes", "_law_turned", "_law_steps", "_law_wheel"] sp_l_due := by
  refine T.F_l_due.ok sc_l_due (fun vs H Q E h => ?_) (fun cdv A outer s H vs Q E hr h => ?_)
  · obtain ⟨nl, zt, st, ns, f, s, tu, b, a, F, wh, rfl, _⟩ := h
    rfl
  · obtain ⟨nl, zt, st, ns, f, m, tu, b, a, F, wh, rfl, hn, hz, hst, ln, f9, s6, b1, b3, hF, whok, k⟩ := h
    have wh0 : 0 < wh := by have := whok.1; omega
    refine ⟨_, (pss_cons (ps_asg (pv 1) (pg_tup (n := 2) rfl (pgs_cons (pg_name (i := 5) sc_l_due.nd rfl (Or.inl rfl) (Or.inl rfl)) (pgs_cons (pg_name (i := 6) sc_l_due.nd rfl (Or.inl rfl) (Or.inl rfl)) pgs_nil))))
      (pss_cons (ps_asg (pv 3) (pg_tup (n := 3) rfl (pgs_cons (pg_name (i := 7) sc_l_due.nd rfl (Or.inl rfl) (Or.inl rfl)) (pgs_cons (pg_name (i := 8) sc_l_due.nd rfl (Or.inl rfl) (Or.inl rfl)) (pgs_cons (pg_name (i := 9) sc_l_due.nd rfl (Or.inl rfl) (Or.inl rfl)) pgs_nil)))))
      (pss_cons (ps_set (i := 10) sc_l_due.nd rfl (Or.inl rfl) (pe_lst pa_nil))
      (pss_cons (ps_for PassesOwn.never rfl (pi_range1 rfl T.z_range (pa_cons (pv 5) pa_nil)) (pg_name (i := 11) sc_l_due.nd rfl (Or.inl rfl) (Or.inl rfl))
        (pss_one (ps_for PassesOwn.never rfl (pi_range1 rfl T.z_range (pa_cons (pv 6) pa_nil)) (pg_name (i := 12) sc_l_due.nd rfl (Or.inl rfl) (Or.inl rfl))
          (pss_cons (ps_set (i := 13) sc_l_due.nd rfl (Or.inl rfl) (pe_ix ix_list (pv 0) (pe_op op_add (pe_op op_mul (pv 11) (pv 6)) (pv 12)) (fun _ _ => rfl)))
          (pss_cut (ps_if (pt_val (pv 2))
            (pss_one (ps_set (i := 13) sc_l_due.nd rfl (Or.inl rfl) (pe_ix ix_list (pv 0) (pe_op op_add (pe_op op_mul (pv 12) (pv 5)) (pv 11)) (fun _ _ => rfl))))
            pss_nil)
          (pss_cut (ps_if (PW.pt (pw_and (pt_cmpR op_ge (pv 11) (pv 7) (nomark _)) (pw_and (pt_cmpR op_le pe_int (pe_op op_sub (pv 12) (pv 8)) (nomark _)) (pw_and1 (pt_cmpR op_lt (pe_op op_sub (pv 12) (pv 8)) (pv 6) (nomark _))))))
            (pss_cons (ps_set (i := 14) sc_l_due.nd rfl (Or.inl rfl) (pe_op op_sub (pe_op op_add (pe_op op_mul (pe_op op_sub (pv 11) (pv 7)) (pv 6)) (pv 12)) (pv 8)))
            (pss_one (ps_set (i := 13) sc_l_due.nd rfl (Or.inl rfl) (pe_op op_add (pv 13) (pe_op op_mulB (pv 9) (pe_ix ix_list (pv 10) (pv 14) (fun _ _ => rfl)))))))
            pss_nil)
          (pss_one (ps_expr (pe_bm PySem.F.plainAttrs_list PySem.F.slot_list_append PySem.F.type_list_append mt_append (pv 10) (pa_cons (pe_op op_mod (pv 13) (pv 4)) pa_nil))))))))))
      (pss_one (ps_ret (pv 10))))))), ?_⟩
    refine ⟨_, rfl, zt, _, rfl, SqT.of hz, rfl, _, _, rfl, _, _, rfl, rfl, ?_⟩
    refine ⟨_, rfl, st, _, rfl, SqT.of hst, rfl, _, _, rfl, _, _, rfl, _, _, rfl, rfl, ?_⟩
    refine ⟨line_le (by simp), fun D hD => ?_⟩
    refine ⟨_, rfl, _, rfl, by omega, by omega, ?_⟩
    refine for_range (n := f) (fun i σ H2 => ∃ (o1 o2 o3 o4 : Option V), σ = [some (.ref nl), some (.ref zt), some (.bl tu), some (.ref st), some (.int wh), some (.int f), some (.int m), some (.int b), some (.int a), some (.int F), some (.ref D), o1, o2, o3, o4] ∧ Same H H2 ∧ H2 D = some (.lst ((dueP ns f m tu b a F wh (i * m)).map V.int)))
      ⟨none, none, none, none, rfl, same_new hD, by rw [Nat.zero_mul]; exact upd_same⟩ ?_ ?_
    · rintro i σ H2 hi ⟨o1, o2, o3, o4, rfl, s2, hD2⟩
      rw [Int.zero_add]
      refine ⟨_, rfl, _, rfl, by omega, by omega, ?_⟩
      refine for_range (n := m) (fun j σ H3 => ∃ (o2 o3 o4 : Option V), σ = [some (.ref nl), some (.ref zt), some (.bl tu), some (.ref st), some (.int wh), some (.int f), some (.int m), some (.int b), some (.int a), some (.int F), some (.ref D), some (.int i), o2, o3, o4] ∧ Same H H3 ∧ H3 D = some (.lst ((dueP ns f m tu b a F wh (i * m + j)).map V.int)))
        ⟨o2, o3, o4, rfl, s2, hD2⟩ ?_ ?_
      · rintro j σ H3 hj ⟨o2, o3, o4, rfl, s3, hD3⟩
        rw [Int.zero_add]
        have e1 : atI (ns.map V.int) ((i : Int) * (m : Int) + (j : Int)) = some (.int (ns.getD (i * m + j) 0)) := at_getD (by rw [ln]; exact spot_lt hi hj) (by rw [Int.natCast_add, Int.natCast_mul])
        have e2 : atI (ns.map V.int) ((j : Int) * (f : Int) + (i : Int)) = some (.int (ns.getD (j * f + i) 0)) := at_getD (by rw [ln, Nat.mul_comm f m]; exact spot_lt hj hi) (by rw [Int.natCast_add, Int.natCast_mul])
        refine ⟨_, rfl, _, rfl, _, rfl, _, _, rfl, rfl, .inl ⟨by omega, by omega⟩, _, rfl, _, _, rfl, rfl, nl, _, _, _, rfl, rfl, SqL.of (s3 _ _ hn), e1, ?_⟩
        refine ⟨fun σ' H' => σ' = [some (.ref nl), some (.ref zt), some (.bl tu), some (.ref st), some (.int wh), some (.int f), some (.int m), some (.int b), some (.int a), some (.int F), some (.ref D), some (.int i), some (.int j), some (.int (if tu = true then ns.getD (j * f + i) 0 else ns.getD (i * m + j) 0)), o4] ∧ H3 = H', ?_, ?_⟩
        · refine ⟨_, rfl, tu, rfl, ite2 (fun ht => ?_) (fun ht => ?_)⟩
          · refine ⟨_, rfl, _, rfl, _, rfl, _, _, rfl, rfl, .inl ⟨by omega, by omega⟩, _, rfl, _, _, rfl, rfl, nl, _, _, _, rfl, rfl, SqL.of (s3 _ _ hn), e2, ?_⟩
            exact ⟨by rw [if_pos ht]; rfl, rfl⟩
          · exact ⟨by rw [if_neg ht]; rfl, rfl⟩
        rintro σ' H' ⟨rfl, rfl⟩
        have dl := due_len (ns := ns) (f := f) (s := m) (tu := tu) (b := b) (a := a) (F := F) (wh := wh) (i * m + j)
        refine ⟨fun σ' H' => ∃ o4 : Option V, σ' = [some (.ref nl), some (.ref zt), some (.bl tu), some (.ref st), some (.int wh), some (.int f), some (.int m), some (.int b), some (.int a), some (.int F), some (.ref D), some (.int i), some (.int j), some (.int ((if tu = true then ns.getD (j * f + i) 0 else ns.getD (i * m + j) 0) + (if b ≤ (i : Int) ∧ 0 ≤ (j : Int) - a ∧ (j : Int) - a < (m : Int) then F * (dueP ns f m tu b a F wh (i * m + j)).getD (((i : Int) - b) * (m : Int) + (j : Int) - a).toNat 0 else 0))), o4] ∧ H3 = H', ?_, ?_⟩
        · refine ⟨_, rfl, _, rfl, _, _, rfl, rfl, _, rfl, iteD (fun c1 => ?_) (fun c1 => iteF ?_)⟩
          · have c1 : b ≤ (i : Int) := c1
            refine ⟨_, rfl, _, rfl, _, _, rfl, rfl, _, _, rfl, rfl, _, rfl, iteD (fun c2 => ?_) (fun c2 => iteF ?_)⟩
            · have c2 : 0 ≤ (j : Int) - a := c2
              refine ⟨_, rfl, _, rfl, _, _, rfl, rfl, _, rfl, _, _, rfl, rfl, _, rfl, iteD (fun c3 => ?_) (fun c3 => ?_)⟩
              · have c3 : (j : Int) - a < (m : Int) := c3
                obtain ⟨k', j', _, _, _, hk', e3, hlt⟩ := back_lt (s := m) b1 c1 c2 c3
                have e4 : atI ((dueP ns f m tu b a F wh (i * m + j)).map V.int) (((i : Int) - b) * (m : Int) + (j : Int) - a) = some (.int ((dueP ns f m tu b a F wh (i * m + j)).getD (((i : Int) - b) * (m : Int) + (j : Int) - a).toNat 0)) := at_getD (by rw [e3, Int.toNat_natCast, dl]; exact hlt) (by rw [e3, Int.toNat_natCast])
                refine ⟨_, rfl, _, rfl, _, _, rfl, rfl, _, rfl, _, _, rfl, rfl, .inr ⟨by omega, by omega⟩, _, rfl, _, _, rfl, rfl, _, rfl, _, _, rfl, rfl, ?_⟩
                refine ⟨_, rfl, _, rfl, _, rfl, _, rfl, D, _, _, _, rfl, rfl, SqL.of hD3, e4, _, _, rfl, rfl, ⟨hF.lt, ?_⟩, _, _, rfl, rfl, ?_⟩
                · rw [e3, Int.toNat_natCast, List.getD_eq_getElem?_getD, List.getElem?_eq_getElem (by rw [dl]; exact hlt)]
                  have := due_rng (ns := ns) (f := f) (s := m) (tu := tu) (b := b) (a := a) (F := F) wh0 (i * m + j) _ (List.getElem_mem (show k' * m + j' < (dueP ns f m tu b a F wh (i * m + j)).length by rw [dl]; exact hlt))
                  exact BigOk.lt ⟨this.1, Int.le_trans (Int.le_of_lt this.2) whok.2⟩
                · exact ⟨_, by rw [if_pos (show b ≤ (i : Int) ∧ 0 ≤ (j : Int) - a ∧ (j : Int) - a < (m : Int) from ⟨c1, c2, c3⟩)]; rfl, rfl⟩
              · exact ⟨o4, by rw [if_neg (show ¬ (b ≤ (i : Int) ∧ 0 ≤ (j : Int) - a ∧ (j : Int) - a < (m : Int)) from fun z => c3 z.2.2), Int.add_zero], rfl⟩
            · exact ⟨o4, by rw [if_neg (show ¬ (b ≤ (i : Int) ∧ 0 ≤ (j : Int) - a ∧ (j : Int) - a < (m : Int)) from fun z => c2 z.2.1), Int.add_zero], rfl⟩
          · exact ⟨o4, by rw [if_neg (show ¬ (b ≤ (i : Int) ∧ 0 ≤ (j : Int) - a ∧ (j : Int) - a < (m : Int)) from fun z => c1 z.1), Int.add_zero], rfl⟩
        rintro σ' H' ⟨o4', rfl, rfl⟩
        refine ⟨_, rfl, .inl ⟨rfl, _, SqL.of hD3⟩, _, rfl, _, rfl, _, _, rfl, rfl, wh0, D, _, _, rfl, rfl, hD3, line_lt (by rw [List.length_map, dl]; have := spot_lt hi hj; have : f * m ≤ 9 * 6 := Nat.mul_le_mul f9 s6; omega), ?_⟩
        refine ⟨_, _, _, rfl, same_fresh s3 hD, ?_⟩
        rw [upd_same, ← Nat.add_assoc, due_step hj, List.map_append]
        rfl
      · rintro σ H3 ⟨o2, o3, o4, rfl, s3, hD3⟩
        exact ⟨_, _, _, _, rfl, s3, by rw [Nat.add_mul, Nat.one_mul]; exact hD3⟩
    · rintro σ H2 ⟨o1, o2, o3, o4, rfl, s2, hD2⟩
      exact ⟨_, rfl, k D H2 hD s2 hD2⟩
end
end My

set_option Elab.async false
set_option linter.all false
set_option maxRecDepth 100000
set_option maxHeartbeats 4000000
namespace My
open PySem L2
local macro_rules | `(tactic| walk_at "lk") => `(tactic| first | with_reducible exact lk0 | (refine lk1 (by decide +kernel) ?_; walk_at "lk") | rfl)
abbrev axsO (tu : Bool) : List Str := [(axO tu).1, (axO tu).2]
abbrev lsT (tu : Bool) (f s : Nat) : List Int := [((lsO tu f s).1 : Int), ((lsO tu f s).2 : Int)]
abbrev axA (f s : Nat) : List (Str × Int) := [("v", (s : Int)), ("u", (f : Int))]
abbrev ldO (tu : Bool) (f s : Nat) (b a F : Int) : LD := ⟨"it", ["u", "v"], [(f : Int), (s : Int)], uO tu f s b a F⟩
abbrev tdO (tu : Bool) (f s : Nat) (ns : List Int) : TD := (("t", axsO tu), lsT tu f s, ns)
/-- what the law made -/
structure Made (A : Adr) (H : Hp) (p nl dl : Addr) (ns : List Int) (f s : Nat) (tu : Bool) (b a F wh : Int) : Prop where
  pr : ∃ lv, PrAt A H p wh (axA f s) [("t", axsO tu)] lv ["it"] ∧ Paired (LetOk A (axA f s) H) lv [ldO tu f s b a F]
  hn : H nl = some (.lst (ns.map V.int))
  hd : H dl = some (.lst ((dueP ns f s tu b a F wh (f * s)).map V.int))
  ln : ns.length = f * s
  f1 : 1 ≤ f
  f9 : f ≤ 9
  s1 : 1 ≤ s
  s6 : s ≤ 6
  b1 : 1 ≤ b
  wk : WhOk wh
theorem LetOk.same {A : Adr} {ax : List (Str × Int)} {H H' : Hp} {v : V} {e : LD} (h : LetOk A ax H v e) (s : Same H H') : LetOk A ax H' v e := h.kx fun _ _ _ _ e => s _ _ e
theorem Made.same {A : Adr} {H H' : Hp} {p nl dl : Addr} {ns : List Int} {f s : Nat} {tu : Bool} {b a F wh : Int} (h : Made A H p nl dl ns f s tu b a F wh) (g : Same H H') : Made A H' p nl dl ns f s tu b a F wh := by
  obtain ⟨⟨lv, h1, h2⟩, h3, h4, r1, r2, r3, r4, r5, r6, r7⟩ := h
  exact ⟨⟨lv, h1.same g, Paired.mapP h2 fun _ _ z => z.same g⟩, g _ _ h3, g _ _ h4, r1, r2, r3, r4, r5, r6, r7⟩
theorem good_fs {x y : Nat} (x1 : 1 ≤ x) (x9 : x ≤ 9) (y1 : 1 ≤ y) (y9 : y ≤ 9) : GoodL [(x : Int), (y : Int)] := by
  refine ⟨fun n hn => ?_, by simp, ?_⟩
  · rcases List.mem_cons.mp hn with rfl | hn
    · omega
    · rw [List.mem_singleton.mp hn]; omega
  · have h : prodL [(x : Int), (y : Int)] = ((x * y : Nat) : Int) := by simp [prodL]
    have := Nat.mul_le_mul x9 y9
    rw [h]; omega
theorem sz_u {f s : Nat} : valV (lenK (axA f s)) (Sum.inr ("u" : Str)) = some (.int f) := by
  show valV (((Sum.inr ("v" : Str) : Key), V.int s) :: [(Sum.inr ("u" : Str), V.int f)]) (Sum.inr ("u" : Str)) = _
  rw [valV_neg (p := ((Sum.inr ("v" : Str) : Key), V.int s)) (show ¬ ((Sum.inr ("v" : Str) : Key) = Sum.inr ("u" : Str)) by decide +kernel)]
  exact valV_pos rfl
theorem sz_v {f s : Nat} : valV (lenK (axA f s)) (Sum.inr ("v" : Str)) = some (.int s) := valV_pos rfl
theorem sz_t {tu : Bool} {f s : Nat} : Sz (lenK (axA f s)) (axsO tu) (lsT tu f s) := by
  cases tu with
  | true => exact .cons sz_v (.cons sz_u .nil)
  | false => exact .cons sz_u (.cons sz_v .nil)
theorem good_t {tu : Bool} {f s : Nat} (f1 : 1 ≤ f) (f9 : f ≤ 9) (s1 : 1 ≤ s) (s6 : s ≤ 6) : GoodL (lsT tu f s) ∧ (cellsM (lsT tu f s)).length = f * s := by
  cases tu with
  | true => exact ⟨good_fs (x := s) (y := f) s1 (by omega) f1 f9, by rw [show lsT true f s = [(s : Int), (f : Int)] from rfl, cells2_len, Nat.mul_comm]⟩
  | false => exact ⟨good_fs (x := f) (y := s) f1 f9 s1 (by omega), by rw [show lsT false f s = [(f : Int), (s : Int)] from rfl, cells2_len]⟩
theorem rows_two {S : Addr → Prop} {H : Hp} {rk : List (Key × V)} {x y : Str} {c d : List (List Int × Int)} (h : RowsAt S H rk [(x, c), (y, d)]) : ∃ p q, rk = [(Sum.inr x, .ref p), (Sum.inr y, .ref q)] ∧ S p ∧ S q ∧ H p = some (.lst (c.map fun c => V.int c.2)) ∧ H q = some (.lst (d.map fun c => V.int c.2)) := by
  cases h with
  | @cons a _ _ _ r t =>
    cases t with
    | @cons b _ _ _ r2 t2 =>
      cases t2
      obtain ⟨e1, p, e2, s1, h1⟩ := r
      obtain ⟨e3, q, e4, s2, h2⟩ := r2
      obtain ⟨a1, a2⟩ := a
      obtain ⟨b1, b2⟩ := b
      cases e1; cases e2; cases e3; cases e4
      exact ⟨p, q, rfl, s1, s2, h1, h2⟩
theorem Reps.ints {H : Hp} : ∀ xs : List Int, Reps H (xs.map V.int) (xs.map PyData.int)
  | [] => .nil
  | x :: r => .cons (.int x) (Reps.ints r)
theorem ints_all : ∀ xs : List Int, PyData.canLayAll0 (xs.map PyData.int) = true ∧ PyData.depthAll (xs.map PyData.int) = 0
  | [] => ⟨rfl, rfl⟩
  | x :: r => by
    obtain ⟨h1, h2⟩ := ints_all r
    refine ⟨?_, ?_⟩
    · simp [PyData.canLayAll0, PyData.canLay0, h1]
    · simp [PyData.depthAll, PyData.depth, h2]
theorem ints_lay (xs : List Int) : (PyData.list (xs.map PyData.int)).canLay0 = true ∧ (PyData.list (xs.map PyData.int)).depth ≤ 60 := by
  obtain ⟨h1, h2⟩ := ints_all xs
  exact ⟨by simp [PyData.canLay0, h1], by simp [PyData.depth, h2]⟩
def sp_l_told (A : Adr) : Sp := fun vs H Q _ => ∃ (p nl dl : Addr) (ns : List Int) (f s : Nat) (tu : Bool) (b a F wh : Int), vs = [.ref p, .ref nl, .ref dl, .int wh] ∧ Made A H p nl dl ns f s tu b a F wh ∧ ∀ H', Same H H' → Q (.bl true) H'
section
variable {P : Program} {w : World} {K : PySem.W.Frag} {mg : Str → Option Value} {base : Heap} {t : Adr}
theorem ok_l_told (T : Txt K mg t) : FnOk P w K mg base CX0 13 t.f_l_told t.d_l_told ["_law_program", "_law_numbers", "_law_due_here", "_law_wheel"] (sp_l_told t) := by
  have G_l_list := ok_l_list (P := P) (w := w) (base := base) T
  have G_meaning := ok_meaning (P := P) (w := w) (base := base) T
  refine T.F_l_told.ok sc_l_told (fun vs H Q E h => ?_) (fun cdv A outer s H vs Q E hr h => ?_)
  · obtain ⟨p, nl, dl, ns, f, s, tu, b, a, F, wh, rfl, _⟩ := h
    rfl
  · obtain ⟨p, nl, dl, ns, f, m, tu, b, a, F, wh, rfl, M, k⟩ := h
    have hu := hu_of hr
    have wh0 : 0 < wh := by have := M.wk.1; omega
    refine ⟨_, (pss_cons (ps_set (i := 4) sc_l_told.nd rfl (Or.inl rfl) (pe_disp (pps_cons pe_str (pe_callTy call_list_of (by rfl) T.z_list PyProof.Rows.boot_list (pa_cons (pv 1) pa_nil)) pps_nil) rfl rfl (by simp) (by decide)))
      (pss_cons (ps_set (i := 5) sc_l_told.nd rfl (Or.inl rfl) (pe_call G_meaning (hr.mono (by omega)) rfl T.m_meaning T.F_meaning.kp T.b_meaning .nil pass0 (pa_cons (pv 0) (pa_cons (pv 4) pa_nil))))
      (pss_cons (ps_if (PW.pt (pw_or (pt_cmpR (op_neR hr.units) (pv 4) (pe_disp (pps_cons pe_str (pv 1) pps_nil) rfl rfl (by simp) (by decide)) (nomark _)) (pw_or (pt_not (pt_val (pe_callB call_isinst (by rfl) T.z_isinstance PyProof.Rows.boot_isinstance (pa_cons (pv 5) (pa_cons (pe_bltn (v := V.ty "dict") rfl T.z_dict PyProof.Rows.boot_dict rfl) pa_nil))))) (pw_or1 (pt_cmpR op_ne (pe_callB call_lenD (by rfl) T.z_len PySem.boot_len (pa_cons (pv 5) pa_nil)) pe_int (nomark _))))))
        (pss_one (ps_ret pe_bl))
        pss_nil)
      (pss_cons (ps_if (PW.pt (pw_or (pt_cmp (pc_dnotin hu pe_str (pv 5)) (by with_unfolding_all rfl)) (pw_or (pt_cmp (pc_dnotin hu pe_str (pv 5)) (by with_unfolding_all rfl)) (pw_or1 (pt_not (pt_val (pe_call G_l_list (hr.mono (by omega)) rfl T.m_l_list T.F_l_list.kp T.b_l_list .nil pass0 (pa_cons (pe_dget hu (pv 5) pe_str (fun _ _ => rfl)) (pa_cons (pv 2) pa_nil)))))))))
        (pss_one (ps_ret pe_bl))
        pss_nil)
      (pss_cons (ps_if (pt_not (pt_val (pe_call G_l_list (hr.mono (by omega)) rfl T.m_l_list T.F_l_list.kp T.b_l_list .nil pass0 (pa_cons (pe_dget hu (pv 5) pe_str (fun _ _ => rfl)) (pa_cons (pe_comp (N' := ["_law_number_here", "_law_wheel"]) (ix := (List.replicate 1 none ++ [some 3])) rfl (clok_one (x := "_law_wheel") rfl rfl rfl (by decide +kernel) (by decide +kernel)) (ixok_last (N0 := ["_law_number_here"]) rfl (Or.inl rfl) (by first | exact Or.inl rfl | exact Or.inr rfl | (simp [relabel]; rfl) | (with_unfolding_all exact Or.inl rfl) | (with_unfolding_all exact Or.inr rfl) | (with_unfolding_all decide))) (pi_list (pv 1)) (fun _ _ _ _ => (pg_name (i := 0) nd_comp_4 rfl (Or.inl rfl) (Or.inr rfl))) (fun _ _ _ _ => (pe_op op_mod (pv 0) (pv 1)))) pa_nil)))))
        (pss_one (ps_ret pe_bl))
        pss_nil)
      (pss_cons (ps_expr (pe_bm PySem.F.plainAttrs_list PySem.F.slot_list_append PySem.F.type_list_append mt_append (pe_dget hu (pv 5) pe_str (fun _ _ => rfl)) (pa_cons pe_int pa_nil)))
      (pss_cons (ps_expr (pe_bm0 PySem.F.plainAttrs_list PySem.F.slot_list_clear PySem.F.type_list_clear mt_clear (pe_dget hu (pv 5) pe_str (fun _ _ => rfl))))
      (pss_one (ps_ret pe_bl))))))))), ?_⟩
    -- handed
    refine fun hd hd0 => ⟨_, rfl, nl, _, rfl, .inl (SqL.of ((same_new hd0) _ _ M.hn)), fun c hc0 => ?_⟩
    have hdc : hd ≠ c := ne_of_none upd_same hc0
    refine ⟨(by rw [upd_ne hdc]; exact upd_same), [((Sum.inr ("t" : Str) : Key), V.ref c)], rfl, by simp, ?_⟩
    have t0 : Same H (upd (upd (upd H hd (.dK [])) c (.lst (ns.map V.int))) hd (.dK [(Sum.inr ("t" : Str), V.ref c)])) := same_fresh ((same_new hd0).trans (same_new hc0)) hd0
    have hh : upd (upd (upd H hd (.dK [])) c (.lst (ns.map V.int))) hd (.dK [(Sum.inr ("t" : Str), V.ref c)]) hd = some (.dK [(Sum.inr ("t" : Str), V.ref c)]) := upd_same
    have hc : upd (upd (upd H hd (.dK [])) c (.lst (ns.map V.int))) hd (.dK [(Sum.inr ("t" : Str), V.ref c)]) c = some (.lst (ns.map V.int)) := by rw [upd_ne hdc.symm]; exact upd_same
    have em : mergeK [] [((Sum.inr ("t" : Str) : Key), V.ref c)] = [(Sum.inr ("t" : Str), V.ref c)] := rfl
    rw [em]
    generalize upd (upd (upd H hd (.dK [])) c (.lst (ns.map V.int))) hd (.dK [(Sum.inr ("t" : Str), V.ref c)]) = G at t0 hh hc
    have M1 := M.same t0
    obtain ⟨lv, pr, lets⟩ := M1.pr
    obtain ⟨gt, lt⟩ := good_t (tu := tu) M.f1 M.f9 M.s1 M.s6
    -- meaning
    refine ⟨_, rfl, _, rfl, p, hd, wh, axA f m, [tdO tu f m ns], [ldO tu f m b a F], lv, ["it"], _, rfl, pr, (show (["v", "u"] : List Str).Nodup by decide +kernel), (by simp), (show (["t", "it"] : List Str).Nodup by decide +kernel), (by simp), (by simp), hh, .cons ⟨rfl, c, rfl, hc, sz_t, gt, by rw [lt]; exact M.ln⟩ .nil, M.wk, lets, ?_, ?_⟩
    · intro i e he
      cases i with
      | zero =>
        cases he
        exact run_ok envOk M.ln M.b1
      | succ i => simp at he
    intro r rk G1 hr0 s1 hr1 rows
    have rows : RowsAt (fun b => G b = none) G1 rk [("t", (cellsM (lsT tu f m)).zip (ns.map (· % wh))), ("it", runL (ai (lenK (axA f m))) wh (uO tu f m b a F) ["u", "v"] (msO ns wh tu f m) "it" (cellsM [(f : Int), (m : Int)]))] := rows
    obtain ⟨bt, bi, rfl, bt0, bi0, hbt, hbi⟩ := rows_two rows
    have hbt : G1 bt = some (.lst ((ns.map (· % wh)).map V.int)) := by
      rw [hbt, show (fun c : List Int × Int => V.int c.2) = V.int ∘ (fun c => c.2) from rfl, ← List.map_map, show (fun c : List Int × Int => c.2) = Prod.snd from rfl, List.map_snd_zip (by rw [List.length_map, lt, M.ln]; exact Nat.le_refl _)]
    have hbi : G1 bi = some (.lst ((dueP ns f m tu b a F wh (f * m)).map V.int)) := by
      have e := run_due (len := ai (lenK (axA f m))) (tu := tu) (a := a) (F := F) (wh := wh) envOk M.ln M.b1 (f * m) (Nat.le_refl _)
      rw [← e, hbi, show (fun c : List Int × Int => V.int c.2) = V.int ∘ (fun c => c.2) from rfl, ← List.map_map]
      unfold runO
      rw [List.take_of_length_le (by rw [cells2_len]; exact Nat.le_refl _)]
    have s01 := t0.trans s1
    have M2 := M.same s01
    have vt : valV [((Sum.inr ("t" : Str) : Key), V.ref bt), (Sum.inr ("it" : Str), V.ref bi)] (Sum.inr ("t" : Str)) = some (.ref bt) := valV_pos rfl
    have vi : valV [((Sum.inr ("t" : Str) : Key), V.ref bt), (Sum.inr ("it" : Str), V.ref bi)] (Sum.inr ("it" : Str)) = some (.ref bi) := by rw [valV_neg (p := ((Sum.inr ("t" : Str) : Key), V.ref bt)) (show ¬ ((Sum.inr ("t" : Str) : Key) = Sum.inr ("it" : Str)) by decide +kernel)]; exact valV_pos rfl
    -- handed != ..
    refine ⟨_, rfl, fun e he0 => ⟨_, rfl, upd_same, [((Sum.inr ("t" : Str) : Key), V.ref nl)], rfl, by simp, ?_⟩⟩
    rw [upd_upd]
    have t2 : Same G1 (upd G1 e (.dK (mergeK [] [(Sum.inr ("t" : Str), V.ref nl)]))) := same_new he0
    have he : upd G1 e (.dK (mergeK [] [(Sum.inr ("t" : Str), V.ref nl)])) e = some (.dK [(Sum.inr ("t" : Str), V.ref nl)]) := upd_same
    generalize upd G1 e (.dK (mergeK [] [(Sum.inr ("t" : Str), V.ref nl)])) = G2 at t2 he
    have s02 := s01.trans t2
    have hr2 := t2 _ _ hr1
    have dN : (PyData.list (ns.map PyData.int)).canLay0 = true ∧ (PyData.list (ns.map PyData.int)).depth ≤ 60 := ints_lay ns
    refine ⟨hd, e, _, _, rfl, rfl, Rd.of (t2 _ _ (s1 _ _ hh)), Rd.of he, .cons ⟨rfl, .list (ns.map PyData.int), .lst (t2 _ _ (s1 _ _ hc)) (Reps.ints ns), .lst (s02 _ _ M.hn) (Reps.ints ns), dN.1, dN.2⟩ .nil, _, rfl, iteF ?_⟩
    refine ⟨_, rfl, _, _, _, _, rfl, .dK hr2, isi_same "dict", true, rfl, iteF ?_⟩
    refine ⟨_, rfl, r, _, rfl, hr2, rfl, _, rfl, iteNS rfl ?_⟩
    -- it
    have gi := DGet.k (H := G2) (a := r) (k := Sum.inr ("it" : Str)) hr2
    have gt' := DGet.k (H := G2) (a := r) (k := Sum.inr ("t" : Str)) hr2
    rw [vi] at gi
    rw [vt] at gt'
    refine ⟨_, rfl, r, _, rfl, gi, _, rfl, iteF ?_⟩
    refine ⟨_, rfl, r, _, rfl, gt', _, rfl, iteF ?_⟩
    refine ⟨_, rfl, r, _, rfl, gi, _, rfl, bi, dl, _, rfl, t2 _ _ hbi, s02 _ _ M.hd, fun G3 t3 => ⟨true, rfl, iteF ?_⟩⟩
    have s03 := s02.trans t3
    have hr3 := t3 _ _ hr2
    have hn3 := s03 _ _ M.hn
    -- t
    have gt3 := DGet.k (H := G3) (a := r) (k := Sum.inr ("t" : Str)) hr3
    rw [vt] at gt3
    refine ⟨_, rfl, r, _, rfl, gt3, _, rfl, nl, rfl, ⟨_, SqL.of hn3⟩, fun D hD => ?_⟩
    refine comp_listQ (K := K) (a := nl) (D := D) (xs := ns.map V.int) (fun i ys H2 => Same G3 H2 ∧ H2 D = some (.lst ys) ∧ ys = ((ns.take i).map (· % wh)).map V.int) ⟨same_new hD, upd_same, rfl⟩ (fun i ys H2 ⟨s2, _⟩ => SqL.of (s2 _ _ hn3)) ?_ ?_
    · rintro i x ys H2 hx ⟨s2, hD2, rfl⟩
      obtain ⟨z, hz, rfl⟩ := get_map hx
      have hi : i < ns.length := (List.getElem?_eq_some_iff.mp hz).1
      have : f * m ≤ 9 * 6 := Nat.mul_le_mul M.f9 M.s6
      have lns := M.ln
      refine ⟨⟨rfl, True.intro⟩, _, rfl, _, rfl, _, _, rfl, rfl, wh0, hD2, line_lt (by simp; omega), same_fresh s2 hD, upd_same, ?_⟩
      rw [List.take_add_one, hz, Option.toList_some, List.map_append, List.map_append]
      rfl
    rintro ys G4 ⟨t4, hD4, rfl⟩
    rw [List.length_map, List.take_length] at hD4
    have s04 := s03.trans t4
    refine ⟨bt, D, _, rfl, t4 _ _ (t3 _ _ (t2 _ _ hbt)), hD4, fun G5 t5 => ⟨true, rfl, iteF ?_⟩⟩
    have s05 := s04.trans t5
    have t15 : Same G1 G5 := t2.trans (t3.trans (t4.trans t5))
    -- append, clear
    have hr5 := t15 _ _ hr1
    have gi5 := DGet.k (H := G5) (a := r) (k := Sum.inr ("it" : Str)) hr5
    rw [vi] at gi5
    have b0 : H bi = none := t0.free bi0
    have bt0' : H bt = none := t0.free bt0
    have dlen := due_len (ns := ns) (f := f) (s := m) (tu := tu) (b := b) (a := a) (F := F) (wh := wh) (f * m)
    have : f * m ≤ 9 * 6 := Nat.mul_le_mul M.f9 M.s6
    refine ⟨_, rfl, r, _, rfl, gi5, .inl ⟨rfl, _, SqL.of (t15 _ _ hbi)⟩, bi, _, _, rfl, rfl, t15 _ _ hbi, line_lt (by rw [List.length_map, dlen]; omega), ?_⟩
    have s06 : Same H (upd G5 bi (.lst ((dueP ns f m tu b a F wh (f * m)).map V.int ++ [.int 0]))) := same_fresh s05 b0
    have hr6 : upd G5 bi (.lst ((dueP ns f m tu b a F wh (f * m)).map V.int ++ [.int 0])) r = some (.dK [(Sum.inr ("t" : Str), V.ref bt), (Sum.inr ("it" : Str), V.ref bi)]) := by rw [upd_ne (ne_of hr5 (t15 _ _ hbi) (by intro z; cases z))]; exact hr5
    have hb6 : ∃ xs, upd G5 bi (.lst ((dueP ns f m tu b a F wh (f * m)).map V.int ++ [.int 0])) bt = some (.lst xs) := by
      by_cases z : bt = bi
      · rw [z]; exact ⟨_, upd_same⟩
      · rw [upd_ne z]; exact ⟨_, t15 _ _ hbt⟩
    generalize upd G5 bi (.lst ((dueP ns f m tu b a F wh (f * m)).map V.int ++ [.int 0])) = G6 at s06 hr6 hb6
    obtain ⟨xs, hb6⟩ := hb6
    have gt6 := DGet.k (H := G6) (a := r) (k := Sum.inr ("t" : Str)) hr6
    rw [vt] at gt6
    refine ⟨_, rfl, r, _, rfl, gt6, .inl ⟨rfl, _, SqL.of hb6⟩, bt, _, rfl, rfl, hb6, ?_⟩
    exact k _ (same_fresh s06 bt0')
end
end My

set_option Elab.async false
set_option linter.all false
set_option maxRecDepth 100000
set_option maxHeartbeats 4000000
namespace My
open PySem L2
local macro_rules | `(tactic| walk_at "lk") => `(tactic| first | with_reducible exact lk0 | (refine lk1 (by decide +kernel) ?_; walk_at "lk") | rfl)
def spLaw (K : PySem.W.Frag) : Sp := fun vs H Q _ => ∃ (a : Addr) (ns : List Int), vs = [.ref a] ∧ SqL K H a (ns.map V.int) ∧ ns.length ≤ 63 ∧ ∀ H', Q (.bl true) H'
theorem axs_t {tu : Bool} (h : tu = true) : (axsO tu).map V.str = [.str "v", .str "u"] := by subst h; rfl
theorem axs_f {tu : Bool} (h : ¬ tu = true) : (axsO tu).map V.str = [.str "u", .str "v"] := by
  cases tu
  · rfl
  · exact absurd rfl h
theorem ix_rep {H : Hp} {q1 q2 il : Addr} {x y : Str} {i j : Int} (h1 : H q1 = some (.tup [.str x, .int i])) (h2 : H q2 = some (.tup [.str y, .int j])) (h3 : H il = some (.lst [.ref q1, .ref q2])) : Rep H (.ref il) (encIx [(x, i), (y, j)]) :=
  .lst h3 (.cons (.tup h1 (.cons (.str _) (.cons (.int _) .nil))) (.cons (.tup h2 (.cons (.str _) (.cons (.int _) .nil))) .nil))
theorem made_same {H : Hp} {x dx : Addr} {o1 o2 o3 : HO} (hx : H x = none) (hdx : H dx = none) : Same H (upd (upd (upd H dx o1) x o2) x o3) := same_fresh (same_fresh (same_new hdx) hx) hx
theorem two_new {H : Hp} {q1 q2 il : Addr} {o1 o2 o3 : HO} (h1 : H q1 = none) (h2 : upd H q1 o1 q2 = none) (h3 : upd (upd H q1 o1) q2 o2 il = none) : Same H (upd (upd (upd H q1 o1) q2 o2) il o3) ∧ upd (upd (upd H q1 o1) q2 o2) il o3 q1 = some o1 ∧ upd (upd (upd H q1 o1) q2 o2) il o3 q2 = some o2 ∧ upd (upd (upd H q1 o1) q2 o2) il o3 il = some o3 := by
  have s2 : Same (upd H q1 o1) (upd (upd H q1 o1) q2 o2) := same_new h2
  have s3 : Same (upd (upd H q1 o1) q2 o2) (upd (upd (upd H q1 o1) q2 o2) il o3) := same_new h3
  exact ⟨(same_new h1).trans (s2.trans s3), s3 _ _ (s2 _ _ upd_same), s3 _ _ upd_same, upd_same⟩
theorem nm_ok {x : Str} (h : x = "u" ∨ x = "v" ∨ x = "t" ∨ x = "it") : NmOk x := by
  rcases h with rfl | rfl | rfl | rfl <;> exact ⟨by decide +kernel, by decide +kernel⟩
theorem sm_small {z : Int} (h : z.natAbs ≤ 1000) : Sm z := Nat.le_trans h (by decide)
theorem axO_uv (tu : Bool) : ((axO tu).1 = "u" ∨ (axO tu).1 = "v") ∧ ((axO tu).2 = "u" ∨ (axO tu).2 = "v") := by
  cases tu
  · exact ⟨.inl rfl, .inr rfl⟩
  · exact ⟨.inr rfl, .inl rfl⟩
theorem good_read {a x y : Str} {i j : Int} (ha : NmOk a) (hx : NmOk x) (hy : NmOk y) (hi : Sm i) (hj : Sm j) : Good (.read a [(x, i), (y, j)]) := by
  refine ⟨ha, by simp, fun e he => ?_⟩
  rcases List.mem_cons.mp he with rfl | he
  · exact ⟨hx, hi⟩
  · rw [List.mem_singleton.mp he]; exact ⟨hy, hj⟩
theorem axs_read {a x y : Str} {i j : Int} {A : List Str} (hx : x ∈ A) (hy : y ∈ A) : Axs A (.read a [(x, i), (y, j)]) := fun e he => by
  rcases List.mem_cons.mp he with rfl | he
  · exact .inr hx
  · rw [List.mem_singleton.mp he]; exact .inr hy
theorem uv_mem {x : Str} (h : x = "u" ∨ x = "v") : x ∈ (["u", "v"] : List Str) := by
  rcases h with rfl | rfl
  · exact .head _
  · exact .tail _ (.head _)
theorem term_good {tu : Bool} {f s : Nat} {b a F : Int} (f9 : f ≤ 9) (s6 : s ≤ 6) (b1 : 1 ≤ b) (b3 : b ≤ 3) (a1 : -2 ≤ a) (a2 : a ≤ 2) (hF : BigOk F) : Good (uO tu f s b a F) := by
  obtain ⟨h1, h2⟩ := axO_uv tu
  have n1 : NmOk (axO tu).1 := nm_ok (h1.elim .inl fun h => .inr (.inl h))
  have n2 : NmOk (axO tu).2 := nm_ok (h2.elim .inl fun h => .inr (.inl h))
  have nu := nm_ok (x := "u") (.inl rfl)
  have nv := nm_ok (x := "v") (.inr (.inl rfl))
  have r : Good (.read "t" [((axO tu).1, 0), ((axO tu).2, 0)]) := good_read (nm_ok (.inr (.inr (.inl rfl)))) n1 n2 (sm_small (by decide)) (sm_small (by decide))
  have hF' : Sm F := by
    have h1 := hF.1
    have h2 : F ≤ 10 ^ 32 := hF.2
    have e : ((10 : Int) ^ 32) = (((10 : Nat) ^ 32 : Nat) : Int) := by norm_cast
    rw [e] at h2
    show F.natAbs ≤ 10 ^ 32
    generalize (10 : Nat) ^ 32 = N at h2 ⊢
    omega
  exact ⟨nu, sm_small (by omega), sm_small (by omega), ⟨nv, sm_small (by omega), sm_small (by omega), ⟨r, hF', good_read (nm_ok (.inr (.inr (.inr rfl)))) nu nv (sm_small (by omega)) (sm_small (by omega))⟩, r⟩, r⟩
theorem term_axs {tu : Bool} {f s : Nat} {b a F : Int} : Axs ["u", "v"] (uO tu f s b a F) := by
  obtain ⟨h1, h2⟩ := axO_uv tu
  have r : Axs ["u", "v"] (.read "t" [((axO tu).1, 0), ((axO tu).2, 0)]) := axs_read (uv_mem h1) (uv_mem h2)
  exact ⟨.head _, ⟨.tail _ (.head _), ⟨r, True.intro, axs_read (.head _) (.tail _ (.head _))⟩, r⟩, r⟩
theorem len_uv {f s : Nat} (f1 : 1 ≤ f) (f9 : f ≤ 9) (s1 : 1 ≤ s) (s6 : s ≤ 6) : LenOk ["u", "v"] (lenK (axA f s)) := fun x hx => by
  rcases List.mem_cons.mp hx with rfl | hx
  · rw [ai_of sz_u]; exact ⟨sz_u, by omega, by omega⟩
  · rw [List.mem_singleton.mp hx, ai_of sz_v]; exact ⟨sz_v, by omega, by omega⟩
theorem pow30 : (0 : Int) < 10 ^ (30 : Int).toNat := by decide +kernel
theorem f_big (c : Int) : BigOk (c % 10 ^ (30 : Int).toNat) :=
  ⟨Int.emod_nonneg _ (by decide +kernel), Int.le_trans (Int.le_of_lt (Int.emod_lt_of_pos _ pow30)) (by decide +kernel)⟩
theorem w_ok (c : Int) : WhOk (2 + c % (10 ^ (30 : Int).toNat - 2)) := by
  have h0 : (0 : Int) < 10 ^ (30 : Int).toNat - 2 := by decide +kernel
  have h1 := Int.emod_nonneg c (show (10 ^ (30 : Int).toNat - 2 : Int) ≠ 0 by decide +kernel)
  have h2 := Int.emod_lt_of_pos c h0
  have h3 : (10 ^ (30 : Int).toNat - 2 : Int) ≤ 10 ^ 32 - 2 := by decide +kernel
  refine ⟨by omega, ?_⟩
  generalize c % (10 ^ (30 : Int).toNat - 2) = z at h1 h2 ⊢
  generalize (10 ^ (30 : Int).toNat - 2 : Int) = u at h2 h3
  generalize (10 ^ 32 : Int) = v at h3 ⊢
  omega
section
variable {P : Program} {w : World} {K : PySem.W.Frag} {mg : Str → Option Value} {base : Heap} {t : Adr}
theorem ok_law (T : Txt K mg t) : FnOk P w K mg base CX0 14 t.f_law t.d_law ["_law_script"] (spLaw K) := by
  have G_Guard_init := ok_Guard_init (P := P) (w := w) (base := base) T
  have G_Let_init := ok_Let_init (P := P) (w := w) (base := base) T
  have G_Number_init := ok_Number_init (P := P) (w := w) (base := base) T
  have G_Pair_init := ok_Pair_init (P := P) (w := w) (base := base) T
  have G_Program_init := ok_Program_init (P := P) (w := w) (base := base) T
  have G_Read_init := ok_Read_init (P := P) (w := w) (base := base) T
  have G_l_cell_at := ok_l_cell_at (P := P) (w := w) (base := base) T
  have G_l_due := ok_l_due (P := P) (w := w) (base := base) T
  have G_l_number := ok_l_number (P := P) (w := w) (base := base) T
  have G_l_told := ok_l_told (P := P) (w := w) (base := base) T
  refine T.F_law.ok sc_law (fun vs H Q E h => ?_) (fun cdv A outer s H vs Q E hr h => ?_)
  · obtain ⟨a, ns, rfl, _⟩ := h
    rfl
  · obtain ⟨a, ns, rfl, hS, l63, k⟩ := h
    have hu := hu_of hr
    refine ⟨_, (pss_cons (ps_set (i := 1) sc_law.nd rfl (Or.inl rfl) (pe_op op_add pe_int (pe_op op_mod (pe_call G_l_cell_at (hr.mono (by omega)) rfl T.m_l_cell_at T.F_l_cell_at.kp T.b_l_cell_at .nil pass0 (pa_cons (pv 0) (pa_cons pe_int pa_nil))) pe_int)))
      (pss_cons (ps_set (i := 2) sc_law.nd rfl (Or.inl rfl) (pe_op op_add pe_int (pe_op op_mod (pe_call G_l_cell_at (hr.mono (by omega)) rfl T.m_l_cell_at T.F_l_cell_at.kp T.b_l_cell_at .nil pass0 (pa_cons (pv 0) (pa_cons pe_int pa_nil))) pe_int)))
      (pss_cons (ps_set (i := 3) sc_law.nd rfl (Or.inl rfl) (pe_op op_add pe_int (pe_op op_mod (pe_call G_l_cell_at (hr.mono (by omega)) rfl T.m_l_cell_at T.F_l_cell_at.kp T.b_l_cell_at .nil pass0 (pa_cons (pv 0) (pa_cons pe_int pa_nil))) pe_int)))
      (pss_cons (ps_set (i := 4) sc_law.nd rfl (Or.inl rfl) (pe_op op_sub (pe_op op_mod (pe_call G_l_cell_at (hr.mono (by omega)) rfl T.m_l_cell_at T.F_l_cell_at.kp T.b_l_cell_at .nil pass0 (pa_cons (pv 0) (pa_cons pe_int pa_nil))) pe_int) pe_int))
      (pss_cons (ps_set (i := 5) sc_law.nd rfl (Or.inl rfl) (pe_op op_mod (pe_call G_l_cell_at (hr.mono (by omega)) rfl T.m_l_cell_at T.F_l_cell_at.kp T.b_l_cell_at .nil pass0 (pa_cons (pv 0) (pa_cons pe_int pa_nil))) (pe_op op_pow pe_int pe_int)))
      (pss_cons (ps_set (i := 6) sc_law.nd rfl (Or.inl rfl) (pe_op op_add pe_int (pe_op op_mod (pe_call G_l_cell_at (hr.mono (by omega)) rfl T.m_l_cell_at T.F_l_cell_at.kp T.b_l_cell_at .nil pass0 (pa_cons (pv 0) (pa_cons pe_int pa_nil))) (pe_op op_sub (pe_op op_pow pe_int pe_int) pe_int))))
      (pss_cons (ps_set (i := 7) sc_law.nd rfl (Or.inl rfl) (pe_cmpR op_eq (pe_op op_mod (pe_call G_l_cell_at (hr.mono (by omega)) rfl T.m_l_cell_at T.F_l_cell_at.kp T.b_l_cell_at .nil pass0 (pa_cons (pv 0) (pa_cons pe_int pa_nil))) pe_int) pe_int (nomark _)))
      (pss_cons (ps_set (i := 8) sc_law.nd rfl (Or.inr rfl) (pe_call G_l_cell_at (hr.mono (by omega)) rfl T.m_l_cell_at T.F_l_cell_at.kp T.b_l_cell_at .nil pass0 (pa_cons (pv 0) (pa_cons pe_int pa_nil))))
      (pss_cons (ps_setC (i₀ := 9) (N' := ["_law_k", "_law_script", "_law_seed"]) (ix := (List.replicate 1 none ++ [some 0, some 8])) sc_law.nd rfl (Or.inl rfl) rfl (clok_many (cl := [("_law_seed", _), ("_law_script", _)]) (xs := ["_law_seed", "_law_script"]) rfl ⟨rfl, rfl, trivial⟩ rfl rfl (by decide +kernel) (by decide +kernel)) (ixok_many (N0 := ["_law_k"]) (xs := ["_law_script", "_law_seed"]) (js := [0, 8]) ⟨⟨rfl, Or.inl rfl, (by first | exact Or.inl rfl | exact Or.inr rfl | (simp [relabel]; rfl) | (with_unfolding_all exact Or.inl rfl) | (with_unfolding_all exact Or.inr rfl) | (with_unfolding_all decide))⟩, ⟨rfl, Or.inl rfl, (by first | exact Or.inl rfl | exact Or.inr rfl | (simp [relabel]; rfl) | (with_unfolding_all exact Or.inl rfl) | (with_unfolding_all exact Or.inr rfl) | (with_unfolding_all decide))⟩, trivial⟩) (pi_range1 rfl T.z_range (pa_cons (pe_op op_mul (pv 1) (pv 2)) pa_nil)) (fun _ _ _ _ => (pg_name (i := 0) nd_comp_5 rfl (Or.inl rfl) (Or.inr rfl))) (fun _ _ _ _ => (pe_call G_l_number (hr.mono (by omega)) rfl T.m_l_number T.F_l_number.kp T.b_l_number .nil pass0 (pa_cons (pv 1) (pa_cons (pv 0) (pa_cons (pv 2) pa_nil))))))
      (pss_cons (ps_set (i := 10) sc_law.nd rfl (Or.inl rfl) (pe_lst (pa_cons pe_str (pa_cons pe_str pa_nil))))
      (pss_cut (ps_if (pt_val (pv 7))
        (pss_one (ps_set (i := 10) sc_law.nd rfl (Or.inl rfl) (pe_lst (pa_cons pe_str (pa_cons pe_str pa_nil)))))
        pss_nil)
      (pss_cons (ps_set (i := 11) sc_law.nd rfl (Or.inl rfl) (pe_make T.mk_Read G_Read_init (hr.mono (by omega)) rfl T.m_Read T.b_Read_init .nil pass0 (pa_cons pe_str (pa_cons (pe_lst (pa_cons (pe_tup (pa_cons (pe_ix ix_list (pv 10) pe_int (fun _ _ => rfl)) (pa_cons pe_int pa_nil))) (pa_cons (pe_tup (pa_cons (pe_ix ix_list (pv 10) pe_int (fun _ _ => rfl)) (pa_cons pe_int pa_nil))) pa_nil))) pa_nil))))
      (pss_cons (ps_set (i := 12) sc_law.nd rfl (Or.inl rfl) (pe_make T.mk_Read G_Read_init (hr.mono (by omega)) rfl T.m_Read T.b_Read_init .nil pass0 (pa_cons pe_str (pa_cons (pe_lst (pa_cons (pe_tup (pa_cons pe_str (pa_cons (pe_un un_neg (pv 3)) pa_nil))) (pa_cons (pe_tup (pa_cons pe_str (pa_cons (pe_un un_neg (pv 4)) pa_nil))) pa_nil))) pa_nil))))
      (pss_cons (ps_set (i := 13) sc_law.nd rfl (Or.inl rfl) (pe_make T.mk_Plus G_Pair_init (hr.mono (by omega)) rfl T.m_Plus T.b_Pair_init .nil pass0 (pa_cons (pv 11) (pa_cons (pe_make T.mk_Times G_Pair_init (hr.mono (by omega)) rfl T.m_Times T.b_Pair_init .nil pass0 (pa_cons (pe_make T.mk_Number G_Number_init (hr.mono (by omega)) rfl T.m_Number T.b_Number_init .nil pass0 (pa_cons (pv 5) pa_nil)) (pa_cons (pv 12) pa_nil))) pa_nil))))
      (pss_cons (ps_set (i := 14) sc_law.nd rfl (Or.inl rfl) (pe_make T.mk_Guard G_Guard_init (hr.mono (by omega)) rfl T.m_Guard T.b_Guard_init .nil pass0 (pa_cons pe_str (pa_cons (pv 3) (pa_cons (pv 1) (pa_cons (pe_make T.mk_Guard G_Guard_init (hr.mono (by omega)) rfl T.m_Guard T.b_Guard_init .nil pass0 (pa_cons pe_str (pa_cons (pv 4) (pa_cons (pe_op op_add (pv 2) (pv 4)) (pa_cons (pv 13) (pa_cons (pv 11) pa_nil)))))) (pa_cons (pv 11) pa_nil)))))))
      (pss_cons (ps_set (i := 15) sc_law.nd rfl (Or.inl rfl) (pe_lst (pa_cons (pe_make T.mk_Let G_Let_init (hr.mono (by omega)) rfl T.m_Let T.b_Let_init .nil pass0 (pa_cons pe_str (pa_cons (pe_lst (pa_cons pe_str (pa_cons pe_str pa_nil))) (pa_cons (pv 14) pa_nil)))) pa_nil)))
      (pss_cons (ps_set (i := 16) sc_law.nd rfl (Or.inl rfl) (pe_make T.mk_Program G_Program_init (hr.mono (by omega)) rfl T.m_Program T.b_Program_init .nil pass0 (pa_cons (pv 6) (pa_cons (pe_lst (pa_cons (pe_tup (pa_cons pe_str (pa_cons (pv 2) pa_nil))) (pa_cons (pe_tup (pa_cons pe_str (pa_cons (pv 1) pa_nil))) pa_nil))) (pa_cons (pe_lst (pa_cons (pe_tup (pa_cons pe_str (pa_cons (pv 10) pa_nil))) pa_nil)) (pa_cons (pv 15) (pa_cons (pe_lst (pa_cons pe_str pa_nil)) pa_nil)))))))
      (pss_cons (ps_set (i := 17) sc_law.nd rfl (Or.inl rfl) (pe_call G_l_due (hr.mono (by omega)) rfl T.m_l_due T.F_l_due.kp T.b_l_due .nil pass0 (pa_cons (pv 9) (pa_cons (pe_tup (pa_cons (pv 1) (pa_cons (pv 2) pa_nil))) (pa_cons (pv 7) (pa_cons (pe_tup (pa_cons (pv 3) (pa_cons (pv 4) (pa_cons (pv 5) pa_nil)))) (pa_cons (pv 6) pa_nil)))))))
      (pss_one (ps_ret (pe_and (pe_call G_l_told (hr.mono (by omega)) rfl T.m_l_told T.F_l_told.kp T.b_l_told .nil pass0 (pa_cons (pv 16) (pa_cons (pv 9) (pa_cons (pv 17) (pa_cons (pv 6) pa_nil))))) (pe_one (pe_call G_l_told (hr.mono (by omega)) rfl T.m_l_told T.F_l_told.kp T.b_l_told .nil pass0 (pa_cons (pv 16) (pa_cons (pv 9) (pa_cons (pv 17) (pa_cons (pv 6) pa_nil))))))))))))))))))))))))))), ?_⟩
    refine ⟨_, rfl, a, ns, 0, rfl, hS, by decide, fun c0 => ⟨_, _, rfl, rfl, (by show (0 : Int) < 9; decide), _, _, rfl, rfl, ?_⟩⟩
    refine ⟨_, rfl, a, ns, 1, rfl, hS, by decide, fun c1 => ⟨_, _, rfl, rfl, (by show (0 : Int) < 6; decide), _, _, rfl, rfl, ?_⟩⟩
    refine ⟨_, rfl, a, ns, 2, rfl, hS, by decide, fun c2 => ⟨_, _, rfl, rfl, (by show (0 : Int) < 3; decide), _, _, rfl, rfl, ?_⟩⟩
    refine ⟨_, rfl, a, ns, 3, rfl, hS, by decide, fun c3 => ⟨_, _, rfl, rfl, (by show (0 : Int) < 5; decide), _, _, rfl, rfl, ?_⟩⟩
    refine ⟨_, rfl, a, ns, 4, rfl, hS, by decide, fun c4 => ⟨_, _, rfl, rfl, ⟨by decide, by decide, by decide⟩, _, _, rfl, rfl, pow30, ?_⟩⟩
    refine ⟨_, rfl, a, ns, 5, rfl, hS, by decide, fun c5 => ⟨_, _, rfl, rfl, ⟨by decide, by decide, by decide⟩, _, _, rfl, rfl, _, _, rfl, rfl, (by show (0 : Int) < 10 ^ (30 : Int).toNat - 2; decide +kernel), _, _, rfl, rfl, ?_⟩⟩
    refine ⟨_, rfl, a, ns, 6, rfl, hS, by decide, fun c6 => ⟨_, _, rfl, rfl, (by show (0 : Int) < 2; decide), rfl, ?_⟩⟩
    refine ⟨_, rfl, a, ns, 7, rfl, hS, by decide, fun c7 => ?_⟩
    obtain ⟨f, ef⟩ : ∃ f : Nat, 1 + c0 % 9 = (f : Int) := ⟨(1 + c0 % 9).toNat, by omega⟩
    obtain ⟨m, em⟩ : ∃ m : Nat, 1 + c1 % 6 = (m : Int) := ⟨(1 + c1 % 6).toNat, by omega⟩
    have f1 : 1 ≤ f := by omega
    have f9 : f ≤ 9 := by omega
    have s1 : 1 ≤ m := by omega
    have s6 : m ≤ 6 := by omega
    have fm : f * m ≤ 9 * 6 := Nat.mul_le_mul f9 s6
    have efm : (1 + c0 % 9) * (1 + c1 % 6) = ((f * m : Nat) : Int) := by rw [ef, em, Int.natCast_mul]
    have efn : ((1 + c0 % 9) * (1 + c1 % 6)).toNat = f * m := by rw [efm, Int.toNat_natCast]
    -- the numbers
    refine ⟨_, rfl, _, rfl, _, _, rfl, rfl, .inl ⟨by show -(2 ^ 64) < 1 + c0 % 9; omega, by show 1 + c0 % 9 < 2 ^ 64; omega⟩, _, rfl, (by show -(2 ^ 62) ≤ (1 + c0 % 9) * (1 + c1 % 6); omega), (by show (1 + c0 % 9) * (1 + c1 % 6) < 2 ^ 62; omega), fun D hD => ?_⟩
    refine comp_genQ (J := Itr 0 ((1 + c0 % 9) * (1 + c1 % 6)).toNat) (D := D) ((1 + c0 % 9) * (1 + c1 % 6)).toNat (fun i ys Hx => Same H Hx ∧ Hx D = some (.lst ys) ∧ ∃ zs : List Int, ys = zs.map V.int ∧ zs.length = i) ⟨same_new hD, upd_same, [], rfl, rfl⟩ (fun i ys Hx hi _ => hi) (fun ys Hx _ => Nat.le_refl _) ?_ ?_
    · rintro i ys Hx hi ⟨sx, hDx, zs, rfl, lz⟩ x Hy ⟨rfl, rfl⟩
      rw [Int.zero_add]
      refine ⟨⟨rfl, rfl, True.intro⟩, _, rfl, _, rfl, _, rfl, a, ns, (i : Int), c7, rfl, sx.seq hS, by omega, by omega, fun z => ⟨hDx, line_lt (by rw [List.length_map]; omega), same_fresh sx hD, upd_same, zs ++ [z], by rw [List.map_append]; rfl, by simp [lz]⟩⟩
    rintro ys Hx ⟨sx, hDx, zs, rfl, lz⟩
    have ln : zs.length = f * m := by rw [lz, efn]
    -- the axes
    refine ⟨line_le (by simp), fun al0 hal0 => ?_⟩
    refine ⟨fun σ' H' => ∃ (tu : Bool) (al : Addr), σ' = [some (.ref a), some (.int (1 + c0 % 9)), some (.int (1 + c1 % 6)), some (.int (1 + c2 % 3)), some (.int (c3 % 5 - 2)), some (.int (c4 % 10 ^ (30 : Int).toNat)), some (.int (2 + c5 % (10 ^ (30 : Int).toNat - 2))), some (.bl tu), some (.int c7), some (.ref D), some (.ref al), none, none, none, none, none, none, none] ∧ Same Hx H' ∧ H' al = some (.lst ((axsO tu).map V.str)), ?_, ?_⟩
    · refine ⟨_, rfl, _, rfl, ite2 (fun ht => ?_) (fun ht => ?_)⟩
      · refine ⟨line_le (by simp), fun al h => ⟨_, al, rfl, (same_new hal0).trans (same_new h), ?_⟩⟩
        rw [axs_t ht]
        exact upd_same
      · refine ⟨_, al0, rfl, same_new hal0, ?_⟩
        rw [axs_f ht]
        exact upd_same
    rintro σ' G ⟨tu, al, rfl, sG, hal⟩
    have b1 : 1 ≤ 1 + c2 % 3 := by omega
    have b3 : 1 + c2 % 3 ≤ 3 := by omega
    have a1 : -2 ≤ c3 % 5 - 2 := by omega
    have a2 : c3 % 5 - 2 ≤ 2 := by omega
    have hF := f_big c4
    have hW := w_ok c5
    rw [ef, em]
    generalize 1 + c2 % 3 = b at b1 b3 ⊢
    generalize c3 % 5 - 2 = d at a1 a2 ⊢
    generalize c4 % 10 ^ (30 : Int).toNat = F at hF ⊢
    generalize 2 + c5 % (10 ^ (30 : Int).toNat - 2) = wh at hW ⊢
    have hDG := sG _ _ hDx
    have e0 : atI ((axsO tu).map V.str) 0 = some (.str (axO tu).1) := atI_nat (j := 0) rfl
    have e1 : atI ((axsO tu).map V.str) 1 = some (.str (axO tu).2) := atI_nat (j := 1) rfl
    -- there
    refine ⟨_, rfl, al, _, _, _, rfl, rfl, SqL.of hal, e0, line_le (by simp), fun q1 hq1 => ⟨_, rfl, al, _, _, _, rfl, rfl, SqL.of ((same_new hq1) _ _ hal), e1, line_le (by simp), fun q2 hq2 => ⟨line_le (by simp), fun il hil x1 dx1 hx1 hdx1 hne1 => ?_⟩⟩⟩
    obtain ⟨u1, g1, g2, g3⟩ := two_new (o3 := .lst [.ref q1, .ref q2]) hq1 hq2 hil
    generalize upd (upd (upd G q1 (.tup [.str (axO tu).1, .int 0])) q2 (.tup [.str (axO tu).2, .int 0])) il (.lst [.ref q1, .ref q2]) = G1 at u1 g1 g2 g3 hx1 hdx1 ⊢
    have u2 : Same G1 (upd (upd G1 dx1 (.own x1)) x1 (.ins t.C_Read dx1 [])) := same_fresh (same_new hdx1) hx1
    refine ⟨x1, dx1, il, "t", [((axO tu).1, 0), ((axO tu).2, 0)], rfl, upd_same, (ix_rep g1 g2 g3).same u2, by simp, fun l1 G2 hx2 rp2 kb2 => ⟨rfl, ?_⟩⟩
    have v2 : Same G1 G2 := KB.same u2 kb2 hx1
    have w2 := u1.trans v2
    have ob1 : Ob t G2 (.ref x1) (.read "t" [((axO tu).1, 0), ((axO tu).2, 0)]) := .read hx2 rp2
    -- own
    refine ⟨_, rfl, _, rfl, line_le (by simp), fun r1 hr1 => ⟨_, rfl, _, rfl, line_le (by simp), fun r2 hr2 => ⟨line_le (by simp), fun jl hjl x2 dx2 hx2 hdx2 hne2 => ?_⟩⟩⟩
    obtain ⟨u3, g1, g2, g3⟩ := two_new (o3 := .lst [.ref r1, .ref r2]) hr1 hr2 hjl
    generalize upd (upd (upd G2 r1 (.tup [.str "u", .int (-b)])) r2 (.tup [.str "v", .int (-d)])) jl (.lst [.ref r1, .ref r2]) = G3 at u3 g1 g2 g3 hx2 hdx2 ⊢
    have u4 : Same G3 (upd (upd G3 dx2 (.own x2)) x2 (.ins t.C_Read dx2 [])) := same_fresh (same_new hdx2) hx2
    refine ⟨x2, dx2, jl, "it", [("u", -b), ("v", -d)], rfl, upd_same, (ix_rep g1 g2 g3).same u4, by simp, fun l2 G4 hx4 rp4 kb4 => ⟨rfl, ?_⟩⟩
    have v4 : Same G2 G4 := u3.trans (KB.same u4 kb4 hx2)
    have ob2 : Ob t G4 (.ref x2) (.read "it" [("u", -b), ("v", -d)]) := .read hx4 rp4
    -- more
    refine ⟨_, rfl, _, rfl, fun n1 dn hn1 hdn hne3 => ⟨n1, _, dn, _, rfl, upd_same, T.cl_Number, T.na_Number_number, rfl, ?_⟩⟩
    have v5 := made_same (H := G4) (o1 := .own n1) (o2 := .ins t.C_Number dn []) (o3 := .ins t.C_Number dn [("number", .int F)]) hn1 hdn
    have h5 : upd (upd (upd G4 dn (.own n1)) n1 (.ins t.C_Number dn [])) n1 (.ins t.C_Number dn [("number", .int F)]) n1 = some (.ins t.C_Number dn [("number", .int F)]) := upd_same
    generalize upd (upd (upd G4 dn (.own n1)) n1 (.ins t.C_Number dn [])) n1 (.ins t.C_Number dn [("number", .int F)]) = G5 at v5 h5 ⊢
    have ob3 : Ob t G5 (.ref n1) (.num F) := .num h5
    refine ⟨_, rfl, fun n2 dn hn2 hdn hne4 => ⟨n2, _, dn, _, _, rfl, upd_same, T.cl_Times, T.na_Times_left, T.na_Times_right, rfl, ?_⟩⟩
    have v6 := made_same (H := G5) (o1 := .own n2) (o2 := .ins t.C_Times dn []) (o3 := .ins t.C_Times dn [("left", .ref n1), ("right", .ref x2)]) hn2 hdn
    have h6 : upd (upd (upd G5 dn (.own n2)) n2 (.ins t.C_Times dn [])) n2 (.ins t.C_Times dn [("left", .ref n1), ("right", .ref x2)]) n2 = some (.ins t.C_Times dn [("left", .ref n1), ("right", .ref x2)]) := upd_same
    generalize upd (upd (upd G5 dn (.own n2)) n2 (.ins t.C_Times dn [])) n2 (.ins t.C_Times dn [("left", .ref n1), ("right", .ref x2)]) = G6 at v6 h6 ⊢
    have ob4 : Ob t G6 (.ref n2) (.pair .times (.num F) (.read "it" [("u", -b), ("v", -d)])) := .pair (k := .times) (by intro z; cases z) h6 (ob3.imp v6) (ob2.imp (v5.trans v6))
    refine fun n3 dn hn3 hdn hne5 => ⟨n3, _, dn, _, _, rfl, upd_same, T.cl_Plus, T.na_Plus_left, T.na_Plus_right, rfl, ?_⟩
    have v7 := made_same (H := G6) (o1 := .own n3) (o2 := .ins t.C_Plus dn []) (o3 := .ins t.C_Plus dn [("left", .ref x1), ("right", .ref n2)]) hn3 hdn
    have h7 : upd (upd (upd G6 dn (.own n3)) n3 (.ins t.C_Plus dn [])) n3 (.ins t.C_Plus dn [("left", .ref x1), ("right", .ref n2)]) n3 = some (.ins t.C_Plus dn [("left", .ref x1), ("right", .ref n2)]) := upd_same
    generalize upd (upd (upd G6 dn (.own n3)) n3 (.ins t.C_Plus dn [])) n3 (.ins t.C_Plus dn [("left", .ref x1), ("right", .ref n2)]) = G7 at v7 h7 ⊢
    have v27 := v4.trans (v5.trans (v6.trans v7))
    have ob5 : Ob t G7 (.ref n3) (.pair .plus (.read "t" [((axO tu).1, 0), ((axO tu).2, 0)]) (.pair .times (.num F) (.read "it" [("u", -b), ("v", -d)]))) := .pair (k := .plus) (by intro z; cases z) h7 (ob1.imp v27) (ob4.imp v7)
    -- the term
    refine ⟨_, rfl, _, rfl, _, rfl, _, rfl, _, rfl, _, _, rfl, rfl, _, rfl, _, rfl, fun n4 dn hn4 hdn hne6 => ⟨n4, dn, _, _, _, _, _, rfl, upd_same, rfl, ?_⟩⟩
    have v8 := made_same (H := G7) (o1 := .own n4) (o2 := .ins t.C_Guard dn []) (o3 := .ins t.C_Guard dn [("axis", .str "v"), ("low", .int d), ("high", .int ((m : Int) + d)), ("inner", .ref n3), ("outer", .ref x1)]) hn4 hdn
    have h8 : upd (upd (upd G7 dn (.own n4)) n4 (.ins t.C_Guard dn [])) n4 (.ins t.C_Guard dn [("axis", .str "v"), ("low", .int d), ("high", .int ((m : Int) + d)), ("inner", .ref n3), ("outer", .ref x1)]) n4 = some (.ins t.C_Guard dn [("axis", .str "v"), ("low", .int d), ("high", .int ((m : Int) + d)), ("inner", .ref n3), ("outer", .ref x1)]) := upd_same
    generalize upd (upd (upd G7 dn (.own n4)) n4 (.ins t.C_Guard dn [])) n4 (.ins t.C_Guard dn [("axis", .str "v"), ("low", .int d), ("high", .int ((m : Int) + d)), ("inner", .ref n3), ("outer", .ref x1)]) = G8 at v8 h8 ⊢
    have v28 := v27.trans v8
    have ob6 : Ob t G8 (.ref n4) (.guard "v" d ((m : Int) + d) (.pair .plus (.read "t" [((axO tu).1, 0), ((axO tu).2, 0)]) (.pair .times (.num F) (.read "it" [("u", -b), ("v", -d)]))) (.read "t" [((axO tu).1, 0), ((axO tu).2, 0)])) := .guard h8 (ob5.imp v8) (ob1.imp v28)
    refine ⟨_, rfl, fun n5 dn hn5 hdn hne7 => ⟨n5, dn, _, _, _, _, _, rfl, upd_same, rfl, ?_⟩⟩
    have v9 := made_same (H := G8) (o1 := .own n5) (o2 := .ins t.C_Guard dn []) (o3 := .ins t.C_Guard dn [("axis", .str "u"), ("low", .int b), ("high", .int (f : Int)), ("inner", .ref n4), ("outer", .ref x1)]) hn5 hdn
    have h9 : upd (upd (upd G8 dn (.own n5)) n5 (.ins t.C_Guard dn [])) n5 (.ins t.C_Guard dn [("axis", .str "u"), ("low", .int b), ("high", .int (f : Int)), ("inner", .ref n4), ("outer", .ref x1)]) n5 = some (.ins t.C_Guard dn [("axis", .str "u"), ("low", .int b), ("high", .int (f : Int)), ("inner", .ref n4), ("outer", .ref x1)]) := upd_same
    generalize upd (upd (upd G8 dn (.own n5)) n5 (.ins t.C_Guard dn [])) n5 (.ins t.C_Guard dn [("axis", .str "u"), ("low", .int b), ("high", .int (f : Int)), ("inner", .ref n4), ("outer", .ref x1)]) = G9 at v9 h9 ⊢
    have v29 := v28.trans v9
    have ob7 : Ob t G9 (.ref n5) (uO tu f m b d F) := .guard h9 (ob6.imp v9) (ob1.imp v29)
    -- the let
    refine ⟨line_le (by simp), fun ul hul => ⟨_, rfl, fun lt dt hlt hdt hne8 => ?_⟩⟩
    have u10 : Same G9 (upd G9 ul (.lst [.str "u", .str "v"])) := same_new hul
    have hul' : upd G9 ul (.lst [.str "u", .str "v"]) ul = some (.lst ((["u", "v"] : List Str).map V.str)) := upd_same
    generalize upd G9 ul (.lst [.str "u", .str "v"]) = Ga at u10 hul' hlt hdt ⊢
    have u11 : Same Ga (upd (upd Ga dt (.own lt)) lt (.ins t.C_Let dt [])) := same_fresh (same_new hdt) hlt
    refine ⟨lt, dt, ul, _, "it", ["u", "v"], rfl, upd_same, u11 _ _ hul', by simp, fun c' Gb hc0 hlt' hcc kb' => ⟨rfl, line_le (by simp), fun ll hll => ?_⟩⟩
    have v11 : Same G9 Gb := u10.trans (KB.same u11 kb' hlt)
    have v12 : Same Gb (upd Gb ll (.lst [.ref lt])) := same_new hll
    have hll' : upd Gb ll (.lst [.ref lt]) ll = some (.lst [.ref lt]) := upd_same
    generalize upd Gb ll (.lst [.ref lt]) = Gc at v12 hll' ⊢
    have v9c := v11.trans v12
    have v0c : Same G Gc := w2.trans (v29.trans v9c)
    have lok : LetOk t (axA f m) Gc (.ref lt) (ldO tu f m b d F) := ⟨lt, dt, c', .ref n5, rfl, v12 _ _ hlt', v12 _ _ hcc, ob7.imp v9c, term_good f9 s6 b1 b3 a1 a2 hF, (by show 5 ≤ 6; decide), ⟨_, term_axs, len_uv f1 f9 s1 s6⟩, .cons sz_u (.cons sz_v .nil), good_fs f1 f9 s1 (by omega)⟩
    -- the program
    refine ⟨_, rfl, _, rfl, line_le (by simp), fun p1 hp1 => ⟨_, rfl, line_le (by simp), fun p2 hp2 => ⟨line_le (by simp), fun pl hpl => ?_⟩⟩⟩
    obtain ⟨v13, k1, k2, k3⟩ := two_new (o3 := .lst [.ref p1, .ref p2]) hp1 hp2 hpl
    generalize upd (upd (upd Gc p1 (.tup [.str "v", .int (m : Int)])) p2 (.tup [.str "u", .int (f : Int)])) pl (.lst [.ref p1, .ref p2]) = Gd at v13 k1 k2 k3 ⊢
    refine ⟨_, rfl, line_le (by simp), fun p3 hp3 => ⟨line_le (by simp), fun tl htl => ?_⟩⟩
    have v14 : Same Gd (upd Gd p3 (.tup [.str "t", .ref al])) := same_new hp3
    have v15 : Same (upd Gd p3 (.tup [.str "t", .ref al])) (upd (upd Gd p3 (.tup [.str "t", .ref al])) tl (.lst [.ref p3])) := same_new htl
    have k4 : upd (upd Gd p3 (.tup [.str "t", .ref al])) tl (.lst [.ref p3]) p3 = some (.tup [.str "t", .ref al]) := v15 _ _ upd_same
    have k5 : upd (upd Gd p3 (.tup [.str "t", .ref al])) tl (.lst [.ref p3]) tl = some (.lst [.ref p3]) := upd_same
    have v16 := v14.trans v15
    generalize upd (upd Gd p3 (.tup [.str "t", .ref al])) tl (.lst [.ref p3]) = Ge at v16 k4 k5 ⊢
    clear v14 v15
    refine ⟨_, rfl, line_le (by simp), fun ol hol p dp hp hdp hne9 => ?_⟩
    have v17 : Same Ge (upd Ge ol (.lst [.str "it"])) := same_new hol
    have k6 : upd Ge ol (.lst [.str "it"]) ol = some (.lst ((["it"] : List Str).map V.str)) := upd_same
    generalize upd Ge ol (.lst [.str "it"]) = Gf at v17 k6 hp hdp ⊢
    have v18 : Same Gf (upd (upd Gf dp (.own p)) p (.ins t.C_Program dp [])) := same_fresh (same_new hdp) hp
    have vd := v16.trans (v17.trans v18)
    have vc := v13.trans vd
    have hltp : lt ≠ p := ne_of_none (v17 _ _ (v16 _ _ (v13 _ _ (v12 _ _ hlt')))) hp
    refine ⟨p, dp, pl, tl, ll, ol, wh, axA f m, [("t", axsO tu)], [.ref lt], ["it"], rfl, upd_same, (ix_rep k1 k2 k3).same vd, by simp, .lst ((v17.trans v18) _ _ k5) (.cons (T_rep ((v17.trans v18) _ _ k4) ((v0c.trans vc) _ _ hal)) .nil), by simp, (by intro e he; rw [List.mem_singleton.mp he]; show (2 : Nat) ≤ 10; decide), vc _ _ hll', by simp, (by intro x hx; rw [List.mem_singleton.mp hx]; exact ⟨lt, dt, _, rfl, hltp, vc _ _ (v12 _ _ hlt')⟩), v18 _ _ k6, by simp, fun a' t' l' o' Gg hpg ra rt hl' ho' kbg => ⟨rfl, ?_⟩⟩
    have v19 : Same Gf Gg := KB.same v18 kbg hp
    have vcg : Same Gc Gg := v13.trans (v16.trans (v17.trans v19))
    have v0g := v0c.trans vcg
    -- what is due
    refine ⟨_, rfl, _, rfl, _, rfl, line_le (by simp), fun z1 hz1 => ⟨_, rfl, _, rfl, _, rfl, _, rfl, line_le (by simp), fun z2 hz2 => ?_⟩⟩
    have v20 : Same Gg (upd Gg z1 (.tup [.int (f : Int), .int (m : Int)])) := same_new hz1
    have v21 : Same (upd Gg z1 (.tup [.int (f : Int), .int (m : Int)])) (upd (upd Gg z1 (.tup [.int (f : Int), .int (m : Int)])) z2 (.tup [.int b, .int d, .int F])) := same_new hz2
    have k7 := v21 _ _ (upd_same (H := Gg) (a := z1) (o := .tup [.int (f : Int), .int (m : Int)]))
    have k8 : upd (upd Gg z1 (.tup [.int (f : Int), .int (m : Int)])) z2 (.tup [.int b, .int d, .int F]) z2 = some (.tup [.int b, .int d, .int F]) := upd_same
    have v22 := v20.trans v21
    generalize upd (upd Gg z1 (.tup [.int (f : Int), .int (m : Int)])) z2 (.tup [.int b, .int d, .int F]) = Gh at v22 k7 k8 ⊢
    clear v20 v21
    refine ⟨_, rfl, D, z1, z2, zs, f, m, tu, b, d, F, wh, rfl, v22 _ _ (v0g _ _ hDG), k7, k8, ln, f9, s6, b1, b3, hF, hW, fun dl Gi hdl0 v23 hdl => ?_⟩
    have vgi := v22.trans v23
    have M : Made t Gi p D dl zs f m tu b d F wh := ⟨⟨[.ref lt], PrAt.same ⟨dp, a', t', l', o', hpg, ra, rt, hl', ho'⟩ vgi, .cons (lok.same (vcg.trans vgi)) .nil⟩, (v0g.trans vgi) _ _ hDG, hdl, ln, f1, f9, s1, s6, b1, hW⟩
    refine ⟨_, rfl, _, rfl, _, rfl, _, rfl, p, D, dl, zs, f, m, tu, b, d, F, wh, rfl, M, fun G1' w1 => ⟨true, rfl, iteT ?_⟩⟩
    exact ⟨_, rfl, _, rfl, _, rfl, _, rfl, p, D, dl, zs, f, m, tu, b, d, F, wh, rfl, M.same w1, fun G2' _ => k _⟩
end
end My

set_option Elab.async false
set_option linter.all false
set_option maxRecDepth 100000
set_option maxHeartbeats 4000000
/-! The head lays a twin of each constant that it meets, and of the largest ones its equation is quadratic in the constants within (some 30 MB). A constant that bears the twin's name already keeps it from laying that one. -/
def PySem.W.Fast.tw12249592708938724017 : Unit := ()
def PySem.W.Fast.tw5327592359899304477 : Unit := ()
def PySem.W.Fast.tw5255585628865237187 : Unit := ()
def PySem.W.Fast.tw1626451026583563279 : Unit := ()
def PySem.W.Fast.tw12298156465679112852 : Unit := ()
def PySem.W.Fast.tw15593250989134118769 : Unit := ()
def PySem.W.Fast.tw2364970634560663087 : Unit := ()
def PySem.W.Fast.tw2771091745223330740 : Unit := ()
def PySem.W.Fast.tw7962745346371484222 : Unit := ()
def PySem.W.Fast.tw17499245641284305335 : Unit := ()
def PySem.W.Fast.tw8520260545793190072 : Unit := ()
def PySem.W.Fast.tw17632223128318369721 : Unit := ()
def PySem.W.Fast.tw11335482669807087363 : Unit := ()
def PySem.W.Fast.tw13792738509519148029 : Unit := ()
def PySem.W.Fast.tw16928513464293039206 : Unit := ()
def PySem.W.Fast.tw18390543825913615961 : Unit := ()
def PySem.W.Fast.tw1449815039416190653 : Unit := ()
def PySem.W.Fast.tw5787643316813423902 : Unit := ()
def PySem.W.Fast.tw17665671522681123890 : Unit := ()
def PySem.W.Fast.tw858256874374609853 : Unit := ()
def PySem.W.Fast.tw9121557516412220324 : Unit := ()
def PySem.W.Fast.tw9663540157628733265 : Unit := ()
def PySem.W.Fast.tw5481275291049765499 : Unit := ()
def PySem.W.Fast.tw15596132967039872292 : Unit := ()
def PySem.W.Fast.tw14913222690908267069 : Unit := ()
def PySem.W.Fast.tw3698690340111027352 : Unit := ()
def PySem.W.Fast.tw12865011467526065253 : Unit := ()
def PySem.W.Fast.tw12004996674861091023 : Unit := ()
def PySem.W.Fast.tw6726070806878631584 : Unit := ()
def PySem.W.Fast.tw18134589877641177342 : Unit := ()
def PySem.W.Fast.tw5078127979342037466 : Unit := ()
def PySem.W.Fast.tw6043404434394161371 : Unit := ()
def PySem.W.Fast.tw2260846057444515641 : Unit := ()
def PySem.W.Fast.tw14261982394587633257 : Unit := ()
namespace My
open PySem L2
theorem all_mk {l : PySem.W.OpenLaw} {w : World} {K : PySem.W.Frag} {h : Heap} {mg : Str → Option Value} {fa : Addr} (X : K.In h) (G : h.Ns mainGlobals mg) (hfa : mg "law" = some (.ref fa))
    {C_LoomError C_NoTable C_Let C_Program C_World C_Term C_Number C_Read C_Pair C_Plus C_Times C_Guard C_GrowingWorld : Addr}
    (aC_LoomError : PySem.W.nsIn K mainGlobals "LoomError" = some (some (.ref C_LoomError)))
    (aC_NoTable : PySem.W.nsIn K mainGlobals "NoTable" = some (some (.ref C_NoTable)))
    (aC_Let : PySem.W.nsIn K mainGlobals "Let" = some (some (.ref C_Let)))
    (aC_Program : PySem.W.nsIn K mainGlobals "Program" = some (some (.ref C_Program)))
    (aC_World : PySem.W.nsIn K mainGlobals "World" = some (some (.ref C_World)))
    (aC_Term : PySem.W.nsIn K mainGlobals "Term" = some (some (.ref C_Term)))
    (aC_Number : PySem.W.nsIn K mainGlobals "Number" = some (some (.ref C_Number)))
    (aC_Read : PySem.W.nsIn K mainGlobals "Read" = some (some (.ref C_Read)))
    (aC_Pair : PySem.W.nsIn K mainGlobals "Pair" = some (some (.ref C_Pair)))
    (aC_Plus : PySem.W.nsIn K mainGlobals "Plus" = some (some (.ref C_Plus)))
    (aC_Times : PySem.W.nsIn K mainGlobals "Times" = some (some (.ref C_Times)))
    (aC_Guard : PySem.W.nsIn K mainGlobals "Guard" = some (some (.ref C_Guard)))
    (aC_GrowingWorld : PySem.W.nsIn K mainGlobals "GrowingWorld" = some (some (.ref C_GrowingWorld)))
    {f0 : Addr} {od0 an0 : Option Addr} {sl0 : Array (Option Value)} {oc0 kV0 dc0 pm0 cd0 ct0 : Value}
    (a0 : PySem.W.nsIn K mainGlobals "cells_of" = some (some (.ref f0)))
    (l0 : K.lookup f0 = some ⟨oc0, od0, .func (PySem.W.fnOf "cells_of" "cells_of" (defArgs s_cells_of) (defBody s_cells_of) (defScope s_cells_of) .none kV0 dc0 pm0 an0 cd0 ct0), sl0⟩)
    (c0 : PySem.W.codeIn K cd0 "cells_of" = true)
    (k0 : PySem.W.keepIn K (.ref f0) = true)
    {f1 : Addr} {od1 an1 : Option Addr} {sl1 : Array (Option Value)} {oc1 kV1 dc1 pm1 cd1 ct1 : Value}
    (a1 : PySem.W.nsIn K mainGlobals "lengthened" = some (some (.ref f1)))
    (l1 : K.lookup f1 = some ⟨oc1, od1, .func (PySem.W.fnOf "lengthened" "lengthened" (defArgs s_lengthened) (defBody s_lengthened) (defScope s_lengthened) .none kV1 dc1 pm1 an1 cd1 ct1), sl1⟩)
    (c1 : PySem.W.codeIn K cd1 "lengthened" = true)
    (k1 : PySem.W.keepIn K (.ref f1) = true)
    {f2 : Addr} {od2 an2 : Option Addr} {sl2 : Array (Option Value)} {oc2 kV2 dc2 pm2 cd2 ct2 : Value}
    (a2 : PySem.W.nsIn K mainGlobals "copied" = some (some (.ref f2)))
    (l2 : K.lookup f2 = some ⟨oc2, od2, .func (PySem.W.fnOf "copied" "copied" (defArgs s_copied) (defBody s_copied) (defScope s_copied) .none kV2 dc2 pm2 an2 cd2 ct2), sl2⟩)
    (c2 : PySem.W.codeIn K cd2 "copied" = true)
    (k2 : PySem.W.keepIn K (.ref f2) = true)
    {f3 : Addr} {od3 an3 : Option Addr} {sl3 : Array (Option Value)} {oc3 kV3 dc3 pm3 cd3 ct3 : Value}
    (a3 : PySem.W.nsIn K mainGlobals "copied_dict" = some (some (.ref f3)))
    (l3 : K.lookup f3 = some ⟨oc3, od3, .func (PySem.W.fnOf "copied_dict" "copied_dict" (defArgs s_copied_dict) (defBody s_copied_dict) (defScope s_copied_dict) .none kV3 dc3 pm3 an3 cd3 ct3), sl3⟩)
    (c3 : PySem.W.codeIn K cd3 "copied_dict" = true)
    (k3 : PySem.W.keepIn K (.ref f3) = true)
    {f4 : Addr} {od4 an4 : Option Addr} {sl4 : Array (Option Value)} {oc4 kV4 dc4 pm4 cd4 ct4 : Value}
    (a4 : PySem.W.findIn K (.ref C_Let) "__init__" = some (some (.ref f4)))
    (l4 : K.lookup f4 = some ⟨oc4, od4, .func (PySem.W.fnOf "__init__" "Let.__init__" (defArgs s_Let_init) (defBody s_Let_init) (defScope s_Let_init) .none kV4 dc4 pm4 an4 cd4 ct4), sl4⟩)
    (c4 : PySem.W.codeIn K cd4 "Let.__init__" = true)
    (k4 : PySem.W.keepIn K (.ref f4) = true)
    (i4 : PySem.W.isFn K (.ref f4) = true)
    {f5 : Addr} {od5 an5 : Option Addr} {sl5 : Array (Option Value)} {oc5 kV5 dc5 pm5 cd5 ct5 : Value}
    (a5 : PySem.W.findIn K (.ref C_Program) "__init__" = some (some (.ref f5)))
    (l5 : K.lookup f5 = some ⟨oc5, od5, .func (PySem.W.fnOf "__init__" "Program.__init__" (defArgs s_Program_init) (defBody s_Program_init) (defScope s_Program_init) .none kV5 dc5 pm5 an5 cd5 ct5), sl5⟩)
    (c5 : PySem.W.codeIn K cd5 "Program.__init__" = true)
    (k5 : PySem.W.keepIn K (.ref f5) = true)
    (i5 : PySem.W.isFn K (.ref f5) = true)
    {f6 : Addr} {od6 an6 : Option Addr} {sl6 : Array (Option Value)} {oc6 kV6 dc6 pm6 cd6 ct6 : Value}
    (a6 : PySem.W.nsIn K mainGlobals "table_names" = some (some (.ref f6)))
    (l6 : K.lookup f6 = some ⟨oc6, od6, .func (PySem.W.fnOf "table_names" "table_names" (defArgs s_table_names) (defBody s_table_names) (defScope s_table_names) .none kV6 dc6 pm6 an6 cd6 ct6), sl6⟩)
    (c6 : PySem.W.codeIn K cd6 "table_names" = true)
    (k6 : PySem.W.keepIn K (.ref f6) = true)
    {f7 : Addr} {od7 an7 : Option Addr} {sl7 : Array (Option Value)} {oc7 kV7 dc7 pm7 cd7 ct7 : Value}
    (a7 : PySem.W.nsIn K mainGlobals "lengths_of" = some (some (.ref f7)))
    (l7 : K.lookup f7 = some ⟨oc7, od7, .func (PySem.W.fnOf "lengths_of" "lengths_of" (defArgs s_lengths_of) (defBody s_lengths_of) (defScope s_lengths_of) .none kV7 dc7 pm7 an7 cd7 ct7), sl7⟩)
    (c7 : PySem.W.codeIn K cd7 "lengths_of" = true)
    (k7 : PySem.W.keepIn K (.ref f7) = true)
    {f8 : Addr} {od8 an8 : Option Addr} {sl8 : Array (Option Value)} {oc8 kV8 dc8 pm8 cd8 ct8 : Value}
    (a8 : PySem.W.nsIn K mainGlobals "lengths_along" = some (some (.ref f8)))
    (l8 : K.lookup f8 = some ⟨oc8, od8, .func (PySem.W.fnOf "lengths_along" "lengths_along" (defArgs s_lengths_along) (defBody s_lengths_along) (defScope s_lengths_along) .none kV8 dc8 pm8 an8 cd8 ct8), sl8⟩)
    (c8 : PySem.W.codeIn K cd8 "lengths_along" = true)
    (k8 : PySem.W.keepIn K (.ref f8) = true)
    {f9 : Addr} {od9 an9 : Option Addr} {sl9 : Array (Option Value)} {oc9 kV9 dc9 pm9 cd9 ct9 : Value}
    (a9 : PySem.W.nsIn K mainGlobals "cells_along" = some (some (.ref f9)))
    (l9 : K.lookup f9 = some ⟨oc9, od9, .func (PySem.W.fnOf "cells_along" "cells_along" (defArgs s_cells_along) (defBody s_cells_along) (defScope s_cells_along) .none kV9 dc9 pm9 an9 cd9 ct9), sl9⟩)
    (c9 : PySem.W.codeIn K cd9 "cells_along" = true)
    (k9 : PySem.W.keepIn K (.ref f9) = true)
    {f10 : Addr} {od10 an10 : Option Addr} {sl10 : Array (Option Value)} {oc10 kV10 dc10 pm10 cd10 ct10 : Value}
    (a10 : PySem.W.findIn K (.ref C_World) "__init__" = some (some (.ref f10)))
    (l10 : K.lookup f10 = some ⟨oc10, od10, .func (PySem.W.fnOf "__init__" "World.__init__" (defArgs s_World_init) (defBody s_World_init) (defScope s_World_init) .none kV10 dc10 pm10 an10 cd10 ct10), sl10⟩)
    (c10 : PySem.W.codeIn K cd10 "World.__init__" = true)
    (k10 : PySem.W.keepIn K (.ref f10) = true)
    (i10 : PySem.W.isFn K (.ref f10) = true)
    {f11 : Addr} {od11 an11 : Option Addr} {sl11 : Array (Option Value)} {oc11 kV11 dc11 pm11 cd11 ct11 : Value}
    (a11 : PySem.W.findIn K (.ref C_Number) "__init__" = some (some (.ref f11)))
    (l11 : K.lookup f11 = some ⟨oc11, od11, .func (PySem.W.fnOf "__init__" "Number.__init__" (defArgs s_Number_init) (defBody s_Number_init) (defScope s_Number_init) .none kV11 dc11 pm11 an11 cd11 ct11), sl11⟩)
    (c11 : PySem.W.codeIn K cd11 "Number.__init__" = true)
    (k11 : PySem.W.keepIn K (.ref f11) = true)
    (i11 : PySem.W.isFn K (.ref f11) = true)
    {f12 : Addr} {od12 an12 : Option Addr} {sl12 : Array (Option Value)} {oc12 kV12 dc12 pm12 cd12 ct12 : Value}
    (a12 : PySem.W.findIn K (.ref C_Number) "worth" = some (some (.ref f12)))
    (l12 : K.lookup f12 = some ⟨oc12, od12, .func (PySem.W.fnOf "worth" "Number.worth" (defArgs s_Number_worth) (defBody s_Number_worth) (defScope s_Number_worth) .none kV12 dc12 pm12 an12 cd12 ct12), sl12⟩)
    (c12 : PySem.W.codeIn K cd12 "Number.worth" = true)
    (k12 : PySem.W.keepIn K (.ref f12) = true)
    (i12 : PySem.W.isFn K (.ref f12) = true)
    {f13 : Addr} {od13 an13 : Option Addr} {sl13 : Array (Option Value)} {oc13 kV13 dc13 pm13 cd13 ct13 : Value}
    (a13 : PySem.W.findIn K (.ref C_Read) "__init__" = some (some (.ref f13)))
    (l13 : K.lookup f13 = some ⟨oc13, od13, .func (PySem.W.fnOf "__init__" "Read.__init__" (defArgs s_Read_init) (defBody s_Read_init) (defScope s_Read_init) .none kV13 dc13 pm13 an13 cd13 ct13), sl13⟩)
    (c13 : PySem.W.codeIn K cd13 "Read.__init__" = true)
    (k13 : PySem.W.keepIn K (.ref f13) = true)
    (i13 : PySem.W.isFn K (.ref f13) = true)
    {f14 : Addr} {od14 an14 : Option Addr} {sl14 : Array (Option Value)} {oc14 kV14 dc14 pm14 cd14 ct14 : Value}
    (a14 : PySem.W.findIn K (.ref C_Read) "cell_at" = some (some (.ref f14)))
    (l14 : K.lookup f14 = some ⟨oc14, od14, .func (PySem.W.fnOf "cell_at" "Read.cell_at" (defArgs s_Read_cell_at) (defBody s_Read_cell_at) (defScope s_Read_cell_at) .none kV14 dc14 pm14 an14 cd14 ct14), sl14⟩)
    (c14 : PySem.W.codeIn K cd14 "Read.cell_at" = true)
    (k14 : PySem.W.keepIn K (.ref f14) = true)
    (i14 : PySem.W.isFn K (.ref f14) = true)
    {f15 : Addr} {od15 an15 : Option Addr} {sl15 : Array (Option Value)} {oc15 kV15 dc15 pm15 cd15 ct15 : Value}
    (a15 : PySem.W.findIn K (.ref C_Read) "worth" = some (some (.ref f15)))
    (l15 : K.lookup f15 = some ⟨oc15, od15, .func (PySem.W.fnOf "worth" "Read.worth" (defArgs s_Read_worth) (defBody s_Read_worth) (defScope s_Read_worth) .none kV15 dc15 pm15 an15 cd15 ct15), sl15⟩)
    (c15 : PySem.W.codeIn K cd15 "Read.worth" = true)
    (k15 : PySem.W.keepIn K (.ref f15) = true)
    (i15 : PySem.W.isFn K (.ref f15) = true)
    {f16 : Addr} {od16 an16 : Option Addr} {sl16 : Array (Option Value)} {oc16 kV16 dc16 pm16 cd16 ct16 : Value}
    (a16 : PySem.W.nsIn K mainGlobals "index_at" = some (some (.ref f16)))
    (l16 : K.lookup f16 = some ⟨oc16, od16, .func (PySem.W.fnOf "index_at" "index_at" (defArgs s_index_at) (defBody s_index_at) (defScope s_index_at) .none kV16 dc16 pm16 an16 cd16 ct16), sl16⟩)
    (c16 : PySem.W.codeIn K cd16 "index_at" = true)
    (k16 : PySem.W.keepIn K (.ref f16) = true)
    {f17 : Addr} {od17 an17 : Option Addr} {sl17 : Array (Option Value)} {oc17 kV17 dc17 pm17 cd17 ct17 : Value}
    (a17 : PySem.W.findIn K (.ref C_Pair) "__init__" = some (some (.ref f17)))
    (l17 : K.lookup f17 = some ⟨oc17, od17, .func (PySem.W.fnOf "__init__" "Pair.__init__" (defArgs s_Pair_init) (defBody s_Pair_init) (defScope s_Pair_init) .none kV17 dc17 pm17 an17 cd17 ct17), sl17⟩)
    (c17 : PySem.W.codeIn K cd17 "Pair.__init__" = true)
    (k17 : PySem.W.keepIn K (.ref f17) = true)
    (i17 : PySem.W.isFn K (.ref f17) = true)
    {f18 : Addr} {od18 an18 : Option Addr} {sl18 : Array (Option Value)} {oc18 kV18 dc18 pm18 cd18 ct18 : Value}
    (a18 : PySem.W.findIn K (.ref C_Pair) "worth" = some (some (.ref f18)))
    (l18 : K.lookup f18 = some ⟨oc18, od18, .func (PySem.W.fnOf "worth" "Pair.worth" (defArgs s_Pair_worth) (defBody s_Pair_worth) (defScope s_Pair_worth) .none kV18 dc18 pm18 an18 cd18 ct18), sl18⟩)
    (c18 : PySem.W.codeIn K cd18 "Pair.worth" = true)
    (k18 : PySem.W.keepIn K (.ref f18) = true)
    (i18 : PySem.W.isFn K (.ref f18) = true)
    {f19 : Addr} {od19 an19 : Option Addr} {sl19 : Array (Option Value)} {oc19 kV19 dc19 pm19 cd19 ct19 : Value}
    (a19 : PySem.W.findIn K (.ref C_Plus) "joined" = some (some (.ref f19)))
    (l19 : K.lookup f19 = some ⟨oc19, od19, .func (PySem.W.fnOf "joined" "Plus.joined" (defArgs s_Plus_joined) (defBody s_Plus_joined) (defScope s_Plus_joined) .none kV19 dc19 pm19 an19 cd19 ct19), sl19⟩)
    (c19 : PySem.W.codeIn K cd19 "Plus.joined" = true)
    (k19 : PySem.W.keepIn K (.ref f19) = true)
    (i19 : PySem.W.isFn K (.ref f19) = true)
    {f20 : Addr} {od20 an20 : Option Addr} {sl20 : Array (Option Value)} {oc20 kV20 dc20 pm20 cd20 ct20 : Value}
    (a20 : PySem.W.findIn K (.ref C_Times) "joined" = some (some (.ref f20)))
    (l20 : K.lookup f20 = some ⟨oc20, od20, .func (PySem.W.fnOf "joined" "Times.joined" (defArgs s_Times_joined) (defBody s_Times_joined) (defScope s_Times_joined) .none kV20 dc20 pm20 an20 cd20 ct20), sl20⟩)
    (c20 : PySem.W.codeIn K cd20 "Times.joined" = true)
    (k20 : PySem.W.keepIn K (.ref f20) = true)
    (i20 : PySem.W.isFn K (.ref f20) = true)
    {f21 : Addr} {od21 an21 : Option Addr} {sl21 : Array (Option Value)} {oc21 kV21 dc21 pm21 cd21 ct21 : Value}
    (a21 : PySem.W.findIn K (.ref C_Guard) "__init__" = some (some (.ref f21)))
    (l21 : K.lookup f21 = some ⟨oc21, od21, .func (PySem.W.fnOf "__init__" "Guard.__init__" (defArgs s_Guard_init) (defBody s_Guard_init) (defScope s_Guard_init) .none kV21 dc21 pm21 an21 cd21 ct21), sl21⟩)
    (c21 : PySem.W.codeIn K cd21 "Guard.__init__" = true)
    (k21 : PySem.W.keepIn K (.ref f21) = true)
    (i21 : PySem.W.isFn K (.ref f21) = true)
    {f22 : Addr} {od22 an22 : Option Addr} {sl22 : Array (Option Value)} {oc22 kV22 dc22 pm22 cd22 ct22 : Value}
    (a22 : PySem.W.findIn K (.ref C_Guard) "lets_in" = some (some (.ref f22)))
    (l22 : K.lookup f22 = some ⟨oc22, od22, .func (PySem.W.fnOf "lets_in" "Guard.lets_in" (defArgs s_Guard_lets_in) (defBody s_Guard_lets_in) (defScope s_Guard_lets_in) .none kV22 dc22 pm22 an22 cd22 ct22), sl22⟩)
    (c22 : PySem.W.codeIn K cd22 "Guard.lets_in" = true)
    (k22 : PySem.W.keepIn K (.ref f22) = true)
    (i22 : PySem.W.isFn K (.ref f22) = true)
    {f23 : Addr} {od23 an23 : Option Addr} {sl23 : Array (Option Value)} {oc23 kV23 dc23 pm23 cd23 ct23 : Value}
    (a23 : PySem.W.findIn K (.ref C_Guard) "looked_at" = some (some (.ref f23)))
    (l23 : K.lookup f23 = some ⟨oc23, od23, .func (PySem.W.fnOf "looked_at" "Guard.looked_at" (defArgs s_Guard_looked_at) (defBody s_Guard_looked_at) (defScope s_Guard_looked_at) .none kV23 dc23 pm23 an23 cd23 ct23), sl23⟩)
    (c23 : PySem.W.codeIn K cd23 "Guard.looked_at" = true)
    (k23 : PySem.W.keepIn K (.ref f23) = true)
    (i23 : PySem.W.isFn K (.ref f23) = true)
    {f24 : Addr} {od24 an24 : Option Addr} {sl24 : Array (Option Value)} {oc24 kV24 dc24 pm24 cd24 ct24 : Value}
    (a24 : PySem.W.findIn K (.ref C_Guard) "worth" = some (some (.ref f24)))
    (l24 : K.lookup f24 = some ⟨oc24, od24, .func (PySem.W.fnOf "worth" "Guard.worth" (defArgs s_Guard_worth) (defBody s_Guard_worth) (defScope s_Guard_worth) .none kV24 dc24 pm24 an24 cd24 ct24), sl24⟩)
    (c24 : PySem.W.codeIn K cd24 "Guard.worth" = true)
    (k24 : PySem.W.keepIn K (.ref f24) = true)
    (i24 : PySem.W.isFn K (.ref f24) = true)
    {f25 : Addr} {od25 an25 : Option Addr} {sl25 : Array (Option Value)} {oc25 kV25 dc25 pm25 cd25 ct25 : Value}
    (a25 : PySem.W.findIn K (.ref C_GrowingWorld) "put" = some (some (.ref f25)))
    (l25 : K.lookup f25 = some ⟨oc25, od25, .func (PySem.W.fnOf "put" "GrowingWorld.put" (defArgs s_GrowingWorld_put) (defBody s_GrowingWorld_put) (defScope s_GrowingWorld_put) .none kV25 dc25 pm25 an25 cd25 ct25), sl25⟩)
    (c25 : PySem.W.codeIn K cd25 "GrowingWorld.put" = true)
    (k25 : PySem.W.keepIn K (.ref f25) = true)
    (i25 : PySem.W.isFn K (.ref f25) = true)
    {f26 : Addr} {od26 an26 : Option Addr} {sl26 : Array (Option Value)} {oc26 kV26 dc26 pm26 cd26 ct26 : Value}
    (a26 : PySem.W.nsIn K mainGlobals "meaning" = some (some (.ref f26)))
    (l26 : K.lookup f26 = some ⟨oc26, od26, .func (PySem.W.fnOf "meaning" "meaning" (defArgs s_meaning) (defBody s_meaning) (defScope s_meaning) .none kV26 dc26 pm26 an26 cd26 ct26), sl26⟩)
    (c26 : PySem.W.codeIn K cd26 "meaning" = true)
    (k26 : PySem.W.keepIn K (.ref f26) = true)
    {f27 : Addr} {od27 an27 : Option Addr} {sl27 : Array (Option Value)} {oc27 kV27 dc27 pm27 cd27 ct27 : Value}
    (a27 : PySem.W.nsIn K mainGlobals "look_tables" = some (some (.ref f27)))
    (l27 : K.lookup f27 = some ⟨oc27, od27, .func (PySem.W.fnOf "look_tables" "look_tables" (defArgs s_look_tables) (defBody s_look_tables) (defScope s_look_tables) .none kV27 dc27 pm27 an27 cd27 ct27), sl27⟩)
    (c27 : PySem.W.codeIn K cd27 "look_tables" = true)
    (k27 : PySem.W.keepIn K (.ref f27) = true)
    {f28 : Addr} {od28 an28 : Option Addr} {sl28 : Array (Option Value)} {oc28 kV28 dc28 pm28 cd28 ct28 : Value}
    (a28 : PySem.W.nsIn K mainGlobals "put_tables" = some (some (.ref f28)))
    (l28 : K.lookup f28 = some ⟨oc28, od28, .func (PySem.W.fnOf "put_tables" "put_tables" (defArgs s_put_tables) (defBody s_put_tables) (defScope s_put_tables) .none kV28 dc28 pm28 an28 cd28 ct28), sl28⟩)
    (c28 : PySem.W.codeIn K cd28 "put_tables" = true)
    (k28 : PySem.W.keepIn K (.ref f28) = true)
    {f29 : Addr} {od29 an29 : Option Addr} {sl29 : Array (Option Value)} {oc29 kV29 dc29 pm29 cd29 ct29 : Value}
    (a29 : PySem.W.nsIn K mainGlobals "put_let" = some (some (.ref f29)))
    (l29 : K.lookup f29 = some ⟨oc29, od29, .func (PySem.W.fnOf "put_let" "put_let" (defArgs s_put_let) (defBody s_put_let) (defScope s_put_let) .none kV29 dc29 pm29 an29 cd29 ct29), sl29⟩)
    (c29 : PySem.W.codeIn K cd29 "put_let" = true)
    (k29 : PySem.W.keepIn K (.ref f29) = true)
    {f30 : Addr} {od30 an30 : Option Addr} {sl30 : Array (Option Value)} {oc30 kV30 dc30 pm30 cd30 ct30 : Value}
    (a30 : PySem.W.nsIn K mainGlobals "rows_of" = some (some (.ref f30)))
    (l30 : K.lookup f30 = some ⟨oc30, od30, .func (PySem.W.fnOf "rows_of" "rows_of" (defArgs s_rows_of) (defBody s_rows_of) (defScope s_rows_of) .none kV30 dc30 pm30 an30 cd30 ct30), sl30⟩)
    (c30 : PySem.W.codeIn K cd30 "rows_of" = true)
    (k30 : PySem.W.keepIn K (.ref f30) = true)
    {f31 : Addr} {od31 an31 : Option Addr} {sl31 : Array (Option Value)} {oc31 kV31 dc31 pm31 cd31 ct31 : Value}
    (a31 : PySem.W.nsIn K mainGlobals "_law_cell_at" = some (some (.ref f31)))
    (l31 : K.lookup f31 = some ⟨oc31, od31, .func (PySem.W.fnOf "_law_cell_at" "_law_cell_at" (defArgs s_l_cell_at) (defBody s_l_cell_at) (defScope s_l_cell_at) .none kV31 dc31 pm31 an31 cd31 ct31), sl31⟩)
    (c31 : PySem.W.codeIn K cd31 "_law_cell_at" = true)
    (k31 : PySem.W.keepIn K (.ref f31) = true)
    {f32 : Addr} {od32 an32 : Option Addr} {sl32 : Array (Option Value)} {oc32 kV32 dc32 pm32 cd32 ct32 : Value}
    (a32 : PySem.W.nsIn K mainGlobals "_law_list" = some (some (.ref f32)))
    (l32 : K.lookup f32 = some ⟨oc32, od32, .func (PySem.W.fnOf "_law_list" "_law_list" (defArgs s_l_list) (defBody s_l_list) (defScope s_l_list) .none kV32 dc32 pm32 an32 cd32 ct32), sl32⟩)
    (c32 : PySem.W.codeIn K cd32 "_law_list" = true)
    (k32 : PySem.W.keepIn K (.ref f32) = true)
    {f33 : Addr} {od33 an33 : Option Addr} {sl33 : Array (Option Value)} {oc33 kV33 dc33 pm33 cd33 ct33 : Value}
    (a33 : PySem.W.nsIn K mainGlobals "_law_number" = some (some (.ref f33)))
    (l33 : K.lookup f33 = some ⟨oc33, od33, .func (PySem.W.fnOf "_law_number" "_law_number" (defArgs s_l_number) (defBody s_l_number) (defScope s_l_number) .none kV33 dc33 pm33 an33 cd33 ct33), sl33⟩)
    (c33 : PySem.W.codeIn K cd33 "_law_number" = true)
    (k33 : PySem.W.keepIn K (.ref f33) = true)
    {f34 : Addr} {od34 an34 : Option Addr} {sl34 : Array (Option Value)} {oc34 kV34 dc34 pm34 cd34 ct34 : Value}
    (a34 : PySem.W.nsIn K mainGlobals "_law_due" = some (some (.ref f34)))
    (l34 : K.lookup f34 = some ⟨oc34, od34, .func (PySem.W.fnOf "_law_due" "_law_due" (defArgs s_l_due) (defBody s_l_due) (defScope s_l_due) .none kV34 dc34 pm34 an34 cd34 ct34), sl34⟩)
    (c34 : PySem.W.codeIn K cd34 "_law_due" = true)
    (k34 : PySem.W.keepIn K (.ref f34) = true)
    {f35 : Addr} {od35 an35 : Option Addr} {sl35 : Array (Option Value)} {oc35 kV35 dc35 pm35 cd35 ct35 : Value}
    (a35 : PySem.W.nsIn K mainGlobals "_law_told" = some (some (.ref f35)))
    (l35 : K.lookup f35 = some ⟨oc35, od35, .func (PySem.W.fnOf "_law_told" "_law_told" (defArgs s_l_told) (defBody s_l_told) (defScope s_l_told) .none kV35 dc35 pm35 an35 cd35 ct35), sl35⟩)
    (c35 : PySem.W.codeIn K cd35 "_law_told" = true)
    (k35 : PySem.W.keepIn K (.ref f35) = true)
    {f36 : Addr} {od36 an36 : Option Addr} {sl36 : Array (Option Value)} {oc36 kV36 dc36 pm36 cd36 ct36 : Value}
    (a36 : PySem.W.nsIn K mainGlobals "law" = some (some (.ref f36)))
    (l36 : K.lookup f36 = some ⟨oc36, od36, .func (PySem.W.fnOf "law" "law" (defArgs s_law) (defBody s_law) (defScope s_law) .none kV36 dc36 pm36 an36 cd36 ct36), sl36⟩)
    (c36 : PySem.W.codeIn K cd36 "law" = true)
    (k36 : PySem.W.keepIn K (.ref f36) = true)
    (pg_GrowingWorld : PySem.W.plainGet K C_GrowingWorld Str.empty = true)
    (hd_GrowingWorld : PySem.W.hasDictIn K C_GrowingWorld = true)
    (po_GrowingWorld : PySem.W.plainOver K C_GrowingWorld = true)
    (sa_GrowingWorld : PySem.W.findIn K (.ref C_GrowingWorld) "__setattr__" = some (some (.builtin "object.__setattr__")))
    (mk_GrowingWorld : PySem.W.makesIn K C_GrowingWorld = true)
    (kc_GrowingWorld : PySem.W.keepIn K (.ref C_GrowingWorld) = true)
    (in_GrowingWorld : PySem.W.findIn K (.ref C_GrowingWorld) "__init__" = some (some (.ref f10)))
    (na_GrowingWorld_wheel : PySem.W.findIn K (.ref C_GrowingWorld) "wheel" = some none)
    (na_GrowingWorld_lengths : PySem.W.findIn K (.ref C_GrowingWorld) "lengths" = some none)
    (na_GrowingWorld_numbers : PySem.W.findIn K (.ref C_GrowingWorld) "numbers" = some none)
    (me_GrowingWorld_put : PySem.W.findIn K (.ref C_GrowingWorld) "put" = some (some (.ref f25)))
    (t1_GrowingWorld : PySem.W.findIn K (.ref C_GrowingWorld) "__class__" = some (some (.builtin "object.__class__")))
    (t2_GrowingWorld : PySem.W.specialIn K (.builtin "object.__class__") "__get__" = some (some (.builtin "getset_descriptor.__get__")))
    (t3_GrowingWorld : PySem.W.takesIn K (.builtin "object.__class__") = some true)
    (t4_GrowingWorld : PySem.W.mroIn K C_GrowingWorld (.type "object") = some true)
    (pg_Guard : PySem.W.plainGet K C_Guard Str.empty = true)
    (hd_Guard : PySem.W.hasDictIn K C_Guard = true)
    (po_Guard : PySem.W.plainOver K C_Guard = true)
    (sa_Guard : PySem.W.findIn K (.ref C_Guard) "__setattr__" = some (some (.builtin "object.__setattr__")))
    (mk_Guard : PySem.W.makesIn K C_Guard = true)
    (kc_Guard : PySem.W.keepIn K (.ref C_Guard) = true)
    (in_Guard : PySem.W.findIn K (.ref C_Guard) "__init__" = some (some (.ref f21)))
    (na_Guard_axis : PySem.W.findIn K (.ref C_Guard) "axis" = some none)
    (na_Guard_low : PySem.W.findIn K (.ref C_Guard) "low" = some none)
    (na_Guard_high : PySem.W.findIn K (.ref C_Guard) "high" = some none)
    (na_Guard_inner : PySem.W.findIn K (.ref C_Guard) "inner" = some none)
    (na_Guard_outer : PySem.W.findIn K (.ref C_Guard) "outer" = some none)
    (me_Guard_lets_in : PySem.W.findIn K (.ref C_Guard) "lets_in" = some (some (.ref f22)))
    (me_Guard_looked_at : PySem.W.findIn K (.ref C_Guard) "looked_at" = some (some (.ref f23)))
    (me_Guard_worth : PySem.W.findIn K (.ref C_Guard) "worth" = some (some (.ref f24)))
    (t1_Guard : PySem.W.findIn K (.ref C_Guard) "__class__" = some (some (.builtin "object.__class__")))
    (t2_Guard : PySem.W.specialIn K (.builtin "object.__class__") "__get__" = some (some (.builtin "getset_descriptor.__get__")))
    (t3_Guard : PySem.W.takesIn K (.builtin "object.__class__") = some true)
    (t4_Guard : PySem.W.mroIn K C_Guard (.type "object") = some true)
    (pg_Let : PySem.W.plainGet K C_Let Str.empty = true)
    (hd_Let : PySem.W.hasDictIn K C_Let = true)
    (po_Let : PySem.W.plainOver K C_Let = true)
    (sa_Let : PySem.W.findIn K (.ref C_Let) "__setattr__" = some (some (.builtin "object.__setattr__")))
    (mk_Let : PySem.W.makesIn K C_Let = true)
    (kc_Let : PySem.W.keepIn K (.ref C_Let) = true)
    (in_Let : PySem.W.findIn K (.ref C_Let) "__init__" = some (some (.ref f4)))
    (na_Let_name : PySem.W.findIn K (.ref C_Let) "name" = some none)
    (na_Let_axes : PySem.W.findIn K (.ref C_Let) "axes" = some none)
    (na_Let_term : PySem.W.findIn K (.ref C_Let) "term" = some none)
    (t1_Let : PySem.W.findIn K (.ref C_Let) "__class__" = some (some (.builtin "object.__class__")))
    (t2_Let : PySem.W.specialIn K (.builtin "object.__class__") "__get__" = some (some (.builtin "getset_descriptor.__get__")))
    (t3_Let : PySem.W.takesIn K (.builtin "object.__class__") = some true)
    (t4_Let : PySem.W.mroIn K C_Let (.type "object") = some true)
    (mb_Let_list : PySem.W.mroIn K C_Let (.type "list") = some false)
    (mb_Let_tuple : PySem.W.mroIn K C_Let (.type "tuple") = some false)
    (mb_Let_dict : PySem.W.mroIn K C_Let (.type "dict") = some false)
    (pg_Number : PySem.W.plainGet K C_Number Str.empty = true)
    (hd_Number : PySem.W.hasDictIn K C_Number = true)
    (po_Number : PySem.W.plainOver K C_Number = true)
    (sa_Number : PySem.W.findIn K (.ref C_Number) "__setattr__" = some (some (.builtin "object.__setattr__")))
    (mk_Number : PySem.W.makesIn K C_Number = true)
    (kc_Number : PySem.W.keepIn K (.ref C_Number) = true)
    (in_Number : PySem.W.findIn K (.ref C_Number) "__init__" = some (some (.ref f11)))
    (na_Number_number : PySem.W.findIn K (.ref C_Number) "number" = some none)
    (me_Number_worth : PySem.W.findIn K (.ref C_Number) "worth" = some (some (.ref f12)))
    (t1_Number : PySem.W.findIn K (.ref C_Number) "__class__" = some (some (.builtin "object.__class__")))
    (t2_Number : PySem.W.specialIn K (.builtin "object.__class__") "__get__" = some (some (.builtin "getset_descriptor.__get__")))
    (t3_Number : PySem.W.takesIn K (.builtin "object.__class__") = some true)
    (t4_Number : PySem.W.mroIn K C_Number (.type "object") = some true)
    (pg_Plus : PySem.W.plainGet K C_Plus Str.empty = true)
    (hd_Plus : PySem.W.hasDictIn K C_Plus = true)
    (po_Plus : PySem.W.plainOver K C_Plus = true)
    (sa_Plus : PySem.W.findIn K (.ref C_Plus) "__setattr__" = some (some (.builtin "object.__setattr__")))
    (mk_Plus : PySem.W.makesIn K C_Plus = true)
    (kc_Plus : PySem.W.keepIn K (.ref C_Plus) = true)
    (in_Plus : PySem.W.findIn K (.ref C_Plus) "__init__" = some (some (.ref f17)))
    (na_Plus_left : PySem.W.findIn K (.ref C_Plus) "left" = some none)
    (na_Plus_right : PySem.W.findIn K (.ref C_Plus) "right" = some none)
    (me_Plus_joined : PySem.W.findIn K (.ref C_Plus) "joined" = some (some (.ref f19)))
    (me_Plus_worth : PySem.W.findIn K (.ref C_Plus) "worth" = some (some (.ref f18)))
    (t1_Plus : PySem.W.findIn K (.ref C_Plus) "__class__" = some (some (.builtin "object.__class__")))
    (t2_Plus : PySem.W.specialIn K (.builtin "object.__class__") "__get__" = some (some (.builtin "getset_descriptor.__get__")))
    (t3_Plus : PySem.W.takesIn K (.builtin "object.__class__") = some true)
    (t4_Plus : PySem.W.mroIn K C_Plus (.type "object") = some true)
    (pg_Program : PySem.W.plainGet K C_Program Str.empty = true)
    (hd_Program : PySem.W.hasDictIn K C_Program = true)
    (po_Program : PySem.W.plainOver K C_Program = true)
    (sa_Program : PySem.W.findIn K (.ref C_Program) "__setattr__" = some (some (.builtin "object.__setattr__")))
    (mk_Program : PySem.W.makesIn K C_Program = true)
    (kc_Program : PySem.W.keepIn K (.ref C_Program) = true)
    (in_Program : PySem.W.findIn K (.ref C_Program) "__init__" = some (some (.ref f5)))
    (na_Program_wheel : PySem.W.findIn K (.ref C_Program) "wheel" = some none)
    (na_Program_axes : PySem.W.findIn K (.ref C_Program) "axes" = some none)
    (na_Program_tables : PySem.W.findIn K (.ref C_Program) "tables" = some none)
    (na_Program_lets : PySem.W.findIn K (.ref C_Program) "lets" = some none)
    (na_Program_outs : PySem.W.findIn K (.ref C_Program) "outs" = some none)
    (t1_Program : PySem.W.findIn K (.ref C_Program) "__class__" = some (some (.builtin "object.__class__")))
    (t2_Program : PySem.W.specialIn K (.builtin "object.__class__") "__get__" = some (some (.builtin "getset_descriptor.__get__")))
    (t3_Program : PySem.W.takesIn K (.builtin "object.__class__") = some true)
    (t4_Program : PySem.W.mroIn K C_Program (.type "object") = some true)
    (pg_Read : PySem.W.plainGet K C_Read Str.empty = true)
    (hd_Read : PySem.W.hasDictIn K C_Read = true)
    (po_Read : PySem.W.plainOver K C_Read = true)
    (sa_Read : PySem.W.findIn K (.ref C_Read) "__setattr__" = some (some (.builtin "object.__setattr__")))
    (mk_Read : PySem.W.makesIn K C_Read = true)
    (kc_Read : PySem.W.keepIn K (.ref C_Read) = true)
    (in_Read : PySem.W.findIn K (.ref C_Read) "__init__" = some (some (.ref f13)))
    (na_Read_array : PySem.W.findIn K (.ref C_Read) "array" = some none)
    (na_Read_indexes : PySem.W.findIn K (.ref C_Read) "indexes" = some none)
    (me_Read_cell_at : PySem.W.findIn K (.ref C_Read) "cell_at" = some (some (.ref f14)))
    (me_Read_worth : PySem.W.findIn K (.ref C_Read) "worth" = some (some (.ref f15)))
    (t1_Read : PySem.W.findIn K (.ref C_Read) "__class__" = some (some (.builtin "object.__class__")))
    (t2_Read : PySem.W.specialIn K (.builtin "object.__class__") "__get__" = some (some (.builtin "getset_descriptor.__get__")))
    (t3_Read : PySem.W.takesIn K (.builtin "object.__class__") = some true)
    (t4_Read : PySem.W.mroIn K C_Read (.type "object") = some true)
    (pg_Times : PySem.W.plainGet K C_Times Str.empty = true)
    (hd_Times : PySem.W.hasDictIn K C_Times = true)
    (po_Times : PySem.W.plainOver K C_Times = true)
    (sa_Times : PySem.W.findIn K (.ref C_Times) "__setattr__" = some (some (.builtin "object.__setattr__")))
    (mk_Times : PySem.W.makesIn K C_Times = true)
    (kc_Times : PySem.W.keepIn K (.ref C_Times) = true)
    (in_Times : PySem.W.findIn K (.ref C_Times) "__init__" = some (some (.ref f17)))
    (na_Times_left : PySem.W.findIn K (.ref C_Times) "left" = some none)
    (na_Times_right : PySem.W.findIn K (.ref C_Times) "right" = some none)
    (me_Times_joined : PySem.W.findIn K (.ref C_Times) "joined" = some (some (.ref f20)))
    (me_Times_worth : PySem.W.findIn K (.ref C_Times) "worth" = some (some (.ref f18)))
    (t1_Times : PySem.W.findIn K (.ref C_Times) "__class__" = some (some (.builtin "object.__class__")))
    (t2_Times : PySem.W.specialIn K (.builtin "object.__class__") "__get__" = some (some (.builtin "getset_descriptor.__get__")))
    (t3_Times : PySem.W.takesIn K (.builtin "object.__class__") = some true)
    (t4_Times : PySem.W.mroIn K C_Times (.type "object") = some true)
    (z_range : PySem.W.nsIn K mainGlobals "range" = some none)
    (z_isinstance : PySem.W.nsIn K mainGlobals "isinstance" = some none)
    (z_list : PySem.W.nsIn K mainGlobals "list" = some none)
    (z_tuple : PySem.W.nsIn K mainGlobals "tuple" = some none)
    (z_dict : PySem.W.nsIn K mainGlobals "dict" = some none)
    (z_set : PySem.W.nsIn K mainGlobals "set" = some none)
    (z_len : PySem.W.nsIn K mainGlobals "len" = some none)
    (z_zip : PySem.W.nsIn K mainGlobals "zip" = some none)
    (z_bool : PySem.W.nsIn K mainGlobals "bool" = some none)
    (z_int : PySem.W.nsIn K mainGlobals "int" = some none)
    : ∃ fd : FuncData, (∀ (s : Shared) (v : Value), BindsTo s fd ⟨[v], []⟩ [("_law_script", v)]) ∧ ∀ base : Heap, K.In base → base.Ns mainGlobals mg → FnOk l.prog w K mg base CX0 14 fa fd ["_law_script"] (spLaw K) := by
  have e := hfa.symm.trans (PySem.W.mg_of X G a36)
  cases e
  have F0 := fun_mk (st := s_cells_of) l0 c0 k0
  have b0 := F0.binds (ps := ["lengths"]) fun _ _ _ _ _ _ us hl => match us, hl with | [_], _ => rfl
  have F1 := fun_mk (st := s_lengthened) l1 c1 k1
  have b1 := F1.binds (ps := ["cells", "length"]) fun _ _ _ _ _ _ us hl => match us, hl with | [_, _], _ => rfl
  have F2 := fun_mk (st := s_copied) l2 c2 k2
  have b2 := F2.binds (ps := ["value"]) fun _ _ _ _ _ _ us hl => match us, hl with | [_], _ => rfl
  have F3 := fun_mk (st := s_copied_dict) l3 c3 k3
  have b3 := F3.binds (ps := ["value"]) fun _ _ _ _ _ _ us hl => match us, hl with | [_], _ => rfl
  have F4 := fun_mk (st := s_Let_init) l4 c4 k4
  have b4 := F4.binds (ps := ["self", "name", "axes", "term"]) fun _ _ _ _ _ _ us hl => match us, hl with | [_, _, _, _], _ => rfl
  have F5 := fun_mk (st := s_Program_init) l5 c5 k5
  have b5 := F5.binds (ps := ["self", "wheel", "axes", "tables", "lets", "outs"]) fun _ _ _ _ _ _ us hl => match us, hl with | [_, _, _, _, _, _], _ => rfl
  have F6 := fun_mk (st := s_table_names) l6 c6 k6
  have b6 := F6.binds (ps := ["program"]) fun _ _ _ _ _ _ us hl => match us, hl with | [_], _ => rfl
  have F7 := fun_mk (st := s_lengths_of) l7 c7 k7
  have b7 := F7.binds (ps := ["program"]) fun _ _ _ _ _ _ us hl => match us, hl with | [_], _ => rfl
  have F8 := fun_mk (st := s_lengths_along) l8 c8 k8
  have b8 := F8.binds (ps := ["axes", "lengths"]) fun _ _ _ _ _ _ us hl => match us, hl with | [_, _], _ => rfl
  have F9 := fun_mk (st := s_cells_along) l9 c9 k9
  have b9 := F9.binds (ps := ["axes", "lengths"]) fun _ _ _ _ _ _ us hl => match us, hl with | [_, _], _ => rfl
  have F10 := fun_mk (st := s_World_init) l10 c10 k10
  have b10 := F10.binds (ps := ["self", "wheel", "lengths", "numbers"]) fun _ _ _ _ _ _ us hl => match us, hl with | [_, _, _, _], _ => rfl
  have F11 := fun_mk (st := s_Number_init) l11 c11 k11
  have b11 := F11.binds (ps := ["self", "number"]) fun _ _ _ _ _ _ us hl => match us, hl with | [_, _], _ => rfl
  have F12 := fun_mk (st := s_Number_worth) l12 c12 k12
  have b12 := F12.binds (ps := ["self", "at", "world"]) fun _ _ _ _ _ _ us hl => match us, hl with | [_, _, _], _ => rfl
  have F13 := fun_mk (st := s_Read_init) l13 c13 k13
  have b13 := F13.binds (ps := ["self", "array", "indexes"]) fun _ _ _ _ _ _ us hl => match us, hl with | [_, _, _], _ => rfl
  have F14 := fun_mk (st := s_Read_cell_at) l14 c14 k14
  have b14 := F14.binds (ps := ["self", "at"]) fun _ _ _ _ _ _ us hl => match us, hl with | [_, _], _ => rfl
  have F15 := fun_mk (st := s_Read_worth) l15 c15 k15
  have b15 := F15.binds (ps := ["self", "at", "world"]) fun _ _ _ _ _ _ us hl => match us, hl with | [_, _, _], _ => rfl
  have F16 := fun_mk (st := s_index_at) l16 c16 k16
  have b16 := F16.binds (ps := ["axis", "shift", "at"]) fun _ _ _ _ _ _ us hl => match us, hl with | [_, _, _], _ => rfl
  have F17 := fun_mk (st := s_Pair_init) l17 c17 k17
  have b17 := F17.binds (ps := ["self", "left", "right"]) fun _ _ _ _ _ _ us hl => match us, hl with | [_, _, _], _ => rfl
  have F18 := fun_mk (st := s_Pair_worth) l18 c18 k18
  have b18 := F18.binds (ps := ["self", "at", "world"]) fun _ _ _ _ _ _ us hl => match us, hl with | [_, _, _], _ => rfl
  have F19 := fun_mk (st := s_Plus_joined) l19 c19 k19
  have b19 := F19.binds (ps := ["self", "left", "right"]) fun _ _ _ _ _ _ us hl => match us, hl with | [_, _, _], _ => rfl
  have F20 := fun_mk (st := s_Times_joined) l20 c20 k20
  have b20 := F20.binds (ps := ["self", "left", "right"]) fun _ _ _ _ _ _ us hl => match us, hl with | [_, _, _], _ => rfl
  have F21 := fun_mk (st := s_Guard_init) l21 c21 k21
  have b21 := F21.binds (ps := ["self", "axis", "low", "high", "inner", "outer"]) fun _ _ _ _ _ _ us hl => match us, hl with | [_, _, _, _, _, _], _ => rfl
  have F22 := fun_mk (st := s_Guard_lets_in) l22 c22 k22
  have b22 := F22.binds (ps := ["self", "at"]) fun _ _ _ _ _ _ us hl => match us, hl with | [_, _], _ => rfl
  have F23 := fun_mk (st := s_Guard_looked_at) l23 c23 k23
  have b23 := F23.binds (ps := ["self", "at"]) fun _ _ _ _ _ _ us hl => match us, hl with | [_, _], _ => rfl
  have F24 := fun_mk (st := s_Guard_worth) l24 c24 k24
  have b24 := F24.binds (ps := ["self", "at", "world"]) fun _ _ _ _ _ _ us hl => match us, hl with | [_, _, _], _ => rfl
  have F25 := fun_mk (st := s_GrowingWorld_put) l25 c25 k25
  have b25 := F25.binds (ps := ["self", "array", "cell", "number"]) fun _ _ _ _ _ _ us hl => match us, hl with | [_, _, _, _], _ => rfl
  have F26 := fun_mk (st := s_meaning) l26 c26 k26
  have b26 := F26.binds (ps := ["program", "tables"]) fun _ _ _ _ _ _ us hl => match us, hl with | [_, _], _ => rfl
  have F27 := fun_mk (st := s_look_tables) l27 c27 k27
  have b27 := F27.binds (ps := ["program", "tables"]) fun _ _ _ _ _ _ us hl => match us, hl with | [_, _], _ => rfl
  have F28 := fun_mk (st := s_put_tables) l28 c28 k28
  have b28 := F28.binds (ps := ["program", "tables", "world"]) fun _ _ _ _ _ _ us hl => match us, hl with | [_, _, _], _ => rfl
  have F29 := fun_mk (st := s_put_let) l29 c29 k29
  have b29 := F29.binds (ps := ["let", "world"]) fun _ _ _ _ _ _ us hl => match us, hl with | [_, _], _ => rfl
  have F30 := fun_mk (st := s_rows_of) l30 c30 k30
  have b30 := F30.binds (ps := ["world"]) fun _ _ _ _ _ _ us hl => match us, hl with | [_], _ => rfl
  have F31 := fun_mk (st := s_l_cell_at) l31 c31 k31
  have b31 := F31.binds (ps := ["_law_script", "_law_k"]) fun _ _ _ _ _ _ us hl => match us, hl with | [_, _], _ => rfl
  have F32 := fun_mk (st := s_l_list) l32 c32 k32
  have b32 := F32.binds (ps := ["_law_found", "_law_due_here"]) fun _ _ _ _ _ _ us hl => match us, hl with | [_, _], _ => rfl
  have F33 := fun_mk (st := s_l_number) l33 c33 k33
  have b33 := F33.binds (ps := ["_law_script", "_law_k", "_law_seed"]) fun _ _ _ _ _ _ us hl => match us, hl with | [_, _, _], _ => rfl
  have F34 := fun_mk (st := s_l_due) l34 c34 k34
  have b34 := F34.binds (ps := ["_law_numbers", "_law_sizes", "_law_turned", "_law_steps", "_law_wheel"]) fun _ _ _ _ _ _ us hl => match us, hl with | [_, _, _, _, _], _ => rfl
  have F35 := fun_mk (st := s_l_told) l35 c35 k35
  have b35 := F35.binds (ps := ["_law_program", "_law_numbers", "_law_due_here", "_law_wheel"]) fun _ _ _ _ _ _ us hl => match us, hl with | [_, _, _, _], _ => rfl
  have F36 := fun_mk (st := s_law) l36 c36 k36
  have b36 := F36.binds (ps := ["_law_script"]) fun _ _ _ _ _ _ us hl => match us, hl with | [_], _ => rfl
  exact ⟨_, fun s v => .of_eq rfl, fun base _ _ => ok_law (t := ⟨C_LoomError, C_NoTable, C_Let, C_Program, C_World, C_Term, C_Number, C_Read, C_Pair, C_Plus, C_Times, C_Guard, C_GrowingWorld, f0, _, f1, _, f2, _, f3, _, f4, _, f5, _, f6, _, f7, _, f8, _, f9, _, f10, _, f11, _, f12, _, f13, _, f14, _, f15, _, f16, _, f17, _, f18, _, f19, _, f20, _, f21, _, f22, _, f23, _, f24, _, f25, _, f26, _, f27, _, f28, _, f29, _, f30, _, f31, _, f32, _, f33, _, f34, _, f35, _, fa, _⟩) ⟨F0, PySem.W.mg_of X G a0, b0, F1, PySem.W.mg_of X G a1, b1, F2, PySem.W.mg_of X G a2, b2, F3, PySem.W.mg_of X G a3, b3, F4, b4, F5, b5, F6, PySem.W.mg_of X G a6, b6, F7, PySem.W.mg_of X G a7, b7, F8, PySem.W.mg_of X G a8, b8, F9, PySem.W.mg_of X G a9, b9, F10, b10, F11, b11, F12, b12, F13, b13, F14, b14, F15, b15, F16, PySem.W.mg_of X G a16, b16, F17, b17, F18, b18, F19, b19, F20, b20, F21, b21, F22, b22, F23, b23, F24, b24, F25, b25, F26, PySem.W.mg_of X G a26, b26, F27, PySem.W.mg_of X G a27, b27, F28, PySem.W.mg_of X G a28, b28, F29, PySem.W.mg_of X G a29, b29, F30, PySem.W.mg_of X G a30, b30, F31, PySem.W.mg_of X G a31, b31, F32, PySem.W.mg_of X G a32, b32, F33, PySem.W.mg_of X G a33, b33, F34, PySem.W.mg_of X G a34, b34, F35, PySem.W.mg_of X G a35, b35, F36, PySem.W.mg_of X G a36, b36, PySem.W.mg_of X G aC_Let, PySem.W.mg_of X G aC_Program, PySem.W.mg_of X G aC_Number, PySem.W.mg_of X G aC_Read, PySem.W.mg_of X G aC_Plus, PySem.W.mg_of X G aC_Times, PySem.W.mg_of X G aC_Guard, PySem.W.mg_of X G aC_GrowingWorld, ⟨pg_GrowingWorld, hd_GrowingWorld, po_GrowingWorld, sa_GrowingWorld⟩, ⟨mk_GrowingWorld, in_GrowingWorld, i10, kc_GrowingWorld⟩, na_GrowingWorld_wheel, na_GrowingWorld_lengths, na_GrowingWorld_numbers, ⟨me_GrowingWorld_put, i25, k25⟩, ⟨t1_GrowingWorld, t2_GrowingWorld, t3_GrowingWorld, t4_GrowingWorld⟩, ⟨pg_Guard, hd_Guard, po_Guard, sa_Guard⟩, ⟨mk_Guard, in_Guard, i21, kc_Guard⟩, na_Guard_axis, na_Guard_low, na_Guard_high, na_Guard_inner, na_Guard_outer, ⟨me_Guard_lets_in, i22, k22⟩, ⟨me_Guard_looked_at, i23, k23⟩, ⟨me_Guard_worth, i24, k24⟩, ⟨t1_Guard, t2_Guard, t3_Guard, t4_Guard⟩, ⟨pg_Let, hd_Let, po_Let, sa_Let⟩, ⟨mk_Let, in_Let, i4, kc_Let⟩, na_Let_name, na_Let_axes, na_Let_term, ⟨t1_Let, t2_Let, t3_Let, t4_Let⟩, mb_Let_list, mb_Let_tuple, mb_Let_dict, ⟨pg_Number, hd_Number, po_Number, sa_Number⟩, ⟨mk_Number, in_Number, i11, kc_Number⟩, na_Number_number, ⟨me_Number_worth, i12, k12⟩, ⟨t1_Number, t2_Number, t3_Number, t4_Number⟩, ⟨pg_Plus, hd_Plus, po_Plus, sa_Plus⟩, ⟨mk_Plus, in_Plus, i17, kc_Plus⟩, na_Plus_left, na_Plus_right, ⟨me_Plus_joined, i19, k19⟩, ⟨me_Plus_worth, i18, k18⟩, ⟨t1_Plus, t2_Plus, t3_Plus, t4_Plus⟩, ⟨pg_Program, hd_Program, po_Program, sa_Program⟩, ⟨mk_Program, in_Program, i5, kc_Program⟩, na_Program_wheel, na_Program_axes, na_Program_tables, na_Program_lets, na_Program_outs, ⟨t1_Program, t2_Program, t3_Program, t4_Program⟩, ⟨pg_Read, hd_Read, po_Read, sa_Read⟩, ⟨mk_Read, in_Read, i13, kc_Read⟩, na_Read_array, na_Read_indexes, ⟨me_Read_cell_at, i14, k14⟩, ⟨me_Read_worth, i15, k15⟩, ⟨t1_Read, t2_Read, t3_Read, t4_Read⟩, ⟨pg_Times, hd_Times, po_Times, sa_Times⟩, ⟨mk_Times, in_Times, i17, kc_Times⟩, na_Times_left, na_Times_right, ⟨me_Times_joined, i20, k20⟩, ⟨me_Times_worth, i18, k18⟩, ⟨t1_Times, t2_Times, t3_Times, t4_Times⟩, PySem.W.mg_none_of X G z_range, PySem.W.mg_none_of X G z_isinstance, PySem.W.mg_none_of X G z_list, PySem.W.mg_none_of X G z_tuple, PySem.W.mg_none_of X G z_dict, PySem.W.mg_none_of X G z_set, PySem.W.mg_none_of X G z_len, PySem.W.mg_none_of X G z_zip, PySem.W.mg_none_of X G z_bool, PySem.W.mg_none_of X G z_int⟩⟩
theorem walk {l : PySem.W.OpenLaw} {q : Program} {loose : List Str} {XP : (Str → Option Value) → Heap → Prop} {YP : World → Heap → Prop} {d : DefRec} {K : Params → PySem.W.Frag} (hn : l.most = some 63) (hdf : d.params.defaults = [])
    (hY : ∀ (w : World) (h : Heap), YP w h → (K w.params).In h)
    (F : ∀ (w : World) (mg : Str → Option Value) (fa : Addr) (h : Heap), (K w.params).In h → h.Ns mainGlobals mg → mg d.name = some (.ref fa) →
      ∃ fd : FuncData, (∀ (s : Shared) (u : Value), BindsTo s fd ⟨[u], []⟩ [("_law_script", u)]) ∧ ∀ base : Heap, (K w.params).In base → base.Ns mainGlobals mg → FnOk l.prog w (K w.params) mg base CX0 14 fa fd ["_law_script"] (spLaw (K w.params))) :
    PySem.W.WalkO q loose XP YP l.row.toRowW d [] (fun f vs => PySem.call f vs) :=
  L2.walk_of (n := 63) (k := 14) (x := "_law_script") (CX := fun _ => CX0) (sp := fun w => spLaw (K w.params)) hn (by decide) hdf ⟨rfl, by decide, by decide⟩ hY F (fun _ _ a ns hl _ hS => ⟨a, ns, rfl, hS, hl, fun _ => rfl⟩) fun _ _ _ _ _ z => z
end My
open PySem PySem.W PyProof.Rows
set_option maxRecDepth 100000 in
set_option maxHeartbeats 0 in
theorem PySem.Challenge.cw_arrayloom_k22_turns_in_row_order_holds : PySem.Challenge.rw_arrayloom_k22_turns_in_row_order.Holds := by
  w_on; o_law; k_head; (case hw => w_witness2)
  k_fill
  refine My.walk (l := PySem.Challenge.rw_arrayloom_k22_turns_in_row_order) rfl rfl (fun w h Y => PySem.W.kIn_of Y) ?F
  case F =>
    intro w mg fa h KX G hmg
    refine' My.all_mk KX G hmg ?aC_LoomError ?aC_NoTable ?aC_Let ?aC_Program ?aC_World ?aC_Term ?aC_Number ?aC_Read ?aC_Pair ?aC_Plus ?aC_Times ?aC_Guard ?aC_GrowingWorld ?a0 ?l0 ?c0 ?k0 ?a1 ?l1 ?c1 ?k1 ?a2 ?l2 ?c2 ?k2 ?a3 ?l3 ?c3 ?k3 ?a4 ?l4 ?c4 ?k4 ?i4 ?a5 ?l5 ?c5 ?k5 ?i5 ?a6 ?l6 ?c6 ?k6 ?a7 ?l7 ?c7 ?k7 ?a8 ?l8 ?c8 ?k8 ?a9 ?l9 ?c9 ?k9 ?a10 ?l10 ?c10 ?k10 ?i10 ?a11 ?l11 ?c11 ?k11 ?i11 ?a12 ?l12 ?c12 ?k12 ?i12 ?a13 ?l13 ?c13 ?k13 ?i13 ?a14 ?l14 ?c14 ?k14 ?i14 ?a15 ?l15 ?c15 ?k15 ?i15 ?a16 ?l16 ?c16 ?k16 ?a17 ?l17 ?c17 ?k17 ?i17 ?a18 ?l18 ?c18 ?k18 ?i18 ?a19 ?l19 ?c19 ?k19 ?i19 ?a20 ?l20 ?c20 ?k20 ?i20 ?a21 ?l21 ?c21 ?k21 ?i21 ?a22 ?l22 ?c22 ?k22 ?i22 ?a23 ?l23 ?c23 ?k23 ?i23 ?a24 ?l24 ?c24 ?k24 ?i24 ?a25 ?l25 ?c25 ?k25 ?i25 ?a26 ?l26 ?c26 ?k26 ?a27 ?l27 ?c27 ?k27 ?a28 ?l28 ?c28 ?k28 ?a29 ?l29 ?c29 ?k29 ?a30 ?l30 ?c30 ?k30 ?a31 ?l31 ?c31 ?k31 ?a32 ?l32 ?c32 ?k32 ?a33 ?l33 ?c33 ?k33 ?a34 ?l34 ?c34 ?k34 ?a35 ?l35 ?c35 ?k35 ?a36 ?l36 ?c36 ?k36 ?pg_GrowingWorld ?hd_GrowingWorld ?po_GrowingWorld ?sa_GrowingWorld ?mk_GrowingWorld ?kc_GrowingWorld ?in_GrowingWorld ?na_GrowingWorld_wheel ?na_GrowingWorld_lengths ?na_GrowingWorld_numbers ?me_GrowingWorld_put ?t1_GrowingWorld ?t2_GrowingWorld ?t3_GrowingWorld ?t4_GrowingWorld ?pg_Guard ?hd_Guard ?po_Guard ?sa_Guard ?mk_Guard ?kc_Guard ?in_Guard ?na_Guard_axis ?na_Guard_low ?na_Guard_high ?na_Guard_inner ?na_Guard_outer ?me_Guard_lets_in ?me_Guard_looked_at ?me_Guard_worth ?t1_Guard ?t2_Guard ?t3_Guard ?t4_Guard ?pg_Let ?hd_Let ?po_Let ?sa_Let ?mk_Let ?kc_Let ?in_Let ?na_Let_name ?na_Let_axes ?na_Let_term ?t1_Let ?t2_Let ?t3_Let ?t4_Let ?mb_Let_list ?mb_Let_tuple ?mb_Let_dict ?pg_Number ?hd_Number ?po_Number ?sa_Number ?mk_Number ?kc_Number ?in_Number ?na_Number_number ?me_Number_worth ?t1_Number ?t2_Number ?t3_Number ?t4_Number ?pg_Plus ?hd_Plus ?po_Plus ?sa_Plus ?mk_Plus ?kc_Plus ?in_Plus ?na_Plus_left ?na_Plus_right ?me_Plus_joined ?me_Plus_worth ?t1_Plus ?t2_Plus ?t3_Plus ?t4_Plus ?pg_Program ?hd_Program ?po_Program ?sa_Program ?mk_Program ?kc_Program ?in_Program ?na_Program_wheel ?na_Program_axes ?na_Program_tables ?na_Program_lets ?na_Program_outs ?t1_Program ?t2_Program ?t3_Program ?t4_Program ?pg_Read ?hd_Read ?po_Read ?sa_Read ?mk_Read ?kc_Read ?in_Read ?na_Read_array ?na_Read_indexes ?me_Read_cell_at ?me_Read_worth ?t1_Read ?t2_Read ?t3_Read ?t4_Read ?pg_Times ?hd_Times ?po_Times ?sa_Times ?mk_Times ?kc_Times ?in_Times ?na_Times_left ?na_Times_right ?me_Times_joined ?me_Times_worth ?t1_Times ?t2_Times ?t3_Times ?t4_Times ?z_range ?z_isinstance ?z_list ?z_tuple ?z_dict ?z_set ?z_len ?z_zip ?z_bool ?z_int
    (case aC_LoomError => k_is)
    (case aC_NoTable => k_is)
    (case aC_Let => k_is)
    (case aC_Program => k_is)
    (case aC_World => k_is)
    (case aC_Term => k_is)
    (case aC_Number => k_is)
    (case aC_Read => k_is)
    (case aC_Pair => k_is)
    (case aC_Plus => k_is)
    (case aC_Times => k_is)
    (case aC_Guard => k_is)
    (case aC_GrowingWorld => k_is)
    (case a0 => k_is)
    (case l0 => k_is)
    (case c0 => k_is)
    (case k0 => k_is)
    (case a1 => k_is)
    (case l1 => k_is)
    (case c1 => k_is)
    (case k1 => k_is)
    (case a2 => k_is)
    (case l2 => k_is)
    (case c2 => k_is)
    (case k2 => k_is)
    (case a3 => k_is)
    (case l3 => k_is)
    (case c3 => k_is)
    (case k3 => k_is)
    (case a4 => k_is)
    (case l4 => k_is)
    (case c4 => k_is)
    (case k4 => k_is)
    (case i4 => k_is)
    (case a5 => k_is)
    (case l5 => k_is)
    (case c5 => k_is)
    (case k5 => k_is)
    (case i5 => k_is)
    (case a6 => k_is)
    (case l6 => k_is)
    (case c6 => k_is)
    (case k6 => k_is)
    (case a7 => k_is)
    (case l7 => k_is)
    (case c7 => k_is)
    (case k7 => k_is)
    (case a8 => k_is)
    (case l8 => k_is)
    (case c8 => k_is)
    (case k8 => k_is)
    (case a9 => k_is)
    (case l9 => k_is)
    (case c9 => k_is)
    (case k9 => k_is)
    (case a10 => k_is)
    (case l10 => k_is)
    (case c10 => k_is)
    (case k10 => k_is)
    (case i10 => k_is)
    (case a11 => k_is)
    (case l11 => k_is)
    (case c11 => k_is)
    (case k11 => k_is)
    (case i11 => k_is)
    (case a12 => k_is)
    (case l12 => k_is)
    (case c12 => k_is)
    (case k12 => k_is)
    (case i12 => k_is)
    (case a13 => k_is)
    (case l13 => k_is)
    (case c13 => k_is)
    (case k13 => k_is)
    (case i13 => k_is)
    (case a14 => k_is)
    (case l14 => k_is)
    (case c14 => k_is)
    (case k14 => k_is)
    (case i14 => k_is)
    (case a15 => k_is)
    (case l15 => k_is)
    (case c15 => k_is)
    (case k15 => k_is)
    (case i15 => k_is)
    (case a16 => k_is)
    (case l16 => k_is)
    (case c16 => k_is)
    (case k16 => k_is)
    (case a17 => k_is)
    (case l17 => k_is)
    (case c17 => k_is)
    (case k17 => k_is)
    (case i17 => k_is)
    (case a18 => k_is)
    (case l18 => k_is)
    (case c18 => k_is)
    (case k18 => k_is)
    (case i18 => k_is)
    (case a19 => k_is)
    (case l19 => k_is)
    (case c19 => k_is)
    (case k19 => k_is)
    (case i19 => k_is)
    (case a20 => k_is)
    (case l20 => k_is)
    (case c20 => k_is)
    (case k20 => k_is)
    (case i20 => k_is)
    (case a21 => k_is)
    (case l21 => k_is)
    (case c21 => k_is)
    (case k21 => k_is)
    (case i21 => k_is)
    (case a22 => k_is)
    (case l22 => k_is)
    (case c22 => k_is)
    (case k22 => k_is)
    (case i22 => k_is)
    (case a23 => k_is)
    (case l23 => k_is)
    (case c23 => k_is)
    (case k23 => k_is)
    (case i23 => k_is)
    (case a24 => k_is)
    (case l24 => k_is)
    (case c24 => k_is)
    (case k24 => k_is)
    (case i24 => k_is)
    (case a25 => k_is)
    (case l25 => k_is)
    (case c25 => k_is)
    (case k25 => k_is)
    (case i25 => k_is)
    (case a26 => k_is)
    (case l26 => k_is)
    (case c26 => k_is)
    (case k26 => k_is)
    (case a27 => k_is)
    (case l27 => k_is)
    (case c27 => k_is)
    (case k27 => k_is)
    (case a28 => k_is)
    (case l28 => k_is)
    (case c28 => k_is)
    (case k28 => k_is)
    (case a29 => k_is)
    (case l29 => k_is)
    (case c29 => k_is)
    (case k29 => k_is)
    (case a30 => k_is)
    (case l30 => k_is)
    (case c30 => k_is)
    (case k30 => k_is)
    (case a31 => k_is)
    (case l31 => k_is)
    (case c31 => k_is)
    (case k31 => k_is)
    (case a32 => k_is)
    (case l32 => k_is)
    (case c32 => k_is)
    (case k32 => k_is)
    (case a33 => k_is)
    (case l33 => k_is)
    (case c33 => k_is)
    (case k33 => k_is)
    (case a34 => k_is)
    (case l34 => k_is)
    (case c34 => k_is)
    (case k34 => k_is)
    (case a35 => k_is)
    (case l35 => k_is)
    (case c35 => k_is)
    (case k35 => k_is)
    (case a36 => k_is)
    (case l36 => k_is)
    (case c36 => k_is)
    (case k36 => k_is)
    (case pg_GrowingWorld => k_is)
    (case hd_GrowingWorld => k_is)
    (case po_GrowingWorld => k_is)
    (case sa_GrowingWorld => k_is)
    (case mk_GrowingWorld => k_is)
    (case kc_GrowingWorld => k_is)
    (case in_GrowingWorld => k_is)
    (case na_GrowingWorld_wheel => k_is)
    (case na_GrowingWorld_lengths => k_is)
    (case na_GrowingWorld_numbers => k_is)
    (case me_GrowingWorld_put => k_is)
    (case t1_GrowingWorld => k_is)
    (case t2_GrowingWorld => k_is)
    (case t3_GrowingWorld => k_is)
    (case t4_GrowingWorld => k_is)
    (case pg_Guard => k_is)
    (case hd_Guard => k_is)
    (case po_Guard => k_is)
    (case sa_Guard => k_is)
    (case mk_Guard => k_is)
    (case kc_Guard => k_is)
    (case in_Guard => k_is)
    (case na_Guard_axis => k_is)
    (case na_Guard_low => k_is)
    (case na_Guard_high => k_is)
    (case na_Guard_inner => k_is)
    (case na_Guard_outer => k_is)
    (case me_Guard_lets_in => k_is)
    (case me_Guard_looked_at => k_is)
    (case me_Guard_worth => k_is)
    (case t1_Guard => k_is)
    (case t2_Guard => k_is)
    (case t3_Guard => k_is)
    (case t4_Guard => k_is)
    (case pg_Let => k_is)
    (case hd_Let => k_is)
    (case po_Let => k_is)
    (case sa_Let => k_is)
    (case mk_Let => k_is)
    (case kc_Let => k_is)
    (case in_Let => k_is)
    (case na_Let_name => k_is)
    (case na_Let_axes => k_is)
    (case na_Let_term => k_is)
    (case t1_Let => k_is)
    (case t2_Let => k_is)
    (case t3_Let => k_is)
    (case t4_Let => k_is)
    (case mb_Let_list => k_is)
    (case mb_Let_tuple => k_is)
    (case mb_Let_dict => k_is)
    (case pg_Number => k_is)
    (case hd_Number => k_is)
    (case po_Number => k_is)
    (case sa_Number => k_is)
    (case mk_Number => k_is)
    (case kc_Number => k_is)
    (case in_Number => k_is)
    (case na_Number_number => k_is)
    (case me_Number_worth => k_is)
    (case t1_Number => k_is)
    (case t2_Number => k_is)
    (case t3_Number => k_is)
    (case t4_Number => k_is)
    (case pg_Plus => k_is)
    (case hd_Plus => k_is)
    (case po_Plus => k_is)
    (case sa_Plus => k_is)
    (case mk_Plus => k_is)
    (case kc_Plus => k_is)
    (case in_Plus => k_is)
    (case na_Plus_left => k_is)
    (case na_Plus_right => k_is)
    (case me_Plus_joined => k_is)
    (case me_Plus_worth => k_is)
    (case t1_Plus => k_is)
    (case t2_Plus => k_is)
    (case t3_Plus => k_is)
    (case t4_Plus => k_is)
    (case pg_Program => k_is)
    (case hd_Program => k_is)
    (case po_Program => k_is)
    (case sa_Program => k_is)
    (case mk_Program => k_is)
    (case kc_Program => k_is)
    (case in_Program => k_is)
    (case na_Program_wheel => k_is)
    (case na_Program_axes => k_is)
    (case na_Program_tables => k_is)
    (case na_Program_lets => k_is)
    (case na_Program_outs => k_is)
    (case t1_Program => k_is)
    (case t2_Program => k_is)
    (case t3_Program => k_is)
    (case t4_Program => k_is)
    (case pg_Read => k_is)
    (case hd_Read => k_is)
    (case po_Read => k_is)
    (case sa_Read => k_is)
    (case mk_Read => k_is)
    (case kc_Read => k_is)
    (case in_Read => k_is)
    (case na_Read_array => k_is)
    (case na_Read_indexes => k_is)
    (case me_Read_cell_at => k_is)
    (case me_Read_worth => k_is)
    (case t1_Read => k_is)
    (case t2_Read => k_is)
    (case t3_Read => k_is)
    (case t4_Read => k_is)
    (case pg_Times => k_is)
    (case hd_Times => k_is)
    (case po_Times => k_is)
    (case sa_Times => k_is)
    (case mk_Times => k_is)
    (case kc_Times => k_is)
    (case in_Times => k_is)
    (case na_Times_left => k_is)
    (case na_Times_right => k_is)
    (case me_Times_joined => k_is)
    (case me_Times_worth => k_is)
    (case t1_Times => k_is)
    (case t2_Times => k_is)
    (case t3_Times => k_is)
    (case t4_Times => k_is)
    (case z_range => k_is)
    (case z_isinstance => k_is)
    (case z_list => k_is)
    (case z_tuple => k_is)
    (case z_dict => k_is)
    (case z_set => k_is)
    (case z_len => k_is)
    (case z_zip => k_is)
    (case z_bool => k_is)
    (case z_int => k_is)
