import PyProof.Rows.All
import Wide.All
import OpenK.AllK
import Wide.FinOn
import Lean
import PyProof.EqAt
import PyProof.EqKinds
import PyProof.TupleCall
import KE.KDictLaws
import KE.KDictList
import KE.KDictOf
import KE.KEqDict
import KE.KTryMore
import PyProof.AttrMissHeap
import PyProof.CompUse
import PyProof.ConsumeWalk
import PyProof.Conv_int_bool
import PyProof.DictItems
import PyProof.DictValues
import PyProof.DictWalks
import PyProof.EnumFor
import PyProof.EnumMake
import PyProof.EnumStmt
import PyProof.FString5
import PyProof.FactsAll.set
import PyProof.FactsAll.subtypes_5
import PyProof.FactsAll.zip
import PyProof.NeKinds
import PyProof.P3Eq
import PyProof.Rows.SetFrom
import PyProof.SetRoads
import PyProof.StrWalks
import PyProof.SumAny
import PyProof.Walks
import PySem.Challenge.RW_arrayloom_k42_the_first_nest
-- CHANGE: your row's module here, as the last of these rows
set_option Elab.async false
set_option linter.all false
set_option maxRecDepth 100000
/-! THE HAND LAYER, for ints, bools, texts, own classes, LISTS and tuples (index, slices, in, append, pop ..), calls, loops. Paste it whole ahead of your own text; what your proof does not reach may be deleted. -/
namespace L2
open PySem PySem.Spec PyProof.Rows

/-- a key: an int or a str -/
abbrev Key := Sum Int Str
def keyIs : Key → Value → Bool
  | .inl k, v => Value.isInt k v
  | .inr x, v => Value.isStrOf x v
def keyH (w : World) : Key → Int
  | .inl k => hashInt k
  | .inr x => hashStr w x
theorem keyIs_shape : ∀ {k : Key} {v : Value}, keyIs k v = true → (∃ i t, k = Sum.inl i ∧ v = Value.int i t) ∨ (∃ x t, k = Sum.inr x ∧ v = Value.str x t)
  | .inl i, v, h => by
    obtain ⟨t, e⟩ := Value.isInt_shape (k := i) (v := v) h
    exact .inl ⟨i, t, rfl, e⟩
  | .inr x, v, h => by
    obtain ⟨t, e⟩ := Value.isStrOf_shape (x := x) (v := v) h
    exact .inr ⟨x, t, rfl, e⟩
theorem keyIs_int (i : Int) (t : Tok) : keyIs (.inl i) (.int i t) = true := by simp [keyIs, Value.isInt]
theorem keyIs_str (x : Str) (t : Tok) : keyIs (.inr x) (.str x t) = true := by simp [keyIs, Value.isStrOf]
theorem key_ll (a b : Int) : decide ((Sum.inl a : Key) = Sum.inl b) = (a == b) := by
  by_cases e : a = b
  · subst e; simp
  · have h : ¬ (Sum.inl a : Key) = Sum.inl b := fun q => e (Sum.inl.inj q)
    rw [decide_eq_false h]
    exact (beq_eq_false_iff_ne.mpr e).symm
theorem key_rr (a b : Str) : decide ((Sum.inr a : Key) = Sum.inr b) = decide (a = b) := by
  by_cases e : a = b
  · subst e; simp
  · have h : ¬ (Sum.inr a : Key) = Sum.inr b := fun q => e (Sum.inr.inj q)
    rw [decide_eq_false h, decide_eq_false e]
theorem key_lr (a : Int) (b : Str) : decide ((Sum.inl a : Key) = Sum.inr b) = false := decide_eq_false (fun q => nomatch q)
theorem key_rl (a : Str) (b : Int) : decide ((Sum.inr a : Key) = Sum.inl b) = false := decide_eq_false (fun q => nomatch q)

def mixKind (prog : Program) (w : World) : PySem.KeyKind prog w Key where
  is := keyIs
  hash := keyH w
  inj := fun v a b ha hb => by
    rcases keyIs_shape ha with ⟨i, t, rfl, rfl⟩ | ⟨x, t, rfl, rfl⟩
    · rcases keyIs_shape hb with ⟨j, u, rfl, e⟩ | ⟨y, u, rfl, e⟩
      · injection e with e1 _; rw [e1]
      · exact nomatch e
    · rcases keyIs_shape hb with ⟨j, u, rfl, e⟩ | ⟨y, u, rfl, e⟩
      · exact nomatch e
      · injection e with e1 _; rw [e1]
  byValue := fun k v h => by
    rcases keyIs_shape h with ⟨i, t, rfl, rfl⟩ | ⟨x, t, rfl, rfl⟩ <;> rfl
  pyHash := fun hv h => by
    rcases keyIs_shape hv with ⟨i, t, rfl, rfl⟩ | ⟨x, t, rfl, rfl⟩
    · exact wpAny_pyHash_int h
    · exact wpAny_pyHash_str h
  eqBool := fun hu hv h => by
    rcases keyIs_shape hu with ⟨i, t, rfl, rfl⟩ | ⟨x, t, rfl, rfl⟩
    · rcases keyIs_shape hv with ⟨j, u, rfl, rfl⟩ | ⟨y, u, rfl, rfl⟩
      · rw [key_ll] at h; exact wpAny_eqBool_int h
      · rw [key_lr] at h; exact SeqAt.EqAt.int_str i t y u _ _ _ _ h
    · rcases keyIs_shape hv with ⟨j, u, rfl, rfl⟩ | ⟨y, u, rfl, rfl⟩
      · rw [key_rl] at h; exact SeqAt.EqAt.str_int x t j u _ _ _ _ h
      · rw [key_rr] at h; exact wpAny_eqBool_str h
  «strs» := fun k x t v h => by
    rcases keyIs_shape h with ⟨i, u, rfl, e⟩ | ⟨y, u, rfl, e⟩
    · exact nomatch e
    · injection e with e1 _
      subst e1
      cases v <;> rfl

theorem mixKind_int (prog : Program) (w : World) (i : Int) (t : Tok) : (mixKind prog w).is (.inl i) (.int i t) = true := keyIs_int i t
theorem mixKind_str (prog : Program) (w : World) (x : Str) (t : Tok) : (mixKind prog w).is (.inr x) (.str x t) = true := keyIs_str x t
end L2

namespace L2
open PySem PySem.Spec PyProof.Rows

/-- a value, without the heap -/
inductive V where
  | non | bl (b : Bool) | int (i : Int) | str (x : Str) | byt (b : Array UInt8) | flt (b : UInt64) | ref (a : Addr) | ty (n : String)
  deriving DecidableEq

def RelV : V → Value → Prop
  | .non, u => u = Value.none
  | .bl b, u => u = Value.bool b
  | .int i, u => ∃ t, u = Value.int i t
  | .str x, u => ∃ t, u = Value.str x t
  | .byt b, u => ∃ t, u = Value.bytes b t
  | .flt b, u => ∃ t, u = Value.float b t
  | .ref a, u => u = Value.ref a
  | .ty n, u => u = Value.type n

abbrev Vals : List V → List Value → Prop := Paired RelV
theorem Vals.length {xs : List V} {us : List Value} (r : Vals xs us) : xs.length = us.length := Paired.length r
theorem Vals.get : ∀ {xs : List V} {us : List Value} {i : Nat} {x : V}, Vals xs us → xs[i]? = some x → ∃ u, us[i]? = some u ∧ RelV x u
  | _, _, _, _, .nil, e => by simp at e
  | _, _, 0, _, .cons r _, e => by simp at e; subst e; exact ⟨_, rfl, r⟩
  | _, _, i + 1, x, .cons _ t, e => by
    obtain ⟨u, h1, h2⟩ := Vals.get (i := i) (x := x) t (by simpa using e)
    exact ⟨u, by simpa using h1, h2⟩
theorem Vals.append : ∀ {xs ys : List V} {us ws : List Value}, Vals xs us → Vals ys ws → Vals (xs ++ ys) (us ++ ws)
  | _, _, _, _, .nil, s => s
  | _, _, _, _, .cons r t, s => .cons r (Vals.append t s)
theorem Vals.take : ∀ {xs : List V} {us : List Value} (n : Nat), Vals xs us → Vals (xs.take n) (us.take n)
  | _, _, 0, _ => .nil
  | _, _, _ + 1, .nil => .nil
  | _, _, n + 1, .cons r t => .cons r (Vals.take n t)
theorem Vals.drop : ∀ {xs : List V} {us : List Value} (n : Nat), Vals xs us → Vals (xs.drop n) (us.drop n)
  | _, _, 0, r => r
  | _, _, _ + 1, .nil => .nil
  | _, _, n + 1, .cons _ t => Vals.drop n t
def RelO : Option V → Option Value → Prop
  | some v, some u => RelV v u
  | none, none => True
  | _, _ => False
def KV {κ : Type} : List (κ × V) → List (κ × Value) → Prop := Paired fun (p : κ × V) (q : κ × Value) => p.1 = q.1 ∧ RelV p.2 q.2

/-- a key of a dict (00_mix): an int or a text -/
def kV : Key → V
  | .inl i => .int i
  | .inr x => .str x

/-- what stands at a tracked address -/
inductive HO where
  /-- a list -/
  | lst (xs : List V)
  /-- a tuple (never changes) -/
  | tup (xs : List V)
  /-- a dict whose keys are ints and texts; one whose keys are tuples of ints and texts (the empty one is both) -/
  | dK (kvs : List (Key × V)) | dT (kvs : List (List Key × V))
  /-- a set of ints: its members, its size -/
  | set (S : Int → Bool) (n : Nat)
  /-- an instance of the class at C, its dict at dx, its attributes -/
  | ins (C dx : Addr) (fs : List (Str × V))
  /-- the dict of the instance at x -/
  | own (x : Addr)
  /-- the dict of an exception -/
  | xd (fs : List (Str × V))
  /-- a bound method, f of x -/
  | met (f x : Addr)
  /-- a range object lo, lo + 1, .. below hi -/
  | rng (lo hi : Int)
  /-- a thing that is known to the object (the script; a dict while a loop walks it): read, never written while it is so -/
  | frz (o : Obj) (u : HO)
  /-- a code object's table -/
  | tbl (ps : Array Value)
  /-- any other thing, by what is true of its one object (a def of one's own: SetO a S n := HO.ext fun h => ..) -/
  | ext (φ : Heap → Prop)

abbrev Hp := Addr → Option HO
def upd (H : Hp) (a : Addr) (o : HO) : Hp := fun b => if b = a then some o else H b
theorem upd_same {H : Hp} {a : Addr} {o : HO} : upd H a o a = some o := by unfold upd; rw [if_pos rfl]
theorem upd_ne {H : Hp} {a b : Addr} {o : HO} (h : b ≠ a) : upd H a o b = H b := by unfold upd; rw [if_neg h]
theorem upd_upd {H : Hp} {a : Addr} {o u : HO} : upd (upd H a o) a u = upd H a u := by
  funext b; unfold upd; split <;> rfl
/-- two objects of different content stand apart -/
theorem ne_of {H : Hp} {a b : Addr} {o u : HO} (h : H a = some o) (h' : H b = some u) (d : o ≠ u) : a ≠ b := by
  intro e; subst e; rw [h] at h'; exact d (Option.some.inj h')
theorem ne_of_none {H : Hp} {a b : Addr} {o : HO} (h : H a = some o) (h' : H b = none) : a ≠ b := by
  intro e; subst e; rw [h] at h'; cases h'

section
variable (P : Program) (w : World)
def ObjOk (H : Hp) (h : Heap) (a : Addr) : HO → Prop
  | .lst xs => xs.length ≤ sizeLine ∧ ∃ (its : List Value) (n : Nat), Vals xs its ∧ h.get? a = some { cls := .type "list", data := .seq its.toArray n }
  | .tup xs => xs.length ≤ sizeLine ∧ ∃ its : List Value, Vals xs its ∧ IsTup h a its.toArray
  | .dK kvs => kvs.length ≤ sizeLine ∧ (a == sysModules) = false ∧ ∃ vs, KV kvs vs ∧ h.DictOf (mixKind P w) a vs
  | .dT kvs => kvs.length ≤ sizeLine ∧ (a == sysModules) = false ∧ ∃ xs : List (List Key × Addr × Value),
      Paired (fun (p : List Key × V) (q : List Key × Addr × Value) => p.1 = q.1 ∧ H q.2.1 = some (.tup (p.1.map kV)) ∧ RelV p.2 q.2.2) kvs xs ∧
      ∃ o es ep, h.get? a = some o ∧ o.ExactDict ∧ o.data = .dict es ep ∧ es.toList = xs.map (entryOfKey (tupleKind (mixKind P w))) ∧ (xs.map (·.1)).Nodup
  | .set S n => h.SetOf (intKind P w) a S n
  | .ins C dx fs => H dx = some (.own a) ∧ fs.length ≤ 1000 ∧ dx ≠ a ∧ h.get? a = some (PySem.W.instObj C dx) ∧
      ∃ mA, h.Ns1 dx mA ∧ (∀ f, RelO (fs.lookup f) (mA f)) ∧ PySem.Within mA (fs.map (·.1))
  | .own _ => ∃ o, h.get? a = some o
  | .xd fs => ∃ mA, h.Ns1 a mA ∧ ∀ f, RelO (fs.lookup f) (mA f)
  | .rng lo hi => ∃ t u v, h.get? a = some { cls := .type "range", data := .fields #[.int lo t, .int hi u, .int 1 v] }
  | .frz o u => h.get? a = some o ∧ ObjOk H h a u
  | .tbl ps => h.get? a = some { cls := .none, data := .fields ps }
  | .met f x => h.get? a = some (PySem.W.methodObj (.ref f) (.ref x))
  | .ext φ => φ h ∧ (∃ o, h.get? a = some o) ∧ ∀ h1 h2 : Heap, φ h1 → (∀ o, h1.get? a = some o → h2.get? a = some o) → φ h2
/-- the abstract heap is held -/
def HOk (H : Hp) (h : Heap) : Prop := ∀ a o, H a = some o → ObjOk P w H h a o
end

section
variable {P : Program} {w : World} {H H' : Hp} {h h' : Heap} {a : Addr} {o : HO}
theorem ObjOk.lt (x : ObjOk P w H h a o) : a < h.objs.size := by
  cases o with
  | lst xs => obtain ⟨_, _, _, _, e⟩ := x; exact Heap.lt_size e
  | tup xs => obtain ⟨_, _, _, p⟩ := x; exact p.lt
  | dK kvs => obtain ⟨_, _, _, _, o, _, _, e, _⟩ := x; exact Heap.lt_size e
  | dT kvs => obtain ⟨_, _, _, _, o, _, _, e, _⟩ := x; exact Heap.lt_size e
  | set S n => obtain ⟨o, _, _, _, e, _⟩ := x; exact Heap.lt_size e
  | ins C dx fs => obtain ⟨_, _, _, e, _⟩ := x; exact Heap.lt_size e
  | own y => obtain ⟨_, e⟩ := x; exact Heap.lt_size e
  | xd fs => obtain ⟨_, ⟨_, _, _, e, _⟩, _⟩ := x; exact Heap.lt_size e
  | rng lo hi => obtain ⟨_, _, _, e⟩ := x; exact Heap.lt_size e
  | frz ob u => obtain ⟨e, _⟩ := x; exact Heap.lt_size e
  | tbl ps => exact Heap.lt_size (show h.get? a = some _ from x)
  | met f y => exact Heap.lt_size (show h.get? a = some _ from x)
  | ext φ => obtain ⟨_, ⟨_, e⟩, _⟩ := x; exact Heap.lt_size e
theorem Paired.mapP {α β : Type} {F G : α → β → Prop} : ∀ {l₁ : List α} {l₂ : List β}, Paired F l₁ l₂ → (∀ a b, F a b → G a b) → Paired G l₁ l₂
  | _, _, .nil, _ => .nil
  | _, _, .cons r t, f => .cons (f _ _ r) (Paired.mapP t f)
/-- what an object's description leans on: its own object, its own dict, the tuples -/
theorem ObjOk.stay (x : ObjOk P w H h a o) (k : ∀ b u, (b = a ∨ H b = some (.own a)) → h.get? b = some u → h'.get? b = some u)
    (ho : ∀ b, H b = some (.own a) → H' b = some (.own a)) (ht : ∀ b xs, H b = some (.tup xs) → H' b = some (.tup xs)) : ObjOk P w H' h' a o := by
  induction o with
  | lst xs => obtain ⟨z, its, n, r, e⟩ := x; exact ⟨z, its, n, r, k _ _ (.inl rfl) e⟩
  | tup xs => obtain ⟨z, its, r, ob, e, c⟩ := x; exact ⟨z, its, r, ob, k _ _ (.inl rfl) e, c⟩
  | dK kvs => obtain ⟨z, y, vs, r, ob, es, ep, e, c⟩ := x; exact ⟨z, y, vs, r, ob, es, ep, k _ _ (.inl rfl) e, c⟩
  | dT kvs =>
    obtain ⟨z, y, xs, r, ob, es, ep, e, c⟩ := x
    exact ⟨z, y, xs, Paired.mapP r fun p q z => ⟨z.1, ht _ _ z.2.1, z.2.2⟩, ob, es, ep, k _ _ (.inl rfl) e, c⟩
  | set S n => obtain ⟨ob, es, ep, t, e, c⟩ := x; exact ⟨ob, es, ep, t, k _ _ (.inl rfl) e, c⟩
  | ins C dx fs =>
    obtain ⟨d, z, ne, e, mA, ⟨od, es, ep, e2, c⟩, r⟩ := x
    exact ⟨ho _ d, z, ne, k _ _ (.inl rfl) e, mA, ⟨od, es, ep, k _ _ (.inr d) e2, c⟩, r⟩
  | own y => obtain ⟨ob, e⟩ := x; exact ⟨ob, k _ _ (.inl rfl) e⟩
  | xd fs => obtain ⟨mA, ⟨od, es, ep, e, c⟩, r⟩ := x; exact ⟨mA, ⟨od, es, ep, k _ _ (.inl rfl) e, c⟩, r⟩
  | rng lo hi => obtain ⟨t, u, v, e⟩ := x; exact ⟨t, u, v, k _ _ (.inl rfl) e⟩
  | frz ob u ih => obtain ⟨e, q⟩ := x; exact ⟨k _ _ (.inl rfl) e, ih q⟩
  | tbl ps =>
    have e : h.get? a = some { cls := .none, data := .fields ps } := x
    show h'.get? a = some { cls := .none, data := .fields ps }
    exact k a _ (.inl rfl) e
  | met f y =>
    have e : h.get? a = some (PySem.W.methodObj (.ref f) (.ref y)) := x
    show h'.get? a = some (PySem.W.methodObj (.ref f) (.ref y))
    exact k a _ (.inl rfl) e
  | ext φ => obtain ⟨p, ⟨o, e⟩, st⟩ := x; exact ⟨st _ _ p fun o q => k _ _ (.inl rfl) q, ⟨o, k _ _ (.inl rfl) e⟩, st⟩
theorem HOk.lt (x : HOk P w H h) (e : H a = some o) : a < h.objs.size := (x a o e).lt
theorem HOk.fresh (x : HOk P w H h) (e : h.objs.size ≤ a) : H a = none := by
  cases q : H a with
  | none => rfl
  | some u => exact absurd (Nat.lt_of_lt_of_le (x.lt q) e) (Nat.lt_irrefl _)
/-- every object of the heap is kept -/
theorem HOk.kept (x : HOk P w H h) (k : ∀ b u, h.get? b = some u → h'.get? b = some u) : HOk P w H h' := fun a o e =>
  (x a o e).stay (fun b u _ q => k b u q) (fun _ q => q) fun _ _ q => q
/-- a new object is laid and tracked -/
theorem HOk.laid (x : HOk P w H h) (k : ∀ b u, h.get? b = some u → h'.get? b = some u) (hp : h.objs.size ≤ a) (new : ObjOk P w (upd H a o) h' a o) : HOk P w (upd H a o) h' := fun b u e => by
  have hn := x.fresh hp
  by_cases hb : b = a
  · subst hb; rw [upd_same] at e; cases e; exact new
  · rw [upd_ne hb] at e
    exact (x b u e).stay (fun c v _ q => k c v q) (fun c q => by rw [upd_ne (ne_of_none q hn)]; exact q) fun c xs q => by rw [upd_ne (ne_of_none q hn)]; exact q
end

/-- what may be read as u: it is u, or a known u -/
def Rd (H : Hp) (a : Addr) (u : HO) : Prop := H a = some u ∨ ∃ o, H a = some (.frz o u)
theorem Rd.ok {P : Program} {w : World} {H : Hp} {h : Heap} {a : Addr} {u : HO} (r : Rd H a u) (x : HOk P w H h) : ObjOk P w H h a u := by
  rcases r with r | ⟨o, r⟩
  · exact x a u r
  · obtain ⟨_, q⟩ := x a _ r
    exact q
/-- what may be written -/
def Mut : Option HO → Prop
  | some (.lst _) => True
  | some (.dK _) => True
  | some (.dT _) => True
  | some (.set _ _) => True
  | some (.ins _ _ _) => True
  | some (.ext _) => True
  | _ => False
section
variable {P : Program} {w : World} {H : Hp} {h h' : Heap} {x e : Addr} {o' : HO}
/-- the object at e is changed: x itself, or the dict of the instance x -/
theorem HOk.write (ok : HOk P w H h) (mu : Mut (H x)) (he : e = x ∨ H e = some (.own x)) (k : ∀ b u, b ≠ e → h.get? b = some u → h'.get? b = some u) (heo : ∃ u, h'.get? e = some u)
    (new : ObjOk P w (upd H x o') h' x o') : HOk P w (upd H x o') h' := fun b u q => by
  have nown : ∀ c y, H c = some (.own y) → c ≠ x := fun c y r z => by subst z; rw [r] at mu; exact mu
  have ntup : ∀ c xs, H c = some (.tup xs) → c ≠ x := fun c xs r z => by subst z; rw [r] at mu; exact mu
  by_cases hb : b = x
  · subst hb; rw [upd_same] at q; cases q; exact new
  · rw [upd_ne hb] at q
    by_cases hbe : b = e
    · have q' : H b = some (.own x) := by
        rcases he with z | z
        · exact absurd (hbe.trans z) hb
        · rw [hbe]; exact z
      rw [q] at q'; cases q'
      obtain ⟨v, hv⟩ := heo
      exact ⟨v, by rw [hbe]; exact hv⟩
    · refine (ok b u q).stay (fun c v hc r => k c v ?_ r) (fun c r => by rw [upd_ne (nown c b r)]; exact r) fun c xs r => by rw [upd_ne (ntup c xs r)]; exact r
      rcases hc with rfl | hc
      · exact hbe
      · rintro rfl
        rcases he with z | z
        · exact nown c b hc z
        · rw [hc] at z; cases z; exact hb rfl
end

/-! ### kept unless tracked; of the frames at fs (the callers') the slots may change (an exception that passes writes there); of the records at ex (iterators) nothing is said -/
structure Un (fs ex : List Addr) (H H' : Hp) (h h' : Heap) : Prop where
  keep : ∀ b o, h.get? b = some o → H b = none → b ∉ fs → b ∉ ex → h'.get? b = some o
  slot : ∀ b o, h.get? b = some o → H b = none → b ∈ fs → b ∉ ex → ∃ sl, h'.get? b = some { o with slots := sl }
  free : ∀ b o, h.get? b = some o → H b = none → b ∉ ex → H' b = none
  there : ∀ b o, h.get? b = some o → b ∉ ex → ∃ o', h'.get? b = some o'
  tups : ∀ b xs, H b = some (.tup xs) → H' b = some (.tup xs)
  frzs : ∀ b o u, H b = some (.frz o u) → H' b = some (.frz o u)
  tbls : ∀ b ps, H b = some (.tbl ps) → ∃ more, H' b = some (.tbl (ps ++ more))
section
variable {fs fs' ex ex' : List Addr} {H H1 H2 : Hp} {h h1 h2 h' : Heap} {a x e : Addr} {o : HO}
theorem Un.any (u : Un fs ex H H1 h h1) {b : Addr} {ob : Obj} (q : h.get? b = some ob) (n : H b = none) (hx : b ∉ ex) : ∃ sl, h1.get? b = some { ob with slots := sl } := by
  by_cases hb : b ∈ fs
  · exact u.slot b ob q n hb hx
  · exact ⟨ob.slots, u.keep b ob q n hb hx⟩
theorem Un.kept (k : ∀ b u, h.get? b = some u → h'.get? b = some u) : Un fs ex H H h h' :=
  ⟨fun b ob q _ _ _ => k b ob q, fun b ob q _ _ _ => ⟨ob.slots, k b ob q⟩, fun _ _ _ n _ => n, fun b ob q _ => ⟨ob, k b ob q⟩, fun _ _ q => q, fun _ _ _ q => q, fun _ ps q => ⟨#[], by rw [q]; simp⟩⟩
theorem Un.refl : Un fs ex H H h h := Un.kept fun _ _ q => q
theorem Un.laid (k : ∀ b u, h.get? b = some u → h'.get? b = some u) (hp : h.objs.size ≤ a) (hn : H a = none) : Un fs ex H (upd H a o) h h' where
  keep := fun b u q _ _ _ => k b u q
  slot := fun b u q _ _ _ => ⟨u.slots, k b u q⟩
  free := fun b u q n _ => by rw [upd_ne (Nat.ne_of_lt (Nat.lt_of_lt_of_le (Heap.lt_size q) hp))]; exact n
  there := fun b u q _ => ⟨u, k b u q⟩
  tups := fun b xs q => by rw [upd_ne (ne_of_none q hn)]; exact q
  frzs := fun b u xs q => by rw [upd_ne (ne_of_none q hn)]; exact q
  tbls := fun b ps q => ⟨#[], by rw [upd_ne (ne_of_none q hn), q]; simp⟩
theorem Un.write (mu : Mut (H x)) (he : e = x ∨ H e = some (.own x)) (k : ∀ b u, b ≠ e → h.get? b = some u → h'.get? b = some u) (heo : ∃ u, h'.get? e = some u) : Un fs ex H (upd H x o) h h' := by
  have hx : ∀ b, H b = none → b ≠ x := fun b n z => by subst z; rw [n] at mu; exact mu
  have hb : ∀ b, H b = none → b ≠ e := fun b n z => by
    subst z
    rcases he with r | r
    · exact hx b n r
    · rw [n] at r; cases r
  have hm : ∀ b u, H b = some u → ¬ Mut (some u) → b ≠ x := fun b u q nm z => by subst z; rw [q] at mu; exact nm mu
  refine ⟨fun b u q n _ _ => k b u (hb b n) q, fun b u q n _ _ => ⟨u.slots, k b u (hb b n) q⟩, fun b u q n _ => by rw [upd_ne (hx b n)]; exact n, fun b u q _ => ?_,
    fun b xs q => by rw [upd_ne (hm b _ q fun z => z)]; exact q, fun b u xs q => by rw [upd_ne (hm b _ q fun z => z)]; exact q, fun b ps q => ⟨#[], by rw [upd_ne (hm b _ q fun z => z), q]; simp⟩⟩
  by_cases hbe : b = e
  · subst hbe; exact heo
  · exact ⟨u, k b u hbe q⟩
end

/-! ### the heap without what is tracked -/
def trk (h : Heap) (H : Hp) : List Addr := (List.range h.objs.size).filter fun a => (H a).isSome
def hidT (h : Heap) (H : Hp) : Heap := PySem.W.hideAll h (trk h H)
theorem hidT_size (h : Heap) (H : Hp) : (hidT h H).objs.size = h.objs.size := PySem.W.hideAll_size _ _
theorem hidT_get {h : Heap} {H : Hp} {b : Addr} {o : Obj} (e : h.get? b = some o) (n : H b = none) : (hidT h H).get? b = some o :=
  PySem.W.hideAll_get _ e fun hm => by
    have q : (H b).isSome = true := (List.mem_filter.mp hm).2
    rw [n] at q; simp at q
theorem of_hidT {h : Heap} {H : Hp} {b : Addr} {o : Obj} (e : (hidT h H).get? b = some o) : h.get? b = some o ∧ H b = none := by
  have e' : h.get? b = some o := PySem.W.of_hideAll (trk h H) e
  refine ⟨e', ?_⟩
  cases q : H b with
  | none => rfl
  | some x =>
    have hm : b ∈ trk h H := List.mem_filter.mpr ⟨List.mem_range.mpr (Heap.lt_size e'), by simp [q]⟩
    have z : (hidT h H).get? b = none := PySem.W.hideAll_none (trk h H) hm
    rw [z] at e; cases e

/-! ### OpenK's ledger, filled with every new object but one -/
end L2

namespace L2
open PySem PySem.Spec PyProof.Rows

/-- the module's facts, over the base: the heap at the law's entry without what is tracked there -/
structure Mod (K : PySem.W.Frag) (mg : Str → Option Value) (base : Heap) : Prop where
  kin : K.In base
  glob : base.Ns mainGlobals mg
  blt : ∃ mb, base.Ns builtinsNs mb ∧ ∀ x : Str, x ≠ "__name__" → mb x = bootBuiltins x
  nolimit : base.NoLimit

/-- the context: a def's body (or a comprehension's block) running. base: fixed through the whole law; s₀, H₀: the entry; outer: the frames whose slots others may change (a def's callers); stack: all frames that run;
   ex: iterators that were made ahead of the entry and are walked here (a comprehension's); fn: the names whose cells were made at the entry (a def: all; a comprehension's block: its own); calm: not within an except suite; pn: pins that every state bears; xe: what is wanted of an exception that leaves the code -/
structure Cx where
  prog : Program
  w : World
  K : PySem.W.Frag
  mg : Str → Option Value
  base : Heap
  A : Around
  N : List Str
  s₀ : Shared
  H₀ : Hp
  env : Env
  outer : List Env
  stack : List Env
  ex : List Addr
  fn : Str → Bool
  calm : Bool
  pn : List (Addr × Obj)
  xe : Value → Shared → Prop
/-- the callers' frames -/
def frs (l : List Env) : List Addr := l.filterMap (·.frame)
abbrev Cx.fs (X : Cx) : List Addr := frs X.outer

def Vis (sc : Scope) (x : Str) : Prop := sc.names.lookup x = some .local ∨ sc.names.lookup x = some .cell ∨ sc.names.lookup x = some .free
def Loc (sc : Scope) (x : Str) : Prop := sc.names.lookup x = some .local ∨ sc.names.lookup x = some .cell
def Look (env : Env) (h : Heap) (m : Str → Option Value) (x : Str) (u : Value) : Prop :=
  (env.kindOf x = some .local ∧ m x = some u) ∨ ((env.kindOf x = some .cell ∨ env.kindOf x = some .free) ∧ ∃ c, env.cells.lookup x = some c ∧ h.IsCell c (some u))

structure Cx.Ok (X : Cx) : Prop where
  mod : Mod X.K X.mg X.base
  kind : X.env.scope.kind = .function
  glob : X.env.globals = mainGlobals
  blt : X.env.builtins = builtinsNs
  above : X.s₀.heap.objs.size ≤ X.env.locals
  inj : ∀ x y c, X.env.cells.lookup x = some c → X.env.cells.lookup y = some c → x = y
  has : ∀ x, (X.env.kindOf x = some .cell ∨ X.env.kindOf x = some .free) → ∃ c, X.env.cells.lookup x = some c
  cab : ∀ x c, X.fn x = true → X.env.cells.lookup x = some c → X.s₀.heap.objs.size ≤ c
  hd : X.calm = true → X.A.handled = none
  frames : X.A.frames = some X.stack
  stk : X.stack = X.outer ∨ (X.stack = X.env :: X.outer ∧ X.env.frame = some X.env.locals)
  exf : ∀ b ∈ X.ex, b ≠ X.env.locals ∧ ∀ x c, X.env.cells.lookup x = some c → c ≠ b
  bs : ∀ b o, X.base.get? b = some o → X.s₀.heap.get? b = some o ∧ X.H₀ b = none
  bsz : X.base.objs.size ≤ X.s₀.heap.objs.size
  noex : ∀ b o, X.base.get? b = some o → b ∉ X.ex
  exfs : ∀ b ∈ X.ex, b ∉ X.fs
  funs : X.s₀.heap.FunFrames X.base X.outer
  frf : ∀ b ∈ X.fs, X.H₀ b = none

structure Inv (X : Cx) (pins : List (Addr × Obj)) (σ : List (Option V)) (H : Hp) (s : Shared) : Prop where
  ok : X.Ok
  os : s.os = X.s₀.os
  bare : AllBare s.gens
  base : Un X.fs X.ex X.H₀ H X.s₀.heap s.heap
  loc : ∃ m, s.heap.Ns X.env.locals m ∧ ∀ (i : Nat) (x : Str) (v : V), X.N[i]? = some x → σ[i]? = some (some v) → Vis X.env.scope x → ∃ u, RelV v u ∧ Look X.env s.heap m x u
  cell : ∀ x c, X.env.cells.lookup x = some c → ∃ v, s.heap.IsCell c v
  free : H X.env.locals = none
  freeC : ∀ x c, X.env.cells.lookup x = some c → H c = none
  pin : ∀ p ∈ X.pn ++ pins, s.heap.get? p.1 = some p.2 ∧ H p.1 = none ∧ p.1 ≠ X.env.locals ∧ p.1 ∉ X.fs ∧ ∀ v, p.2.data ≠ .cell v
  hok : HOk X.prog X.w H s.heap
  len : σ.length = X.N.length

section
variable {X : Cx} {pins : List (Addr × Obj)} {σ : List (Option V)} {H H' : Hp} {s : Shared} {h' : Heap}

theorem Cx.Ok.nofr (ok : X.Ok) {b : Addr} {o : Obj} (e : X.base.get? b = some o) : b ∉ X.fs := fun hb => by
  have := (ok.funs.mem hb).1
  rw [e] at this; cases this
theorem Inv.bs (I : Inv X pins σ H s) : ∀ b o, X.base.get? b = some o → s.heap.get? b = some o ∧ H b = none := fun b o e =>
  ⟨I.base.keep b o (I.ok.bs b o e).1 (I.ok.bs b o e).2 (I.ok.nofr e) (I.ok.noex b o e), I.base.free b o (I.ok.bs b o e).1 (I.ok.bs b o e).2 (I.ok.noex b o e)⟩
theorem Inv.bk (I : Inv X pins σ H s) : ∀ b o, X.base.get? b = some o → s.heap.get? b = some o := fun b o e => (I.bs b o e).1
theorem Inv.mod (I : Inv X pins σ H s) : Mod X.K X.mg X.base := I.ok.mod
theorem Inv.kIn (I : Inv X pins σ H s) : X.K.In s.heap := I.ok.mod.kin.keeps I.bk
theorem Inv.lt (I : Inv X pins σ H s) : X.env.locals < s.heap.objs.size := let ⟨_, hn, _⟩ := I.loc; hn.lt
theorem Inv.sz (I : Inv X pins σ H s) : X.s₀.heap.objs.size ≤ s.heap.objs.size := Nat.le_trans I.ok.above (Nat.le_of_lt I.lt)
theorem Inv.nofs (I : Inv X pins σ H s) {a : Addr} (h : s.heap.objs.size ≤ a) : a ∉ X.fs := fun hb => by
  obtain ⟨_, o, ho, _⟩ := I.ok.funs.mem hb
  exact absurd (Nat.lt_of_lt_of_le (Heap.lt_size ho) (Nat.le_trans I.sz h)) (Nat.lt_irrefl _)
theorem Inv.cne (I : Inv X pins σ H s) : ∀ x c, X.env.cells.lookup x = some c → c ≠ X.env.locals := fun x c e z => by
  obtain ⟨v, o, ho, hd⟩ := I.cell x c e
  obtain ⟨m, ⟨o', es, ep, ho', hd', _⟩, _⟩ := I.loc
  rw [z, ho'] at ho; cases ho; rw [hd'] at hd; cases hd
theorem Inv.funs (I : Inv X pins σ H s) : s.heap.FunFrames X.base X.outer := by
  have all : ∀ (l : List Env), (∀ b ∈ frs l, b ∈ X.fs) → X.s₀.heap.FunFrames X.base l → s.heap.FunFrames X.base l := by
    intro l
    induction l with
    | nil => intro _ _; trivial
    | cons env r ih =>
      intro hs hl
      obtain ⟨hk, ⟨L, o, hf, hn, ho, hd⟩, hr⟩ := hl
      have hL : L ∈ X.fs := hs L (by unfold frs; rw [List.filterMap_cons, hf]; exact List.mem_cons_self)
      obtain ⟨sl, e⟩ := I.base.slot L o ho (I.ok.frf L hL) hL fun z => I.ok.exfs L z hL
      exact ⟨hk, ⟨L, _, hf, hn, e, hd⟩, ih (fun b hb => hs b (by unfold frs; rw [List.filterMap_cons, hf]; exact List.mem_cons_of_mem _ hb)) hr⟩
  exact all X.outer (fun _ hb => hb) I.ok.funs

/-- the frames that run, for a call -/
theorem Inv.stack (I : Inv X pins σ H s) : s.heap.FunFrames X.base X.stack := by
  rcases I.ok.stk with e | ⟨e, hf⟩
  · rw [e]; exact I.funs
  · rw [e]
    obtain ⟨m, hn, _⟩ := I.loc
    refine .cons (by rw [I.ok.kind]; decide) hf hn ?_ I.funs
    exact Heap.get?_none_of_le (Nat.le_trans I.ok.bsz I.ok.above)
theorem Inv.stkSub (I : Inv X pins σ H s) : ∀ b ∈ frs X.stack, b ∈ X.env.locals :: X.fs := fun b hb => by
  rcases I.ok.stk with e | ⟨e, hf⟩
  · rw [e] at hb; exact List.mem_cons_of_mem _ hb
  · rw [e] at hb
    unfold frs at hb
    rw [List.filterMap_cons, hf] at hb
    exact hb
theorem Inv.stkFree (I : Inv X pins σ H s) : ∀ b ∈ frs X.stack, H b = none := fun b hb => by
  rcases List.mem_cons.mp (I.stkSub b hb) with e | hb
  · rw [e]; exact I.free
  · obtain ⟨_, o, ho, _⟩ := I.ok.funs.mem hb
    exact I.base.free b o ho (I.ok.frf b hb) fun z => I.ok.exfs b z hb

/-- THE STEP: the untracked objects but the frame and the records at ch are kept (the callers' frames up to slots), the frame's map is kept, the new abstract heap is held -/
theorem Inv.step {g' : Array GenState} {t' : Nat} {d' : Drawn} {ch : List Addr} (I : Inv X pins σ H s)
    (hch : ∀ b ∈ ch, (b ∈ X.ex ∨ X.s₀.heap.objs.size ≤ b) ∧ b ≠ X.env.locals ∧ (∀ x c, X.env.cells.lookup x = some c → c ≠ b) ∧ ∀ p ∈ X.pn ++ pins, p.1 ≠ b)
    (keep : ∀ b o, b ≠ X.env.locals → b ∉ X.fs → b ∉ ch → s.heap.get? b = some o → H b = none → h'.get? b = some o)
    (slot : ∀ b o, b ≠ X.env.locals → b ∈ X.fs → b ∉ ch → s.heap.get? b = some o → H b = none → ∃ sl, h'.get? b = some { o with slots := sl }) (free : ∀ b o, b ∉ ch → s.heap.get? b = some o → H b = none → H' b = none)
    (there : ∀ b o, b ∉ ch → s.heap.get? b = some o → ∃ o', h'.get? b = some o')
    (tups : ∀ b xs, H b = some (.tup xs) → H' b = some (.tup xs)) (frzs : ∀ b o u, H b = some (.frz o u) → H' b = some (.frz o u)) (tbls : ∀ b ps, H b = some (.tbl ps) → ∃ more, H' b = some (.tbl (ps ++ more)))
    (ns : ∀ m, s.heap.Ns X.env.locals m → h'.Ns X.env.locals m) (hok : HOk X.prog X.w H' h') (hg : AllBare g') :
    Inv X pins σ H' { s with heap := h', gens := g', drawn := d', toks := t' } := by
  have neL : ∀ b o, X.s₀.heap.get? b = some o → b ≠ X.env.locals := fun b o e => Nat.ne_of_lt (Nat.lt_of_lt_of_le (Heap.lt_size e) I.ok.above)
  have neC : ∀ b o, X.s₀.heap.get? b = some o → b ∉ X.ex → b ∉ ch := fun b o e hx hb => by
    rcases (hch b hb).1 with z | z
    · exact hx z
    · exact absurd (Nat.lt_of_lt_of_le (Heap.lt_size e) z) (Nat.lt_irrefl _)
  have cellK : ∀ x c, X.env.cells.lookup x = some c → ∀ v, s.heap.IsCell c v → h'.IsCell c v := fun x c e v ⟨o, ho, hd⟩ => by
    have nch : c ∉ ch := fun z => (hch c z).2.2.1 x c e rfl
    by_cases hc : c ∈ X.fs
    · obtain ⟨sl, q⟩ := slot c o (I.cne x c e) hc nch ho (I.freeC x c e)
      exact ⟨_, q, hd⟩
    · exact ⟨o, keep c o (I.cne x c e) hc nch ho (I.freeC x c e), hd⟩
  refine ⟨I.ok, I.os, hg, ⟨fun b o e n hb hx => ?_, fun b o e n hb hx => ?_, fun b o e n hx => ?_, fun b o e hx => ?_, fun b xs e => tups b xs (I.base.tups b xs e), fun b o xs e => frzs b o xs (I.base.frzs b o xs e), fun b ps e => ?_⟩, ?_, fun x c e => ?_, ?_, fun x c e => ?_, fun p hp => ?_, hok, I.len⟩
  · exact keep b o (neL b o e) hb (neC b o e hx) (I.base.keep b o e n hb hx) (I.base.free b o e n hx)
  · obtain ⟨sl, e1⟩ := I.base.slot b o e n hb hx
    obtain ⟨sl', e2⟩ := slot b _ (neL b o e) hb (neC b o e hx) e1 (I.base.free b o e n hx)
    exact ⟨sl', e2⟩
  · obtain ⟨o', e1⟩ := I.base.there b o e hx
    exact free b o' (neC b o e hx) e1 (I.base.free b o e n hx)
  · obtain ⟨o', e1⟩ := I.base.there b o e hx
    exact there b o' (neC b o e hx) e1
  · obtain ⟨m1, e1⟩ := I.base.tbls b ps e
    obtain ⟨m2, e2⟩ := tbls b _ e1
    exact ⟨m1 ++ m2, by rw [e2, Array.append_assoc]⟩
  · obtain ⟨m, hn, hl⟩ := I.loc
    refine ⟨m, ns m hn, fun i x v e1 e2 e3 => ?_⟩
    obtain ⟨u, r, l⟩ := hl i x v e1 e2 e3
    refine ⟨u, r, ?_⟩
    rcases l with l | ⟨k, c, e, z⟩
    · exact .inl l
    · exact .inr ⟨k, c, e, cellK x c e _ z⟩
  · obtain ⟨v, z⟩ := I.cell x c e
    exact ⟨v, cellK x c e v z⟩
  · obtain ⟨m, ⟨o, _, _, ho, _⟩, _⟩ := I.loc
    exact free _ o (fun z => (hch _ z).2.1 rfl) ho I.free
  · obtain ⟨v, o, ho, hd⟩ := I.cell x c e
    exact free c o (fun z => (hch c z).2.2.1 x c e rfl) ho (I.freeC x c e)
  · obtain ⟨e, n, ne, nf, d⟩ := I.pin p hp
    have nch : p.1 ∉ ch := fun z => (hch p.1 z).2.2.2 p hp rfl
    exact ⟨keep p.1 p.2 ne nf nch e n, free p.1 p.2 nch e n, ne, nf, d⟩
/-- .. where the frame's own object is kept too -/
theorem Inv.un {t' : Nat} (I : Inv X pins σ H s) (u : Un X.fs [] H H' s.heap h') (hok : HOk X.prog X.w H' h') : Inv X pins σ H' { s with heap := h', toks := t' } := by
  obtain ⟨m, ⟨o, es, ep, ho, r⟩, _⟩ := id I.loc
  obtain ⟨sl, hL⟩ := u.any ho I.free (by simp)
  exact I.step (g' := s.gens) (d' := s.drawn) (ch := []) (fun _ z => nomatch z) (fun b o _ hb _ e n => u.keep b o e n hb (by simp)) (fun b o _ hb _ e n => u.slot b o e n hb (by simp)) (fun b o _ e n => u.free b o e n (by simp)) (fun b o _ e => u.there b o e (by simp)) u.tups u.frzs u.tbls (fun m' hm => by
    obtain ⟨o', es', ep', ho', r'⟩ := hm
    rw [ho] at ho'; cases ho'
    exact ⟨_, es', ep', hL, r'⟩) hok I.bare
/-- behind a call (or a comprehension's block): the slots of this frame may have changed too, the records at ch may have turned -/
theorem Inv.call {g' : Array GenState} {t' : Nat} {d' : Drawn} {ch : List Addr} (I : Inv X pins σ H s) (u : Un (frs X.stack) ch H H' s.heap h') (hok : HOk X.prog X.w H' h') (hg : AllBare g')
    (hch : ∀ b ∈ ch, (b ∈ X.ex ∨ X.s₀.heap.objs.size ≤ b) ∧ b ≠ X.env.locals ∧ (∀ x c, X.env.cells.lookup x = some c → c ≠ b) ∧ ∀ p ∈ X.pn ++ pins, p.1 ≠ b) :
    Inv X pins σ H' { s with heap := h', gens := g', drawn := d', toks := t' } := by
  obtain ⟨m, ⟨o, es, ep, ho, r⟩, _⟩ := id I.loc
  obtain ⟨sl, hL⟩ := u.any ho I.free fun z => (hch _ z).2.1 rfl
  exact I.step (ch := ch) hch (fun b o hL hb hc e n => u.keep b o e n (fun z => (List.mem_cons.mp (I.stkSub b z)).elim hL hb) hc) (fun b o _ _ hc e n => u.any e n hc) (fun b o hc e n => u.free b o e n hc) (fun b o hc e => u.there b o e hc) u.tups u.frzs u.tbls (fun m' hm => by
    obtain ⟨o', es', ep', ho', r'⟩ := hm
    rw [ho] at ho'; cases ho'
    exact ⟨_, es', ep', hL, r'⟩) hok hg
/-- an untracked record of ours (an iterator) has turned -/
theorem Inv.turned {t' : Nat} {it : Addr} (I : Inv X pins σ H s) (k : ∀ b o, b ≠ it → s.heap.get? b = some o → h'.get? b = some o) (hn : H it = none) (hL : it ≠ X.env.locals)
    (h1 : it ∈ X.ex ∨ X.s₀.heap.objs.size ≤ it) (h2 : ∀ x c, X.env.cells.lookup x = some c → c ≠ it) (h3 : ∀ p ∈ X.pn ++ pins, p.1 ≠ it) : Inv X pins σ H { s with heap := h', toks := t' } := by
  have nit : ∀ b u, H b = some u → b ≠ it := fun b u e z => by rw [z, hn] at e; cases e
  refine I.step (g' := s.gens) (d' := s.drawn) (ch := [it]) (fun b hb => ?_) (fun b o _ _ hc e _ => k b o (fun z => hc (by simp [z])) e) (fun b o _ _ hc e _ => ⟨o.slots, k b o (fun z => hc (by simp [z])) e⟩) (fun _ _ _ _ n => n)
    (fun b o hc e => ⟨o, k b o (fun z => hc (by simp [z])) e⟩) (fun _ _ e => e) (fun _ _ _ e => e) (fun b ps e => ⟨#[], by rw [e]; simp⟩) (fun m hm => ?_) (fun b u e => ?_) I.bare
  · have e : b = it := by simpa using hb
    subst e
    exact ⟨h1, hL, h2, h3⟩
  · obtain ⟨o, es, ep, ho, r⟩ := hm
    exact ⟨o, es, ep, k _ o (Ne.symm hL) ho, r⟩
  · refine (I.hok b u e).stay (fun c v hc q => k c v ?_ q) (fun _ q => q) fun _ _ q => q
    rcases hc with z | z
    · rw [z]; exact nit b u e
    · exact nit c _ z
theorem Inv.tok (I : Inv X pins σ H s) (t : Nat) : Inv X pins σ H { s with toks := t } := I.un (h' := s.heap) (t' := t) Un.refl I.hok
/-- all objects kept -/
theorem Inv.kept {t' : Nat} (I : Inv X pins σ H s) (k : ∀ b u, s.heap.get? b = some u → h'.get? b = some u) : Inv X pins σ H { s with heap := h', toks := t' } := I.un (Un.kept k) (I.hok.kept k)
/-- a new object laid and tracked -/
theorem Inv.laid {a : Addr} {o : HO} {t' : Nat} (I : Inv X pins σ H s) (k : ∀ b u, s.heap.get? b = some u → h'.get? b = some u) (hp : s.heap.objs.size ≤ a) (new : ObjOk X.prog X.w (upd H a o) h' a o) :
    Inv X pins σ (upd H a o) { s with heap := h', toks := t' } := I.un (Un.laid k hp (I.hok.fresh hp)) (I.hok.laid k hp new)
/-- an object written -/
theorem Inv.write {x e : Addr} {o : HO} {t' : Nat} (I : Inv X pins σ H s) (mu : Mut (H x)) (he : e = x ∨ H e = some (.own x)) (k : ∀ b u, b ≠ e → s.heap.get? b = some u → h'.get? b = some u) (heo : ∃ u, h'.get? e = some u)
    (new : ObjOk X.prog X.w (upd H x o) h' x o) : Inv X pins σ (upd H x o) { s with heap := h', toks := t' } := I.un (Un.write mu he k heo) (I.hok.write mu he k heo new)
/-- forgetting slots, pins -/
theorem Inv.weak {σ' : List (Option V)} (I : Inv X pins σ H s) (hl : σ'.length = σ.length) (w : ∀ (i : Nat) v, σ'[i]? = some (some v) → σ[i]? = some (some v)) : Inv X pins σ' H s :=
  ⟨I.ok, I.os, I.bare, I.base, let ⟨m, hn, hl'⟩ := I.loc; ⟨m, hn, fun i x v e1 e2 e3 => hl' i x v e1 (w i v e2) e3⟩, I.cell, I.free, I.freeC, I.pin, I.hok, hl.trans I.len⟩
theorem Inv.pins_of {pins' : List (Addr × Obj)} (I : Inv X pins σ H s) (h : ∀ p ∈ pins', s.heap.get? p.1 = some p.2 ∧ H p.1 = none ∧ p.1 ≠ X.env.locals ∧ p.1 ∉ X.fs ∧ ∀ v, p.2.data ≠ .cell v) : Inv X pins' σ H s :=
  ⟨I.ok, I.os, I.bare, I.base, I.loc, I.cell, I.free, I.freeC, fun p hp => (List.mem_append.mp hp).elim (fun z => I.pin p (List.mem_append_left _ z)) (h p), I.hok, I.len⟩

theorem nodup_ix {N : List Str} (hN : N.Nodup) {i j : Nat} {x : Str} (a : N[i]? = some x) (b : N[j]? = some x) : i = j := by
  obtain ⟨h1, e1⟩ := List.getElem?_eq_some_iff.mp a
  obtain ⟨h2, e2⟩ := List.getElem?_eq_some_iff.mp b
  exact (List.getElem_inj hN).mp (e1.trans e2.symm)

/-- a name is stored; what changed -/
theorem store_ok2 {M : Model} {A : Around} {E : Value → Shared → Prop} {i : Nat} {x : Str} {v : V} {u : Value} {Q : Unit → Shared → Prop} (I : Inv X pins σ H s) (hN : X.N.Nodup) (hi : X.N[i]? = some x) (hx : Loc X.env.scope x) (r : RelV v u)
    (h : ∀ s', Inv X pins (σ.set i (some v)) H s' → (∃ a, Heap.SameBut a s.heap s'.heap ∧ (a = X.env.locals ∨ X.env.cells.lookup x = some a)) → Q () s') (hf : X.fn x = true ∨ X.env.scope.names.lookup x = some .local := by first | exact .inl rfl | exact .inr rfl | assumption) : wpAny M A (storeName X.env x u) Q E s := by
  obtain ⟨m, hn, hl⟩ := id I.loc
  have hcls : (X.env.scope.kind == .class || (X.env.scope.kind == .module && X.env.locals != X.env.globals)) = false := by rw [I.ok.kind]; rfl
  have hiσ : i < σ.length := by rw [I.len]; exact (List.getElem?_eq_some_iff.mp hi).1
  have cne := I.cne
  have tracked : ∀ {a : Addr} {h' : Heap}, (∃ o, s.heap.get? a = some o ∧ H a = none) → Heap.SameBut a s.heap h' → HOk X.prog X.w H h' := fun {a h'} ha hs b ob e => by
    obtain ⟨_, _, hfree⟩ := ha
    refine (I.hok b ob e).stay (fun c w' hc q => (hs.2 c ?_).trans q) (fun _ q => q) fun _ _ q => q
    rintro rfl
    rcases hc with rfl | hc
    · rw [hfree] at e; cases e
    · rw [hfree] at hc; cases hc
  rcases hx with hk | hk
  · refine wpAny_storeName_local hk hn (fun h' hn' hs => ?_) hcls
    obtain ⟨oL, _, _, hoL, _⟩ := id hn
    refine h _ ⟨I.ok, I.os, I.bare, ⟨fun b o e n hb hx => ?_, fun b o e n hb hx => ?_, I.base.free, fun b o e hx => ?_, I.base.tups, I.base.frzs, I.base.tbls⟩, ⟨_, hn', fun j y v' e1 e2 e3 => ?_⟩, fun y c e => ?_, I.free, I.freeC, fun p hp => ?_, tracked ⟨oL, hoL, I.free⟩ hs, by simpa using I.len⟩ ⟨_, hs, .inl rfl⟩
    · exact (hs.2 b (Nat.ne_of_lt (Nat.lt_of_lt_of_le (Heap.lt_size e) I.ok.above))).trans (I.base.keep b o e n hb hx)
    · obtain ⟨sl, e1⟩ := I.base.slot b o e n hb hx
      exact ⟨sl, (hs.2 b (Nat.ne_of_lt (Nat.lt_of_lt_of_le (Heap.lt_size e) I.ok.above))).trans e1⟩
    · obtain ⟨o', e1⟩ := I.base.there b o e hx
      exact ⟨o', (hs.2 b (Nat.ne_of_lt (Nat.lt_of_lt_of_le (Heap.lt_size e) I.ok.above))).trans e1⟩
    · by_cases hj : j = i
      · subst hj
        rw [hi] at e1; cases e1
        rw [List.getElem?_set_self hiσ] at e2
        cases e2
        exact ⟨u, r, .inl ⟨hk, by simp⟩⟩
      · rw [List.getElem?_set_ne (Ne.symm hj)] at e2
        obtain ⟨u', r', q⟩ := hl j y v' e1 e2 e3
        refine ⟨u', r', ?_⟩
        rcases q with ⟨k, e⟩ | ⟨k, c, e, z⟩
        · refine .inl ⟨k, ?_⟩
          have : y ≠ x := fun e => hj (nodup_ix hN e1 (e ▸ hi))
          simp [this, e]
        · exact .inr ⟨k, c, e, z.sameBut hs (cne y c e)⟩
    · obtain ⟨w', z⟩ := I.cell y c e
      exact ⟨w', z.sameBut hs (cne y c e)⟩
    · obtain ⟨e, n, ne, nf, d⟩ := I.pin p hp
      exact ⟨(hs.2 p.1 ne).trans e, n, ne, nf, d⟩
  · have hfn : X.fn x = true := by
      rcases hf with z | z
      · exact z
      · rw [z] at hk; cases hk
    obtain ⟨c, hc⟩ := I.ok.has x (.inl hk)
    obtain ⟨w', z⟩ := I.cell x c hc
    refine wpAny_storeName_cell I.ok.kind hk hc z (fun h' hc' hs => ?_)
    obtain ⟨oc, hoc, hocd⟩ := id z
    refine h { s with heap := h' } ⟨I.ok, I.os, I.bare, ⟨fun b o e n hb hx => ?_, fun b o e n hb hx => ?_, I.base.free, fun b o e hx => ?_, I.base.tups, I.base.frzs, I.base.tbls⟩, ⟨m, hn.sameBut hs (Ne.symm (cne x c hc)), fun j y v' e1 e2 e3 => ?_⟩, fun y c' e => ?_, I.free, I.freeC, fun p hp => ?_, tracked ⟨oc, hoc, I.freeC x c hc⟩ hs, by simpa using I.len⟩ ⟨c, hs, .inr hc⟩
    · exact (hs.2 b (Nat.ne_of_lt (Nat.lt_of_lt_of_le (Heap.lt_size e) (I.ok.cab x c hfn hc)))).trans (I.base.keep b o e n hb hx)
    · obtain ⟨sl, e1⟩ := I.base.slot b o e n hb hx
      exact ⟨sl, (hs.2 b (Nat.ne_of_lt (Nat.lt_of_lt_of_le (Heap.lt_size e) (I.ok.cab x c hfn hc)))).trans e1⟩
    · obtain ⟨o', e1⟩ := I.base.there b o e hx
      exact ⟨o', (hs.2 b (Nat.ne_of_lt (Nat.lt_of_lt_of_le (Heap.lt_size e) (I.ok.cab x c hfn hc)))).trans e1⟩
    · by_cases hj : j = i
      · subst hj
        rw [hi] at e1; cases e1
        rw [List.getElem?_set_self hiσ] at e2
        cases e2
        exact ⟨u, r, .inr ⟨.inl hk, c, hc, hc'⟩⟩
      · rw [List.getElem?_set_ne (Ne.symm hj)] at e2
        obtain ⟨u', r', q⟩ := hl j y v' e1 e2 e3
        refine ⟨u', r', ?_⟩
        rcases q with q | ⟨k, c', e, z'⟩
        · exact .inl q
        · refine .inr ⟨k, c', e, z'.sameBut hs ?_⟩
          rintro rfl
          exact hj (nodup_ix hN e1 (I.ok.inj _ _ _ e hc ▸ hi))
    · by_cases hcc : c' = c
      · subst hcc; exact ⟨_, hc'⟩
      · obtain ⟨w2, z2⟩ := I.cell y c' e
        exact ⟨w2, z2.sameBut hs hcc⟩
    · obtain ⟨e, n, ne, nf, d⟩ := I.pin p hp
      refine ⟨(hs.2 p.1 ?_).trans e, n, ne, nf, d⟩
      intro q
      rw [q, hoc] at e
      have q' : oc = p.2 := Option.some.inj e
      exact d w' (by rw [← q']; exact hocd)
theorem store_ok {M : Model} {A : Around} {E : Value → Shared → Prop} {i : Nat} {x : Str} {v : V} {u : Value} {Q : Unit → Shared → Prop} (I : Inv X pins σ H s) (hN : X.N.Nodup) (hi : X.N[i]? = some x) (hx : Loc X.env.scope x) (r : RelV v u)
    (h : ∀ s', Inv X pins (σ.set i (some v)) H s' → Q () s') (hf : X.fn x = true ∨ X.env.scope.names.lookup x = some .local := by first | exact .inl rfl | exact .inr rfl | assumption) : wpAny M A (storeName X.env x u) Q E s :=
  store_ok2 I hN hi hx r (fun s' I' _ => h s' I') hf
/-- behind a call or a block, the state as it is -/
theorem Inv.call' {s' : Shared} {ch : List Addr} (I : Inv X pins σ H s) (ho : s'.os = s.os) (u : Un (frs X.stack) ch H H' s.heap s'.heap) (hok : HOk X.prog X.w H' s'.heap) (hg : AllBare s'.gens)
    (hch : ∀ b ∈ ch, (b ∈ X.ex ∨ X.s₀.heap.objs.size ≤ b) ∧ b ≠ X.env.locals ∧ (∀ x c, X.env.cells.lookup x = some c → c ≠ b) ∧ ∀ p ∈ X.pn ++ pins, p.1 ≠ b) : Inv X pins σ H' s' := by
  obtain ⟨h', g', d', t', o'⟩ := s'
  have e : o' = s.os := ho
  subst e
  exact I.call (g' := g') (t' := t') (d' := d') u hok hg hch
end

/-! ### the judgements -/
/-- an exception: its class, its own dict's address (where it has one), the abstract heap behind it -/
abbrev XK := Value → Option Addr → Hp → Prop
abbrev St := List (Option V)
abbrev VK := V → Hp → Prop
/-- an expression's reading; a test's; an argument list's -/
abbrev TE := St → Hp → VK → Prop
abbrev TT := St → Hp → (Bool → Hp → Prop) → Prop
abbrev TA := St → Hp → (List V → Hp → Prop) → Prop
/-- what is wanted behind a statement -/
structure Ends where
  nx : St → Hp → Prop
  rt : VK
  bk : St → Hp → Prop := fun _ _ => False
  ct : St → Hp → Prop := fun _ _ => False
abbrev TS := Ends → St → Hp → Prop

def EP (X : Cx) (pins : List (Addr × Obj)) (σ : St) (Q : VK) (u : Value) (s' : Shared) : Prop := ∃ v H', Inv X pins σ H' s' ∧ RelV v u ∧ Q v H'
def TP (X : Cx) (pins : List (Addr × Obj)) (σ : St) (Q : Bool → Hp → Prop) (b : Bool) (s' : Shared) : Prop := ∃ H', Inv X pins σ H' s' ∧ Q b H'
def AP (X : Cx) (pins : List (Addr × Obj)) (σ : St) (Q : List V → Hp → Prop) (us : List Value) (s' : Shared) : Prop := ∃ vs H', Inv X pins σ H' s' ∧ Vals vs us ∧ Q vs H'
def SP (X : Cx) (pins : List (Addr × Obj)) (D : Ends) (f : Flow) (s' : Shared) : Prop :=
  match f with
  | .next => ∃ σ' H', Inv X pins σ' H' s' ∧ D.nx σ' H'
  | .brk => ∃ σ' H', Inv X pins σ' H' s' ∧ D.bk σ' H'
  | .cont => ∃ σ' H', Inv X pins σ' H' s' ∧ D.ct σ' H'
  | .ret u => ∃ v σ' H', Inv X pins σ' H' s' ∧ RelV v u ∧ D.rt v H'

def PE (X : Cx) (e : Expr) (t : TE) : Prop :=
  ∀ (pins : List (Addr × Obj)) (s : Shared) (σ : St) (H : Hp) (Q : VK), Inv X pins σ H s → t σ H Q → wpAny (model X.prog X.w) X.A (eval e X.env) (EP X pins σ Q) X.xe s
def PT (X : Cx) (e : Expr) (t : TT) : Prop :=
  ∀ (pins : List (Addr × Obj)) (s : Shared) (σ : St) (H : Hp) (Q : Bool → Hp → Prop), Inv X pins σ H s → t σ H Q → wpAny (model X.prog X.w) X.A (isTrue e X.env (eval e X.env)) (TP X pins σ Q) X.xe s
/-- a test whatever its 'whole' is (and, or) -/
def PW (X : Cx) (e : Expr) (t : TT) : Prop :=
  ∀ (whole : Sem Value) (pins : List (Addr × Obj)) (s : Shared) (σ : St) (H : Hp) (Q : Bool → Hp → Prop), Inv X pins σ H s → t σ H Q → wpAny (model X.prog X.w) X.A (isTrue e X.env whole) (TP X pins σ Q) X.xe s
theorem PW.pt {X : Cx} {e : Expr} {t : TT} (h : PW X e t) : PT X e t := h _
/-- an argument list (no star), from the left -/
def PA (X : Cx) (es : List Expr) (t : TA) : Prop :=
  ∀ (pos : Pos) (pins : List (Addr × Obj)) (s : Shared) (σ : St) (H : Hp) (Q : List V → Hp → Prop), Inv X pins σ H s → t σ H Q → wpAny (model X.prog X.w) X.A (spliced (backTo pos (starEach es X.env))) (AP X pins σ Q) X.xe s
def PS (X : Cx) (st : Stmt) (t : TS) : Prop :=
  ∀ (pins : List (Addr × Obj)) (s : Shared) (σ : St) (H : Hp) (D : Ends), Inv X pins σ H s → t D σ H → wpAny (model X.prog X.w) X.A (exec st X.env) (SP X pins D) X.xe s
def PSs (X : Cx) (st : List Stmt) (t : TS) : Prop :=
  ∀ (pins : List (Addr × Obj)) (s : Shared) (σ : St) (H : Hp) (D : Ends), Inv X pins σ H s → t D σ H → wpAny (model X.prog X.w) X.A (execs st X.env) (SP X pins D) X.xe s
/-- weaken the end -/
theorem thn {α : Type} {t : Sem α} {Q Q' : α → Shared → Prop} {M : Model} {A : Around} {E : Value → Shared → Prop} {s : Shared} (h : wpAny M A t Q E s) (hQ : ∀ a s, Q a s → Q' a s) : wpAny M A t Q' E s := wpAny_mono h hQ fun _ _ x => x
end L2

namespace L2
open PySem PySem.Spec PyProof.Rows
section
variable {X : Cx}

/-! ### names and constants -/
def tVar (i : Nat) : TE := fun σ H Q => ∃ v, σ[i]? = some (some v) ∧ Q v H
def tC (v : V) : TE := fun _ H Q => Q v H
theorem pe_var {i : Nat} {x : Str} {pos : Pos} (hN : X.N[i]? = some x) (hv : Vis X.env.scope x) (hd : (x == ("__debug__" : Str)) = false := by decide) (hcd : (x == ("__classdict__" : Str)) = false := by decide) : PE X (.Name x pos) (tVar i) := by
  intro pins s σ H Q I h
  obtain ⟨v, e, h⟩ := h
  obtain ⟨m, hn, hl⟩ := I.loc
  obtain ⟨u, r, l⟩ := hl i x v hN e hv
  have fin : EP X pins σ Q u s := ⟨v, H, I, r, h⟩
  rcases l with ⟨hk, hm⟩ | ⟨hk, c, hc, hcell⟩
  · exact wpAny_Name (wpAny_loadName_local I.ok.kind hk hn hm fin) hd
  · rcases hk with hk | hk
    · exact wpAny_Name (wpAny_loadName_cell I.ok.kind hk hc hcell fin) hd
    · exact wpAny_Name (wpAny_loadName_free I.ok.kind hk hc hcell fin hcd) hd
theorem pe_int {i j pos} : PE X (.Constant (.int i) j pos) (tC (.int i)) := fun _ _ _ H _ I h => wpAny_Constant_int ⟨.int i, H, I.tok _, ⟨_, rfl⟩, h⟩
theorem pe_bl {b j pos} : PE X (.Constant (.bool b) j pos) (tC (.bl b)) := fun _ _ _ H _ I h => Constant_bool ⟨.bl b, H, I, rfl, h⟩
theorem pe_non {j pos} : PE X (.Constant .none j pos) (tC .non) := fun _ _ _ H _ I h => Constant_none ⟨.non, H, I, rfl, h⟩
theorem pe_str {x j pos} : PE X (.Constant (.str x) j pos) (tC (.str x)) := fun _ _ _ H _ I h => Calls.Constant_str ⟨.str x, H, I.tok _, ⟨_, rfl⟩, h⟩

/-- a global name of the def -/
def Gl (X : Cx) (x : Str) : Prop := X.env.kindOf x = some .globalImplicit
theorem ld_glob {E : Value → Shared → Prop} {pins : List (Addr × Obj)} {s : Shared} {σ : St} {H : Hp} {x : Str} {u : Value} {pos : Pos} {Q : Value → Shared → Prop} (I : Inv X pins σ H s) (hg : Gl X x) (hm : X.mg x = some u) (h : Q u s)
    (hd : (x == ("__debug__" : Str)) = false := by decide) : wpAny (model X.prog X.w) X.A (eval (.Name x pos) X.env) Q E s :=
  Calls.Name_function_global I.ok.kind hg (Calls.loadGlobal_global (by rw [I.ok.glob]; exact I.mod.glob.keeps I.bk) hm h) hd
theorem ld_blt {E : Value → Shared → Prop} {pins : List (Addr × Obj)} {s : Shared} {σ : St} {H : Hp} {x : Str} {u : Value} {pos : Pos} {Q : Value → Shared → Prop} (I : Inv X pins σ H s) (hg : Gl X x) (hm : X.mg x = none) (hv : bootBuiltins x = some u) (h : Q u s)
    (hn : x ≠ "__name__" := by decide) (hd : (x == ("__debug__" : Str)) = false := by decide) : wpAny (model X.prog X.w) X.A (eval (.Name x pos) X.env) Q E s := by
  obtain ⟨mb, h1, h2⟩ := I.mod.blt
  exact Calls.Name_function_global I.ok.kind hg (Calls.loadGlobal_builtin (by rw [I.ok.glob]; exact I.mod.glob.keeps I.bk) hm (by rw [I.ok.blt]; exact h1.keeps I.bk) ((h2 x hn).trans hv) h) hd
theorem pe_bltn {x : Str} {v : V} {u : Value} {pos : Pos} (hg : Gl X x) (hm : X.mg x = none) (hv : bootBuiltins x = some u) (r : RelV v u) (hn : x ≠ "__name__" := by decide) (hd : (x == ("__debug__" : Str)) = false := by decide) : PE X (.Name x pos) (tC v) :=
  fun _ _ _ H _ I h => ld_blt I hg hm hv ⟨v, H, I, r, h⟩ hn hd

/-! ### arithmetic -/
variable {a b : Expr} {ta tb : TE} {pos : Pos}
/-! ### comparisons -/
/-- a comparison as a value, as a test -/
def tB (t : TE) : TT := fun σ H Q => t σ H fun x H1 => ∃ c, x = .bl c ∧ Q c H1
/-- an expression whose value is a bool, as a test -/
theorem pt_val {e : Expr} {t : TE} (h : PE X e t) (he : ∀ whole, isTrue e X.env whole = (do let v ← whole; standAt e.pos; holding [v] (truthy v)) := by intro _; rfl) : PT X e (tB t) := by
  intro pins s σ H Q I hw
  refine isTrue_plain (thn (h pins s σ H _ I hw) fun v s1 ⟨x, H1, I1, r1, q1⟩ => ?_) (he _)
  obtain ⟨d, rfl, q⟩ := q1
  cases r1
  exact wpAny_truthy_bool ⟨H1, I1, q⟩

/-! ### and, or, not -/
variable {tA tB' : TT} {rest : List Expr}
def tOr (t u : TT) : TT := fun σ H Q => t σ H fun c H1 => if c = true then Q true H1 else u σ H1 Q
def tNot (t : TT) : TT := fun σ H Q => t σ H fun c H1 => Q (!c) H1
theorem pw_or1 (ha : PT X a tA) : PW X (.BoolOp .Or [a] pos) tA := by
  intro wh pins s σ H Q I h
  refine isTrue_or (thn (ha pins s σ H Q I h) fun c s1 e => ?_)
  cases c with
  | false => exact isTrue_or_nil e
  | true => exact e
theorem pw_or (ha : PT X a tA) (hb : PW X (.BoolOp .Or (b :: rest) pos) tB') : PW X (.BoolOp .Or (a :: b :: rest) pos) (tOr tA tB') := by
  intro wh pins s σ H Q I h
  refine isTrue_or (thn (ha pins s σ H _ I h) fun c s1 ⟨H1, I1, q1⟩ => ?_)
  cases c with
  | true => exact ⟨H1, I1, q1⟩
  | false => exact hb wh pins s1 σ H1 Q I1 q1
theorem pt_not (ha : PT X a tA) : PT X (.UnaryOp .Not a pos) (tNot tA) := by
  intro pins s σ H Q I h
  exact isTrue_not (ha pins s σ H (fun c H1 => Q (!c) H1) I h)
/-- .. as values (bools) -/
def tAndV (ta tb : TE) : TE := fun σ H Q => ta σ H fun x H1 => ∃ c, x = .bl c ∧ if c = true then tb σ H1 Q else Q (.bl false) H1
def tNotV (ta : TE) : TE := fun σ H Q => ta σ H fun x H1 => ∃ c, x = .bl c ∧ Q (.bl (!c)) H1
theorem pe_one {op} {t : TE} (h : PE X a t) : PE X (.BoolOp op [a] pos) t := fun pins s σ H Q I hw => BoolOp_one (h pins s σ H Q I hw)
theorem pe_and (ha : PE X a ta) (hb : PE X (.BoolOp .And (b :: rest) pos) tb) : PE X (.BoolOp .And (a :: b :: rest) pos) (tAndV ta tb) := by
  intro pins s σ H Q I h
  refine BoolOp_and (thn (ha pins s σ H _ I h) fun v s1 ⟨x, H1, I1, r1, q1⟩ => ?_)
  obtain ⟨c, rfl, q1⟩ := q1
  cases r1
  refine wpAny_truthy_bool ?_
  cases c with
  | true => exact hb pins s1 σ H1 Q I1 q1
  | false => exact ⟨.bl false, H1, I1, rfl, q1⟩
theorem pe_not (ha : PE X a ta) : PE X (.UnaryOp .Not a pos) (tNotV ta) := by
  intro pins s σ H Q I h
  refine UnaryOp_ (thn (ha pins s σ H _ I h) fun v s1 ⟨x, H1, I1, r1, q1⟩ => ?_)
  obtain ⟨c, rfl, q1⟩ := q1
  cases r1
  exact not_of (wpAny_truthy_bool ⟨.bl (!c), H1, I1, rfl, q1⟩)
end
end L2

namespace L2
open PySem PySem.Spec PyProof.Rows

/-! ### a list, a tuple that is read: tracked, frozen, or an object of the module -/
def SqL (K : PySem.W.Frag) (H : Hp) (a : Addr) (xs : List V) : Prop :=
  Rd H a (.lst xs) ∨
    ∃ (o : Obj) (its : Array Value) (n : Nat), K.lookup a = some o ∧ o.cls = .type "list" ∧ o.dict = none ∧ o.data = .seq its n ∧ its.size ≤ sizeLine ∧ Vals xs its.toList
def SqT (K : PySem.W.Frag) (H : Hp) (a : Addr) (xs : List V) : Prop :=
  Rd H a (.tup xs) ∨
    ∃ (o : Obj) (its : Array Value) (n : Nat), K.lookup a = some o ∧ o.cls = .type "tuple" ∧ o.data = .seq its n ∧ its.size ≤ sizeLine ∧ Vals xs its.toList
def absV : Value → Option V
  | .none => some .non
  | .bool b => some (.bl b)
  | .int i _ => some (.int i)
  | .str x _ => some (.str x)
  | .bytes b _ => some (.byt b)
  | .float b _ => some (.flt b)
  | .ref a => some (.ref a)
  | .type n => some (.ty n)
  | _ => none
theorem RelV.abs {x : V} {u : Value} (r : RelV x u) : absV u = some x := by
  cases x with
  | non => cases r; rfl
  | bl _ => cases r; rfl
  | int _ => obtain ⟨t, rfl⟩ := r; rfl
  | str _ => obtain ⟨t, rfl⟩ := r; rfl
  | byt _ => obtain ⟨t, rfl⟩ := r; rfl
  | flt _ => obtain ⟨t, rfl⟩ := r; rfl
  | ref _ => cases r; rfl
  | ty _ => cases r; rfl
theorem RelV.inj {x y : V} {u : Value} (r : RelV x u) (q : RelV y u) : x = y := Option.some.inj (r.abs.symm.trans q.abs)
theorem Vals.inj : ∀ {xs ys : List V} {us : List Value}, Vals xs us → Vals ys us → xs = ys
  | _, _, _, .nil, .nil => rfl
  | _, _, _, .cons r t, .cons r' t' => by rw [r.inj r', Vals.inj t t']
section
variable {X : Cx} {pins : List (Addr × Obj)} {σ : St} {H : Hp} {s : Shared} {a : Addr} {xs ys : List V}
theorem SqL.of {K : PySem.W.Frag} (h : H a = some (.lst xs)) : SqL K H a xs := .inl (.inl h)
theorem SqT.of {K : PySem.W.Frag} (h : H a = some (.tup xs)) : SqT K H a xs := .inl (.inl h)
theorem Inv.list (I : Inv X pins σ H s) (h : SqL X.K H a xs) : ∃ its : List Value, Vals xs its ∧ PlainL s.heap a its.toArray ∧ xs.length ≤ sizeLine := by
  rcases h with h | ⟨o, its, n, hk, hc, hd, hs, hz, r⟩
  · obtain ⟨z, its, n, r, e⟩ := h.ok I.hok
    exact ⟨its, r, ⟨_, n, e, rfl, rfl, rfl⟩, z⟩
  · refine ⟨its.toList, r, ⟨o, n, I.kIn a o hk, hc, hd, by simpa using hs⟩, ?_⟩
    have e := r.length
    simp only [Array.length_toList] at e
    omega
theorem Inv.tuple (I : Inv X pins σ H s) (h : SqT X.K H a xs) : ∃ its : List Value, Vals xs its ∧ IsTup s.heap a its.toArray ∧ xs.length ≤ sizeLine := by
  rcases h with h | ⟨o, its, n, hk, hc, hs, hz, r⟩
  · obtain ⟨z, its, r, p⟩ := h.ok I.hok
    exact ⟨its, r, p, z⟩
  · refine ⟨its.toList, r, ⟨o, I.kIn a o hk, hc, n, by simpa using hs⟩, ?_⟩
    have e := r.length
    simp only [Array.length_toList] at e
    omega
theorem Inv.list_inj (I : Inv X pins σ H s) (h : SqL X.K H a xs) (h' : SqL X.K H a ys) : xs = ys := by
  obtain ⟨its, r, ⟨o, n, e, _, _, d⟩, _⟩ := I.list h
  obtain ⟨its', r', ⟨o', n', e', _, _, d'⟩, _⟩ := I.list h'
  rw [e] at e'; cases e'
  rw [d] at d'
  injection d' with d1 _
  have : its = its' := by simpa using congrArg Array.toList d1
  subst this
  exact r.inj r'
theorem Inv.tuple_inj (I : Inv X pins σ H s) (h : SqT X.K H a xs) (h' : SqT X.K H a ys) : xs = ys := by
  obtain ⟨its, r, ⟨o, e, _, n, d⟩, _⟩ := I.tuple h
  obtain ⟨its', r', ⟨o', e', _, n', d'⟩, _⟩ := I.tuple h'
  rw [e] at e'; cases e'
  rw [d] at d'
  injection d' with d1 _
  have : its = its' := by simpa using congrArg Array.toList d1
  subst this
  exact r.inj r'
end

/-! ### another wish about exceptions -/
abbrev Cx.wish (X : Cx) (E : Value → Shared → Prop) : Cx := { X with xe := E }
/-- no exception leaves -/
abbrev Cx.nox (X : Cx) : Cx := X.wish fun _ _ => False
theorem Cx.Ok.wish {X : Cx} (ok : X.Ok) (E : Value → Shared → Prop) : (X.wish E).Ok :=
  ⟨ok.mod, ok.kind, ok.glob, ok.blt, ok.above, ok.inj, ok.has, ok.cab, ok.hd, ok.frames, ok.stk, ok.exf, ok.bs, ok.bsz, ok.noex, ok.exfs, ok.funs, ok.frf⟩
theorem Cx.Ok.unwish {X : Cx} {E : Value → Shared → Prop} (ok : (X.wish E).Ok) : X.Ok :=
  ⟨ok.mod, ok.kind, ok.glob, ok.blt, ok.above, ok.inj, ok.has, ok.cab, ok.hd, ok.frames, ok.stk, ok.exf, ok.bs, ok.bsz, ok.noex, ok.exfs, ok.funs, ok.frf⟩
section
variable {X : Cx} {pins : List (Addr × Obj)} {σ : St} {H : Hp} {s : Shared} {E : Value → Shared → Prop}
theorem Inv.wish (I : Inv X pins σ H s) (E : Value → Shared → Prop) : Inv (X.wish E) pins σ H s := ⟨I.ok.wish E, I.os, I.bare, I.base, I.loc, I.cell, I.free, I.freeC, I.pin, I.hok, I.len⟩
theorem Inv.unwish (I : Inv (X.wish E) pins σ H s) : Inv X pins σ H s := ⟨I.ok.unwish, I.os, I.bare, I.base, I.loc, I.cell, I.free, I.freeC, I.pin, I.hok, I.len⟩
theorem SP.unwish {D : Ends} {f : Flow} {s' : Shared} (h : SP (X.wish E) pins D f s') : SP X pins D f s' := by
  cases f with
  | next => obtain ⟨σ', H', I, q⟩ := h; exact ⟨σ', H', I.unwish, q⟩
  | brk => obtain ⟨σ', H', I, q⟩ := h; exact ⟨σ', H', I.unwish, q⟩
  | cont => obtain ⟨σ', H', I, q⟩ := h; exact ⟨σ', H', I.unwish, q⟩
  | ret u => obtain ⟨v, σ', H', I, r, q⟩ := h; exact ⟨v, σ', H', I.unwish, r, q⟩
theorem PSs.nox {st : List Stmt} {t : TS} (h : PSs X.nox st t) : PSs X st t := fun pins s σ H D I hw =>
  wpAny_mono (h pins s σ H D (I.wish _) hw) (fun _ _ q => q.unwish) fun _ _ z => False.elim z
end

/-! ### blocks and small statements -/
section
variable {X : Cx} {st : Stmt} {rest : List Stmt} {t u : TS} {e : Expr} {te : TE} {pos : Pos}
def tNext : TS := fun D σ H => D.nx σ H
def tSeq (t u : TS) : TS := fun D σ H => t { D with nx := u D } σ H
theorem pss_nil : PSs X [] tNext := fun _ _ σ H _ I h => wpAny_execs_nil ⟨σ, H, I, h⟩
theorem pss_cons (h1 : PS X st t) (h2 : PSs X rest u) : PSs X (st :: rest) (tSeq t u) := by
  intro pins s σ H D I h
  refine wpAny_execs_cons (thn (h1 pins s σ H { D with nx := u D } I h) fun f s1 q => ?_)
  cases f with
  | next =>
    obtain ⟨σ', H', I', q⟩ := q
    exact h2 pins s1 σ' H' D I' q
  | ret v => exact q
  | brk => exact q
  | cont => exact q
theorem pss_one (h1 : PS X st t) : PSs X [st] t := by
  intro pins s σ H D I h
  refine wpAny_execs_cons (thn (h1 pins s σ H D I h) fun f s1 q => ?_)
  cases f with
  | next => exact wpAny_execs_nil q
  | ret v => exact q
  | brk => exact q
  | cont => exact q
/-- in a def's body nothing is shown -/
theorem Inv.quiet {pins : List (Addr × Obj)} {σ : St} {H : Hp} {s : Shared} (I : Inv X pins σ H s) : interactive X.env = false := by simp [interactive, I.ok.kind]
/-- an expression whose value is dropped -/
def tDrop (te : TE) : TS := fun D σ H => te σ H fun _ H1 => D.nx σ H1
theorem ps_expr (he : PE X e te) (hs : swapsWith e none pos.line X.env = pure false := by rfl) : PS X (.Expr e pos) (tDrop te) := by
  intro pins s σ H D I h
  exact wpAny_Expr_any (thn (he pins s σ H _ I h) fun v s1 ⟨x, H1, I1, r1, q1⟩ => ⟨σ, H1, I1, q1⟩) I.quiet hs
def tRet (te : TE) : TS := fun D σ H => te σ H D.rt
theorem ps_ret (he : PE X e te) : PS X (.Return (some e) pos) (tRet te) := by
  intro pins s σ H D I h
  exact wpAny_Return_some (thn (he pins s σ H _ I h) fun v s1 ⟨x, H1, I1, r1, q1⟩ => ⟨x, σ, H1, I1, r1, q1⟩)
def tIfS (c : TT) (t u : TS) : TS := fun D σ H => c σ H fun b H1 => if b = true then t D σ H1 else u D σ H1
theorem ps_if {c : Expr} {a b : List Stmt} {tc : TT} (hc : PT X c tc) (ha : PSs X a t) (hb : PSs X b u) : PS X (.If c a b pos) (tIfS tc t u) := by
  intro pins s σ H D I h
  refine wpAny_If (thn (hc pins s σ H _ I h) fun d s1 ⟨H1, I1, q1⟩ => ?_)
  cases d with
  | true => exact ha pins s1 σ H1 D I1 q1
  | false => exact hb pins s1 σ H1 D I1 q1
end

/-! ### targets -/
abbrev TG := V → St → Hp → (St → Hp → Prop) → Prop
abbrev TGs := List V → St → Hp → (St → Hp → Prop) → Prop
def PG (X : Cx) (target : Expr) (t : TG) : Prop :=
  ∀ (pins : List (Addr × Obj)) (s : Shared) (σ : St) (H : Hp) (v : V) (u : Value) (Q : St → Hp → Prop), Inv X pins σ H s → RelV v u → t v σ H Q →
    wpAny (model X.prog X.w) X.A (assign target X.env u) (fun _ s' => ∃ σ' H', Inv X pins σ' H' s' ∧ Q σ' H') X.xe s
/-- several targets, one after another -/
def PGs (X : Cx) (ts : List Expr) (t : TGs) : Prop :=
  ∀ (pins : List (Addr × Obj)) (s : Shared) (σ : St) (H : Hp) (vs : List V) (us : List Value) (Q : St → Hp → Prop), Inv X pins σ H s → Vals vs us → t vs σ H Q →
    wpAny (model X.prog X.w) X.A (assignInOrder ((assignEach ts X.env).map (·.2)) us) (fun _ s' => ∃ σ' H', Inv X pins σ' H' s' ∧ Q σ' H') X.xe s
section
variable {X : Cx} {pos : Pos}
def gName (i : Nat) : TG := fun v σ H Q => Q (σ.set i (some v)) H
theorem pg_name {i : Nat} {x : Str} (hN : X.N.Nodup) (hi : X.N[i]? = some x) (hx : Loc X.env.scope x) (hf : X.fn x = true ∨ X.env.scope.names.lookup x = some .local := by first | exact .inl rfl | exact .inr rfl | assumption) : PG X (.Name x pos) (gName i) := by
  intro pins s σ H v u Q I r h
  exact wpAny_assign_Name (store_ok I hN hi hx r (fun s' I' => ⟨_, H, I', h⟩) hf)
def gNil : TGs := fun vs σ H Q => vs = [] ∧ Q σ H
def gCons (t : TG) (u : TGs) : TGs := fun vs σ H Q => ∃ v r, vs = v :: r ∧ t v σ H fun σ' H' => u r σ' H' Q
theorem pgs_nil : PGs X [] gNil := by
  intro pins s σ H vs us Q I r h
  obtain ⟨e, h⟩ := h
  subst e
  cases r
  exact assignInOrder_nil ⟨σ, H, I, h⟩
theorem pgs_cons {e : Expr} {es : List Expr} {t : TG} {u : TGs} (h1 : PG X e t) (h2 : PGs X es u)
    (hs : (assignEach (e :: es) X.env).map (·.2) = assign e X.env :: (assignEach es X.env).map (·.2) := by rfl) : PGs X (e :: es) (gCons t u) := by
  intro pins s σ H vs us Q I r h
  obtain ⟨v, vr, e1, h⟩ := h
  subst e1
  cases r with
  | cons r rr =>
    rw [hs]
    refine assignInOrder_cons (thn (h1 pins s σ H _ _ _ I r h) fun _ s1 ⟨σ1, H1, I1, q1⟩ => ?_)
    exact h2 pins s1 σ1 H1 _ _ Q I1 rr q1
/-- (a, b, ..) = a tuple of that length -/
def gTup (K : PySem.W.Frag) (n : Nat) (t : TGs) : TG := fun v σ H Q => ∃ a xs, v = .ref a ∧ SqT K H a xs ∧ xs.length = n ∧ t xs σ H Q
theorem pg_tup {es : List Expr} {k : Nat} {t : TGs} {n : Nat} (hc : X.calm = true) (h : PGs X es t)
    (hn : (assignEach es X.env).length = n := by rfl) (hst : (assignEach es X.env).findIdx? (·.1) = none := by rfl) : PG X (.Tuple es k pos) (gTup X.K n t) := by
  intro pins s σ H v u Q I r hw
  obtain ⟨a, xs, e1, hq, hl, hw⟩ := hw
  subst e1
  cases r
  obtain ⟨its, rv, ht, hz⟩ := I.tuple hq
  refine assign_Tuple_tuple (I.ok.hd hc) ht (by simp [hn, ← hl, rv.length]) hst fun h' hx => ?_
  have I1 : Inv X pins σ H { s with heap := h' } := I.kept (t' := s.toks) fun b o e => hx b o (Nat.ne_of_lt (Heap.lt_size e)) e
  exact h pins _ σ H xs _ Q I1 (by simpa using rv) hw
/-- target = value -/
def tAsg (te : TE) (g : TG) : TS := fun D σ H => te σ H fun x H1 => g x σ H1 D.nx
theorem ps_asg {tg e : Expr} {te : TE} {g : TG} (he : PE X e te) (hg : PG X tg g) (hs : swapsWithSole [tg] e pos.line X.env = pure false := by rfl) (hw : swappedStores [tg] e X.env = pure none := by rfl)
    (h1 : (assignEach [tg] X.env).map (·.2) = [assign tg X.env] := by rfl) : PS X (.Assign [tg] e pos) (tAsg te g) := by
  intro pins s σ H D I h
  refine wpAny_Assign_stores (thn (he pins s σ H _ I h) fun v s1 ⟨x, H1, I1, r1, q1⟩ => ?_) hs hw
  rw [h1]
  exact thn (hg pins s1 σ H1 x v _ I1 r1 q1) fun _ s2 q => q
/-- name = value -/
theorem ps_set {i : Nat} {x : Str} {e : Expr} {te : TE} {pos' : Pos} (hN : X.N.Nodup) (hi : X.N[i]? = some x) (hx : Loc X.env.scope x) (he : PE X e te) (hs : swapsWith e (some (.Name x pos')) pos.line X.env = pure false := by rfl) (hf : X.fn x = true ∨ X.env.scope.names.lookup x = some .local := by first | exact .inl rfl | exact .inr rfl | assumption) :
    PS X (.Assign [.Name x pos'] e pos) (tAsg te (gName i)) := by
  intro pins s σ H D I h
  refine wpAny_Assign_Name (thn (he pins s σ H _ I h) fun v s1 ⟨y, H1, I1, r1, q1⟩ => ?_) hs
  exact store_ok I1 hN hi hx r1 (fun s2 I2 => ⟨_, H1, I2, q1⟩) hf
end

/-! ### while -/
section
variable {X : Cx} {pos : Pos}
/-- the invariant W with its measure -/
def tWhile (c : TT) (tb : TS) : TS := fun D σ H => ∃ W : Nat → St → Hp → Prop, (∃ m, W m σ H) ∧ ∀ m σ H, W m σ H →
  c σ H fun b H1 => if b = true then ∃ N : St → Hp → Prop, (∀ σ' H', N σ' H' → ∃ m', m' < m ∧ W m' σ' H') ∧ tb { D with nx := N, ct := N, bk := D.nx } σ H1 else D.nx σ H1
theorem ps_while {c : Expr} {body : List Stmt} {tc : TT} {tb : TS} (hp : PassesOwn (model X.prog X.w) X.A X.env X.xe) (hc : PT X c tc) (hb : PSs X body tb) : PS X (.While c body [] pos) (tWhile tc tb) := by
  intro pins s σ H D I h
  obtain ⟨W, ⟨m0, w0⟩, turn⟩ := h
  refine wpAny_While (codeAny_whileLoop (fun n s' => ∃ σ' H', Inv X pins σ' H' s' ∧ W n σ' H') ?_ m0 ⟨σ, H, I, w0⟩)
  rintro n s1 ⟨σ1, H1, I1, w1⟩
  refine wpAny_passesOwn hp (thn (hc pins s1 σ1 H1 _ I1 (turn n σ1 H1 w1)) fun b s2 ⟨H2, I2, q2⟩ => ?_)
  cases b with
  | true =>
    obtain ⟨N, hN, q2⟩ := q2
    rw [if_pos rfl]
    refine wpAny_passesOwn hp (thn (hb pins s2 σ1 H2 _ I2 q2) fun f s3 q3 => ?_)
    cases f with
    | next =>
      obtain ⟨σ3, H3, I3, n3⟩ := q3
      obtain ⟨m', hm, w3⟩ := hN σ3 H3 n3
      exact ⟨m', hm, σ3, H3, I3, w3⟩
    | cont =>
      obtain ⟨σ3, H3, I3, n3⟩ := q3
      obtain ⟨m', hm, w3⟩ := hN σ3 H3 n3
      exact ⟨m', hm, σ3, H3, I3, w3⟩
    | brk => exact q3
    | ret v => exact q3
  | false =>
    rw [if_neg Bool.false_ne_true]
    exact wpAny_execs_nil ⟨σ1, H2, I2, q2⟩
end

/-! ### what a loop or a comprehension walks -/
/-- at turn i: it yields x (the heap may grow), or it stops -/
structure It where
  go : Nat → Hp → Prop
  yld : Nat → Hp → V → Hp → Prop
  stop : Nat → Hp → Prop
/-- the iterator's own objects may turn: they are not the frame's, not pinned, younger than the entry (or a comprehension's own) -/
def FpOk (X : Cx) (pins : List (Addr × Obj)) (H : Hp) (b : Addr) : Prop :=
  H b = none ∧ b ≠ X.env.locals ∧ b ∉ X.fs ∧ (b ∈ X.ex ∨ X.s₀.heap.objs.size ≤ b) ∧ (∀ x c, X.env.cells.lookup x = some c → c ≠ b) ∧ ∀ p ∈ X.pn ++ pins, p.1 ≠ b
theorem Inv.fpOk {X : Cx} {pins : List (Addr × Obj)} {σ : St} {H H' : Hp} {s : Shared} {b : Addr} (I : Inv X pins σ H s) (hb : s.heap.objs.size ≤ b) (hn : H' b = none) : FpOk X pins H' b := by
  refine ⟨hn, Nat.ne_of_gt (Nat.lt_of_lt_of_le I.lt hb), I.nofs hb, .inr (Nat.le_trans I.sz hb), fun x c e z => ?_, fun p hp z => ?_⟩
  · obtain ⟨v, q⟩ := I.cell x c e
    exact absurd (Nat.lt_of_lt_of_le q.lt (by rw [z]; exact hb)) (Nat.lt_irrefl _)
  · exact absurd (Nat.lt_of_lt_of_le (Heap.lt_size (I.pin p hp).1) (by rw [z]; exact hb)) (Nat.lt_irrefl _)
structure Turn (P : Program) (w : World) (K : PySem.W.Frag) (tg : Expr) (J : It) (fp : List Addr) (it : Addr) (tn : Nat → Heap → Prop) : Prop where
  mem : it ∈ fp
  obj : ∀ i h, tn i h → ∀ b ∈ fp, ∃ o, h.get? b = some o ∧ ∀ v, o.data ≠ .cell v
  keep : ∀ i h h', tn i h → (∀ b ∈ fp, ∀ o, h.get? b = some o → h'.get? b = some o) → tn i h'
  item : ∀ (X : Cx), X.prog = P → X.w = w → X.K = K → X.calm = true → ∀ (i : Nat) (pins : List (Addr × Obj)) (s : Shared) (σ : St) (H : Hp) (E : Value → Shared → Prop), Inv X pins σ H s → (∀ b ∈ fp, FpOk X pins H b) → tn i s.heap → J.go i H →
    wpAny (model P w) X.A (pyNext (.ref it)) (fun r s1 => ∃ u, r = some u ∧
      wpAny (model P w) X.A (letOwnedTupleGo tg (.ref it) u) (fun _ s2 => ∃ x H', Inv X pins σ H' s2 ∧ RelV x u ∧ J.yld i H x H' ∧ tn (i + 1) s2.heap ∧ ∀ b ∈ fp, H' b = none) E s1) E s
  done : ∀ (X : Cx), X.prog = P → X.w = w → X.K = K → X.calm = true → ∀ (i : Nat) (pins : List (Addr × Obj)) (s : Shared) (σ : St) (H : Hp) (E : Value → Shared → Prop), Inv X pins σ H s → (∀ b ∈ fp, FpOk X pins H b) → tn i s.heap → J.stop i H →
    wpAny (model P w) X.A (pyNext (.ref it)) (fun r s1 => r = none ∧ Inv X pins σ H s1) E s
  self : ∀ (A : Around) (i : Nat) (s : Shared) (Q : Value → Shared → Prop) (E : Value → Shared → Prop), tn i s.heap → Q (.ref it) s → wpAny (model P w) A (pyIter (.ref it)) Q E s
abbrev TI := St → Hp → (It → Hp → Prop) → Prop
/-- an iterator has come -/
def PIE (X : Cx) (pins : List (Addr × Obj)) (σ : St) (tg : Expr) (R : It → Hp → Prop) (itv : Value) (s2 : Shared) : Prop :=
  ∃ (it : Addr) (fp : List Addr) (tn : Nat → Heap → Prop) (J : It) (H' : Hp), itv = .ref it ∧ Inv X pins σ H' s2 ∧ Turn X.prog X.w X.K tg J fp it tn ∧ tn 0 s2.heap ∧ (∀ b ∈ fp, FpOk X pins H' b) ∧ R J H'
def PI (X : Cx) (tg iter : Expr) (wi : TI) : Prop :=
  ∀ (pins : List (Addr × Obj)) (s : Shared) (σ : St) (H : Hp) (R : It → Hp → Prop), Inv X pins σ H s → wi σ H R →
    wpAny (model X.prog X.w) X.A (eval iter X.env) (fun v s1 => wpAny (model X.prog X.w) X.A (pyIter v) (PIE X pins σ tg R) X.xe s1) X.xe s

/-- the step ahead of the store is nothing for an iterator that keeps no tuple -/
theorem go_of {M : Model} {A : Around} {E : Value → Shared → Prop} {s : Shared} {tg : Expr} {it : Addr} {u : Value} {o : Obj} {n : String} {vs : Array Value} {Q : Unit → Shared → Prop} (ho : s.heap.get? it = some o) (hc : o.cls = .type n) (hd : o.data = .fields vs)
    (hn : ["enumerate", "zip", "dict_itemiterator", "dict_reverseitemiterator", "odict_iterator", "itertools.zip_longest", "itertools.pairwise"].contains n = false) (hQ : Q () s) : wpAny M A (letOwnedTupleGo tg (.ref it) u) Q E s := by
  unfold letOwnedTupleGo
  cases tg <;> first
    | exact wpAny_pure hQ
    | (cases u <;> first
        | exact wpAny_pure hQ
        | (refine wpAny_bind (wpAny_load ho ?_)
           rw [hc, hd]
           show wpAny M A (if (["enumerate", "zip", "dict_itemiterator", "dict_reverseitemiterator", "odict_iterator", "itertools.zip_longest", "itertools.pairwise"].contains n && vs[0]? == some (rawInt _)) = true then _ else _) Q E s
           rw [if_neg (by intro h; rw [hn, Bool.false_and] at h; cases h)]
           exact wpAny_pure hQ))

/-- the list at a, as it stands at each turn (a loop may append to it) -/
def Itl (K : PySem.W.Frag) (a : Addr) : It :=
  ⟨fun i H => ∃ xs x, SqL K H a xs ∧ xs[i]? = some x, fun i H x H' => H' = H ∧ ∀ xs, SqL K H a xs → xs[i]? = some x, fun i H => ∃ xs, SqL K H a xs ∧ xs.length ≤ i⟩
def Itt (K : PySem.W.Frag) (a : Addr) : It :=
  ⟨fun i H => ∃ xs x, SqT K H a xs ∧ xs[i]? = some x, fun i H x H' => H' = H ∧ ∀ xs, SqT K H a xs → xs[i]? = some x, fun i H => ∃ xs, SqT K H a xs ∧ xs.length ≤ i⟩
/-- lo, lo + 1, .. (n of them) -/
def Itr (lo : Int) (n : Nat) : It := ⟨fun i _ => i < n, fun i H x H' => H' = H ∧ x = .int (lo + i), fun i _ => n ≤ i⟩
theorem turn_list {P : Program} {w : World} {K : PySem.W.Frag} {tg : Expr} (a it : Addr) : Turn P w K tg (Itl K a) [it] it (fun i h => h.IsListIter it a i) where
  mem := by simp
  obj := fun i h st b hb => by
    have e : b = it := by simpa using hb
    subst e
    obtain ⟨o, e, c, d⟩ := st
    exact ⟨o, e, fun v z => by rw [d] at z; cases z⟩
  keep := fun i h h' st k => st.at fun o e => k it (by simp) o e
  item := by
    intro X hP hw hK hc i pins s σ H E I hf st hg
    subst hP hw hK
    obtain ⟨xs, x, hq, hx⟩ := hg
    obtain ⟨its, rv, p, hz⟩ := I.list hq
    obtain ⟨u, hu, ru⟩ := rv.get hx
    obtain ⟨f0, f1, f2, f3, f4, f5⟩ := hf it (by simp)
    refine wpAny_pyNext_list_item st p.isList (x := u) (by simpa using hu) fun h' st' sb => ?_
    have I1 : Inv X pins σ H { s with heap := h' } := I.turned (t' := s.toks) (fun b o hb e => (sb.2 b hb).trans e) f0 f1 f3 f4 f5
    obtain ⟨o, e, c, d⟩ := id st'
    exact ⟨u, rfl, go_of (s := { s with heap := h' }) e c d (by decide) ⟨x, H, I1, ru, ⟨rfl, fun ys hy => by rw [I.list_inj hy hq]; exact hx⟩, st', fun b hb => (hf b hb).1⟩⟩
  done := by
    intro X hP hw hK hc i pins s σ H E I hf st hg
    subst hP hw hK
    obtain ⟨xs, hq, hx⟩ := hg
    obtain ⟨its, rv, p, hz⟩ := I.list hq
    obtain ⟨f0, f1, f2, f3, f4, f5⟩ := hf it (by simp)
    have hl := rv.length
    exact wpAny_pyNext_list_end (I.ok.hd hc) st p.isList (by simp; omega) fun h' eb => ⟨rfl, I.turned (t' := s.toks) (fun b o hb e => eb b o hb e) f0 f1 f3 f4 f5⟩
  self := fun _ _ _ _ _ st h => wpAny_pyIter_listiter st h
theorem turn_tuple {P : Program} {w : World} {K : PySem.W.Frag} {tg : Expr} (a it : Addr) : Turn P w K tg (Itt K a) [it] it (fun i h => h.IsTupleIter it a i) where
  mem := by simp
  obj := fun i h st b hb => by
    have e : b = it := by simpa using hb
    subst e
    obtain ⟨o, e, c, d⟩ := st
    exact ⟨o, e, fun v z => by rw [d] at z; cases z⟩
  keep := fun i h h' st k => st.at fun o e => k it (by simp) o e
  item := by
    intro X hP hw hK hc i pins s σ H E I hf st hg
    subst hP hw hK
    obtain ⟨xs, x, hq, hx⟩ := hg
    obtain ⟨its, rv, p, hz⟩ := I.tuple hq
    obtain ⟨u, hu, ru⟩ := rv.get hx
    obtain ⟨f0, f1, f2, f3, f4, f5⟩ := hf it (by simp)
    refine wpAny_pyNext_tuple_item st (show s.heap.IsTuple a its.toArray from p) (x := u) (by simpa using hu) fun h' st' sb => ?_
    have I1 : Inv X pins σ H { s with heap := h' } := I.turned (t' := s.toks) (fun b o hb e => (sb.2 b hb).trans e) f0 f1 f3 f4 f5
    obtain ⟨o, e, c, d⟩ := id st'
    exact ⟨u, rfl, go_of (s := { s with heap := h' }) e c d (by decide) ⟨x, H, I1, ru, ⟨rfl, fun ys hy => by rw [I.tuple_inj hy hq]; exact hx⟩, st', fun b hb => (hf b hb).1⟩⟩
  done := by
    intro X hP hw hK hc i pins s σ H E I hf st hg
    subst hP hw hK
    obtain ⟨xs, hq, hx⟩ := hg
    obtain ⟨its, rv, p, hz⟩ := I.tuple hq
    obtain ⟨f0, f1, f2, f3, f4, f5⟩ := hf it (by simp)
    have hl := rv.length
    exact wpAny_pyNext_tuple_end (I.ok.hd hc) st (show s.heap.IsTuple a its.toArray from p) (by simp; omega) fun h' eb => ⟨rfl, I.turned (t' := s.toks) (fun b o hb e => eb b o hb e) f0 f1 f3 f4 f5⟩
  self := fun _ _ _ _ _ st h => wpAny_pyIter_tupleiter st h
theorem turn_range {P : Program} {w : World} {K : PySem.W.Frag} {tg : Expr} (it : Addr) (lo : Int) (n : Nat) : Turn P w K tg (Itr lo n) [it] it (fun i h => IsRangeIter h it (lo + (i : Nat) * 1) ((n : Int) - (i : Nat)) 1) where
  mem := by simp
  obj := fun i h st b hb => by
    have e : b = it := by simpa using hb
    subst e
    exact ⟨_, st, fun v z => by
      have z' : Data.fields _ = Data.cell v := z
      cases z'⟩
  keep := fun i h h' st k => k it (by simp) _ st
  item := by
    intro X hP hw hK hc i pins s σ H E I hf st hg
    subst hP hw hK
    obtain ⟨f0, f1, f2, f3, f4, f5⟩ := hf it (by simp)
    have W := Walks.range (prog := X.prog) (w := X.w) (I.ok.hd hc) it lo 1 n
    refine W.item i s _ _ hg st fun v h' tk hv st' kk => ?_
    obtain ⟨t, rfl⟩ := hv
    have I1 : Inv X pins σ H { s with heap := h', toks := tk } := I.turned (fun b o hb e => kk b o (by simpa using hb) e) f0 f1 f3 f4 f5
    refine ⟨_, rfl, go_of (s := { s with heap := h', toks := tk }) (n := "range_iterator") st' rfl rfl (by decide) ⟨.int (lo + i), H, I1, ⟨t, ?_⟩, ⟨rfl, rfl⟩, st', fun b hb => (hf b hb).1⟩⟩
    rw [Int.mul_one]
  done := by
    intro X hP hw hK hc i pins s σ H E I hf st hg
    subst hP hw hK
    obtain ⟨f0, f1, f2, f3, f4, f5⟩ := hf it (by simp)
    exact wpAny_pyNext_range_end (I.ok.hd hc) st (by have : n ≤ i := hg; omega) fun h' eb => ⟨rfl, I.turned (t' := s.toks) (fun b o hb e => eb b o hb e) f0 f1 f3 f4 f5⟩
  self := fun _ _ _ _ _ st h => wpAny_pyIter_rangeiter st h
end L2

namespace L2
open PySem PySem.Spec PyProof.Rows
section
variable {X : Cx} {tg : Expr}
def iList (K : PySem.W.Frag) (tl : TE) : TI := fun σ H R => tl σ H fun x H1 => ∃ a, x = .ref a ∧ (∃ xs, SqL K H1 a xs) ∧ R (Itl K a) H1
def iTup (K : PySem.W.Frag) (tl : TE) : TI := fun σ H R => tl σ H fun x H1 => ∃ a, x = .ref a ∧ (∃ xs, SqT K H1 a xs) ∧ R (Itt K a) H1
theorem pi_list {l : Expr} {tl : TE} (hl : PE X l tl) : PI X tg l (iList X.K tl) := by
  intro pins s σ H R I h
  refine thn (hl pins s σ H _ I h) fun v s1 ⟨x, H1, I1, r1, q1⟩ => ?_
  obtain ⟨a, e, ⟨xs, hq⟩, q⟩ := q1
  subst e
  cases r1
  obtain ⟨its, rv, p, hz⟩ := I1.list hq
  refine wpAny_pyIter_list p.isList ?_
  refine ⟨s1.heap.objs.size, [s1.heap.objs.size], _, _, H1, rfl, I1.kept (t' := s1.toks) fun b o e => Heap.get?_push_of_some _ e, turn_list a _, ⟨_, Heap.get?_push_size _ rfl, rfl, rfl⟩, fun b hb => ?_, q⟩
  have e : b = s1.heap.objs.size := by simpa using hb
  subst e
  exact I1.fpOk (Nat.le_refl _) (I1.hok.fresh (Nat.le_refl _))
theorem pi_tup {l : Expr} {tl : TE} (hl : PE X l tl) : PI X tg l (iTup X.K tl) := by
  intro pins s σ H R I h
  refine thn (hl pins s σ H _ I h) fun v s1 ⟨x, H1, I1, r1, q1⟩ => ?_
  obtain ⟨a, e, ⟨xs, hq⟩, q⟩ := q1
  subst e
  cases r1
  obtain ⟨its, rv, p, hz⟩ := I1.tuple hq
  refine wpAny_pyIter_tuple (show s1.heap.IsTuple a its.toArray from p) ?_
  refine ⟨s1.heap.objs.size, [s1.heap.objs.size], _, _, H1, rfl, I1.kept (t' := s1.toks) fun b o e => Heap.get?_push_of_some _ e, turn_tuple a _, ⟨_, Heap.get?_push_size _ rfl, rfl, rfl⟩, fun b hb => ?_, q⟩
  have e : b = s1.heap.objs.size := by simpa using hb
  subst e
  exact I1.fpOk (Nat.le_refl _) (I1.hok.fresh (Nat.le_refl _))
/-- a range object just made, walked -/
theorem range_it {pins : List (Addr × Obj)} {σ : St} {H : Hp} {s : Shared} {R : It → Hp → Prop} {E : Value → Shared → Prop} {lo hi : Int} {t u v : Tok} {tk : Nat} (I : Inv X pins σ H s) (h1 : -(2 ^ 62) ≤ lo) (h2 : lo < 2 ^ 62) (h3 : -(2 ^ 62) ≤ hi) (h4 : hi < 2 ^ 62)
    (q : R (Itr lo (hi - lo).toNat) H) : wpAny (model X.prog X.w) X.A (pyIter (.ref s.heap.objs.size)) (PIE X pins σ tg R) E { s with heap := s.heap.push { cls := .type "range", data := .fields #[.int lo t, .int hi u, .int 1 v] }, toks := tk } := by
  refine wpAny_pyIter_range (IsRange.new ..) (small_one h1 h2 h3 h4) ?_
  have I1 : Inv X pins σ H { s with heap := s.heap.push { cls := .type "range", data := .fields #[.int lo t, .int hi u, .int 1 v] }, toks := tk } := I.kept fun b o e => Heap.get?_push_of_some _ e
  refine ⟨(s.heap.push { cls := .type "range", data := .fields #[.int lo t, .int hi u, .int 1 v] }).objs.size, [(s.heap.push { cls := .type "range", data := .fields #[.int lo t, .int hi u, .int 1 v] }).objs.size], _, _, H, rfl,
    I1.kept (t' := tk) fun b o e => Heap.get?_push_of_some _ e, turn_range _ lo (hi - lo).toNat, ?_, fun b hb => ?_, q⟩
  · have e1 : lo + ((0 : Nat) : Int) * 1 = lo := by simp
    have e2 : (((hi - lo).toNat : Nat) : Int) - ((0 : Nat) : Int) = Builtin.Range.rangeSize lo hi 1 := by rw [rangeSize_one]; split <;> omega
    show IsRangeIter _ _ (lo + ((0 : Nat) : Int) * 1) ((((hi - lo).toNat : Nat) : Int) - ((0 : Nat) : Int)) 1
    rw [e1, e2]
    exact Heap.get?_push_size _ rfl
  · have e : b = (s.heap.push { cls := .type "range", data := .fields #[.int lo t, .int hi u, .int 1 v] }).objs.size := by simpa using hb
    subst e
    exact I1.fpOk (Nat.le_refl _) (I1.hok.fresh (Nat.le_refl _))
def iRng1 (ta : TA) : TI := fun σ H R => ta σ H fun vs H1 => ∃ j : Int, vs = [.int j] ∧ -(2 ^ 62) ≤ j ∧ j < 2 ^ 62 ∧ R (Itr 0 j.toNat) H1
theorem pi_range1 {a : Expr} {ta : TA} {p pos : Pos} (hg : Gl X "range") (hm : X.mg "range" = none) (ha : PA X [a] ta) (hs : starEach [a] X.env = [(false, eval a X.env)] := by rfl) : PI X tg (.Call (.Name "range" p) [a] [] pos) (iRng1 ta) := by
  intro pins s σ H R I h
  refine Call_ (ld_blt I hg hm boot_range (PyProof.Rows.callWith_type1 (thn (ha pos pins s σ H _ I h) fun us s1 ⟨vs, H1, I1, r1, q1⟩ => ?_) hs rfl))
  obtain ⟨j, e, q1, q2, q⟩ := q1
  subst e
  cases r1 with
  | cons r rr =>
    cases rr
    obtain ⟨t, rfl⟩ := r
    exact call_range_1 (range_it I1 (by omega) (by omega) q1 q2 (by simpa using q))
/-! ### for -/
/-- W: the invariant by the turn and a measure; N: what the body is to reach -/
def tFor (wi : TI) (g : TG) (tb : TS) : TS := fun D σ H => wi σ H fun J H1 => ∃ W : Nat → Nat → St → Hp → Prop, (∃ m, W 0 m σ H1) ∧ ∀ i m σ H, W i m σ H →
  (J.stop i H ∧ D.nx σ H) ∨ (J.go i H ∧ ∃ N : St → Hp → Prop, (∀ σ' H', N σ' H' → ∃ m', m' < m ∧ W (i + 1) m' σ' H') ∧ ∀ x H', J.yld i H x H' → g x σ H' fun σ2 H2 => tb { D with nx := N, ct := N, bk := D.nx } σ2 H2)
/-- the records at fp as they stand -/
def pinsAt (fp : List Addr) (h : Heap) : List (Addr × Obj) := fp.filterMap fun b => (h.get? b).map fun o => (b, o)
theorem mem_pinsAt {fp : List Addr} {h : Heap} {b : Addr} {o : Obj} (hb : b ∈ fp) (e : h.get? b = some o) : (b, o) ∈ pinsAt fp h := List.mem_filterMap.mpr ⟨b, hb, by rw [e]; rfl⟩
theorem of_pinsAt {fp : List Addr} {h : Heap} {p : Addr × Obj} (hp : p ∈ pinsAt fp h) : p.1 ∈ fp ∧ h.get? p.1 = some p.2 := by
  obtain ⟨b, hb, e⟩ := List.mem_filterMap.mp hp
  cases q : h.get? b with
  | none => rw [q] at e; cases e
  | some o =>
    rw [q] at e
    have e' : (b, o) = p := Option.some.inj e
    subst e'
    exact ⟨hb, q⟩
theorem Inv.pinned {pins : List (Addr × Obj)} {σ : St} {H : Hp} {s : Shared} {fp : List Addr} (I : Inv X pins σ H s) (hf : ∀ b ∈ fp, FpOk X pins H b) (ho : ∀ b ∈ fp, ∃ o, s.heap.get? b = some o ∧ ∀ v, o.data ≠ .cell v) : Inv X (pins ++ pinsAt fp s.heap) σ H s :=
  I.pins_of fun p hp => (List.mem_append.mp hp).elim (fun z => I.pin p (List.mem_append_right _ z)) fun z => by
    obtain ⟨hb, e⟩ := of_pinsAt z
    obtain ⟨f0, f1, f2, _⟩ := hf p.1 hb
    obtain ⟨o, e', d⟩ := ho p.1 hb
    rw [e] at e'; cases e'
    exact ⟨e, f0, f1, f2, d⟩
theorem Inv.unpinned {pins pl : List (Addr × Obj)} {σ : St} {H : Hp} {s : Shared} (I : Inv X (pins ++ pl) σ H s) : Inv X pins σ H s := I.pins_of fun p hp => I.pin p (List.mem_append_right _ (List.mem_append_left _ hp))
theorem ps_for {iter : Expr} {body : List Stmt} {wi : TI} {g : TG} {tb : TS} {pos : Pos} (hp : PassesOwn (model X.prog X.w) X.A X.env X.xe) (hc : X.calm = true) (hi : PI X tg iter wi) (hg : PG X tg g) (hb : PSs X body tb)
    (hs : ∀ x, foldedSetIterable iter X.env x = pure x := by intro _; rfl) : PS X (.For tg iter body [] pos) (tFor wi g tb) := by
  intro pins s σ H D I h
  refine wpAny_For (thn (hi pins s σ H _ I h) fun v s1 h1 => thn h1 fun itv s2 h2 => ?_) hs
  obtain ⟨it, fp, tn, J, H2, e, I2, T, st2, f2, W, ⟨m0, w0⟩, turn⟩ := h2
  subst e
  -- what stays true of the iterator's objects through the loop
  have stat : ∀ {H' : Hp}, (∀ b ∈ fp, H' b = none) → ∀ b ∈ fp, FpOk X pins H' b := fun hn b hb => ⟨hn b hb, (f2 b hb).2⟩
  refine codeAny_forLoop_any (fun n s' => ∃ i σ' H', Inv X pins σ' H' s' ∧ tn i s'.heap ∧ (∀ b ∈ fp, H' b = none) ∧ W i n σ' H') ?_ m0 ⟨0, σ, H2, I2, st2, fun b hb => (f2 b hb).1, w0⟩
  rintro n s3 ⟨i, σ3, H3, I3, st3, fr3, w3⟩
  rcases turn i n σ3 H3 w3 with ⟨stop, qn⟩ | ⟨go, N, hN, step⟩
  · refine wpAny_passesOwn hp (thn (T.done X rfl rfl rfl hc i pins s3 σ3 H3 X.xe I3 (stat fr3) st3 stop) fun r s4 ⟨hr, I4⟩ => ?_)
    subst hr
    exact wpAny_execs_nil ⟨σ3, H3, I4, qn⟩
  · refine wpAny_passesOwn hp (thn (T.item X rfl rfl rfl hc i pins s3 σ3 H3 X.xe I3 (stat fr3) st3 go) fun r s4 ⟨u, hr, h4⟩ => ?_)
    subst hr
    refine wpAny_passesOwn hp (thn h4 fun _ s5 ⟨x, H5, I5, r5, y5, st5, fr5⟩ => ?_)
    have I5' := I5.pinned (stat fr5) (T.obj _ _ st5)
    refine wpAny_passesOwn hp (thn (hg _ s5 σ3 H5 x u _ I5' r5 (step x H5 y5)) fun _ s6 ⟨σ6, H6, I6, q6⟩ => ?_)
    refine wpAny_passesOwn hp (thn (hb _ s6 σ6 H6 _ I6 q6) fun f s7 q7 => ?_)
    have again : ∀ {σ7 : St} {H7 : Hp}, Inv X (pins ++ pinsAt fp s5.heap) σ7 H7 s7 → N σ7 H7 → ∃ m, m < n ∧ ∃ i σ' H', Inv X pins σ' H' s7 ∧ tn i s7.heap ∧ (∀ b ∈ fp, H' b = none) ∧ W i m σ' H' := fun {σ7 H7} I7 n7 => by
      obtain ⟨m', hm, w7⟩ := hN σ7 H7 n7
      refine ⟨m', hm, i + 1, σ7, H7, I7.unpinned, T.keep _ _ _ st5 fun b hb o e => (I7.pin (b, o) (List.mem_append_right _ (List.mem_append_right _ (mem_pinsAt hb e)))).1, fun b hb => ?_, w7⟩
      obtain ⟨o, e, d⟩ := T.obj _ _ st5 b hb
      exact (I7.pin (b, o) (List.mem_append_right _ (List.mem_append_right _ (mem_pinsAt hb e)))).2.1
    cases f with
    | next => obtain ⟨σ7, H7, I7, n7⟩ := q7; exact again I7 n7
    | cont => obtain ⟨σ7, H7, I7, n7⟩ := q7; exact again I7 n7
    | brk => obtain ⟨σ7, H7, I7, q7⟩ := q7; exact ⟨σ7, H7, I7.unpinned, q7⟩
    | ret v => obtain ⟨x7, σ7, H7, I7, r7, q7⟩ := q7; exact ⟨x7, σ7, H7, I7.unpinned, r7, q7⟩
end

/-! ### the forms one uses -/
/-- over a list that the body leaves as it is -/
theorem for_list {K : PySem.W.Frag} {a : Addr} {xs : List V} {g : TG} {tb : TS} {D : Ends} {σ : St} {H : Hp} (Pv : Nat → St → Hp → Prop) (h0 : Pv 0 σ H) (hl : ∀ i σ H, i ≤ xs.length → Pv i σ H → SqL K H a xs)
    (hs : ∀ i x σ H, xs[i]? = some x → Pv i σ H → g x σ H fun σ2 H2 => tb { D with nx := Pv (i + 1), ct := Pv (i + 1), bk := D.nx } σ2 H2) (hd : ∀ σ H, Pv xs.length σ H → D.nx σ H) :
    ∃ W : Nat → Nat → St → Hp → Prop, (∃ m, W 0 m σ H) ∧ ∀ i m σ H, W i m σ H →
      ((Itl K a).stop i H ∧ D.nx σ H) ∨ ((Itl K a).go i H ∧ ∃ N : St → Hp → Prop, (∀ σ' H', N σ' H' → ∃ m', m' < m ∧ W (i + 1) m' σ' H') ∧ ∀ x H', (Itl K a).yld i H x H' → g x σ H' fun σ2 H2 => tb { D with nx := N, ct := N, bk := D.nx } σ2 H2) := by
  refine ⟨fun i m σ H => m = xs.length - i ∧ i ≤ xs.length ∧ Pv i σ H, ⟨xs.length, by simp, Nat.zero_le _, h0⟩, ?_⟩
  rintro i m σ H ⟨rfl, hi, p⟩
  have q := hl i σ H hi p
  by_cases hlt : i < xs.length
  · refine .inr ⟨⟨xs, xs[i], q, by simp [hlt]⟩, Pv (i + 1), fun σ' H' p' => ⟨xs.length - (i + 1), by omega, rfl, hlt, p'⟩, fun x H' y => ?_⟩
    obtain ⟨e, y⟩ := y
    subst e
    exact hs i x σ _ (y xs q) p
  · have e : i = xs.length := by omega
    subst e
    exact .inl ⟨⟨xs, q, Nat.le_refl _⟩, hd σ H p⟩
theorem for_tup {K : PySem.W.Frag} {a : Addr} {xs : List V} {g : TG} {tb : TS} {D : Ends} {σ : St} {H : Hp} (Pv : Nat → St → Hp → Prop) (h0 : Pv 0 σ H) (hl : ∀ i σ H, i ≤ xs.length → Pv i σ H → SqT K H a xs)
    (hs : ∀ i x σ H, xs[i]? = some x → Pv i σ H → g x σ H fun σ2 H2 => tb { D with nx := Pv (i + 1), ct := Pv (i + 1), bk := D.nx } σ2 H2) (hd : ∀ σ H, Pv xs.length σ H → D.nx σ H) :
    ∃ W : Nat → Nat → St → Hp → Prop, (∃ m, W 0 m σ H) ∧ ∀ i m σ H, W i m σ H →
      ((Itt K a).stop i H ∧ D.nx σ H) ∨ ((Itt K a).go i H ∧ ∃ N : St → Hp → Prop, (∀ σ' H', N σ' H' → ∃ m', m' < m ∧ W (i + 1) m' σ' H') ∧ ∀ x H', (Itt K a).yld i H x H' → g x σ H' fun σ2 H2 => tb { D with nx := N, ct := N, bk := D.nx } σ2 H2) := by
  refine ⟨fun i m σ H => m = xs.length - i ∧ i ≤ xs.length ∧ Pv i σ H, ⟨xs.length, by simp, Nat.zero_le _, h0⟩, ?_⟩
  rintro i m σ H ⟨rfl, hi, p⟩
  have q := hl i σ H hi p
  by_cases hlt : i < xs.length
  · refine .inr ⟨⟨xs, xs[i], q, by simp [hlt]⟩, Pv (i + 1), fun σ' H' p' => ⟨xs.length - (i + 1), by omega, rfl, hlt, p'⟩, fun x H' y => ?_⟩
    obtain ⟨e, y⟩ := y
    subst e
    exact hs i x σ _ (y xs q) p
  · have e : i = xs.length := by omega
    subst e
    exact .inl ⟨⟨xs, q, Nat.le_refl _⟩, hd σ H p⟩
theorem for_range {lo : Int} {n : Nat} {g : TG} {tb : TS} {D : Ends} {σ : St} {H : Hp} (Pv : Nat → St → Hp → Prop) (h0 : Pv 0 σ H)
    (hs : ∀ i σ H, i < n → Pv i σ H → g (.int (lo + i)) σ H fun σ2 H2 => tb { D with nx := Pv (i + 1), ct := Pv (i + 1), bk := D.nx } σ2 H2) (hd : ∀ σ H, Pv n σ H → D.nx σ H) :
    ∃ W : Nat → Nat → St → Hp → Prop, (∃ m, W 0 m σ H) ∧ ∀ i m σ H, W i m σ H →
      ((Itr lo n).stop i H ∧ D.nx σ H) ∨ ((Itr lo n).go i H ∧ ∃ N : St → Hp → Prop, (∀ σ' H', N σ' H' → ∃ m', m' < m ∧ W (i + 1) m' σ' H') ∧ ∀ x H', (Itr lo n).yld i H x H' → g x σ H' fun σ2 H2 => tb { D with nx := N, ct := N, bk := D.nx } σ2 H2) := by
  refine ⟨fun i m σ H => m = n - i ∧ i ≤ n ∧ Pv i σ H, ⟨n, by simp, Nat.zero_le _, h0⟩, ?_⟩
  rintro i m σ H ⟨rfl, hi, p⟩
  by_cases hlt : i < n
  · refine .inr ⟨hlt, Pv (i + 1), fun σ' H' p' => ⟨n - (i + 1), by omega, rfl, hlt, p'⟩, fun x H' y => ?_⟩
    obtain ⟨e, y⟩ := y
    subst e y
    exact hs i σ _ hlt p
  · have e : i = n := by omega
    subst e
    exact .inl ⟨Nat.le_refl _, hd σ H p⟩
end L2

namespace L2
open PySem PySem.Spec PyProof.Rows

abbrev R2 := V → V → Hp → VK → Prop
/-- a two-place operation on values: f is binaryOp op, inplaceOp op or compareOp op -/
def OpR (X : Cx) (f : Value → Value → Sem Value) (r : R2) : Prop :=
  ∀ (pins : List (Addr × Obj)) (s : Shared) (σ : St) (H : Hp) (x y : V) (v u : Value) (Q : VK), Inv X pins σ H s → RelV x v → RelV y u → r x y H Q →
    wpAny (model X.prog X.w) X.A (f v u) (EP X pins σ Q) X.xe s
/-- a one-place operation -/
def UnR (X : Cx) (f : Value → Sem Value) (r : V → Hp → VK → Prop) : Prop :=
  ∀ (pins : List (Addr × Obj)) (s : Shared) (σ : St) (H : Hp) (x : V) (v : Value) (Q : VK), Inv X pins σ H s → RelV x v → r x H Q →
    wpAny (model X.prog X.w) X.A (f v) (EP X pins σ Q) X.xe s
/-- a call of a value that is known (a builtin, a type) with values -/
def CallR (X : Cx) (f : Value) (r : List V → Hp → VK → Prop) : Prop :=
  ∀ (pins : List (Addr × Obj)) (s : Shared) (σ : St) (H : Hp) (xs : List V) (us : List Value) (Q : VK), Inv X pins σ H s → Vals xs us → r xs H Q →
    wpAny (model X.prog X.w) X.A (call f us) (EP X pins σ Q) X.xe s
def tOp (r : R2) (ta tb : TE) : TE := fun σ H Q => ta σ H fun x H1 => tb σ H1 fun y H2 => r x y H2 Q
def tUn (r : V → Hp → VK → Prop) (ta : TE) : TE := fun σ H Q => ta σ H fun x H1 => r x H1 Q
/-- ints in, under C, and a value out -/
def rI (C : Int → Int → Prop) (g : Int → Int → V) : R2 := fun x y H Q => ∃ i j, x = .int i ∧ y = .int j ∧ C i j ∧ Q (g i j) H
def rI0 (g : Int → Int → V) : R2 := fun x y H Q => ∃ i j, x = .int i ∧ y = .int j ∧ Q (g i j) H
def rU (g : Int → V) : V → Hp → VK → Prop := fun x H Q => ∃ i, x = .int i ∧ Q (g i) H

section
variable {X : Cx} {a b c : Expr} {ta tb tc : TE} {pos : Pos}

theorem binT (ha : PE X a ta) (hb : PE X b tb) {pins : List (Addr × Obj)} {s : Shared} {σ : St} {H : Hp} {R : V → V → Hp → Prop} (I : Inv X pins σ H s)
    (h : ta σ H fun x H1 => tb σ H1 fun y H2 => R x y H2) {Q : Value → Shared → Prop} {f : Value → Value → Sem Value}
    (hf : ∀ v u s2 x y H2, Inv X pins σ H2 s2 → RelV x v → RelV y u → R x y H2 → wpAny (model X.prog X.w) X.A (f v u) Q X.xe s2) :
    wpAny (model X.prog X.w) X.A (eval a X.env) (fun v s₁ => wpAny (model X.prog X.w) X.A (eval b X.env) (fun u s₂ => wpAny (model X.prog X.w) X.A (f v u) Q X.xe s₂) X.xe s₁) X.xe s := by
  refine thn (ha pins s σ H _ I h) fun v s1 ⟨x, H1, I1, r1, q1⟩ => ?_
  refine thn (hb pins s1 σ H1 _ I1 q1) fun u s2 ⟨y, H2, I2, r2, q2⟩ => ?_
  exact hf v u s2 x y H2 I2 r1 r2 q2

theorem pe_op {op : Operator} {r : R2} (ho : OpR X (binaryOp op) r) (ha : PE X a ta) (hb : PE X b tb) : PE X (.BinOp a op b pos) (tOp r ta tb) := by
  intro pins s σ H Q I h
  exact wpAny_BinOp (binT ha hb I h fun v u s2 x y H2 I2 rx ry q => ho pins s2 σ H2 x y v u Q I2 rx ry q)
theorem pe_un {op : UnaryOp} {r : V → Hp → VK → Prop} (ho : UnR X (unaryOp op) r) (ha : PE X a ta) : PE X (.UnaryOp op a pos) (tUn r ta) := by
  intro pins s σ H Q I h
  exact UnaryOp_ (thn (ha pins s σ H _ I h) fun v s1 ⟨x, H1, I1, r1, q1⟩ => ho pins s1 σ H1 x v Q I1 r1 q1)
/-! ### ints -/
theorem opI {f : Value → Value → Sem Value} {C : Int → Int → Prop} {g : Int → Int → Int}
    (rule : ∀ (i j : Int) (t u : Tok) (s : Shared) (Q : Value → Shared → Prop) (E : Value → Shared → Prop), C i j → Q (.int (g i j) s.toks) { s with toks := s.toks + 1 } → wpAny (model X.prog X.w) X.A (f (.int i t) (.int j u)) Q E s) :
    OpR X f (rI C fun i j => .int (g i j)) := by
  intro pins s σ H x y v u Q I rx ry h
  obtain ⟨i, j, rfl, rfl, hc, q⟩ := h
  obtain ⟨t, rfl⟩ := rx
  obtain ⟨t', rfl⟩ := ry
  exact rule i j t t' s _ _ hc ⟨.int (g i j), H, I.tok _, ⟨_, rfl⟩, q⟩
theorem opI0 {f : Value → Value → Sem Value} {g : Int → Int → Int}
    (rule : ∀ (i j : Int) (t u : Tok) (s : Shared) (Q : Value → Shared → Prop) (E : Value → Shared → Prop), Q (.int (g i j) s.toks) { s with toks := s.toks + 1 } → wpAny (model X.prog X.w) X.A (f (.int i t) (.int j u)) Q E s) :
    OpR X f (rI0 fun i j => .int (g i j)) := by
  intro pins s σ H x y v u Q I rx ry h
  obtain ⟨i, j, rfl, rfl, q⟩ := h
  obtain ⟨t, rfl⟩ := rx
  obtain ⟨t', rfl⟩ := ry
  exact rule i j t t' s _ _ ⟨.int (g i j), H, I.tok _, ⟨_, rfl⟩, q⟩
theorem opB0 {f : Value → Value → Sem Value} {g : Int → Int → Bool}
    (rule : ∀ (i j : Int) (t u : Tok) (s : Shared) (Q : Value → Shared → Prop) (E : Value → Shared → Prop), Q (.bool (g i j)) s → wpAny (model X.prog X.w) X.A (f (.int i t) (.int j u)) Q E s) :
    OpR X f (rI0 fun i j => .bl (g i j)) := by
  intro pins s σ H x y v u Q I rx ry h
  obtain ⟨i, j, rfl, rfl, q⟩ := h
  obtain ⟨t, rfl⟩ := rx
  obtain ⟨t', rfl⟩ := ry
  exact rule i j t t' s _ _ ⟨.bl (g i j), H, I, rfl, q⟩

def CDiv (i j : Int) : Prop := 0 < j ∧ j < 1073741824
def CPow (i j : Int) : Prop := 0 ≤ j ∧ j ≤ 1000000 ∧ i.natAbs < 2 ^ 64
def CMul (i j : Int) : Prop := (-(2 ^ 64) < i ∧ i < 2 ^ 64) ∨ (-(2 ^ 64) < j ∧ j < 2 ^ 64)
theorem CMul.ok {i j : Int} (h : CMul i j) : IntMulOk i j := by
  rcases h with ⟨h1, h2⟩ | ⟨h1, h2⟩
  · exact .of_left (intBits_le_64 h1 h2)
  · exact .of_right (intBits_le_64 h1 h2)
theorem op_add : OpR X (binaryOp .Add) (rI0 fun i j => .int (i + j)) := opI0 fun _ _ _ _ _ _ _ q => add_int q
theorem op_sub : OpR X (binaryOp .Sub) (rI0 fun i j => .int (i - j)) := opI0 fun _ _ _ _ _ _ _ q => sub_int q
theorem op_mul : OpR X (binaryOp .Mult) (rI CMul fun i j => .int (i * j)) := opI fun _ _ _ _ _ _ _ hc q => mul_int q hc.ok
/-- // by a positive divisor -/
theorem op_fdiv : OpR X (binaryOp .FloorDiv) (rI CDiv fun i j => .int (i / j)) := opI fun i j _ _ _ _ _ hc q => by
  have h1 : (0 : Int) < j := hc.1
  have h2 : j < 1073741824 := hc.2
  exact floordiv_int (by omega) (by rw [Int.fdiv_eq_ediv_of_nonneg i (by omega)]; exact q) (.inl (PyProof.noPylong_small (by omega)))
/-- % by a positive divisor of any size -/
theorem op_mod : OpR X (binaryOp .Mod) (rI (fun _ j => 0 < j) fun i j => .int (i % j)) := opI fun i j _ _ _ _ _ hc q => by
  have h1 : (0 : Int) < j := hc
  exact mod_int' (by omega) (by rw [Int.fmod_eq_emod_of_nonneg i (by omega)]; exact q)
theorem op_pow : OpR X (binaryOp .Pow) (rI CPow fun i j => .int (i ^ j.toNat)) := opI fun _ _ _ _ _ _ _ hc q => pow_int_small hc.1 hc.2.1 hc.2.2 q
theorem unI {f : Value → Sem Value} {g : Int → Int}
    (rule : ∀ (i : Int) (t : Tok) (s : Shared) (Q : Value → Shared → Prop) (E : Value → Shared → Prop), Q (.int (g i) s.toks) { s with toks := s.toks + 1 } → wpAny (model X.prog X.w) X.A (f (.int i t)) Q E s) :
    UnR X f (rU fun i => .int (g i)) := by
  intro pins s σ H x v Q I rx h
  obtain ⟨i, rfl, q⟩ := h
  obtain ⟨t, rfl⟩ := rx
  exact rule i t s _ _ ⟨.int (g i), H, I.tok _, ⟨_, rfl⟩, q⟩
theorem un_neg : UnR X (unaryOp .USub) (rU fun i => .int (-i)) := unI fun _ _ _ _ _ q => neg_int q
/-! ### bools among ints: n += (a < b) -/
end

/-! ### comparisons -/
/-- the scalars that == tells apart as data does -/
def scal : V → V → Bool
  | .non, .non => true | .non, .int _ => true | .int _, .non => true | .non, .bl _ => true | .bl _, .non => true | .non, .str _ => true | .str _, .non => true
  | .int _, .int _ => true | .bl _, .bl _ => true | .str _, .str _ => true | .byt _, .byt _ => true
  | .int _, .str _ => true | .str _, .int _ => true | .bl _, .str _ => true | .str _, .bl _ => true
  | _, _ => false
def rEq : R2 := fun x y H Q => scal x y = true ∧ Q (.bl (decide (x = y))) H
def rNe : R2 := fun x y H Q => scal x y = true ∧ Q (.bl (!decide (x = y))) H

theorem dec_int {i j : Int} : decide (V.int i = V.int j) = (i == j) := by
  rw [Bool.eq_iff_iff]
  simp
theorem dec_bl {i j : Bool} : decide (V.bl i = V.bl j) = (i == j) := by
  rw [Bool.eq_iff_iff]
  simp
theorem dec_str {i j : Str} : decide (V.str i = V.str j) = (i == j) := by
  rw [Bool.eq_iff_iff]
  simp
theorem dec_byt {i j : Array UInt8} : decide (V.byt i = V.byt j) = (i.toList == j.toList) := by
  rw [Bool.eq_iff_iff]
  cases i
  cases j
  simp

section
variable {X : Cx} {a b c : Expr} {ta tb tc : TE} {pos : Pos}
theorem fin_bl {pins : List (Addr × Obj)} {σ : St} {H : Hp} {s : Shared} {Q : VK} {k k' : Bool} (I : Inv X pins σ H s) (q : Q (.bl k) H) (e : k = k') : EP X pins σ Q (.bool k') s := by
  subst e
  exact ⟨.bl k, H, I, rfl, q⟩
theorem op_eq : OpR X (compareOp .Eq) rEq := by
  intro pins s σ H x y v u Q I rx ry h
  obtain ⟨hs, q⟩ := h
  cases x with
  | non =>
    cases rx
    cases y with
    | non => cases ry; exact PySem.EqNone.eq_none_none (fin_bl I q (by simp))
    | bl j => cases ry; exact PySem.EqNone.eq_none_bool (fin_bl I q (by simp))
    | int j => obtain ⟨t', rfl⟩ := ry; exact PySem.EqNone.eq_none_int (fin_bl I q (by simp))
    | str j => obtain ⟨t', rfl⟩ := ry; exact PySem.EqNone.eq_none_str (fin_bl I q (by simp))
    | _ => exact absurd (show false = true from hs) Bool.false_ne_true
  | bl i =>
    cases rx
    cases y with
    | non => cases ry; exact PySem.EqNone.eq_bool_none (fin_bl I q (by simp))
    | bl j => cases ry; exact eq_bool (fin_bl I q dec_bl)
    | str j => obtain ⟨t', rfl⟩ := ry; exact PySem.EqMixed.eq_bool_str (fin_bl I q (by simp))
    | _ => exact absurd (show false = true from hs) Bool.false_ne_true
  | int i =>
    obtain ⟨t, rfl⟩ := rx
    cases y with
    | non => cases ry; exact PySem.EqNone.eq_int_none (fin_bl I q (by simp))
    | int j => obtain ⟨t', rfl⟩ := ry; exact eq_int (fin_bl I q dec_int)
    | str j => obtain ⟨t', rfl⟩ := ry; exact PySem.EqMixed.eq_int_str (fin_bl I q (by simp))
    | _ => exact absurd (show false = true from hs) Bool.false_ne_true
  | str i =>
    obtain ⟨t, rfl⟩ := rx
    cases y with
    | non => cases ry; exact PySem.EqNone.eq_str_none (fin_bl I q (by simp))
    | bl j => cases ry; exact PySem.EqMixed.eq_str_bool (fin_bl I q (by simp))
    | int j => obtain ⟨t', rfl⟩ := ry; exact PySem.EqMixed.eq_str_int (fin_bl I q (by simp))
    | str j => obtain ⟨t', rfl⟩ := ry; exact eq_str (fin_bl I q dec_str)
    | _ => exact absurd (show false = true from hs) Bool.false_ne_true
  | byt i =>
    obtain ⟨t, rfl⟩ := rx
    cases y with
    | byt j => obtain ⟨t', rfl⟩ := ry; exact PySem.W.eq_bytes (fin_bl I q dec_byt)
    | _ => exact absurd (show false = true from hs) Bool.false_ne_true
  | _ => cases y <;> exact absurd (show false = true from hs) Bool.false_ne_true
theorem op_ne : OpR X (compareOp .NotEq) rNe := by
  intro pins s σ H x y v u Q I rx ry h
  obtain ⟨hs, q⟩ := h
  cases x with
  | non =>
    cases rx
    cases y with
    | non => cases ry; exact PySem.EqNone.ne_none_none (fin_bl I q (by simp))
    | bl j => cases ry; exact PySem.EqNone.ne_none_bool (fin_bl I q (by simp))
    | int j => obtain ⟨t', rfl⟩ := ry; exact PySem.EqNone.ne_none_int (fin_bl I q (by simp))
    | str j => obtain ⟨t', rfl⟩ := ry; exact PySem.EqNone.ne_none_str (fin_bl I q (by simp))
    | _ => exact absurd (show false = true from hs) Bool.false_ne_true
  | bl i =>
    cases rx
    cases y with
    | non => cases ry; exact PySem.EqNone.ne_bool_none (fin_bl I q (by simp))
    | bl j => cases ry; exact ne_bool (fin_bl I q (congrArg not dec_bl))
    | str j => obtain ⟨t', rfl⟩ := ry; exact PySem.EqMixed.ne_bool_str (fin_bl I q (by simp))
    | _ => exact absurd (show false = true from hs) Bool.false_ne_true
  | int i =>
    obtain ⟨t, rfl⟩ := rx
    cases y with
    | non => cases ry; exact PySem.EqNone.ne_int_none (fin_bl I q (by simp))
    | int j => obtain ⟨t', rfl⟩ := ry; exact ne_int (fin_bl I q (congrArg not dec_int))
    | str j => obtain ⟨t', rfl⟩ := ry; exact PySem.EqMixed.ne_int_str (fin_bl I q (by simp))
    | _ => exact absurd (show false = true from hs) Bool.false_ne_true
  | str i =>
    obtain ⟨t, rfl⟩ := rx
    cases y with
    | non => cases ry; exact PySem.EqNone.ne_str_none (fin_bl I q (by simp))
    | bl j => cases ry; exact PySem.EqMixed.ne_str_bool (fin_bl I q (by simp))
    | int j => obtain ⟨t', rfl⟩ := ry; exact PySem.EqMixed.ne_str_int (fin_bl I q (by simp))
    | str j => obtain ⟨t', rfl⟩ := ry; exact ne_str (fin_bl I q (congrArg not dec_str))
    | _ => exact absurd (show false = true from hs) Bool.false_ne_true
  | byt i =>
    obtain ⟨t, rfl⟩ := rx
    cases y with
    | byt j => obtain ⟨t', rfl⟩ := ry; exact PySem.W.ne_bytes (fin_bl I q (congrArg not dec_byt))
    | _ => exact absurd (show false = true from hs) Bool.false_ne_true
  | _ => cases y <;> exact absurd (show false = true from hs) Bool.false_ne_true

theorem op_lt : OpR X (compareOp .Lt) (rI0 fun i j => .bl (decide (i < j))) := opB0 fun _ _ _ _ _ _ _ q => lt_int q
theorem op_le : OpR X (compareOp .LtE) (rI0 fun i j => .bl (decide (i ≤ j))) := opB0 fun _ _ _ _ _ _ _ q => le_int q
theorem op_ge : OpR X (compareOp .GtE) (rI0 fun i j => .bl (decide (j ≤ i))) := opB0 fun _ _ _ _ _ _ _ q => ge_int q
theorem nomark (b : Expr) {op : CmpOp} (h : op ≠ .In := by decide) (h2 : op ≠ .NotIn := by decide) : behindInMarks op b = false := by
  have e1 : (op == CmpOp.In) = false := by cases op <;> first | rfl | exact absurd rfl h
  have e2 : (op == CmpOp.NotIn) = false := by cases op <;> first | rfl | exact absurd rfl h2
  cases b <;> simp [behindInMarks, e1, e2]
/-- a reading of a value as a test -/
def tTest (t : TE) : TT := fun σ H Q => t σ H fun x H' => ∃ k, x = .bl k ∧ Q k H'
theorem pt_cmpR {op : CmpOp} {r : R2} (ho : OpR X (compareOp op) r) (ha : PE X a ta) (hb : PE X b tb) (hm : behindInMarks op b = false) : PT X (.Compare a [op] [b] pos) (tTest (tOp r ta tb)) := by
  intro pins s σ H Q I h
  refine wpAny_isTrue_Compare1 (thn (ha pins s σ H _ I h) fun v s1 ⟨x, H1, I1, r1, q1⟩ => thn (hb pins s1 σ H1 _ I1 q1) fun u s2 ⟨y, H2, I2, r2, q2⟩ =>
    thn (ho pins s2 σ H2 x y v u _ I2 r1 r2 q2) fun c s3 ⟨z, H3, I3, r3, k, e, q3⟩ => ?_) hm
  subst e
  cases r3
  exact wpAny_truthy_bool ⟨H3, I3, q3⟩
/-! ### truth -/
theorem line63 : (sizeLine : Nat) < 2 ^ 63 := by rw [sizeLine_eq]; decide
/-! ### strs and bytes -/
theorem op_add_str : OpR X (binaryOp .Add) (fun x y H Q => ∃ i j, x = .str i ∧ y = .str j ∧ i.length + j.length ≤ sizeLine ∧ Q (.str (i ++ j)) H) := by
  intro pins s σ H x y v u Q I rx ry h
  obtain ⟨i, j, rfl, rfl, hz, q⟩ := h
  obtain ⟨t, rfl⟩ := rx
  obtain ⟨t', rfl⟩ := ry
  exact add_str (fun t' tk => ⟨.str (i ++ j), H, I.tok _, ⟨_, rfl⟩, q⟩) hz
/-! ### scalar builtins, by CallR -/
theorem vals1 {x : V} {us : List Value} (r : Vals [x] us) : ∃ u, us = [u] ∧ RelV x u := by
  cases r with
  | cons r1 r2 => cases r2; exact ⟨_, rfl, r1⟩
theorem vals2 {x y : V} {us : List Value} (r : Vals [x, y] us) : ∃ u w', us = [u, w'] ∧ RelV x u ∧ RelV y w' := by
  cases r with
  | cons r1 r2 =>
    cases r2 with
    | cons r3 r4 => cases r4; exact ⟨_, _, rfl, r1, r3⟩
theorem call_max2 (hc : X.calm = true) : CallR X (.builtin "max") (fun xs H Q => ∃ i j, xs = [.int i, .int j] ∧ Q (.int (if j > i then j else i)) H) := by
  intro pins s σ H xs us Q I r h
  obtain ⟨i, j, rfl, q⟩ := h
  obtain ⟨u, w', rfl, ⟨t, rfl⟩, ⟨t', rfl⟩⟩ := vals2 r
  refine max_two_ints (I.ok.hd hc) fun h' tk k => ⟨_, H, I.kept k, ?_, q⟩
  by_cases hj : j > i
  · rw [if_pos hj, if_pos hj]; exact ⟨_, rfl⟩
  · rw [if_neg hj, if_neg hj]; exact ⟨_, rfl⟩
theorem call_min2 (hc : X.calm = true) : CallR X (.builtin "min") (fun xs H Q => ∃ i j, xs = [.int i, .int j] ∧ Q (.int (if j < i then j else i)) H) := by
  intro pins s σ H xs us Q I r h
  obtain ⟨i, j, rfl, q⟩ := h
  obtain ⟨u, w', rfl, ⟨t, rfl⟩, ⟨t', rfl⟩⟩ := vals2 r
  refine min_two_ints (I.ok.hd hc) fun h' tk k => ⟨_, H, I.kept k, ?_, q⟩
  by_cases hj : j < i
  · rw [if_pos hj, if_pos hj]; exact ⟨_, rfl⟩
  · rw [if_neg hj, if_neg hj]; exact ⟨_, rfl⟩
end
end L2

namespace L2
open PySem PySem.Spec PyProof.Rows

/-! ### an instance, its attributes a map -/
structure ObjM (h : Heap) (x dx C : Addr) (mA : Str → Option Value) : Prop where
  obj : h.get? x = some (PySem.W.instObj C dx)
  ns : h.Ns1 dx mA
  ne : dx ≠ x

theorem lookIn_ns {h : Heap} {dx : Addr} {mA : Str → Option Value} (n : h.Ns1 dx mA) : ∃ od, h.get? dx = some od ∧ ∀ name, PySem.W.lookIn name od = some (mA name) := by
  obtain ⟨o, es, ep, ho, hd, hk, _, hm⟩ := n
  refine ⟨o, ho, fun name => ?_⟩
  have e := hm name
  unfold nsFind findBy at e
  rw [← Array.find?_toList] at e
  unfold PySem.W.lookIn
  rw [hd]
  dsimp only
  split
  · rename_i y q
    rw [q] at e
    exact congrArg some e
  · rename_i q
    rw [q] at e
    have a : es.toList.any (·.refKey) = false := by
      rw [List.any_eq_false]
      intro y hy
      obtain ⟨z, t, hkey⟩ := hk y (Array.mem_toList_iff.mp hy)
      simp [DictEntry.refKey, hkey]
    have a' : ¬ es.toList.any (·.refKey) = true := by rw [a]; exact Bool.false_ne_true
    rw [if_neg a']
    exact congrArg some e

theorem ObjM.look {h : Heap} {x dx C : Addr} {mA : Str → Option Value} (I : ObjM h x dx C mA) : ∃ od, PySem.W.InstAt h x (PySem.W.instObj C dx) C (some od) ∧ ∀ name, PySem.W.lookIn name od = some (mA name) :=
  let ⟨od, ho, hl⟩ := lookIn_ns I.ns
  ⟨od, ⟨I.obj, rfl, rfl, ho⟩, hl⟩

section
variable {prog : Program} {w : World} {A : Around} {E : Value → Shared → Prop} {s : Shared} {K : PySem.W.Frag} {x dx C f : Addr} {mA : Str → Option Value} {name : Str} {v : Value}

theorem get_map {expr : Bool} {Q : Value → Shared → Prop} (X : K.In s.heap) (I : ObjM s.heap x dx C mA) (hg : PySem.W.plainGet K C name = true) (hh : PySem.W.hasDictIn K C = true)
    (ha : PySem.W.findIn K (.ref C) name = some none) (hv : mA name = some v) (hv' : PySem.W.handedIn v = true) (h : Q v { s with toks := s.toks + 1 }) :
    wpAny (model prog w) A (getAttr (.ref x) name expr) Q E s := by
  obtain ⟨od, J, hl⟩ := I.look
  exact PySem.W.get_value X J (PySem.W.plainGet_of hg).1 (PySem.W.findObj_own hh ha rfl (by rw [hl, hv])) hv' h

theorem set_map {ns : List Str} {Q : Unit → Shared → Prop} (X : K.In s.heap) (I : ObjM s.heap x dx C mA)
    (hs : PySem.W.findIn K (.ref C) "__setattr__" = some (some (.builtin "object.__setattr__"))) (hp : PySem.W.plainOver K C = true) (ht : PySem.W.takerIn K C name = some none) (hh : PySem.W.hasDictIn K C = true)
    (hw : PySem.Within mA ns) (hsz : ns.length ≤ sizeLine)
    (h : ∀ h', ObjM h' x dx C (fun y => if y = name then some v else mA y) → Heap.SameBut dx s.heap h' → Q () { s with heap := h', toks := s.toks + 2 }) :
    wpAny (model prog w) A (setAttr (.ref x) name v) Q E s := by
  obtain ⟨od, J, hl⟩ := I.look
  refine PySem.W.set_plain X J hs (PySem.W.osa_open (s := { s with toks := s.toks + 1 }) (r := none) X J hp ht fun b => ?_)
  obtain ⟨cd, hc, hd'⟩ := PySem.W.any_some hh
  have hx : s.heap.get? x = some ⟨.ref C, some dx, .plain, #[]⟩ := I.obj
  refine wpAny_bind (wpAny_pure (wpAny_bind (wpAny_bind (wpAny_loadPart hx (wpAny_bind (PySem.W.Looks.here (s := { s with toks := s.toks + 1 }) (PySem.W.looks_clsIn X hc) ?_))))))
  rw [hd']
  refine wpAny_pure (a := some dx) (wpAny_bind (wpAny_pure (wpAny_bind ?_)))
  refine wpAny_nsSet1 (s := { s with toks := s.toks + 1 }) I.ns fun h' hn2 hs2 => ?_
  obtain ⟨oD, esD, epD, hoD, hdD, hcD⟩ := hn2.count (PySem.Within.cons name v hw)
  refine wpAny_bind (wpAny_lookBehind hoD (by rw [hdD]; exact pastItsLine_dict (Nat.le_trans hcD (by rw [List.length_cons]; omega))) ?_)
  exact wpAny_pure (h _ ⟨(hs2.2 _ (Ne.symm I.ne)).trans I.obj, hn2, I.ne⟩ hs2)

/-- C(..): the dict at the heap's end, the instance behind it; then its __init__ -/
theorem make_map {R : Result → Shared → Prop} {vs : List Value} {kw : List (Str × Value)} (X : K.In s.heap) (hm : PySem.W.makesIn K C = true)
    (hi : PySem.W.findIn K (.ref C) "__init__" = some (some (.ref f))) (hf : PySem.W.typeIn K (.ref f) = some (.type "function"))
    (h : codeAny (model prog w) (A.under (.builtin "type.__call__" ⟨.ref C :: vs, kw⟩)) (.call (.ref f) ⟨.ref (s.heap.objs.size + 1) :: vs, kw⟩) (PySem.W.InitBack (s.heap.objs.size + 1) R)
      { s with heap := (s.heap.push PySem.W.emptyDict).push (PySem.W.instObj C s.heap.objs.size) }) :
    codeAny (model prog w) A (.call (.ref C) ⟨vs, kw⟩) R s := by
  obtain ⟨hh, g, d, t, os⟩ := s
  exact PySem.W.make_core (PySem.W.makes_of X hm) (PySem.W.looks_findIn X hi) (fun self => PySem.W.bind_fn X self hf) (.inl rfl) h
end

/-! ### the attributes as a list of pairs -/
def putF (f : Str) (v : V) : List (Str × V) → List (Str × V)
  | [] => [(f, v)]
  | (g, x) :: r => if g = f then (g, v) :: r else (g, x) :: putF f v r
theorem lookup_putF (f g : Str) (v : V) : ∀ fs : List (Str × V), (putF f v fs).lookup g = if g = f then some v else fs.lookup g
  | [] => by
    show List.lookup g [(f, v)] = _
    by_cases h : g = f
    · have hb : (g == f) = true := beq_iff_eq.mpr h
      simp only [List.lookup, hb, if_pos h]
    · have hb : (g == f) = false := beq_eq_false_iff_ne.mpr h
      simp only [List.lookup, hb, if_neg h]
  | (k, x) :: r => by
    have ih := lookup_putF f g v r
    rw [show putF f v ((k, x) :: r) = (if k = f then (k, v) :: r else (k, x) :: putF f v r) from rfl]
    by_cases hk : k = f
    · rw [if_pos hk]
      by_cases h : g = k
      · have hb : (g == k) = true := beq_iff_eq.mpr h
        simp only [List.lookup, hb, if_pos (h.trans hk)]
      · have hb : (g == k) = false := beq_eq_false_iff_ne.mpr h
        simp only [List.lookup, hb, if_neg (fun e : g = f => h (e.trans hk.symm))]
    · rw [if_neg hk]
      by_cases h : g = k
      · have hb : (g == k) = true := beq_iff_eq.mpr h
        simp only [List.lookup, hb, if_neg (fun e : g = f => hk (h.symm.trans e))]
      · have hb : (g == k) = false := beq_eq_false_iff_ne.mpr h
        simp only [List.lookup, hb]
        exact ih
theorem keys_putF (f : Str) (v : V) : ∀ fs : List (Str × V), f ∈ (putF f v fs).map (·.1) ∧ ∀ g, g ∈ fs.map (·.1) → g ∈ (putF f v fs).map (·.1)
  | [] => ⟨by simp [putF], fun g h => by simp at h⟩
  | (k, x) :: r => by
    obtain ⟨i1, i2⟩ := keys_putF f v r
    rw [show putF f v ((k, x) :: r) = (if k = f then (k, v) :: r else (k, x) :: putF f v r) from rfl]
    by_cases hk : k = f
    · rw [if_pos hk]
      subst hk
      exact ⟨by simp, fun g h => by simpa using h⟩
    · rw [if_neg hk]
      refine ⟨?_, fun g h => ?_⟩
      · rw [List.map_cons]
        exact List.mem_cons_of_mem _ i1
      · rw [List.map_cons] at h ⊢
        rcases List.mem_cons.mp h with e | e
        · exact List.mem_cons.mpr (.inl e)
        · exact List.mem_cons_of_mem _ (i2 g e)
theorem length_putF (f : Str) (v : V) : ∀ fs : List (Str × V), (putF f v fs).length ≤ fs.length + 1
  | [] => by simp [putF]
  | (k, x) :: r => by
    have ih := length_putF f v r
    rw [show putF f v ((k, x) :: r) = (if k = f then (k, v) :: r else (k, x) :: putF f v r) from rfl]
    by_cases hk : k = f
    · rw [if_pos hk, List.length_cons, List.length_cons]; omega
    · rw [if_neg hk, List.length_cons, List.length_cons]; omega

theorem RelO.some_of {v : V} {o : Option Value} (r : RelO (some v) o) : ∃ u, o = some u ∧ RelV v u := by
  cases o with
  | none => exact (show False from r).elim
  | some u => exact ⟨u, rfl, r⟩
theorem handed_of {v : V} {u : Value} (r : RelV v u) : PySem.W.handedIn u = true := by
  cases v with
  | non => cases (show u = Value.none from r); rfl
  | bl b => cases (show u = Value.bool b from r); rfl
  | int i => obtain ⟨t, e⟩ := (show ∃ t, u = Value.int i t from r); cases e; rfl
  | str x => obtain ⟨t, e⟩ := (show ∃ t, u = Value.str x t from r); cases e; rfl
  | byt b => obtain ⟨t, e⟩ := (show ∃ t, u = Value.bytes b t from r); cases e; rfl
  | flt b => obtain ⟨t, e⟩ := (show ∃ t, u = Value.float b t from r); cases e; rfl
  | ref a => cases (show u = Value.ref a from r); rfl
  | ty n => cases (show u = Value.type n from r); rfl

section
variable {P : Program} {w : World} {H H' : Hp} {h h' : Heap} {a C dx : Addr} {fs fs' : List (Str × V)}
theorem ins_get (hok : HOk P w H h) (e : H a = some (.ins C dx fs)) : ∃ mA, ObjM h a dx C mA ∧ (∀ f, RelO (fs.lookup f) (mA f)) ∧ PySem.Within mA (fs.map (·.1)) ∧ fs.length ≤ 1000 ∧ H dx = some (.own a) := by
  obtain ⟨d, z, ne, ob, mA, n, r, q⟩ := (show ObjOk P w H h a (.ins C dx fs) from hok a _ e)
  exact ⟨mA, ⟨ob, n, ne⟩, r, q, z, d⟩
end

/-! ### what of the text a class must have -/
structure Cls (K : PySem.W.Frag) (C : Addr) : Prop where
  pg : PySem.W.plainGet K C Str.empty = true
  hd : PySem.W.hasDictIn K C = true
  po : PySem.W.plainOver K C = true
  sa : PySem.W.findIn K (.ref C) "__setattr__" = some (some (.builtin "object.__setattr__"))
theorem Cls.get {K : PySem.W.Frag} {C : Addr} (c : Cls K C) (f : Str) : PySem.W.plainGet K C f = true := c.pg
/-- no class of it has the name -/
def NoAttr (K : PySem.W.Frag) (C : Addr) (f : Str) : Prop := PySem.W.findIn K (.ref C) f = some none
theorem NoAttr.taker {K : PySem.W.Frag} {C : Addr} {f : Str} (n : NoAttr K C f) : PySem.W.takerIn K C f = some none := by
  unfold PySem.W.takerIn
  rw [show PySem.W.findIn K (.ref C) f = some none from n]
  rfl
section
variable {X : Cx} {pins : List (Addr × Obj)} {σ : St} {H : Hp} {s : Shared} {a C dx : Addr} {fs : List (Str × V)} {f : Str} {v : V} {A : Around} {E : Value → Shared → Prop}

theorem getattr_ok {b : Bool} {Q : Value → Shared → Prop} (I : Inv X pins σ H s) (e : H a = some (.ins C dx fs)) (c : Cls X.K C) (n : NoAttr X.K C f) (l : fs.lookup f = some v)
    (h : ∀ u s', Inv X pins σ H s' → RelV v u → Q u s') : wpAny (model X.prog X.w) A (getAttr (.ref a) f b) Q E s := by
  obtain ⟨mA, O, r, _, _, _⟩ := ins_get I.hok e
  obtain ⟨u, hu, ru⟩ := RelO.some_of (v := v) (o := mA f) (by rw [← l]; exact r f)
  exact get_map I.kIn O (c.get f) c.hd n hu (handed_of ru) (h u _ (I.tok _) ru)

theorem setattr_ok {y : V} {u : Value} {Q : Unit → Shared → Prop} (I : Inv X pins σ H s) (e : H a = some (.ins C dx fs)) (c : Cls X.K C) (n : NoAttr X.K C f) (hl : fs.length < 1000) (ry : RelV y u)
    (h : ∀ s', Inv X pins σ (upd H a (.ins C dx (putF f y fs))) s' → Q () s') : wpAny (model X.prog X.w) A (setAttr (.ref a) f u) Q E s := by
  obtain ⟨mA, O, r, wi, _, ho⟩ := ins_get I.hok e
  have hz : (fs.map (·.1)).length ≤ sizeLine := by rw [List.length_map, sizeLine_eq]; omega
  refine set_map I.kIn O c.sa c.po n.taker c.hd wi hz fun h' O' sb => h _ ?_
  have hd : ∃ o, h'.get? dx = some o := let ⟨o, _, _, e', _⟩ := O'.ns; ⟨o, e'⟩
  refine I.write (x := a) (e := dx) (by rw [e]; exact True.intro) (.inr ho) (fun b q hb z => (sb.2 b hb).trans z) hd ?_
  refine ⟨by rw [upd_ne O.ne]; exact ho, ?_, O.ne, O'.obj, _, O'.ns, fun g => ?_, fun g hg => ?_⟩
  · have := length_putF f y fs; omega
  · show RelO ((putF f y fs).lookup g) (if g = f then some u else mA g)
    rw [lookup_putF]
    by_cases q : g = f
    · rw [if_pos q, if_pos q]; exact ry
    · rw [if_neg q, if_neg q]; exact r g
  · by_cases q : g = f
    · rw [q]; exact (keys_putF f y fs).1
    · refine (keys_putF f y fs).2 g (wi g fun z => hg ?_)
      show (if g = f then some u else mA g) = none
      rw [if_neg q]; exact z

/-- a new instance, tracked, without attributes -/
theorem Inv.made (I : Inv X pins σ H s) : Inv X pins σ (upd (upd H s.heap.objs.size (.own (s.heap.objs.size + 1))) (s.heap.objs.size + 1) (.ins C s.heap.objs.size []))
    { s with heap := (s.heap.push PySem.W.emptyDict).push (PySem.W.instObj C s.heap.objs.size) } := by
  have e1 : (s.heap.push PySem.W.emptyDict).get? s.heap.objs.size = some PySem.W.emptyDict := Heap.get?_push_size s.heap rfl
  have e2 : ((s.heap.push PySem.W.emptyDict).push (PySem.W.instObj C s.heap.objs.size)).get? (s.heap.objs.size + 1) = some (PySem.W.instObj C s.heap.objs.size) := by
    have := Heap.get?_push_size (s.heap.push PySem.W.emptyDict) (o := PySem.W.instObj C s.heap.objs.size) rfl
    rwa [Heap.size_push] at this
  have e3 : (s.heap.push PySem.W.emptyDict).Ns s.heap.objs.size (fun _ => none) := ⟨PySem.W.emptyDict, #[], _, e1, rfl, (fun e he => absurd he (by simp)), fun _ => rfl⟩
  have I1 := I.laid (a := s.heap.objs.size) (o := .own (s.heap.objs.size + 1)) (h' := s.heap.push PySem.W.emptyDict) (t' := s.toks) (fun b u q => Heap.get?_push_of_some _ q) (Nat.le_refl _) ⟨_, e1⟩
  refine I1.laid (a := s.heap.objs.size + 1) (o := .ins C s.heap.objs.size []) (t' := s.toks) (fun b u q => Heap.get?_push_of_some _ q) (Nat.le_of_eq (Heap.size_push _ _)) ?_
  have ne : s.heap.objs.size ≠ s.heap.objs.size + 1 := Nat.ne_of_lt (Nat.lt_succ_self _)
  refine ⟨by rw [upd_ne ne, upd_same], Nat.zero_le _, ne, e2, fun _ => none, (Heap.Ns1.of_empty e3).at fun o q => Heap.get?_push_of_some _ q, fun _ => True.intro, fun y hy => absurd rfl hy⟩

/-- e.f where nothing but the object is asked: through attributeBase (super) and the last hold -/
theorem attr_of {prog : Program} {w : World} {env : Env} {e : Expr} {f : Str} {pos : Pos} {s : Shared} {Q : Value → Shared → Prop} (hb : attributeBase e f env (eval e env) = eval e env)
    (h : wpAny (model prog w) A (eval e env) (fun o s₁ => wpAny (model prog w) A (getAttr o f true) Q E s₁) E s) : wpAny (model prog w) A (eval (.Attribute e f pos) env) Q E s :=
  Attribute_any_ h (by rw [arm_eval_Attribute, hb])
end

/-! ### readings and rules -/
/-- e.f, an attribute of the instance -/
def tFld (K : PySem.W.Frag) (ta : TE) (f : Str) : TE := fun σ H Q => ta σ H fun x H1 => ∃ a C dx fs v, x = .ref a ∧ H1 a = some (.ins C dx fs) ∧ Cls K C ∧ NoAttr K C f ∧ fs.lookup f = some v ∧ Q v H1
/-- e.f = value -/
def sFld (K : PySem.W.Frag) (ta tv : TE) (f : Str) : TS := fun D σ H => tv σ H fun y H1 => ta σ H1 fun x H2 => ∃ a C dx fs, x = .ref a ∧ H2 a = some (.ins C dx fs) ∧ Cls K C ∧ NoAttr K C f ∧ fs.length < 1000 ∧
  D.nx σ (upd H2 a (.ins C dx (putF f y fs)))
section
variable {X : Cx} {o e value : Expr} {f : Str} {pos pos' tpos : Pos} {ta tv : TE}
theorem pe_fld (he : PE X e ta) (hb : attributeBase e f X.env (eval e X.env) = eval e X.env) : PE X (.Attribute e f pos) (tFld X.K ta f) := by
  intro pins s σ H Q I h
  refine attr_of hb (thn (he pins s σ H _ I h) fun u s1 ⟨x, H1, I1, rx, a, C, dx, fs, v, ex, ea, c, n, l, q⟩ => ?_)
  subst ex
  obtain rfl : u = Value.ref a := rx
  exact getattr_ok I1 ea c n l fun u' s2 I2 ru => ⟨v, H1, I2, ru, q⟩
theorem ps_fld (ha : PE X o ta) (hv : PE X value tv) (hs : swapsWith value (some (.Attribute o f pos')) pos.line X.env = pure false) : PS X (.Assign [.Attribute o f pos'] value pos) (sFld X.K ta tv f) := by
  intro pins s σ H D I h
  refine plainObj_wpAny_Assign_Attribute (thn (hv pins s σ H _ I h) fun u s1 ⟨y, H1, I1, ry, q⟩ => thn (ha pins s1 σ H1 _ I1 q) fun ov s2 ⟨x, H2, I2, rx, a, C, dx, fs, ex, ea, c, n, l, q2⟩ => ?_) hs
  subst ex
  obtain rfl : ov = Value.ref a := rx
  exact setattr_ok I2 ea c n l ry fun s3 I3 => ⟨σ, _, I3, q2⟩
end

/-! ### isinstance -/
section
variable {X : Cx} {pins : List (Addr × Obj)} {σ : St} {H : Hp} {s : Shared} {A : Around} {E : Value → Shared → Prop} {Q : Value → Shared → Prop} {c : Value} {b : Bool}
/-- the type of a value, as the fragment's deciders take it; for an instance its class -/
inductive TyOf (K : PySem.W.Frag) (H : Hp) : V → Value → Prop where
  | non : TyOf K H .non (.type "NoneType")
  | bl (x : Bool) : TyOf K H (.bl x) (.type "bool")
  | int (i : Int) : TyOf K H (.int i) (.type "int")
  | str (x : Str) : TyOf K H (.str x) (.type "str")
  | flt (x : UInt64) : TyOf K H (.flt x) (.type "float")
  | lst {a : Addr} {xs : List V} (e : H a = some (.lst xs)) : TyOf K H (.ref a) (.type "list")
  | frz {a : Addr} {o : Obj} {xs : List V} (e : H a = some (.frz o (.lst xs))) : TyOf K H (.ref a) (.type "list")
  | tup {a : Addr} {xs : List V} (e : H a = some (.tup xs)) : TyOf K H (.ref a) (.type "tuple")
  | dK {a : Addr} {kvs : List (Key × V)} (e : H a = some (.dK kvs)) : TyOf K H (.ref a) (.type "dict")
  | dT {a : Addr} {kvs : List (List Key × V)} (e : H a = some (.dT kvs)) : TyOf K H (.ref a) (.type "dict")
  | ins {a C dx : Addr} {fs : List (Str × V)} (e : H a = some (.ins C dx fs)) (cl : Cls K C) (ha : PySem.W.findIn K (.ref C) "__class__" = some (some (.builtin "object.__class__")))
      (hn : PySem.W.specialIn K (.builtin "object.__class__") "__get__" = some (some (.builtin "getset_descriptor.__get__"))) (htk : PySem.W.takesIn K (.builtin "object.__class__") = some true)
      (hm : PySem.W.mroIn K C (.type "object") = some true) : TyOf K H (.ref a) (.ref C)
/-- isinstance(x, c) for one class c, a built-in or an own one: kitOne's answer -/
theorem isinst_ok {x : V} {u t : Value} (I : Inv X pins σ H s) (rx : RelV x u) (ty : TyOf X.K H x t) (e : PySem.W.kitOne X.K t c = some b) (h : ∀ tk, Q (.bool b) { s with toks := tk }) :
    wpAny (model X.prog X.w) A (call (.builtin "isinstance") [u, c]) Q E s := by
  cases ty with
  | non => cases (show u = Value.none from rx); exact PySem.W.kia_one PySem.W.kitx_none I.kIn True.intro e (fun z => nomatch z) h
  | bl y => cases (show u = Value.bool y from rx); exact PySem.W.kia_one PySem.W.kitx_bool I.kIn True.intro e (fun z => nomatch z) h
  | int i => obtain ⟨t, q⟩ := (show ∃ t, u = Value.int i t from rx); cases q; exact PySem.W.kia_one PySem.W.kitx_int I.kIn True.intro e (fun z => nomatch z) h
  | str y => obtain ⟨t, q⟩ := (show ∃ t, u = Value.str y t from rx); cases q; exact PySem.W.kia_one PySem.W.kitx_str I.kIn True.intro e (fun z => nomatch z) h
  | flt y => obtain ⟨t, q⟩ := (show ∃ t, u = Value.float y t from rx); cases q; exact PySem.W.kia_one PySem.W.kitx_float I.kIn True.intro e (fun z => nomatch z) h
  | @lst a xs ea =>
    cases (show u = Value.ref a from rx)
    obtain ⟨_, _, n, _, h1⟩ := (show ObjOk X.prog X.w H s.heap a (.lst xs) from I.hok a _ ea)
    exact PySem.W.kia_one PySem.W.kitx_list I.kIn ⟨_, h1, rfl⟩ e (fun z => nomatch z) h
  | @frz a ob xs ea =>
    cases (show u = Value.ref a from rx)
    obtain ⟨_, _, _, n, _, h1⟩ := (show ObjOk X.prog X.w H s.heap a (.frz ob (.lst xs)) from I.hok a _ ea)
    exact PySem.W.kia_one PySem.W.kitx_list I.kIn ⟨_, h1, rfl⟩ e (fun z => nomatch z) h
  | @tup a xs ea =>
    cases (show u = Value.ref a from rx)
    obtain ⟨_, _, _, p⟩ := (show ObjOk X.prog X.w H s.heap a (.tup xs) from I.hok a _ ea)
    obtain ⟨o, h1, h2, _⟩ := p
    exact PySem.W.kia_one PySem.W.kitx_tuple I.kIn ⟨o, h1, h2⟩ e (fun z => nomatch z) h
  | @dK a kvs ea =>
    cases (show u = Value.ref a from rx)
    obtain ⟨_, _, vs, _, p⟩ := (show ObjOk X.prog X.w H s.heap a (.dK kvs) from I.hok a _ ea)
    obtain ⟨o, es, ep, h1, h2, _⟩ := p
    exact PySem.W.kia_one PySem.W.kitx_dict I.kIn ⟨o, h1, h2.1⟩ e (fun z => nomatch z) h
  | @dT a kvs ea =>
    cases (show u = Value.ref a from rx)
    obtain ⟨_, _, xs, _, o, es, ep, h1, h2, _⟩ := (show ObjOk X.prog X.w H s.heap a (.dT kvs) from I.hok a _ ea)
    exact PySem.W.kia_one PySem.W.kitx_dict I.kIn ⟨o, h1, h2.1⟩ e (fun z => nomatch z) h
  | @ins a C dx fs ea cl ha hn htk hm =>
    cases (show u = Value.ref a from rx)
    obtain ⟨mA, O, _⟩ := ins_get I.hok ea
    obtain ⟨od, J, _⟩ := O.look
    exact PySem.W.kia_one (PySem.W.kitx_own (cl.get _) cl.hd ha hn htk hm) I.kIn J e (fun z => nomatch z) h
end
end L2

namespace L2
open PySem PySem.Spec PyProof.Rows

/-! ### room -/
structure Room (k : Nat) (A : Around) : Prop where
  hd : A.handled = none
  dp : A.depth + 3 * k + 5 < recursionLimit
  un : A.units + 16 * k + 200 < cLine
theorem Room.mono {j k : Nat} {A : Around} (r : Room k A) (h : j ≤ k) : Room j A := ⟨r.hd, by have := r.dp; omega, by have := r.un; omega⟩
theorem Room.deeper {k : Nat} {A : Around} (r : Room (k + 1) A) (env : Env) : Room k (A.deeper env) :=
  ⟨r.hd, by have := r.dp; show A.depth + 1 + 3 * k + 5 < _; omega, by have := r.un; show A.units + 3 + 16 * k + 200 < _; omega⟩
theorem make_depth {A : Around} {C : Addr} {us : List Value} {kw : List (Str × Value)} : (A.under (.builtin "type.__call__" ⟨.ref C :: us, kw⟩)).depth = A.depth + 1 := by
  first | rfl | simp [Around.under, Code.weight, Code.isCreation, Code.isGuard, Code.isCaller, Code.frames, Code.isFrame, guardIds]
theorem make_units {A : Around} {C : Addr} {us : List Value} {kw : List (Str × Value)} : (A.under (.builtin "type.__call__" ⟨.ref C :: us, kw⟩)).units = A.units + 1 := by
  first | rfl | simp [Around.under, Code.cUnits, Code.frames, Code.isFrame]
theorem Room.make {k : Nat} {A : Around} (r : Room (k + 1) A) (C : Addr) (us : List Value) (kw : List (Str × Value)) : Room k (A.under (.builtin "type.__call__" ⟨.ref C :: us, kw⟩)) :=
  ⟨r.hd, by have := r.dp; rw [make_depth]; omega, by have := r.un; rw [make_units]; omega⟩
theorem Room.depth {k : Nat} {A : Around} (r : Room k A) : A.depth < recursionLimit := by have := r.dp; omega
theorem Room.units {k : Nat} {A : Around} (r : Room k A) : A.units + 64 < cLine := by have := r.un; omega
/-! ### argument lists and displays -/
def tNil : TA := fun _ H Q => Q [] H
def tCons (ta : TE) (tr : TA) : TA := fun σ H Q => ta σ H fun x H1 => tr σ H1 fun xs H2 => Q (x :: xs) H2
section
variable {X : Cx} {e : Expr} {es : List Expr} {te : TE} {t : TA} {pos : Pos}
theorem pa_nil : PA X [] tNil := fun _ _ _ _ H Q I h => Calls.spliced_nil ⟨[], H, I, .nil, h⟩
theorem pa_cons (ha : PE X e te) (hr : PA X es t) (hs : starEach (e :: es) X.env = (false, eval e X.env) :: starEach es X.env := by rfl) : PA X (e :: es) (tCons te t) := by
  intro pos pins s σ H Q I h
  rw [hs]
  show wpAny _ _ (spliced ((false, eval e X.env) :: backTo pos (starEach es X.env))) _ _ s
  refine Calls.spliced_cons (thn (ha pins s σ H _ I h) fun u s1 ⟨x, H1, I1, r1, q1⟩ => ?_)
  exact thn (hr pos pins s1 σ H1 _ I1 q1) fun us s2 ⟨xs, H2, I2, r2, q2⟩ => ⟨x :: xs, H2, I2, .cons r1 r2, q2⟩

/-- a tuple, a list of written items -/
def tTup (t : TA) : TE := fun σ H Q => t σ H fun xs H1 => xs.length ≤ sizeLine ∧ ∀ p, H1 p = none → Q (.ref p) (upd H1 p (.tup xs))
def tLst (t : TA) : TE := fun σ H Q => t σ H fun xs H1 => xs.length ≤ sizeLine ∧ ∀ p, H1 p = none → Q (.ref p) (upd H1 p (.lst xs))
theorem pe_tup {x1} (h : PA X es t) : PE X (.Tuple es x1 pos) (tTup t) := by
  intro pins s σ H Q I hq
  refine wpAny_Tuple_spliced (thn (h pos pins s σ H _ I hq) fun us s1 ⟨xs, H1, I1, r, z, q⟩ => ⟨by rw [← r.length]; exact z, ?_⟩)
  have hf : H1 s1.heap.objs.size = none := I1.hok.fresh (Nat.le_refl _)
  refine ⟨.ref s1.heap.objs.size, upd H1 s1.heap.objs.size (.tup xs), I1.laid (t' := s1.toks) (fun b u e => Heap.get?_push_of_some _ e) (Nat.le_refl _) ?_, rfl, q _ hf⟩
  exact ⟨z, us, r, ⟨_, Heap.get?_push_size _ rfl, rfl, _, rfl⟩⟩
theorem pe_lst (h : PA X es t) : PE X (.List es pos) (tLst t) := by
  intro pins s σ H Q I hq
  refine wpAny_List_spliced (thn (h pos pins s σ H _ I hq) fun us s1 ⟨xs, H1, I1, r, z, q⟩ => ⟨by rw [← r.length]; exact z, ?_⟩)
  have hf : H1 s1.heap.objs.size = none := I1.hok.fresh (Nat.le_refl _)
  refine ⟨.ref s1.heap.objs.size, upd H1 s1.heap.objs.size (.lst xs), I1.laid (t' := s1.toks) (fun b u e => Heap.get?_push_of_some _ e) (Nat.le_refl _) ?_, rfl, q _ hf⟩
  exact ⟨z, us, 0, r, Heap.get?_push_size _ rfl⟩
end

/-! ### what a def promises -/
/-- a def's promise: the bound arguments in the parameters' order, the heap, the wanted end, the wanted exception -/
abbrev Sp := List V → Hp → VK → XK → Prop
/-- how an exception lies behind a call (file 08 gives it): the callers' frames, abstract heap and state ahead of the call, the wish, the exception, the state -/
abbrev CXT := List Env → Hp → Shared → XK → Value → Shared → Prop

/-- the state at a call -/
structure Env0 (P : Program) (w : World) (K : PySem.W.Frag) (mg : Str → Option Value) (base : Heap) (A : Around) (outer : List Env) (s : Shared) (H : Hp) : Prop where
  frames : A.frames = some outer
  mod : Mod K mg base
  bs : ∀ b o, base.get? b = some o → s.heap.get? b = some o ∧ H b = none
  bsz : base.objs.size ≤ s.heap.objs.size
  funs : s.heap.FunFrames base outer
  frf : ∀ b ∈ frs outer, H b = none
  hok : HOk P w H s.heap
  bare : AllBare s.gens
/-- a call's end -/
def CE (outer : List Env) (P : Program) (w : World) (H : Hp) (s : Shared) (Q : VK) (u : Value) (s' : Shared) : Prop :=
  ∃ v H', s'.os = s.os ∧ AllBare s'.gens ∧ Un (frs outer) [] H H' s.heap s'.heap ∧ HOk P w H' s'.heap ∧ RelV v u ∧ Q v H'
def CR (CX : CXT) (outer : List Env) (P : Program) (w : World) (H : Hp) (s : Shared) (Q : VK) (E : XK) (r : Result) (s' : Shared) : Prop :=
  match r with
  | .ok (.ret u) => CE outer P w H s Q u s'
  | .ok _ => False
  | .error e => CX outer H s E e s'
structure FnOk (P : Program) (w : World) (K : PySem.W.Frag) (mg : Str → Option Value) (base : Heap) (CX : CXT) (k : Nat) (f : Addr) (fd : FuncData) (ps : List Str) (sp : Sp) : Prop where
  len : ∀ vs H Q E, sp vs H Q E → vs.length = ps.length
  run : ∀ (A : Around) (outer : List Env) (s : Shared) (H : Hp) (args : Args) (us : List Value) (vs : List V) (Q : VK) (E : XK), Room k A → Env0 P w K mg base A outer s H → BindsTo s fd args (ps.zip us) → Vals vs us → sp vs H Q E →
    codeAny (model P w) A (.call (.ref f) args) (CR CX outer P w H s Q E) s
theorem FnOk.mono {P : Program} {w : World} {K : PySem.W.Frag} {mg : Str → Option Value} {base : Heap} {CX : CXT} {j k : Nat} {f : Addr} {fd : FuncData} {ps : List Str} {sp : Sp} (F : FnOk P w K mg base CX j f fd ps sp) (h : j ≤ k) :
    FnOk P w K mg base CX k f fd ps sp := ⟨F.len, fun A outer s H args us vs Q E hr => F.run A outer s H args us vs Q E (hr.mono h)⟩
theorem Env0.make {P : Program} {w : World} {K : PySem.W.Frag} {mg : Str → Option Value} {base : Heap} {A : Around} {outer : List Env} {s : Shared} {H : Hp} (e : Env0 P w K mg base A outer s H) (C : Addr) (us : List Value) (kw : List (Str × Value)) :
    Env0 P w K mg base (A.under (.builtin "type.__call__" ⟨.ref C :: us, kw⟩)) outer s H := ⟨by first | exact e.frames | (simpa [Around.under, Code.envs, Code.isFrame, pushEnvs] using e.frames), e.mod, e.bs, e.bsz, e.funs, e.frf, e.hok, e.bare⟩
section
variable {X : Cx} {pins : List (Addr × Obj)} {σ : St} {H : Hp} {s s' : Shared}
/-- from a body: what a callee wants -/
theorem Inv.env0 (I : Inv X pins σ H s) : Env0 X.prog X.w X.K X.mg X.base X.A X.stack s H :=
  ⟨I.ok.frames, I.ok.mod, I.bs, Nat.le_trans I.ok.bsz I.sz, I.stack, I.stkFree, I.hok, I.bare⟩
/-- behind a call -/
theorem Inv.after {Q : VK} {u : Value} (I : Inv X pins σ H s) (h : CE X.stack X.prog X.w H s Q u s') : EP X pins σ Q u s' := by
  obtain ⟨v, H', os, bare, un, hok, r, q⟩ := h
  obtain ⟨hh, g, d, t, os'⟩ := s'
  obtain rfl : os' = s.os := os
  exact ⟨v, H', I.call (h' := hh) (g' := g) (d' := d) (t' := t) (ch := []) un hok bare (fun b z => absurd z (by simp)), r, q⟩
end

/-! ### calls -/
/-- f(..): the written arguments, then the defaults dvs; E: what is wanted of an exception -/
def tCall (sp : Sp) (dvs : List V) (E : XK) (t : TA) : TE := fun σ H Q => t σ H fun vs H1 => sp (vs ++ dvs) H1 Q E
/-- C(..): a new instance and its dict, then __init__ -/
def tMake (C : Addr) (sp : Sp) (dvs : List V) (E : XK) (t : TA) : TE := fun σ H Q => t σ H fun vs H1 => ∀ x dx, H1 x = none → H1 dx = none → dx ≠ x →
  sp (.ref x :: (vs ++ dvs)) (upd (upd H1 dx (.own x)) x (.ins C dx [])) (fun v H2 => v = .non ∧ Q (.ref x) H2) E

/-- how the parameters are bound: us the positional arguments, kw the keywords' values by name, ds the defaults that fill up -/
def Binds (K : PySem.W.Frag) (fd : FuncData) (ps : List Str) (ds : List Value) : Prop :=
  ∀ (s : Shared) (us : List Value), K.In s.heap → (us ++ ds).length = ps.length → BindsTo s fd ⟨us, []⟩ (ps.zip (us ++ ds))
/-- every parameter is given -/
theorem Binds.all {K : PySem.W.Frag} {fd : FuncData} {ps : List Str} (h : ∀ us : List Value, us.length = ps.length → bindArgs fd ⟨us, []⟩ = pure (ps.zip us)) : Binds K fd ps [] := fun s us _ hl => by
  rw [List.append_nil] at hl ⊢
  exact .of_eq (h us hl)

/-- an exception of a callee reaches what this body wants of exceptions -/
def Passes (CX : CXT) (X : Cx) (E : XK) : Prop := ∀ (pins : List (Addr × Obj)) (σ : St) (H : Hp) (s : Shared) (e : Value) (s' : Shared), Inv X pins σ H s → CX X.stack H s E e s' → X.xe e s'

section
variable {X : Cx} {CX : CXT} {k : Nat} {f C : Addr} {fd : FuncData} {ps : List Str} {sp : Sp} {dvs : List V} {ds : List Value} {E : XK} {x m : Str} {p pos apos : Pos} {e o : Expr} {es : List Expr} {ta : TE} {t : TA}

/-- the callee runs -/
theorem run_fn {pins : List (Addr × Obj)} {σ : St} {H : Hp} {s : Shared} {Q : VK} {us : List Value} {vs : List V} (F : FnOk X.prog X.w X.K X.mg X.base CX k f fd ps sp) (hr : Room k X.A) (hb : Binds X.K fd ps ds) (hd : Vals dvs ds) (hx : Passes CX X E)
    (I : Inv X pins σ H s) (r : Vals vs us) (h : sp (vs ++ dvs) H Q E) : wpAny (model X.prog X.w) X.A (call (.ref f) us) (EP X pins σ Q) X.xe s := by
  have r2 : Vals (vs ++ dvs) (us ++ ds) := r.append hd
  have hl : (us ++ ds).length = ps.length := by rw [← r2.length]; exact F.len _ _ _ _ h
  refine wpAny_call (codeAny_mono (F.run X.A X.stack s H ⟨us, []⟩ (us ++ ds) (vs ++ dvs) Q E hr I.env0 (hb s us I.kIn hl) r2 h) fun r s' hq => ?_)
  cases r with
  | error e => exact hx pins σ H s e s' I hq
  | ok fl =>
    cases fl with
    | ret u => exact I.after hq
    | next => exact False.elim hq
    | brk => exact False.elim hq
    | cont => exact False.elim hq

theorem pe_call (F : FnOk X.prog X.w X.K X.mg X.base CX k f fd ps sp) (hr : Room k X.A) (hg : Gl X x) (hm : X.mg x = some (.ref f)) (hk : PySem.W.keepIn X.K (.ref f) = true) (hb : Binds X.K fd ps ds) (hd : Vals dvs ds) (hx : Passes CX X E)
    (ha : PA X (e :: es) t) (hdb : (x == ("__debug__" : Str)) = false := by decide) (he : starEach (e :: es) X.env = (false, eval e X.env) :: starEach es X.env := by rfl) (hpl : (backTo pos (starEach es X.env)).any (·.1) = false := by rfl) :
    PE X (.Call (.Name x p) (e :: es) [] pos) (tCall sp dvs E t) := by
  intro pins s σ H Q I h
  refine wpAny_Call_Name_kw (ld_glob I hg hm ?_ hdb)
  refine PySem.W.callWith_K (h₀ := X.base) I.ok.mod.kin hk (thn (ha pos pins s σ H _ I h) fun us s1 ⟨vs, H1, I1, r, q⟩ => ⟨I1.kIn, ?_⟩) he hpl
  exact run_fn F hr hb hd hx I1 r q
/-- what a class must have to be made -/
structure Mk (K : PySem.W.Frag) (C f : Addr) : Prop where
  makes : PySem.W.makesIn K C = true
  init : PySem.W.findIn K (.ref C) "__init__" = some (some (.ref f))
  fn : PySem.W.isFn K (.ref f) = true
  kp : PySem.W.keepIn K (.ref C) = true

theorem run_make {pins : List (Addr × Obj)} {σ : St} {H : Hp} {s : Shared} {Q : VK} {us : List Value} {vs : List V} (M : Mk X.K C f) (F : FnOk X.prog X.w X.K X.mg X.base CX k f fd ps sp) (hr : Room (k + 1) X.A) (hb : Binds X.K fd ps ds) (hd : Vals dvs ds)
    (hx : Passes CX X E) (I : Inv X pins σ H s) (r : Vals vs us)
    (h : ∀ x dx, H x = none → H dx = none → dx ≠ x → sp (.ref x :: (vs ++ dvs)) (upd (upd H dx (.own x)) x (.ins C dx [])) (fun v H2 => v = .non ∧ Q (.ref x) H2) E) :
    wpAny (model X.prog X.w) X.A (call (.ref C) us) (EP X pins σ Q) X.xe s := by
  have hq := h (s.heap.objs.size + 1) s.heap.objs.size (I.hok.fresh (Nat.le_succ _)) (I.hok.fresh (Nat.le_refl _)) (Nat.ne_of_lt (Nat.lt_succ_self _))
  have I2 := Inv.made (C := C) I
  have r2 : Vals (V.ref (s.heap.objs.size + 1) :: (vs ++ dvs)) (Value.ref (s.heap.objs.size + 1) :: (us ++ ds)) := .cons rfl (r.append hd)
  have hl : (Value.ref (s.heap.objs.size + 1) :: us ++ ds).length = ps.length := by
    have e := r2.length
    rw [F.len _ _ _ _ hq] at e
    exact e.symm
  refine wpAny_call (make_map (f := f) I.kIn M.makes M.init (beq_iff_eq.mp M.fn) (codeAny_mono (F.run _ X.stack _ _ ⟨Value.ref (s.heap.objs.size + 1) :: us, []⟩ (Value.ref (s.heap.objs.size + 1) :: (us ++ ds)) _ _ E (hr.make C us [])
    (I2.env0.make C us []) (hb _ (Value.ref (s.heap.objs.size + 1) :: us) I2.kIn hl) r2 hq) fun r s' hq' => ?_))
  cases r with
  | error e => exact hx pins σ _ _ e s' I2 hq'
  | ok fl =>
    cases fl with
    | ret u =>
      obtain ⟨v, H', I3, rv, ev, q3⟩ := I2.after hq'
      subst ev
      exact ⟨rv, ⟨V.ref (s.heap.objs.size + 1), H', I3, rfl, q3⟩⟩
    | next => exact False.elim hq'
    | brk => exact False.elim hq'
    | cont => exact False.elim hq'
theorem pe_make (M : Mk X.K C f) (F : FnOk X.prog X.w X.K X.mg X.base CX k f fd ps sp) (hr : Room (k + 1) X.A) (hg : Gl X x) (hm : X.mg x = some (.ref C)) (hb : Binds X.K fd ps ds) (hd : Vals dvs ds) (hx : Passes CX X E)
    (ha : PA X (e :: es) t) (hdb : (x == ("__debug__" : Str)) = false := by decide) (he : starEach (e :: es) X.env = (false, eval e X.env) :: starEach es X.env := by rfl) (hpl : (backTo pos (starEach es X.env)).any (·.1) = false := by rfl) :
    PE X (.Call (.Name x p) (e :: es) [] pos) (tMake C sp dvs E t) := by
  intro pins s σ H Q I h
  refine wpAny_Call_Name_kw (ld_glob I hg hm ?_ hdb)
  refine PySem.W.callWith_K (h₀ := X.base) I.ok.mod.kin M.kp (thn (ha pos pins s σ H _ I h) fun us s1 ⟨vs, H1, I1, r, q⟩ => ⟨I1.kIn, ?_⟩) he hpl
  exact run_make M F hr hb hd hx I1 r q
end

/-! ### keywords -/
section
variable {X : Cx} {CX : CXT} {k : Nat} {f C : Addr} {fd : FuncData} {ps ks : List Str} {sp : Sp} {E : XK} {x m : Str} {p pos apos kpos : Pos} {e o : Expr} {es : List Expr} {kws : List Keyword} {te ta : TE} {t tk : TA} {nm : Option Str}
variable {g : List Value → List Value → List Value} {gV : List V → List V → List V}
end

/-! ### a def's body keeps its promise -/
/-- names: the parameters first -/
structure FnScope (N P : List Str) (sc : Scope) : Prop where
  kind : sc.kind = .function
  co : sc.isCoroutine = false
  gen : sc.isGenerator = false
  nd : N.Nodup
  pre : N.take P.length = P
  par : ∀ x ∈ P, sc.names.lookup x = some .local ∨ sc.names.lookup x = some .cell
  nofree : ∀ y ∈ sc.names, y.2 ≠ .free

theorem bindL_out {kindOf : Str → Option NameKind} {x : Str} : ∀ {binds : List (Str × Value)} {m : Str → Option Value}, (∀ v, (x, v) ∉ binds) → bindL kindOf binds m x = m x
  | [], _, _ => rfl
  | (n, v) :: r, m, h => by
    unfold bindL
    rw [bindL_out fun w hw => h w (List.mem_cons_of_mem _ hw)]
    split
    · have : x ≠ n := by rintro rfl; exact h v List.mem_cons_self
      simp [this]
    · rfl
theorem bindC_out {kindOf : Str → Option NameKind} {x : Str} : ∀ {binds : List (Str × Value)} {m : Str → Option Value}, (∀ v, (x, v) ∉ binds) → bindC kindOf binds m x = m x
  | [], _, _ => rfl
  | (n, v) :: r, m, h => by
    unfold bindC
    rw [bindC_out fun w hw => h w (List.mem_cons_of_mem _ hw)]
    split
    · rfl
    · have : x ≠ n := by rintro rfl; exact h v List.mem_cons_self
      simp [this]
theorem bindL_get {kindOf : Str → Option NameKind} {x : Str} {v : Value} : ∀ {P : List Str} {vs : List Value} {i : Nat} {m : Str → Option Value}, P.Nodup → P[i]? = some x → vs[i]? = some v → kindOf x = some .local →
    bindL kindOf (P.zip vs) m x = some v
  | [], _, _, _, _, h, _, _ => by simp at h
  | _ :: _, [], _, _, _, _, h, _ => by simp at h
  | p :: P, w :: vs, 0, m, nd, h1, h2, hk => by
    simp at h1 h2; subst h1; subst h2
    show bindL kindOf ((p, w) :: P.zip vs) m p = _
    unfold bindL
    rw [bindL_out fun v hv => (List.nodup_cons.mp nd).1 (List.of_mem_zip hv).1, if_pos hk]
    simp
  | p :: P, w :: vs, i + 1, m, nd, h1, h2, hk => by
    show bindL kindOf ((p, w) :: P.zip vs) m x = _
    unfold bindL
    exact bindL_get (i := i) (List.nodup_cons.mp nd).2 (by simpa using h1) (by simpa using h2) hk
theorem bindC_get {kindOf : Str → Option NameKind} {x : Str} {v : Value} : ∀ {P : List Str} {vs : List Value} {i : Nat} {m : Str → Option Value}, P.Nodup → P[i]? = some x → vs[i]? = some v → kindOf x ≠ some .local →
    bindC kindOf (P.zip vs) m x = some v
  | [], _, _, _, _, h, _, _ => by simp at h
  | _ :: _, [], _, _, _, _, h, _ => by simp at h
  | p :: P, w :: vs, 0, m, nd, h1, h2, hk => by
    simp at h1 h2; subst h1; subst h2
    show bindC kindOf ((p, w) :: P.zip vs) m p = _
    unfold bindC
    rw [bindC_out fun v hv => (List.nodup_cons.mp nd).1 (List.of_mem_zip hv).1, if_neg hk]
    simp
  | p :: P, w :: vs, i + 1, m, nd, h1, h2, hk => by
    show bindC kindOf ((p, w) :: P.zip vs) m x = _
    unfold bindC
    exact bindC_get (i := i) (List.nodup_cons.mp nd).2 (by simpa using h1) (by simpa using h2) hk

/-- the names' values at the entry -/
def start (N : List Str) (vs : List V) : St := vs.map some ++ List.replicate (N.length - vs.length) none

/-- the context of a def's body, at its entry; an exception leaves the frame, then lies as CX says -/
def cxOf (CX : CXT) (P : Program) (w : World) (K : PySem.W.Frag) (mg : Str → Option Value) (base : Heap) (N : List Str) (qual : Str) (scope : Scope) (f : Addr) (cd : Value) (A : Around) (outer : List Env) (s : Shared) (H : Hp) (E : XK) : Cx where
  prog := P
  w := w
  K := K
  mg := mg
  base := base
  A := A.deeper (envOfC qual scope s.heap.objs.size f cd)
  N := N
  s₀ := s
  H₀ := H
  env := envOfC qual scope s.heap.objs.size f cd
  outer := outer
  stack := envOfC qual scope s.heap.objs.size f cd :: outer
  ex := []
  calm := true
  fn := fun _ => true
  pn := []
  xe := fun e s' => wpAny (model P w) (A.deeper (envOfC qual scope s.heap.objs.size f cd)) (leaving (envOfC qual scope s.heap.objs.size f cd) e) (fun _ s'' => CX outer H s E e s'') (fun e' s'' => CX outer H s E e' s'') s'

theorem cell_has {sc : Scope} {n : Nat} {x : Str} (h : sc.names.lookup x = some .cell) : ∃ c, (cellsFrom n sc.names []).lookup x = some c := by
  have q := PySem.W.cellsFrom_some sc.names n [] (.inl h)
  exact Option.isSome_iff_exists.mp q

theorem inv_start {CX : CXT} {P : Program} {w : World} {K : PySem.W.Frag} {mg : Str → Option Value} {base : Heap} {N ps : List Str} {qual : Str} {scope : Scope} {f : Addr} {cd : Value} {A : Around} {outer : List Env} {s s1 : Shared} {H : Hp} {E : XK} {us : List Value} {vs : List V}
    (S : FnScope N ps scope) (hd : A.handled = none) (e0 : Env0 P w K mg base A outer s H) (hl : vs.length = ps.length) (r : Vals vs us)
    (x : InCallC s s.heap.objs.size (bindL (envOfC qual scope s.heap.objs.size f cd).kindOf (ps.zip us) fun _ => none) (cellsFrom (s.heap.objs.size + 1) scope.names []) (bindC (envOfC qual scope s.heap.objs.size f cd).kindOf (ps.zip us) fun _ => none) s1) :
    Inv (cxOf CX P w K mg base N qual scope f cd A outer s H E) [] (start N vs) H s1 := by
  have hpl : ps.length ≤ N.length := by have := congrArg List.length S.pre; rw [List.length_take] at this; omega
  obtain ⟨h1, tk, rfl, hk⟩ := x.done
  have noA : ∀ b : Addr, b ∉ (cxOf CX P w K mg base N qual scope f cd A outer s H E).ex := fun b z => absurd (show b ∈ ([] : List Addr) from z) (by simp)
  refine ⟨⟨e0.mod, S.kind, rfl, rfl, Nat.le_refl _, fun y z c h1 h2 => ?_, fun y hy => ?_, fun y c _ h => ?_, fun _ => hd, Around.frames_deeper e0.frames, .inr ⟨rfl, rfl⟩, fun b z => absurd z (noA b), e0.bs, e0.bsz, fun b _ _ => noA b, fun b z => absurd z (noA b), e0.funs, e0.frf⟩,
    rfl, e0.bare, Un.kept hk, ⟨_, x.toInCall.ns, fun i y v h1 h2 h3 => ?_⟩, fun y c h => ⟨_, x.cell y c h⟩, e0.hok.fresh (Nat.le_refl _), fun y c h => ?_, fun p hp => absurd (show p ∈ ([] : List (Addr × Obj)) from hp) (by simp), e0.hok.kept hk, ?_⟩
  · exact name_of_addr x.apart (PySem.mem_of_lookup h1) (PySem.mem_of_lookup h2)
  · have hy : scope.names.lookup y = some .cell ∨ scope.names.lookup y = some .free := hy
    rcases hy with hy | hy
    · exact cell_has hy
    · exact absurd rfl (S.nofree _ (PySem.mem_of_lookup hy))
  · exact Nat.le_of_lt (x.above y c (PySem.mem_of_lookup h))
  · have hi : i < vs.length := by
      unfold start at h2
      by_cases hi : i < vs.length
      · exact hi
      · rw [List.getElem?_append_right (by simpa using hi)] at h2
        rw [List.getElem?_replicate] at h2
        split at h2 <;> cases h2
    have ha : vs[i]? = some v := by
      unfold start at h2
      rw [List.getElem?_append_left (by simpa using hi), List.getElem?_map] at h2
      cases e : vs[i]? with
      | none => rw [e] at h2; cases h2
      | some a => rw [e] at h2; cases h2; rfl
    obtain ⟨u, hu, rv⟩ := r.get ha
    have hp : ps[i]? = some y := by
      rw [← S.pre, List.getElem?_take_of_lt (by omega)]; exact h1
    have ndP : ps.Nodup := by rw [← S.pre]; exact S.nd.sublist (List.take_sublist _ _)
    refine ⟨u, rv, ?_⟩
    rcases S.par y (List.mem_of_getElem? hp) with k | k
    · exact .inl ⟨k, bindL_get ndP hp hu k⟩
    · obtain ⟨c, e⟩ := cell_has (n := s.heap.objs.size + 1) k
      refine .inr ⟨.inl k, c, e, ?_⟩
      have q := x.cell y c e
      rw [bindC_get ndP hp hu (by show scope.names.lookup y ≠ _; rw [k]; decide)] at q
      exact q
  · exact e0.hok.fresh (Nat.le_of_lt (x.above y c (PySem.mem_of_lookup h)))
  · unfold start
    show _ = N.length
    rw [List.length_append, List.length_map, List.length_replicate]
    omega

/-- THE RULE: a def (or a method) of the text, by its body. The body's reading t is chosen for each entry; it is run at the parameters' values -/
theorem fn_of {CX : CXT} {P : Program} {w : World} {K : PySem.W.Frag} {mg : Str → Option Value} {base : Heap} {k : Nat} {f : Addr} {name qual : Str} {params : Arguments} {body : List Stmt} {scope : Scope} {dV kV doc pm cdv ct oc : Value} {an od : Option Addr}
    {osl : Array (Option Value)} {N ps : List Str} {sp : Sp} (lk : K.lookup f = some ⟨oc, od, .func (PySem.W.fnOf name qual params body scope dV kV doc pm an cdv ct), osl⟩) (hcd : PySem.W.codeIn K cdv qual = true) (S : FnScope N ps scope)
    (len : ∀ vs H Q E, sp vs H Q E → vs.length = ps.length)
    (hbody : ∀ (A : Around) (outer : List Env) (s : Shared) (H : Hp) (vs : List V) (Q : VK) (E : XK), Room k (A.deeper (envOfC qual scope s.heap.objs.size f cdv)) → sp vs H Q E →
      ∃ t, PSs (cxOf CX P w K mg base N qual scope f cdv A outer s H E) body t ∧ t { nx := fun _ H' => Q .non H', rt := Q } (start N vs) H) :
    FnOk P w K mg base CX (k + 1) f (PySem.W.fnOf name qual params body scope dV kV doc pm an cdv ct) ps sp := by
  refine ⟨len, fun A outer s H args us vs Q E hr e0 hb r hsp => ?_⟩
  have hl := len _ _ _ _ hsp
  have KX : K.In s.heap := e0.mod.kin.keeps fun b o e => (e0.bs b o e).1
  have lim : s.heap.NoLimit := e0.mod.nolimit.keeps fun b o e => (e0.bs b o e).1
  have hkind : ∀ y ∈ ps.zip us, scope.names.lookup y.1 = some .local ∨ (scope.names.lookup y.1 = some .cell ∧ ((cellsFrom (s.heap.objs.size + 1) scope.names []).lookup y.1).isSome = true) := fun ⟨n, v⟩ hy => by
    rcases S.par n (List.of_mem_zip hy).1 with q | q
    · exact .inl q
    · exact .inr ⟨q, PySem.W.cellsFrom_some _ _ _ (.inl q)⟩
  refine codeAny_call_function hr.depth (KX _ _ lk) rfl S.co S.gen rfl (PySem.W.codeRec_of KX hcd) (hb _ _ _ _ ?_)
  refine wpAny_newFunctionEnv_cells S.kind hkind fun env he s1 x => ?_
  subst he
  refine ⟨lim.keeps x.toInCall.keep, codeAny_func ?_⟩
  obtain ⟨t, ht, hq⟩ := hbody A outer s H vs Q E (hr.deeper _) hsp
  have I : Inv (cxOf CX P w K mg base N qual scope f cdv A outer s H E) [] (start N vs) H s1 := inv_start S hr.hd e0 hl r x
  refine wpAny_mono (ht [] s1 (start N vs) H _ I hq) (fun fl s' hs => ?_) fun e s' hs => hs
  have fin : ∀ {σ' : St} {H' : Hp} {v : V} {u : Value}, Inv (cxOf CX P w K mg base N qual scope f cdv A outer s H E) [] σ' H' s' → RelV v u → Q v H' → CE outer P w H s Q u s' :=
    fun {σ' H' v u} J rv q => ⟨v, H', J.os, J.bare, J.base, J.hok, rv, q⟩
  cases fl with
  | ret u =>
    obtain ⟨v, σ', H', J, rv, q⟩ := hs
    exact fin J rv q
  | next =>
    obtain ⟨σ', H', J, q⟩ := hs
    exact fin (v := V.non) (u := Value.none) J rfl q
  | brk =>
    obtain ⟨_, _, _, q⟩ := hs
    exact False.elim q
  | cont =>
    obtain ⟨_, _, _, q⟩ := hs
    exact False.elim q
end L2

namespace L2
open PySem PySem.Spec PyProof.Rows
section
variable {X : Cx} {x : Str} {p pos : Pos} {e : Expr} {es : List Expr} {t : TA} {id T : String} {r : List V → Hp → VK → Prop}

def tCB (r : List V → Hp → VK → Prop) (t : TA) : TE := fun σ H Q => t σ H fun vs H1 => r vs H1 Q
/-- f(e, ..), f a built-in function -/
theorem pe_callB (hc : CallR X (.builtin id) r) (hg : Gl X x) (hm : X.mg x = none) (hv : bootBuiltins x = some (.builtin id)) (ha : PA X (e :: es) t) (hn : x ≠ "__name__" := by decide) (hdb : (x == ("__debug__" : Str)) = false := by decide)
    (he : starEach (e :: es) X.env = (false, eval e X.env) :: starEach es X.env := by rfl) (hpl : (backTo pos (starEach es X.env)).any (·.1) = false := by rfl) : PE X (.Call (.Name x p) (e :: es) [] pos) (tCB r t) := by
  intro pins s σ H Q I h
  refine wpAny_Call_Name_kw (ld_blt I hg hm hv ?_ hn hdb)
  exact PyProof.Rows.callWith_builtin1 (thn (ha pos pins s σ H _ I h) fun us s1 ⟨vs, H1, I1, r1, q1⟩ => hc pins s1 σ H1 vs us Q I1 r1 q1) he hpl
/-- T(e, ..), T a built-in type -/
theorem pe_callTy (hc : CallR X (.type T) r) (hg : Gl X x) (hm : X.mg x = none) (hv : bootBuiltins x = some (.type T)) (ha : PA X (e :: es) t) (hn : x ≠ "__name__" := by decide) (hdb : (x == ("__debug__" : Str)) = false := by decide)
    (he : starEach (e :: es) X.env = (false, eval e X.env) :: starEach es X.env := by rfl) (hpl : (backTo pos (starEach es X.env)).any (·.1) = false := by rfl) : PE X (.Call (.Name x p) (e :: es) [] pos) (tCB r t) := by
  intro pins s σ H Q I h
  refine wpAny_Call_Name_kw (ld_blt I hg hm hv ?_ hn hdb)
  exact PyProof.Rows.callWith_type1 (thn (ha pos pins s σ H _ I h) fun us s1 ⟨vs, H1, I1, r1, q1⟩ => hc pins s1 σ H1 vs us Q I1 r1 q1) he hpl
end
end L2

namespace HT
open PySem PyProof.Rows

section
open PySem.SeqAt
open PySem.AutoSeq1 (wpAny_loadPart')
open PySem.MeetsSeq PySem.MeetsSeq2 PySem.MeetsSeq3

end

section
variable {prog : Program} {w : World} {A : Around} {E : Value → Shared → Prop} {s : Shared}

/-- t + u, t not empty -/
theorem cat_tup {t b : Addr} {vs ws : List Value} {Q : Value → Shared → Prop} (ht : IsTup s.heap t vs.toArray) (hb : IsTup s.heap b ws.toArray) (hv : vs ≠ [])
    (h1 : ws = [] → Q (.ref t) s) (h2 : ws ≠ [] → Q (.ref s.heap.objs.size) { s with heap := s.heap.push { cls := .type "tuple", data := .seq (vs ++ ws).toArray } })
    (hsz : vs.length + ws.length ≤ sizeLine) : wpAny (model prog w) A (binaryOp .Add (.ref t) (.ref b)) Q E s := by
  obtain ⟨⟨cls, dd, data, sl⟩, ho, hc, n, hd⟩ := id ht
  obtain ⟨⟨cls2, dd2, data2, sl2⟩, ho2, hc2, n2, hd2⟩ := id hb
  simp only at hc hd hc2 hd2
  subst hc hd hc2 hd2
  have e : vs.toArray ++ ws.toArray = (vs ++ ws).toArray := by simp
  by_cases hw : ws = []
  · exact concat_meets ⟨_, ho, rfl⟩ ⟨_, ho2, rfl⟩ noFill_tuple_add seq_tuple_add PySem.F.slot_tuple_add PySem.F.entry_tuple_add (PySem.F.args_tuple_add_2 _ _)
      (tuple_addW1 t b vs.toArray ws.toArray n n2 dd dd2 sl sl2 (by simpa using hv) (by simp [hw])) ⟨ho, ho2, h1 hw⟩
  · refine concat_meets ⟨_, ho, rfl⟩ ⟨_, ho2, rfl⟩ noFill_tuple_add seq_tuple_add PySem.F.slot_tuple_add PySem.F.entry_tuple_add (PySem.F.args_tuple_add_2 _ _)
      (tuple_addW2 t b vs.toArray ws.toArray n n2 dd dd2 sl sl2 (by simpa using hv) (by simpa using hw) (by rw [List.size_toArray, List.size_toArray]; exact hsz)) ⟨ho, ho2, ?_⟩
    rw [e]
    exact h2 hw

/-! ### t[a:b], not the whole -/
/-- a slice's bound as a place among n (d where it is left out) -/
def sIx (n d : Nat) : Option Int → Nat
  | none => d
  | some v => if v < 0 then (v + (n : Int)).toNat else min v.toNat n
theorem sIx_le (n d : Nat) (hd : d ≤ n) (o : Option Int) : sIx n d o ≤ n := by
  cases o with
  | none => exact hd
  | some v =>
    show (if v < 0 then (v + (n : Int)).toNat else min v.toNat n) ≤ n
    by_cases hv : v < 0
    · rw [if_pos hv]; omega
    · rw [if_neg hv]; exact Nat.min_le_right _ _
theorem clip_eq (v : Int) (n d : Nat) : (if v < 0 then max (v + (n : Int)) 0 else min v (n : Int)) = ((sIx n d (some v) : Nat) : Int) := by
  show (if v < 0 then max (v + (n : Int)) 0 else min v (n : Int)) = (((if v < 0 then (v + (n : Int)).toNat else min v.toNat n) : Nat) : Int)
  by_cases hv : v < 0
  · simp only [if_pos hv]; omega
  · simp only [if_neg hv]; omega
theorem adjust_gen (lo hi : Option Int) (n : Nat) : Builtin.Slice.sliceAdjust lo hi 1 (n : Int) = (((sIx n 0 lo : Nat) : Int), ((sIx n n hi : Nat) : Int)) := by
  have h1 : ¬ ((1 : Int) < 0) := by omega
  unfold Builtin.Slice.sliceAdjust
  simp only [h1, if_false]
  refine Prod.ext ?_ ?_
  · cases lo with
    | none => rfl
    | some v => exact clip_eq v n 0
  · cases hi with
    | none => rfl
    | some v => exact clip_eq v n n
theorem places_gen (i j : Nat) : Builtin.Slice.slicePlaces (i : Int) (j : Int) 1 = j - i := by
  unfold Builtin.Slice.slicePlaces
  have h1 : (1 : Int) > 0 := by omega
  simp only [h1, if_true, Int.ediv_one]
  split <;> omega
theorem slicePart_ {v : Value} {o : Option Int} {Q : Option Int → Shared → Prop} (p : IsPart v o) (h : Q o s) : wpAny (model prog w) A (Builtin.Slice.slicePartIndex v) Q E s := by
  cases p with
  | none => exact slicePart_none h
  | int i t => exact slicePart_int h
theorem sliceApplied_gen {sl : Addr} {vl vu : Value} {lo hi : Option Int} {n : Nat} {Q : Int × Int × Nat → Shared → Prop} (hs : s.heap.IsSliceOf sl vl vu .none) (pl : IsPart vl lo) (pu : IsPart vu hi)
    (h : Q (((sIx n 0 lo : Nat) : Int), 1, sIx n n hi - sIx n 0 lo) s) : wpAny (model prog w) A (Builtin.Slice.sliceApplied (.ref sl) (pure (n : Int))) Q E s := by
  obtain ⟨os, hos, hcs, hds⟩ := id hs
  unfold Builtin.Slice.sliceApplied Builtin.Slice.sliceFields
  refine wpAny_bind (wpAny_bind (wpAny_field hos hds (x := vl) rfl (wpAny_bind (wpAny_field hos hds (x := vu) rfl (wpAny_bind (wpAny_field hos hds (x := .none) rfl (wpAny_pure ?_)))))))
  refine wpAny_bind (slicePart_none ?_)
  show wpAny _ _ (if ((1 : Int) == 0) = true then _ else _) _ _ s
  rw [if_neg (by decide)]
  refine wpAny_bind (slicePart_ pl (wpAny_bind (slicePart_ pu (wpAny_bind (wpAny_pure ?_)))))
  show wpAny _ _ (match Builtin.Slice.sliceAdjust lo hi 1 (n : Int) with | (lo, hi) => pure (lo, (1 : Int), Builtin.Slice.slicePlaces lo hi 1)) _ _ s
  rw [adjust_gen lo hi n]
  show wpAny _ _ (pure (((sIx n 0 lo : Nat) : Int), (1 : Int), Builtin.Slice.slicePlaces ((sIx n 0 lo : Nat) : Int) ((sIx n n hi : Nat) : Int) 1)) _ _ s
  rw [places_gen]
  exact wpAny_pure h
theorem pick_gen (xs : Array Value) (i k : Nat) : ((List.range k).filterMap fun (m : Nat) => xs[((i : Int) + (m : Int) * 1).toNat]?).toArray = ((xs.toList.drop i).take k).toArray := by
  have e : (fun (m : Nat) => xs[((i : Int) + (m : Int) * 1).toNat]?) = fun m => xs[i + m]? := by
    funext m
    have : ((i : Int) + (m : Int) * 1).toNat = i + m := by omega
    rw [this]
  rw [e]
  have := pick_run xs i k
  rw [List.filterMap_map] at this
  have e2 : ((fun x => xs[x]?) ∘ fun x => i + x) = fun m => xs[i + m]? := rfl
  rw [e2] at this
  rw [this]

theorem getItem_tuple_cut {t sl : Addr} {items : Array Value} {vl vu : Value} {lo hi : Option Int} {Q : Value → Shared → Prop} (ht : IsTup s.heap t items) (hs : s.heap.IsSliceOf sl vl vu .none) (pl : IsPart vl lo) (pu : IsPart vu hi)
    (hw : ¬ (sIx items.size 0 lo = 0 ∧ sIx items.size items.size hi = items.size))
    (h : Q (.ref s.heap.objs.size) { s with heap := s.heap.push { cls := .type "tuple", data := .seq ((items.toList.drop (sIx items.size 0 lo)).take (sIx items.size items.size hi - sIx items.size 0 lo)).toArray } })
    (hsz : items.size ≤ sizeLine) : wpAny (model prog w) A (getItem (.ref t) (.ref sl)) Q E s := by
  have htake : sizeOk (.seq ((items.toList.drop (sIx items.size 0 lo)).take (sIx items.size items.size hi - sIx items.size 0 lo)).toArray) := by
    show ((items.toList.drop (sIx items.size 0 lo)).take (sIx items.size items.size hi - sIx items.size 0 lo)).toArray.size ≤ sizeLine
    rw [List.size_toArray, List.length_take, List.length_drop, Array.length_toList]
    omega
  have hj : sIx items.size items.size hi ≤ items.size := sIx_le _ _ (Nat.le_refl _) hi
  obtain ⟨os, hos, hcs, hds⟩ := id hs
  have hTs : s.TypeIs (.ref sl) "slice" := ⟨os, hos, hcs⟩
  unfold getItem
  try with_reducible refine wpAny_holding ?_
  first | refine wpAny_bind (wpAny_pure ?_) | skip
  refine wpAny_bind (wpAny_sequenceKey ht.typeIs (by decide) ?_)
  refine wpAny_bind (wpAny_callSpecial?_slot (name := Str.ofString "__getitem__") ht.typeIs PyProof.Rows.slot_tuple_getitem
    (wpAny_call_entry PyProof.Rows.slot_tuple_getitem ht.typeIs entry_tuple_getitem ?_ (args_tuple_getitem _ _)))
  show wpAny _ _ (Builtin.Tuple.tupleItemsOf (.ref t) >>= _) _ _ s
  refine wpAny_bind (tupleItemsOf_ ht ?_)
  refine wpAny_bind (wpAny_typeOf hTs ?_)
  rw [if_pos (by decide)]
  refine wpAny_bind (sliceApplied_gen hs pl pu ?_)
  have hno : ¬ ((((sIx items.size 0 lo : Nat) : Int) == 0 && (1 : Int) == 1 && (sIx items.size items.size hi - sIx items.size 0 lo) == items.size) = true) := by
    intro q
    rw [Bool.and_eq_true, Bool.and_eq_true] at q
    have q1 : ((sIx items.size 0 lo : Nat) : Int) = 0 := eq_of_beq q.1.1
    have q2 : sIx items.size items.size hi - sIx items.size 0 lo = items.size := eq_of_beq q.2
    exact hw ⟨by omega, by omega⟩
  show wpAny _ _ (if (((sIx items.size 0 lo : Nat) : Int) == 0 && (1 : Int) == 1 && (sIx items.size items.size hi - sIx items.size 0 lo) == items.size) = true then _ else _) _ _ s
  rw [if_neg hno, pick_gen]
  first
    | exact wpAny_bind (m := Builtin.Tuple.tupleExact _) (wpAny_newObj_type (wpAny_pure ⟨_, rfl, wpAny_pure h⟩) htake)
    | exact wpAny_bind (m := Builtin.Tuple.tupleExact _) (wpAny_newObj_type (wpAny_bind (wpAny_pure (wpAny_pure ⟨_, rfl, wpAny_pure h⟩))) htake)
    | exact wpAny_bind (wpAny_bind (m := Builtin.Tuple.tupleExact _) (wpAny_newObj_type (wpAny_pure (wpAny_pure ⟨_, rfl, wpAny_pure h⟩)) htake))
    | exact wpAny_bind (wpAny_bind (m := Builtin.Tuple.tupleExact _) (wpAny_newObj_type (wpAny_pure ⟨_, rfl, wpAny_pure h⟩) htake))
end
end HT

namespace L2
open PySem PySem.Spec PyProof.Rows

/-! ### the parts of a slice -/
abbrev TO := St → Hp → (Option Int → Hp → Prop) → Prop
/-- a slice's part (left out, or an int) -/
def PO (X : Cx) (e : Option Expr) (t : TO) : Prop :=
  ∀ (pins : List (Addr × Obj)) (s : Shared) (σ : St) (H : Hp) (Q : Option Int → Hp → Prop), Inv X pins σ H s → t σ H Q →
    wpAny (model X.prog X.w) X.A (evalPart e X.env) (fun u s' => ∃ o H', Inv X pins σ H' s' ∧ IsPart u o ∧ Q o H') X.xe s
def tNoPart : TO := fun _ H Q => Q none H
def tPart (t : TE) : TO := fun σ H Q => t σ H fun x H1 => ∃ i, x = .int i ∧ Q (some i) H1

section
variable {X : Cx} {e : Expr} {te : TE} {lo hi : Option Expr} {tl th : TO} {pos p2 : Pos}

theorem po_none : PO X none tNoPart := by
  intro pins s σ H Q I h
  rw [evalPart_none]
  exact wpAny_pure ⟨none, H, I, .none, h⟩
theorem po_some (h : PE X e te) : PO X (some e) (tPart te) := by
  intro pins s σ H Q I hw
  rw [evalPart_some]
  refine thn (h pins s σ H _ I hw) fun u s1 ⟨x, H1, I1, r1, q1⟩ => ?_
  obtain ⟨i, rfl, q⟩ := q1
  obtain ⟨t, rfl⟩ := r1
  exact ⟨some i, H1, I1, .int i t, q⟩

/-- what a slice of a value is, by values: the slice object stands at sl -/
def SlR (X : Cx) (r : V → Option Int → Option Int → Hp → VK → Prop) : Prop :=
  ∀ (pins : List (Addr × Obj)) (s : Shared) (σ : St) (H : Hp) (x : V) (v vl vu : Value) (lo hi : Option Int) (sl : Addr) (Q : VK), Inv X pins σ H s → RelV x v → s.heap.IsSliceOf sl vl vu .none → IsPart vl lo → IsPart vu hi → r x lo hi H Q →
    ∃ T id, typeLookup (.type T) "__getitem__" = pure (some (.builtin id)) ∧ s.TypeIs v T ∧ wpAny (model X.prog X.w) X.A (getItem v (.ref sl)) (EP X pins σ Q) X.xe s
def tSl (r : V → Option Int → Option Int → Hp → VK → Prop) (te : TE) (tl th : TO) : TE := fun σ H Q => te σ H fun x H1 => tl σ H1 fun l H2 => th σ H2 fun u H3 => r x l u H3 Q
/-- a[lo:hi], any a -/
theorem pe_slice {r : V → Option Int → Option Int → Hp → VK → Prop} (hr : SlR X r) (he : PE X e te) (hl : PO X lo tl) (hu : PO X hi th) : PE X (.Subscript e (.Slice lo hi none p2) pos) (tSl r te tl th) := by
  intro pins s σ H Q I h
  refine Subscript_ (thn (he pins s σ H _ I h) fun v s1 ⟨x, H1, I1, r1, q1⟩ => ?_)
  refine wpAny_Slice (thn (hl pins s1 σ H1 _ I1 q1) fun vl s2 ⟨l, H2, I2, pl, q2⟩ => thn (hu pins s2 σ H2 _ I2 q2) fun vu s3 ⟨u, H3, I3, pu, q3⟩ => ?_)
  rw [evalPart_none]
  refine wpAny_pure ?_
  have I4 : Inv X pins σ H3 { s3 with heap := s3.heap.push { cls := .type "slice", data := .fields #[vl, vu, .none] } } := I3.kept (t' := s3.toks) fun b ob q => Heap.get?_push_of_some _ q
  obtain ⟨T, id, hT, ht, hg⟩ := hr pins { s3 with heap := s3.heap.push { cls := .type "slice", data := .fields #[vl, vu, .none] } } σ H3 x v vl vu l u s3.heap.objs.size Q I4 r1 (Heap.IsSliceOf.new ..) pl pu q3
  show wpAny (model X.prog X.w) X.A (subscriptTail e (.Slice lo hi none p2) v (.ref s3.heap.objs.size)) (EP X pins σ Q) X.xe { s3 with heap := s3.heap.push { cls := .type "slice", data := .fields #[vl, vu, .none] } }
  exact tail_any (ops := [.ref s3.heap.objs.size, v]) ht hT hg (by with_unfolding_all rfl)

/-- the items of xs[lo:hi] -/
def cutV (xs : List V) (lo hi : Option Int) : List V := (xs.drop (HT.sIx xs.length 0 lo)).take (HT.sIx xs.length xs.length hi - HT.sIx xs.length 0 lo)
theorem cutV_length (xs : List V) (lo hi : Option Int) : (cutV xs lo hi).length ≤ xs.length := by
  unfold cutV
  rw [List.length_take, List.length_drop]
  omega
/-- t[lo:hi], not the whole of it (the whole would be t itself) -/
def rSlT (K : PySem.W.Frag) : V → Option Int → Option Int → Hp → VK → Prop := fun x lo hi H Q => ∃ a xs, x = .ref a ∧ SqT K H a xs ∧
  ¬ (HT.sIx xs.length 0 lo = 0 ∧ HT.sIx xs.length xs.length hi = xs.length) ∧ ∀ p, H p = none → Q (.ref p) (upd H p (.tup (cutV xs lo hi)))
theorem sl_tup : SlR X (rSlT X.K) := by
  intro pins s σ H x v vl vu lo hi sl Q I rx hs pl pu h
  obtain ⟨a, xs, rfl, hx, hw, q⟩ := h
  cases rx
  obtain ⟨its, r, ht, hz⟩ := I.tuple hx
  have hlen : its.toArray.size = xs.length := by rw [List.size_toArray]; exact r.length.symm
  refine ⟨"tuple", _, PyProof.Rows.slot_tuple_getitem.lookup, ht.typeIs, ?_⟩
  refine HT.getItem_tuple_cut ht hs pl pu (by rw [hlen]; exact hw) ?_ (by rw [hlen]; exact hz)
  rw [hlen]
  refine ⟨.ref s.heap.objs.size, _, I.laid (t' := s.toks) (o := .tup (cutV xs lo hi)) (fun b ob q => Heap.get?_push_of_some _ q) (Nat.le_refl _) ?_, rfl, q _ (I.hok.fresh (Nat.le_refl _))⟩
  exact ⟨Nat.le_trans (cutV_length xs lo hi) hz, _, (r.drop (HT.sIx xs.length 0 lo)).take (HT.sIx xs.length xs.length hi - HT.sIx xs.length 0 lo), IsTup.new _ _⟩

/-! ### t < u, t + u -/
/-- t + u, t not empty: u empty gives t itself -/
def rCatT (K : PySem.W.Frag) : R2 := fun x y H Q => ∃ a b xs ys, x = .ref a ∧ y = .ref b ∧ SqT K H a xs ∧ SqT K H b ys ∧ xs ≠ [] ∧ xs.length + ys.length ≤ sizeLine ∧
  (ys = [] → Q (.ref a) H) ∧ (ys ≠ [] → ∀ p, H p = none → Q (.ref p) (upd H p (.tup (xs ++ ys))))
theorem Vals.nil_iff {xs : List V} {us : List Value} (r : Vals xs us) : us = [] ↔ xs = [] := by
  cases r with
  | nil => simp
  | cons _ _ => simp
theorem op_catT : OpR X (binaryOp .Add) (rCatT X.K) := by
  intro pins s σ H x y v u Q I rx ry h
  obtain ⟨a, b, xs, ys, rfl, rfl, ha, hb, hx, hz, q1, q2⟩ := h
  cases rx
  cases ry
  obtain ⟨its, r1, p1, _⟩ := I.tuple ha
  obtain ⟨its2, r2, p2, _⟩ := I.tuple hb
  refine HT.cat_tup p1 p2 (fun z => hx (r1.nil_iff.mp z)) (fun z => ⟨.ref a, H, I, rfl, q1 (r2.nil_iff.mp z)⟩) (fun z => ?_) (by rw [← r1.length, ← r2.length]; exact hz)
  refine ⟨.ref s.heap.objs.size, _, I.laid (t' := s.toks) (o := .tup (xs ++ ys)) (fun b ob q => Heap.get?_push_of_some _ q) (Nat.le_refl _) ?_, rfl, q2 (fun w => z (r2.nil_iff.mpr w)) _ (I.hok.fresh (Nat.le_refl _))⟩
  exact ⟨by rw [List.length_append]; exact hz, _, r1.append r2, IsTup.new _ _⟩
end
end L2

namespace L2
open PySem PySem.Spec PyProof.Rows

/-! ### places -/
/-- the place that an index of any sign means -/
def ixN (n : Nat) (i : Int) : Option Nat := if 0 ≤ i then (if i < n then some i.toNat else none) else if -(n : Int) ≤ i then some (i + n).toNat else none
def atI {α : Type} (xs : List α) (i : Int) : Option α := (ixN xs.length i).bind fun j => xs[j]?
theorem ixN_seq {n : Nat} {i : Int} {j : Nat} (h : ixN n i = some j) : seqIndex? i n = some j ∧ j < n ∧ -(n : Int) ≤ i ∧ i < n := by
  unfold ixN at h
  by_cases h0 : 0 ≤ i
  · rw [if_pos h0] at h
    by_cases h1 : i < n
    · rw [if_pos h1] at h
      have e : i.toNat = j := Option.some.inj h
      exact ⟨by rw [seqIndex_of h0 h1, e], by omega, by omega, h1⟩
    · rw [if_neg h1] at h; cases h
  · rw [if_neg h0] at h
    by_cases h1 : -(n : Int) ≤ i
    · rw [if_pos h1] at h
      have e : (i + n).toNat = j := Option.some.inj h
      exact ⟨by rw [seqIndex_neg (by omega) h1, e], by omega, h1, by omega⟩
    · rw [if_neg h1] at h; cases h
theorem atI_get {α : Type} {xs : List α} {i : Int} {v : α} (h : atI xs i = some v) : ∃ j, seqIndex? i xs.length = some j ∧ xs[j]? = some v ∧ j < xs.length ∧ -(xs.length : Int) ≤ i ∧ i < xs.length := by
  unfold atI at h
  cases e : ixN xs.length i with
  | none => rw [e] at h; cases h
  | some j =>
    rw [e] at h
    obtain ⟨h1, h2, h3, h4⟩ := ixN_seq e
    exact ⟨j, h1, h, h2, h3, h4⟩
theorem atI_nat {α : Type} {xs : List α} {j : Nat} {v : α} (h : xs[j]? = some v) : atI xs (j : Int) = some v := by
  have hj : j < xs.length := (List.getElem?_eq_some_iff.mp h).1
  have e : ixN xs.length (j : Int) = some j := by
    unfold ixN
    rw [if_pos (by omega), if_pos (by omega)]; simp
  unfold atI; rw [e]; exact h
/-! ### what may be subscripted -/
/-- what stands as an index of a plain subscript -/
def PlainIx (b : Expr) : Prop := ∀ o i, subscripted b false o i = operate [o, i] (getItem o i)
/-- a subscript by values -/
def IxR (X : Cx) (r : R2) : Prop :=
  ∀ (value slice : Expr) (pins : List (Addr × Obj)) (s : Shared) (σ : St) (H : Hp) (x y : V) (v u : Value) (Q : VK), Inv X pins σ H s → RelV x v → RelV y u → r x y H Q →
    subscripted slice false v u = operate [v, u] (getItem v u) → wpAny (model X.prog X.w) X.A (subscriptTail value slice v u) (EP X pins σ Q) X.xe s
/-- a call of a builtin's method by values: the receiver, the arguments -/
def MtR (X : Cx) (id : String) (r : V → List V → Hp → VK → Prop) : Prop :=
  ∀ (pins : List (Addr × Obj)) (s : Shared) (σ : St) (H : Hp) (x : V) (xs : List V) (v : Value) (us : List Value) (Q : VK), Inv X pins σ H s → RelV x v → Vals xs us → r x xs H Q →
    wpAny (model X.prog X.w) X.A (call (.builtin id) (v :: us)) (EP X pins σ Q) X.xe s
section
variable {X : Cx} {a b : Expr} {ta tb : TE} {pos : Pos}
/-- a[b] -/
theorem pe_ix {r : R2} (hr : IxR X r) (ha : PE X a ta) (hb : PE X b tb) (hs : PlainIx b) : PE X (.Subscript a b pos) (tOp r ta tb) := by
  intro pins s σ H Q I h
  exact Subscript_ (binT ha hb I h fun v u s2 x y H2 I2 rx ry q => hr a b pins s2 σ H2 x y v u Q I2 rx ry q (hs _ _))

def rIxL (K : PySem.W.Frag) : R2 := fun x y H Q => ∃ p xs i v, x = .ref p ∧ y = .int i ∧ SqL K H p xs ∧ atI xs i = some v ∧ Q v H
def rIxT (K : PySem.W.Frag) : R2 := fun x y H Q => ∃ p xs i v, x = .ref p ∧ y = .int i ∧ SqT K H p xs ∧ atI xs i = some v ∧ Q v H
def rIxS : R2 := fun x y H Q => ∃ z i c, x = .str z ∧ y = .int i ∧ z.length ≤ sizeLine ∧ atI z.cps.toList i = some c ∧ Q (.str ⟨#[c]⟩) H
theorem ix_list : IxR X (rIxL X.K) := by
  intro value slice pins s σ H x y v u Q I rx ry h hs
  obtain ⟨p, xs, i, z, rfl, rfl, hq, he, q⟩ := h
  cases rx
  obtain ⟨t, rfl⟩ := ry
  obtain ⟨its, r, pl, hz⟩ := I.list hq
  obtain ⟨j, h1, h2, h3, h4, h5⟩ := atI_get he
  obtain ⟨w, ew, rw'⟩ := r.get h2
  have hl := r.length
  have hn := line63
  have fin : EP X pins σ Q w s := ⟨z, H, I, rw', q⟩
  by_cases h0 : 0 ≤ i
  · have hj : i.toNat = j := by
      rw [seqIndex_of h0 h5] at h1
      exact Option.some.inj h1
    exact item_listR pl.isList h0 (by omega) (by rw [hj]; simpa using ew) fin hs
  · have hj : (i + (its.toArray.size : Int)).toNat = j := by
      rw [seqIndex_neg (by omega) h4] at h1
      rw [List.size_toArray, ← hl]
      exact Option.some.inj h1
    exact subscriptTail_builtinR (x := w) pl.isList.typeIs slot_list_getitem.lookup
      (wpAny_getItem_list_neg (Q := fun r s' => r = w ∧ EP X pins σ Q r s') pl.isList (by omega) (by rw [List.size_toArray] <;> omega) (by omega) (by rw [hj]; simpa using ew) ⟨rfl, fin⟩) hs
theorem ix_tup : IxR X (rIxT X.K) := by
  intro value slice pins s σ H x y v u Q I rx ry h hs
  obtain ⟨p, xs, i, z, rfl, rfl, hq, he, q⟩ := h
  cases rx
  obtain ⟨t, rfl⟩ := ry
  obtain ⟨its, r, pl, hz⟩ := I.tuple hq
  obtain ⟨j, h1, h2, h3, h4, h5⟩ := atI_get he
  obtain ⟨w, ew, rw'⟩ := r.get h2
  have hl := r.length
  have hn := line63
  have fin : EP X pins σ Q w s := ⟨z, H, I, rw', q⟩
  exact subscriptTail_builtinR (x := w) pl.typeIs slot_tuple_getitem.lookup
    (getItem_tuple (j := j) (Q := fun r s' => r = w ∧ EP X pins σ Q r s') pl (by omega) (by omega) (by rw [List.size_toArray, ← hl]; exact h1) (by simpa using ew) ⟨rfl, fin⟩) hs
theorem ix_str : IxR X rIxS := by
  intro value slice pins s σ H x y v u Q I rx ry h hs
  obtain ⟨z, i, c, rfl, rfl, hz, he, q⟩ := h
  obtain ⟨t, rfl⟩ := rx
  obtain ⟨t', rfl⟩ := ry
  obtain ⟨j, h1, h2, h3, h4, h5⟩ := atI_get he
  have hl : z.cps.toList.length = z.length := by simp [Str.length]
  rw [hl] at h1 h4 h5
  have hn := line63
  exact tail_any (typeIs_str s z t) slot_str_getitem.lookup (getItem_str (c := c) (by
    have e1 : decide (i < -(2 ^ 63 : Int)) = false := decide_eq_false (by omega)
    have e2 : decide (i ≥ 2 ^ 63) = false := decide_eq_false (by omega)
    rw [e1, e2, Bool.or_false]) (by rw [h1]; simpa using h2) ⟨.str ⟨#[c]⟩, H, I.tok _, ⟨_, rfl⟩, q⟩) hs
/-! ### xs[i] = v, any sign -/
theorem Inv.lst {pins : List (Addr × Obj)} {σ : St} {H : Hp} {s : Shared} {p : Addr} {xs : List V} (I : Inv X pins σ H s) (h : H p = some (.lst xs)) :
    ∃ (its : List Value) (n : Nat), Vals xs its ∧ s.heap.get? p = some { cls := .type "list", data := .seq its.toArray n } ∧ xs.length ≤ sizeLine := by
  obtain ⟨z, its, n, r, e⟩ := I.hok p _ h
  exact ⟨its, n, r, e, z⟩
/-! ### slices -/
theorem slice_bounds (lo hi : Option Int) (n : Nat) : (sliceBounds lo hi none n).1 = ((HT.sIx n 0 lo : Nat) : Int) ∧ (sliceBounds lo hi none n).2.1 = ((HT.sIx n n hi : Nat) : Int) ∧ (sliceBounds lo hi none n).2.2 = 1 := by
  refine ⟨?_, ?_, rfl⟩
  · cases lo with
    | none => simp [sliceBounds, HT.sIx]
    | some i =>
      simp only [sliceBounds, HT.sIx, Option.getD_none, show (1 : Int) > 0 by decide, if_true]
      by_cases h : i < 0
      · simp only [h, if_true] <;> omega
      · simp only [h, if_false] <;> omega
  · cases hi with
    | none => simp [sliceBounds, HT.sIx]
    | some i =>
      simp only [sliceBounds, HT.sIx, Option.getD_none, show (1 : Int) > 0 by decide, if_true]
      by_cases h : i < 0
      · simp only [h, if_true] <;> omega
      · simp only [h, if_false] <;> omega
theorem slicePick_cut (its : List Value) (lo hi : Option Int) : slicePick its.toArray lo hi none = ((its.drop (HT.sIx its.length 0 lo)).take (HT.sIx its.length its.length hi - HT.sIx its.length 0 lo)).toArray := by
  obtain ⟨h1, h2, h3⟩ := slice_bounds lo hi its.toArray.size
  unfold slicePick
  rw [h1, h2, h3]
  simp only [sliceRange_one, pick_run, List.size_toArray] <;> rfl
/-- xs[lo:hi] of a list: a new list -/
def rSlL (K : PySem.W.Frag) : V → Option Int → Option Int → Hp → VK → Prop := fun x lo hi H Q => ∃ a xs, x = .ref a ∧ SqL K H a xs ∧ ∀ p, H p = none → Q (.ref p) (upd H p (.lst (cutV xs lo hi)))
theorem sl_list : SlR X (rSlL X.K) := by
  intro pins s σ H x v vl vu lo hi sl Q I rx hs pl pu h
  obtain ⟨a, xs, rfl, hx, q⟩ := h
  cases rx
  obtain ⟨its, r, ht, hz⟩ := I.list hx
  have hlen := r.length
  refine ⟨"list", _, slot_list_getitem.lookup, ht.isList.typeIs, ?_⟩
  refine wpAny_getItem_list_slice ht.isList hs pl pu .none (by simp) ?_ (by rw [List.size_toArray] <;> omega)
  rw [slicePick_cut, ← hlen]
  refine ⟨.ref s.heap.objs.size, _, I.laid (t' := s.toks) (o := .lst (cutV xs lo hi)) (fun b ob q => Heap.get?_push_of_some _ q) (Nat.le_refl _) ?_, rfl, q _ (I.hok.fresh (Nat.le_refl _))⟩
  exact ⟨Nat.le_trans (cutV_length xs lo hi) hz, _, 0, (r.drop (HT.sIx xs.length 0 lo)).take (HT.sIx xs.length xs.length hi - HT.sIx xs.length 0 lo), Heap.get?_push_size _ rfl⟩

/-! ### in, not in: flat items -/
/-! ### len, list(x), tuple(x) of any list or tuple that is read -/
theorem call_len_seq : CallR X (.builtin "len") (fun xs H Q => ∃ p ys, xs = [.ref p] ∧ (SqL X.K H p ys ∨ SqT X.K H p ys) ∧ Q (.int ys.length) H) := by
  intro pins s σ H xs us Q I r h
  obtain ⟨p, ys, rfl, hq, q⟩ := h
  obtain ⟨u, rfl, rx⟩ := vals1 r
  cases rx
  have hn := line63
  rcases hq with hq | hq
  · obtain ⟨its, r', pl, hz⟩ := I.list hq
    have hlen := r'.length
    exact Calls.call_len_list pl.isList (by simp only [List.size_toArray] <;> omega) ⟨.int ys.length, H, I.tok _, ⟨s.toks + 1, by rw [List.size_toArray, hlen]⟩, q⟩
  · obtain ⟨its, r', pl, hz⟩ := I.tuple hq
    have hlen := r'.length
    exact len_tuple pl (by simp only [List.size_toArray] <;> omega) ⟨.int ys.length, H, I.tok _, ⟨s.toks + 1, by rw [List.size_toArray, hlen]⟩, q⟩
theorem call_list_of : CallR X (.type "list") (fun xs H Q => ∃ p ys, xs = [.ref p] ∧ (SqL X.K H p ys ∨ SqT X.K H p ys) ∧ ∀ l, H l = none → Q (.ref l) (upd H l (.lst ys))) := by
  intro pins s σ H xs us Q I r h
  obtain ⟨p, ys, rfl, hq, q⟩ := h
  obtain ⟨u, rfl, rx⟩ := vals1 r
  cases rx
  have fin : ∀ (its : List Value), Vals ys its → ys.length ≤ sizeLine → ∀ (h' : Heap) (c' : Nat), (∀ b o', s.heap.get? b = some o' → h'.get? b = some o') →
      h'.get? s.heap.objs.size = some { cls := .type "list", dict := none, data := .seq its.toArray c', slots := #[] } → EP X pins σ Q (.ref s.heap.objs.size) { s with heap := h' } := fun its r' hz h' c' kp e =>
    ⟨.ref s.heap.objs.size, _, I.laid (t' := s.toks) kp (Nat.le_refl _) (show ObjOk X.prog X.w _ h' _ (.lst ys) from ⟨hz, its, c', r', e⟩), rfl, q _ (I.hok.fresh (Nat.le_refl _))⟩
  rcases hq with hq | hq
  · obtain ⟨its, r', pl, hz⟩ := I.list hq
    have hlen := r'.length
    obtain ⟨o, ho, hc, n, hd⟩ := pl.isList
    exact call_list_seq p (.inl rfl) ho hc hd (fun h' c' kp e => fin its r' hz h' c' kp e) (by simp only [List.size_toArray] <;> omega)
  · obtain ⟨its, r', pl, hz⟩ := I.tuple hq
    have hlen := r'.length
    obtain ⟨o, ho, hc, n, hd⟩ := pl
    exact call_list_seq p (.inr rfl) ho hc hd (fun h' c' kp e => fin its r' hz h' c' kp e) (by simp only [List.size_toArray] <;> omega)
theorem call_tuple_of : CallR X (.type "tuple") (fun xs H Q => ∃ p ys, xs = [.ref p] ∧ ((SqL X.K H p ys ∧ ∀ l, H l = none → Q (.ref l) (upd H l (.tup ys))) ∨ (SqT X.K H p ys ∧ Q (.ref p) H))) := by
  intro pins s σ H xs us Q I r h
  obtain ⟨p, ys, rfl, h⟩ := h
  obtain ⟨u, rfl, rx⟩ := vals1 r
  cases rx
  rcases h with ⟨hq, q⟩ | ⟨hq, q⟩
  · obtain ⟨its, r', pl, hz⟩ := I.list hq
    have hlen := r'.length
    refine call_tuple_list pl.isList (fun h' kp => ?_) (by simp only [List.size_toArray] <;> omega)
    have I1 : Inv X pins σ H { s with heap := h' } := I.kept (t' := s.toks) kp
    have I2 : Inv X pins σ (upd H h'.objs.size (.tup ys)) { s with heap := h'.push { cls := .type "tuple", data := .seq its.toArray } } :=
      I1.laid (t' := s.toks) (fun b o e => Heap.get?_push_of_some _ e) (Nat.le_refl _) (show ObjOk X.prog X.w _ _ _ (.tup ys) from ⟨hz, its, r', IsTup.new _ _⟩)
    exact ⟨.ref h'.objs.size, _, I2, rfl, q _ (I1.hok.fresh (Nat.le_refl _))⟩
  · obtain ⟨its, r', pl, hz⟩ := I.tuple hq
    exact call_tuple_same pl ⟨.ref p, H, I, rfl, q⟩

/-! ### the call of a builtin's method: o.m(..) -/
/-- the value is of that builtin type -/
def tyV (K : PySem.W.Frag) (T : String) (x : V) (H : Hp) : Prop := match x with
  | .str _ => T = "str"
  | .int _ => T = "int"
  | .ref p => (T = "list" ∧ ∃ xs, SqL K H p xs) ∨ (T = "tuple" ∧ ∃ o, K.lookup p = some o ∧ o.cls = .type "tuple" ∧ o.dict = none) ∨
      (T = "dict" ∧ ((∃ kvs, H p = some (.dK kvs)) ∨ ∃ kvs, H p = some (.dT kvs))) ∨ (T = "set" ∧ ∃ S n, H p = some (.set S n))
  | _ => False
theorem tyV_is {pins : List (Addr × Obj)} {σ : St} {H : Hp} {s : Shared} {T : String} {x : V} {v : Value} (I : Inv X pins σ H s) (r : RelV x v) (ty : tyV X.K T x H) :
    s.TypeIs v T ∧ ∀ a, v = .ref a → ∃ ob, s.heap.get? a = some ob ∧ ob.dict = none := by
  cases x with
  | str z =>
    obtain ⟨t, rfl⟩ := r
    cases (show T = "str" from ty)
    exact ⟨typeIs_str s z t, fun _ e => nomatch e⟩
  | int i =>
    obtain ⟨t, rfl⟩ := r
    cases (show T = "int" from ty)
    exact ⟨typeIs_int s i t, fun _ e => nomatch e⟩
  | ref p =>
    cases r
    rcases ty with ⟨rfl, xs, hq⟩ | ⟨rfl, o, hk, hc, hd⟩ | ⟨rfl, hk⟩ | ⟨rfl, S, n, hk⟩
    · obtain ⟨its, _, pl, _⟩ := I.list hq
      refine ⟨pl.isList.typeIs, fun a e => ?_⟩
      cases e
      obtain ⟨o, n, e, c, hd, _⟩ := pl
      exact ⟨o, e, hd⟩
    · refine ⟨⟨o, I.kIn p o hk, hc⟩, fun a e => ?_⟩
      cases e
      exact ⟨o, I.kIn _ o hk, hd⟩
    · have z : ∃ o, s.heap.get? p = some o ∧ o.ExactDict := by
        rcases hk with ⟨kvs, hk⟩ | ⟨kvs, hk⟩
        · obtain ⟨_, _, _, _, o, _, _, e, ex, _⟩ := I.hok p _ hk
          exact ⟨o, e, ex⟩
        · obtain ⟨_, _, _, _, o, _, _, e, ex, _⟩ := I.hok p _ hk
          exact ⟨o, e, ex⟩
      obtain ⟨o, e, ex⟩ := z
      refine ⟨⟨o, e, ex.1⟩, fun a e2 => ?_⟩
      cases e2
      exact ⟨o, e, ex.2.1⟩
    · obtain ⟨o, _, _, _, e, ex, _⟩ := I.hok p _ hk
      refine ⟨⟨o, e, ex.1⟩, fun a e2 => ?_⟩
      cases e2
      exact ⟨o, e, ex.2.1⟩
  | _ => exact False.elim ty
def tBM0 (K : PySem.W.Frag) (T : String) (r : V → List V → Hp → VK → Prop) (to : TE) : TE := fun σ H Q => to σ H fun x H1 => tyV K T x H1 ∧ r x [] H1 Q
def tBM (K : PySem.W.Frag) (T : String) (r : V → List V → Hp → VK → Prop) (to : TE) (t : TA) : TE := fun σ H Q => to σ H fun x H1 => tyV K T x H1 ∧ t σ H1 fun xs H2 => r x xs H2 Q
variable {o e : Expr} {es : List Expr} {to : TE} {t : TA} {name : Str} {apos cpos : Pos} {T id : String} {r : V → List V → Hp → VK → Prop}
theorem pe_bm0 (pa : PlainAttrs T) (slot : Slot T name id) (hty : typeOf (.builtin id) = pure (.type "method_descriptor")) (hm : MtR X id r) (ho : PE X o to)
    (hbase : attributeBase o name X.env (eval o X.env) = eval o X.env := by rfl) (hline : (apos.endLine == cpos.line) = true := by rfl) : PE X (.Call (.Attribute o name apos) [] [] cpos) (tBM0 X.K T r to) := by
  intro pins s σ H Q I h
  refine wpAny_Call_method0_late hbase hline (thn (ho pins s σ H _ I h) fun v s1 ⟨x, H1, I1, r1, ty, q1⟩ => ?_)
  obtain ⟨h1, h2⟩ := tyV_is I1 r1 ty
  exact ⟨T, id, pa, slot, hty, h1, h2, Calls.callWith_builtin rfl (PySem.evalArgs_none (hm pins s1 σ H1 x [] v [] Q I1 r1 .nil q1))⟩
theorem pe_bm (pa : PlainAttrs T) (slot : Slot T name id) (hty : typeOf (.builtin id) = pure (.type "method_descriptor")) (hm : MtR X id r) (ho : PE X o to) (ha : PA X (e :: es) t)
    (hbase : attributeBase o name X.env (eval o X.env) = eval o X.env := by rfl)
    (hfew : ((backTo cpos (starEach (e :: es) X.env)).all (fun x => !x.1) && (backToKw cpos (keywordEach [] X.env)).all (fun x => x.1.isSome)
      && decide ((e :: es).length + ([] : List Keyword).length + (if ([] : List Keyword).isEmpty then 0 else 1) < 30)) = true := by rfl)
    (hline : (apos.endLine == cpos.line) = true := by rfl) (hs : starEach (e :: es) X.env = (false, eval e X.env) :: starEach es X.env := by rfl) (hplain : (backTo cpos (starEach es X.env)).any (·.1) = false := by rfl) :
    PE X (.Call (.Attribute o name apos) (e :: es) [] cpos) (tBM X.K T r to t) := by
  intro pins s σ H Q I h
  refine wpAny_Call_method_late hbase hfew hline rfl (thn (ho pins s σ H _ I h) fun v s1 ⟨x, H1, I1, r1, ty, q1⟩ => ?_)
  obtain ⟨h1, h2⟩ := tyV_is I1 r1 ty
  refine ⟨T, id, pa, slot, hty, h1, h2, ?_⟩
  have hA := ha cpos pins s1 σ H1 _ I1 q1
  rw [hs] at hA ⊢
  refine Calls.callWith_builtin (by show (false || (backTo cpos (starEach es X.env)).any (·.1)) = false; rw [hplain] <;> rfl) (Calls.evalArgs_plain ?_)
  exact thn hA fun us s2 ⟨vs, H2, I2, r2, q2⟩ => hm pins s2 σ H2 x vs v us Q I2 r1 r2 q2
/- xs.append(e), list.index on a module's tuple .. are MtR facts of 06m -/
end
end L2

namespace L2
open PySem PySem.Spec PyProof.Rows

def MtM (X : Cx) (id : String) (r : V → List V → Hp → VK → Prop) : Prop :=
  ∀ (pins : List (Addr × Obj)) (s : Shared) (σ : St) (H : Hp) (x : V) (xs : List V) (v : Value) (us : List Value) (Q : VK), Inv X pins σ H s → RelV x v → Vals xs us → r x xs H Q →
    wpAny (model X.prog X.w) X.A (call (.builtin id) (v :: us)) (EP X pins σ Q) X.xe s

/-! ### lists of values -/
theorem Vals.one : ∀ {x : V} {us : List Value}, Vals [x] us → ∃ u, us = [u] ∧ RelV x u
  | _, _, .cons r .nil => ⟨_, rfl, r⟩
theorem Vals.zero : ∀ {us : List Value}, Vals [] us → us = []
  | _, .nil => rfl
theorem Vals.dropLast {xs : List V} {us : List Value} (h : Vals xs us) : Vals xs.dropLast us.dropLast := by
  induction h with
  | nil => exact .nil
  | cons r t ih =>
    cases t with
    | nil => exact .nil
    | cons q t' => exact .cons r ih
theorem erase_last {α : Type} (l : List α) : l.eraseIdx (l.length - 1) = l.dropLast := by
  induction l with
  | nil => rfl
  | cons a r ih =>
    cases r with
    | nil => rfl
    | cons b r =>
      have e : (a :: b :: r).length - 1 = ((b :: r).length - 1) + 1 := by
        have h1 : (a :: b :: r).length = r.length + 2 := rfl
        have h2 : (b :: r).length = r.length + 1 := rfl
        omega
      rw [e, List.eraseIdx_cons_succ, ih]
      all_goals rfl
section
variable {X : Cx} {pins : List (Addr × Obj)} {σ : St} {H : Hp} {s : Shared} {l b : Addr} {xs ys zs : List V}

/-! ### the two steps: a tracked list is rewritten, a new list is laid -/
theorem Inv.lset {its its' : List Value} {n : Nat} {f : Array Value → Array Value} {t' : Nat} (I : Inv X pins σ H s) (hH : H l = some (.lst xs))
    (e : s.heap.get? l = some { cls := .type "list", data := .seq its.toArray n }) (hf : f its.toArray = its'.toArray) (hv : Vals ys its') (hz : ys.length ≤ sizeLine) :
    Inv X pins σ (upd H l (.lst ys)) { s with heap := s.heap.update l (Obj.mapSeq f), toks := t' } := by
  have q := PySem.IsL.update e f
  rw [hf] at q
  refine I.write (x := l) (e := l) (by rw [hH]; exact trivial) (.inl rfl) (fun b' u hb hu => (Heap.get?_update_other s.heap (Obj.mapSeq f) (Ne.symm hb)).trans hu) ⟨_, q⟩ ?_
  exact ⟨hz, its', _, hv, q⟩
theorem Inv.lnew {its : List Value} {t' : Nat} (I : Inv X pins σ H s) (hv : Vals ys its) (hz : ys.length ≤ sizeLine) :
    Inv X pins σ (upd H s.heap.objs.size (.lst ys)) { s with heap := s.heap.push { cls := .type "list", data := .seq its.toArray }, toks := t' } :=
  I.laid (fun _ _ q => Heap.get?_push_of_some _ q) (Nat.le_refl _) ⟨hz, its, 0, hv, Heap.get?_push_size _ rfl⟩
theorem Inv.lstM (I : Inv X pins σ H s) (hH : H l = some (.lst xs)) : xs.length ≤ sizeLine ∧ ∃ (its : List Value) (n : Nat), Vals xs its ∧ xs.length = its.length ∧ s.heap.get? l = some { cls := .type "list", data := .seq its.toArray n } := by
  obtain ⟨z, its, n, r, e⟩ := I.hok l _ hH
  exact ⟨z, its, n, r, r.length, e⟩

theorem notLongL {n : Nat} (h : n ≤ sizeLine) : Builtin.List.listTooLong n = false := by
  unfold Builtin.List.listTooLong
  exact decide_eq_false (by omega)
end

section
variable {X : Cx}

/-! ### methods -/
def rAppend : V → List V → Hp → VK → Prop := fun x vs H Q => ∃ l xs y, x = .ref l ∧ vs = [y] ∧ H l = some (.lst xs) ∧ xs.length < sizeLine ∧ Q .non (upd H l (.lst (xs ++ [y])))
theorem mt_append : MtM X "list.append" rAppend := by
  intro pins s σ H x vs v us Q I rx rv h
  obtain ⟨l, xs, y, rfl, rfl, hH, hz, q⟩ := h
  cases rx
  obtain ⟨u, rfl, ru⟩ := rv.one
  obtain ⟨z, its, n, r, hl, e⟩ := I.lstM hH
  refine call_meets F.slot_list_append ⟨_, e, rfl⟩ F.entry_list_append (F.args_list_append_2 _ _) (PySem.list_append l its.toArray n u (by rw [List.size_toArray]; omega)) ⟨e, ?_⟩
  refine ⟨.non, _, I.lset (its' := its ++ [u]) hH e (by simp) (r.append (.cons ru .nil)) ?_, rfl, q⟩
  rw [List.length_append, List.length_singleton]
  omega

def rPop : V → List V → Hp → VK → Prop := fun x vs H Q => ∃ l xs y, x = .ref l ∧ vs = [] ∧ H l = some (.lst xs) ∧ xs[xs.length - 1]? = some y ∧ Q y (upd H l (.lst xs.dropLast))
theorem mt_pop : MtM X "list.pop" rPop := by
  intro pins s σ H x vs v us Q I rx rv h
  obtain ⟨l, xs, y, rfl, rfl, hH, hy, q⟩ := h
  cases rx
  have hus := rv.zero
  subst hus
  obtain ⟨z, its, n, r, hl, e⟩ := I.lstM hH
  obtain ⟨u, hu, ru⟩ := r.get hy
  have hy' : its.toArray[its.toArray.size - 1]? = some u := by
    show its.toArray[its.length - 1]? = some u
    rw [← Array.getElem?_toList, ← hl]
    exact hu
  refine call_meets F.slot_list_pop ⟨_, e, rfl⟩ F.entry_list_pop (F.args_list_pop_1 _) (MeetsSeq.list_pop_last l its.toArray n u hy' (by rw [List.size_toArray]; omega)) ⟨e, ?_⟩
  refine ⟨y, _, I.lset (its' := its.dropLast) hH e ?_ r.dropLast ?_, ru, q⟩
  · show its.toArray.eraseIdxIfInBounds (its.toArray.size - 1) = its.dropLast.toArray
    rw [List.size_toArray, List.eraseIdxIfInBounds_toArray, erase_last]
  · rw [List.length_dropLast]
    omega

/-! ### list + list, list += list, list * int -/
/-! ### del xs[i] -/
end

/-! ### xs[a:b] = ys -/
section
variable {prog : Program} {w : World} {A : Around} {E : Value → Shared → Prop} {s : Shared}
set_option maxRecDepth 100000 in
end

section
variable {X : Cx}
end
end L2

namespace L2
open PySem PySem.Spec PyProof.Rows

/-! ### lists of pairs as tables -/
section
variable {κ : Type} [DecidableEq κ]
def valV (kvs : List (κ × V)) (k : κ) : Option V := (kvs.find? fun kv => decide (kv.1 = k)).map (·.2)
/-- in its place, or at the end -/
def putK (kvs : List (κ × V)) (k : κ) (v : V) : List (κ × V) :=
  if (kvs.any fun kv => decide (kv.1 = k)) = true then kvs.map (fun kv => if kv.1 = k then (kv.1, v) else kv) else kvs ++ [(k, v)]
theorem valV_pos {p : κ × V} {r : List (κ × V)} {k : κ} (e : p.1 = k) : valV (p :: r) k = some p.2 := by simp [valV, List.find?_cons, e]
theorem valV_neg {p : κ × V} {r : List (κ × V)} {k : κ} (e : ¬ p.1 = k) : valV (p :: r) k = valV r k := by simp [valV, List.find?_cons, e]
theorem valV_any (k : κ) : ∀ kvs : List (κ × V), (kvs.any fun kv => decide (kv.1 = k)) = (valV kvs k).isSome
  | [] => rfl
  | p :: r => by
    rw [List.any_cons]
    by_cases e : p.1 = k
    · simp only [valV_pos e, decide_eq_true e, Bool.true_or, Option.isSome_some]
    · rw [valV_neg e, decide_eq_false e, Bool.false_or]; exact valV_any k r
theorem valV_map (k j : κ) (y : V) : ∀ kvs : List (κ × V), valV (kvs.map fun kv => if kv.1 = k then (kv.1, y) else kv) j = (valV kvs j).map fun x => if j = k then y else x
  | [] => rfl
  | p :: r => by
    have ih := valV_map k j y r
    rw [List.map_cons]
    by_cases h : p.1 = k
    · rw [if_pos h]
      by_cases e : p.1 = j
      · rw [valV_pos (p := (p.1, y)) e, valV_pos e, Option.map_some, if_pos (e.symm.trans h)]
      · rw [valV_neg (p := (p.1, y)) e, valV_neg e, ih]
    · rw [if_neg h]
      by_cases e : p.1 = j
      · rw [valV_pos (p := p) e, valV_pos e, Option.map_some, if_neg (fun z => h (e.trans z))]
      · rw [valV_neg (p := p) e, valV_neg e, ih]
theorem valV_snoc (k j : κ) (y : V) : ∀ kvs : List (κ × V), valV kvs k = none → valV (kvs ++ [(k, y)]) j = if j = k then some y else valV kvs j
  | [], _ => by
    by_cases e : k = j
    · rw [if_pos e.symm]; exact valV_pos (p := (k, y)) e
    · rw [if_neg (fun z => e z.symm)]; exact valV_neg (p := (k, y)) e
  | p :: r, hn => by
    rw [List.cons_append]
    have hk : ¬ p.1 = k := fun z => by rw [valV_pos z] at hn; cases hn
    rw [valV_neg hk] at hn
    have ih := valV_snoc k j y r hn
    by_cases e : p.1 = j
    · rw [valV_pos e, valV_pos e, if_neg (fun z => hk (e.trans z))]
    · rw [valV_neg e, valV_neg e, ih]
theorem valV_put (kvs : List (κ × V)) (k j : κ) (y : V) : valV (putK kvs k y) j = if j = k then some y else valV kvs j := by
  unfold putK
  by_cases a : (kvs.any fun kv => decide (kv.1 = k)) = true
  · rw [if_pos a, valV_map]
    rw [valV_any] at a
    by_cases e : j = k
    · obtain ⟨x, hx⟩ := Option.isSome_iff_exists.mp a
      rw [if_pos e, e, hx, Option.map_some, if_pos rfl]
    · rw [if_neg e]
      cases valV kvs j with
      | none => rfl
      | some x => rw [Option.map_some, if_neg e]
  · rw [if_neg a]
    refine valV_snoc k j y kvs ?_
    rw [valV_any] at a
    cases q : valV kvs k with
    | none => rfl
    | some x => rw [q] at a; exact (a rfl).elim
theorem length_putK (kvs : List (κ × V)) (k : κ) (v : V) : (putK kvs k v).length ≤ kvs.length + 1 := by
  unfold putK
  split
  · rw [List.length_map]; omega
  · rw [List.length_append, List.length_cons, List.length_nil]; omega
theorem RelO.isSome_eq {o : Option V} {u : Option Value} (r : RelO o u) : o.isSome = u.isSome := by
  cases o with
  | none => cases u with
    | none => rfl
    | some _ => exact (show False from r).elim
  | some _ => cases u with
    | none => exact (show False from r).elim
    | some _ => rfl
/-- raw tables of the same keys -/
theorem KV.val {kvs : List (κ × V)} {vs : List (κ × Value)} (r : KV kvs vs) (k : κ) : RelO (valV kvs k) (valueAt vs k) := by
  unfold KV at r
  induction r with
  | nil => exact True.intro
  | @cons p q ps qs h t ih =>
    obtain ⟨h1, h2⟩ := h
    by_cases e : p.1 = k
    · have e' : q.1 = k := h1.symm.trans e
      have b : valueAt (q :: qs) k = some q.2 := by simp [valueAt, List.find?_cons, e']
      rw [valV_pos e, b]; exact h2
    · have e' : ¬ q.1 = k := fun z => e (h1.trans z)
      have b : valueAt (q :: qs) k = valueAt qs k := by simp [valueAt, List.find?_cons, e']
      rw [valV_neg e, b]; exact ih
theorem KV.any {kvs : List (κ × V)} {vs : List (κ × Value)} (r : KV kvs vs) (k : κ) : (kvs.any fun kv => decide (kv.1 = k)) = vs.any fun kv => decide (kv.1 = k) := by
  unfold KV at r
  induction r with
  | nil => rfl
  | cons h t ih => rw [List.any_cons, List.any_cons, ih, h.1]
theorem KV.repl {kvs : List (κ × V)} {vs : List (κ × Value)} (r : KV kvs vs) (k : κ) {y : V} {u : Value} (ry : RelV y u) :
    KV (kvs.map fun kv => if kv.1 = k then (kv.1, y) else kv) (vs.map fun kv => if kv.1 = k then (kv.1, u) else kv) := by
  unfold KV at r ⊢
  induction r with
  | nil => exact .nil
  | @cons p q ps qs h t ih =>
    rw [List.map_cons, List.map_cons]
    refine .cons ?_ ih
    obtain ⟨h1, h2⟩ := h
    by_cases e : p.1 = k
    · rw [if_pos e, if_pos (h1.symm.trans e)]; exact ⟨h1, ry⟩
    · rw [if_neg e, if_neg (fun z => e (h1.trans z))]; exact ⟨h1, h2⟩
theorem KV.put {kvs : List (κ × V)} {vs : List (κ × Value)} (r : KV kvs vs) (k : κ) {y : V} {u : Value} (ry : RelV y u) : KV (putK kvs k y) (stored vs k u) := by
  unfold putK stored
  rw [r.any k]
  by_cases e : (vs.any fun kv => decide (kv.1 = k)) = true
  · rw [if_pos e, if_pos e]; exact r.repl k ry
  · rw [if_neg e, if_neg e]; exact Paired.snoc r ⟨rfl, ry⟩
theorem KV.length {kvs : List (κ × V)} {vs : List (κ × Value)} (r : KV kvs vs) : kvs.length = vs.length := Paired.length r
end


/-! ### a tracked dict, its keys ints and texts or tuples of these -/
theorem kV_is {P : Program} {w : World} {k : Key} {u : Value} (r : RelV (kV k) u) : (mixKind P w).is k u = true := by
  cases k with
  | inl i => obtain ⟨t, e⟩ := (show ∃ t, u = Value.int i t from r); subst e; exact mixKind_int P w i t
  | inr x => obtain ⟨t, e⟩ := (show ∃ t, u = Value.str x t from r); subst e; exact mixKind_str P w x t
theorem items_are {P : Program} {w : World} : ∀ {ks : List Key} {us : List Value}, Vals (ks.map kV) us → ItemsAre (mixKind P w) ks us
  | [], _, r => by rw [List.map_nil] at r; cases r; exact .nil
  | k :: ks, _, r => by
    rw [List.map_cons] at r
    cases r with
    | cons h t => exact .cons (kV_is h) (items_are t)

/-- raw entries of a dict with tuple keys -/
abbrev KT (H : Hp) : List (List Key × V) → List (List Key × Addr × Value) → Prop := Paired fun p q => p.1 = q.1 ∧ H q.2.1 = some (.tup (p.1.map kV)) ∧ RelV p.2 q.2.2
theorem KT.val {H : Hp} {kvs : List (List Key × V)} {xs : List (List Key × Addr × Value)} (r : KT H kvs xs) (k : List Key) : RelO (valV kvs k) ((atKey xs k).map (·.2)) := by
  induction r with
  | nil => exact True.intro
  | @cons p q ps qs h t ih =>
    obtain ⟨h1, _, h2⟩ := h
    by_cases e : p.1 = k
    · have e' : q.1 = k := h1.symm.trans e
      have b : atKey (q :: qs) k = some q.2 := by simp [atKey, List.find?_cons, e']
      rw [valV_pos e, b]; exact h2
    · have e' : ¬ q.1 = k := fun z => e (h1.trans z)
      have b : atKey (q :: qs) k = atKey qs k := by simp [atKey, List.find?_cons, e']
      rw [valV_neg e, b]; exact ih
theorem KT.repl {H : Hp} {kvs : List (List Key × V)} {xs : List (List Key × Addr × Value)} (r : KT H kvs xs) (k : List Key) {y : V} {u : Value} (ry : RelV y u) :
    KT H (kvs.map fun kv => if kv.1 = k then (kv.1, y) else kv) (xs.map (putAt k u)) := by
  induction r with
  | nil => exact .nil
  | @cons p q ps qs h t ih =>
    rw [List.map_cons, List.map_cons]
    refine .cons ?_ ih
    obtain ⟨h1, h2, h3⟩ := h
    unfold putAt
    by_cases e : p.1 = k
    · rw [if_pos e, if_pos (h1.symm.trans e)]; exact ⟨h1, h2, ry⟩
    · rw [if_neg e, if_neg (fun z => e (h1.trans z))]; exact ⟨h1, h2, h3⟩
theorem KT.put {H : Hp} {kvs : List (List Key × V)} {xs : List (List Key × Addr × Value)} (r : KT H kvs xs) (k : List Key) {b : Addr} {y : V} {u : Value} (hb : H b = some (.tup (k.map kV))) (ry : RelV y u) :
    KT H (putK kvs k y) (storedH xs k b u) := by
  have e : (kvs.any fun kv => decide (kv.1 = k)) = (atKey xs k).isSome := by
    rw [valV_any, (r.val k).isSome_eq, Option.isSome_map]
  unfold putK storedH
  rw [e]
  by_cases q : (atKey xs k).isSome = true
  · rw [if_pos q, if_pos q]; exact r.repl k ry
  · rw [if_neg q, if_neg q]; exact Paired.snoc r ⟨rfl, hb, ry⟩
theorem KT.keeps {H H' : Hp} {kvs : List (List Key × V)} {xs : List (List Key × Addr × Value)} (r : KT H kvs xs) (ht : ∀ b ys, H b = some (.tup ys) → H' b = some (.tup ys)) : KT H' kvs xs :=
  Paired.mapP r fun _ _ z => ⟨z.1, ht _ _ z.2.1, z.2.2⟩

section
variable {P : Program} {w : World} {H : Hp} {h : Heap} {a : Addr}
theorem rd_of {u : HO} (ok : HOk P w H h) (e : Rd H a u) : ObjOk P w H h a u := e.ok ok
theorem dk_rd {kvs : List (Key × V)} (ok : HOk P w H h) (e : Rd H a (.dK kvs)) : kvs.length ≤ sizeLine ∧ (a == sysModules) = false ∧ ∃ vs, KV kvs vs ∧ h.DictOf (mixKind P w) a vs :=
  show ObjOk P w H h a (.dK kvs) from rd_of ok e
theorem dk_of {kvs : List (Key × V)} (ok : HOk P w H h) (e : H a = some (.dK kvs)) : kvs.length ≤ sizeLine ∧ (a == sysModules) = false ∧ ∃ vs, KV kvs vs ∧ h.DictOf (mixKind P w) a vs := dk_rd ok (.inl e)
/-- a tracked tuple of ints and texts is a key -/
theorem key_of {ks : List Key} (ok : HOk P w H h) (e : H a = some (.tup (ks.map kV))) : (tupleKind (mixKind P w)).is h ks a := by
  obtain ⟨_, its, r, o, h1, h2, n, h3⟩ := (show ObjOk P w H h a (.tup (ks.map kV)) from ok a _ e)
  exact ⟨o, its.toArray, n, h1, h2, h3, by simpa using items_are r⟩
theorem dt_rd {kvs : List (List Key × V)} (ok : HOk P w H h) (e : Rd H a (.dT kvs)) : kvs.length ≤ sizeLine ∧ (a == sysModules) = false ∧
    ∃ xs, KT H kvs xs ∧ h.DictOfH (tupleKind (mixKind P w)) a xs := by
  obtain ⟨z, y, xs, r, o, es, ep, h1, h2, h3, h4, h5⟩ := (show ObjOk P w H h a (.dT kvs) from rd_of ok e)
  refine ⟨z, y, xs, r, o, es, ep, h1, h2, h3, h4, fun x hx => ?_, h5⟩
  have all : ∀ {l : List (List Key × V)} {m : List (List Key × Addr × Value)}, KT H l m → ∀ x ∈ m, (tupleKind (mixKind P w)).is h x.1 x.2.1 := by
    intro l m q
    induction q with
    | nil => intro x hx; exact nomatch hx
    | @cons p q ps qs hq t ih =>
      intro x hx
      rcases List.mem_cons.mp hx with e | hx
      · subst e
        exact key_of ok (by rw [← hq.1]; exact hq.2.1)
      · exact ih x hx
  exact all r x hx
theorem dt_of {kvs : List (List Key × V)} (ok : HOk P w H h) (e : H a = some (.dT kvs)) : kvs.length ≤ sizeLine ∧ (a == sysModules) = false ∧
    ∃ xs, KT H kvs xs ∧ h.DictOfH (tupleKind (mixKind P w)) a xs := dt_rd ok (.inl e)
end

/-- what the dict at a holds at the key y -/
def DGet (H : Hp) (a : Addr) (y : V) (r : Option V) : Prop :=
  (∃ kvs k, Rd H a (.dK kvs) ∧ y = kV k ∧ r = valV kvs k) ∨ ∃ kvs k b, Rd H a (.dT kvs) ∧ y = .ref b ∧ H b = some (.tup (k.map kV)) ∧ r = valV kvs k
/-- the heap behind a[y] = v -/
def DPut (H : Hp) (a : Addr) (y v : V) (H' : Hp) : Prop :=
  (∃ kvs k, H a = some (.dK kvs) ∧ y = kV k ∧ kvs.length < sizeLine ∧ H' = upd H a (.dK (putK kvs k v))) ∨
  ∃ kvs k b, H a = some (.dT kvs) ∧ y = .ref b ∧ H b = some (.tup (k.map kV)) ∧ kvs.length < sizeLine ∧ H' = upd H a (.dT (putK kvs k v))
theorem DGet.k {H : Hp} {a : Addr} {kvs : List (Key × V)} {k : Key} (e : H a = some (.dK kvs)) : DGet H a (kV k) (valV kvs k) := .inl ⟨kvs, k, .inl e, rfl, rfl⟩
theorem DPut.k {H : Hp} {a : Addr} {kvs : List (Key × V)} {k : Key} {v : V} (e : H a = some (.dK kvs)) (hl : kvs.length < sizeLine) : DPut H a (kV k) v (upd H a (.dK (putK kvs k v))) := .inl ⟨kvs, k, e, rfl, hl, rfl⟩
section
variable {X : Cx} {pins : List (Addr × Obj)} {σ : St} {H : Hp} {s : Shared} {a : Addr} {y v : V} {u r : Value} {o : Option V} {A : Around} {E : Value → Shared → Prop}

theorem Inv.big (I : Inv X pins σ H s) : sysModules < s.heap.objs.size := by
  have h : mainGlobals < s.heap.objs.size := (I.mod.glob.keeps I.bk).lt
  exact Nat.lt_trans (by decide) h

/-- d[y], there -/
theorem d_getItem {Q : Value → Shared → Prop} (hu : A.units + 1 < cLine) (I : Inv X pins σ H s) (g : DGet H a y (some v)) (ry : RelV y u) (h : ∀ w' s', Inv X pins σ H s' → RelV v w' → Q w' s') :
    wpAny (model X.prog X.w) A (getItem (.ref a) u) Q E s := by
  rcases g with ⟨kvs, k, e, ey, l⟩ | ⟨kvs, k, b, e, ey, eb, l⟩
  · subst ey
    obtain ⟨z, hd, vs, rel, dd⟩ := dk_rd I.hok e
    obtain ⟨w', hw, rw'⟩ := RelO.some_of (v := v) (o := valueAt vs k) (by rw [l]; exact rel.val k)
    exact wpAny_getItem_of (kV_is ry) dd.mapOf hw (h w' _ (I.tok _) rw')
  · subst ey
    cases (show u = Value.ref b from ry)
    obtain ⟨z, hd, xs, rel, dd⟩ := dt_rd I.hok e
    obtain ⟨w', hw, rw'⟩ := RelO.some_of (v := v) (o := (atKey xs k).map (·.2)) (by rw [l]; exact rel.val k)
    obtain ⟨p, hp, hp2⟩ := Option.map_eq_some_iff.mp hw
    refine wpAny_getItem_heap (tupleKind_room_in1 hu) (key_of I.hok eb) dd hp ?_
    rw [hp2]
    exact h w' _ (I.tok _) rw'
/-- a dict's object is replaced -/
theorem d_write {h' : Heap} {t' : Nat} {ob : HO} (I : Inv X pins σ H s) (mu : Mut (H a)) (hs : Heap.SameBut a s.heap h') (he : ∃ q, h'.get? a = some q) (new : ObjOk X.prog X.w (upd H a ob) h' a ob) :
    Inv X pins σ (upd H a ob) { s with heap := h', toks := t' } :=
  I.write (x := a) (e := a) mu (.inl rfl) (fun b q hb z => (hs.2 b hb).trans z) he new
theorem dk_new {P : Program} {w : World} {H' : Hp} {h' : Heap} {kvs : List (Key × V)} {vs : List (Key × Value)} (z : kvs.length ≤ sizeLine) (hd : (a == sysModules) = false) (rel : KV kvs vs) (dd : h'.DictOf (mixKind P w) a vs) :
    ObjOk P w H' h' a (.dK kvs) := ⟨z, hd, vs, rel, dd⟩
/-- d[y] = v -/
theorem d_setItem {H' : Hp} {Q : Unit → Shared → Prop} (hu : A.units + 1 < cLine) (I : Inv X pins σ H s) (g : DPut H a y v H') (ry : RelV y u) (rv : RelV v r) (h : ∀ s', Inv X pins σ H' s' → Q () s') :
    wpAny (model X.prog X.w) A (setItem (.ref a) u r) Q E s := by
  rcases g with ⟨kvs, k, e, ey, l, eH⟩ | ⟨kvs, k, b, e, ey, eb, l, eH⟩
  · subst ey eH
    obtain ⟨z, hd, vs, rel, dd⟩ := dk_of I.hok e
    have hz : vs.length ≤ sizeLine := by rw [← rel.length]; exact z
    have hl : (putK kvs k v).length ≤ sizeLine := by have := length_putK kvs k v; omega
    refine wpAny_setItem_pairs (hsz := hz) (kV_is ry) dd fun h' dd' hs => h _ ?_
    have he : ∃ q, h'.get? a = some q := let ⟨q, _, _, hq, _⟩ := dd'; ⟨q, hq⟩
    exact d_write I (by rw [e]; exact True.intro) hs he (dk_new hl hd (rel.put k rv) dd')
  · subst ey eH
    cases (show u = Value.ref b from ry)
    obtain ⟨z, hd, xs, rel, dd⟩ := dt_of I.hok e
    have hz : xs.length ≤ sizeLine := by rw [← Paired.length rel]; exact z
    have hl : (putK kvs k v).length ≤ sizeLine := by have := length_putK kvs k v; omega
    refine wpAny_setItem_heap (hsz := hz) (tupleKind_room_in1 hu) (key_of I.hok eb) dd fun h' dd' hs => h _ ?_
    obtain ⟨q, es, ep, hq, h2, h3, h4, _, h5⟩ := dd'
    refine d_write I (by rw [e]; exact True.intro) hs ⟨q, hq⟩ ⟨hl, hd, _, (rel.put k eb rv).keeps fun c ys ec => ?_, q, es, ep, hq, h2, h3, h4, h5⟩
    rw [upd_ne (ne_of ec e (fun z => nomatch z))]
    exact ec
end

section
variable {X : Cx} {pins : List (Addr × Obj)} {σ : St} {H : Hp} {s : Shared} {a : Addr} {kvs : List (Key × V)} {k : Key} {u : Value} {A : Around} {E : Value → Shared → Prop}
end


/-! ### readings and rules -/
/-- the element of a subscription, not a slice -/
def NoSl (i : Expr) : Prop := ∀ ov iv, subscripted i false ov iv = operate [ov, iv] (getItem ov iv)
theorem subD_of {prog : Program} {w : World} {A : Around} {E : Value → Shared → Prop} {s : Shared} {env : Env} {value slice : Expr} {pos : Pos} {T id : String} {Q : Value → Shared → Prop}
    (hl : typeLookup (.type T) "__getitem__" = pure (some (.builtin id))) (hs : NoSl slice)
    (h : wpAny (model prog w) A (eval value env) (fun o s₁ => wpAny (model prog w) A (eval slice env) (fun i s₂ => s₂.TypeIs o T ∧ wpAny (model prog w) A (getItem o i) Q E s₂) E s₁) E s) :
    wpAny (model prog w) A (eval (.Subscript value slice pos) env) Q E s := by
  refine Subscript_ (wpAny_mono h (fun o s₁ h₁ => wpAny_mono h₁ (fun i s₂ h₂ => ?_) fun _ _ x => x) fun _ _ x => x)
  obtain ⟨hT, h₂⟩ := h₂
  unfold subscriptTail
  refine wpAny_bind ?_
  rw [getitemInPython_of_ne hT.not_modules]
  refine wpAny_bind (wpAny_specialOf hT hl ?_)
  have fin : wpAny (model prog w) A (subscripted slice false o i) (fun r s₃ => wpAny (model prog w) A (letTemporaryGo value o r >>= fun _ => pure r) Q E s₃) E s₂ := by
    rw [hs o i]
    exact wpAny_operating (wpAny_mono h₂ (fun r s₃ h₃ => wpAny_bind (wpAny_letTemporaryGo (wpAny_pure h₃))) fun _ _ x => x)
  first
    | exact wpAny_pure (wpAny_bind fin)
    | exact wpAny_bind (wpAny_pure (wpAny_bind fin))
    | exact wpAny_bind fin

theorem dict_typeIs {X : Cx} {pins : List (Addr × Obj)} {σ : St} {H : Hp} {s : Shared} {a : Addr} {y : V} {o : Option V} (I : Inv X pins σ H s) (g : DGet H a y o) : s.TypeIs (.ref a) "dict" := by
  rcases g with ⟨kvs, k, e, _, _⟩ | ⟨kvs, k, b, e, _, _, _⟩
  · obtain ⟨_, _, vs, _, dd⟩ := dk_rd I.hok e
    exact dd.typeIs
  · obtain ⟨_, _, xs, _, dd⟩ := dt_rd I.hok e
    exact dd.typeIs
/-- d[y] -/
def tDGet (td ty : TE) : TE := fun σ H Q => td σ H fun x H1 => ty σ H1 fun y H2 => ∃ a v, x = .ref a ∧ DGet H2 a y (some v) ∧ Q v H2
/-- d[y] = v -/
def sDPut (td ty tv : TE) : TS := fun D σ H => tv σ H fun v H1 => td σ H1 fun x H2 => ty σ H2 fun y H3 => ∃ a H4, x = .ref a ∧ DPut H3 a y v H4 ∧ D.nx σ H4
section
variable {X : Cx} {o i e value : Expr} {pos pos' tpos : Pos} {td ty tv : TE}
theorem pe_dget (hu : X.A.units + 1 < cLine) (ho : PE X o td) (hi : PE X i ty) (hs : NoSl i) : PE X (.Subscript o i pos) (tDGet td ty) := by
  intro pins s σ H Q I h
  refine subD_of PySem.F.slot_dict_getitem.lookup hs (thn (ho pins s σ H _ I h) fun u s1 ⟨x, H1, I1, rx, q1⟩ => thn (hi pins s1 σ H1 _ I1 q1) fun iv s2 ⟨y, H2, I2, ry, a, v, ex, g, q2⟩ => ?_)
  subst ex
  obtain rfl : u = Value.ref a := rx
  exact ⟨dict_typeIs I2 g, d_getItem hu I2 g ry fun w' s3 I3 rw' => ⟨v, H2, I3, rw', q2⟩⟩
theorem ps_dput (hu : X.A.units + 1 < cLine) (ho : PE X o td) (hi : PE X i ty) (hv : PE X value tv) (hs : swapsWith value (some (.Subscript o i pos')) pos.line X.env = pure false) :
    PS X (.Assign [.Subscript o i pos'] value pos) (sDPut td ty tv) := by
  intro pins s σ H D I h
  refine wpAny_Assign_Subscript (thn (hv pins s σ H _ I h) fun r s1 ⟨v, H1, I1, rv, q1⟩ => thn (ho pins s1 σ H1 _ I1 q1) fun u s2 ⟨x, H2, I2, rx, q2⟩ => thn (hi pins s2 σ H2 _ I2 q2) fun iv s3 ⟨y, H3, I3, ry, a, H4, ex, g, q3⟩ => ?_) hs
  subst ex
  obtain rfl : u = Value.ref a := rx
  exact d_setItem hu I3 g ry rv fun s4 I4 => ⟨σ, H4, I4, q3⟩
end


/-! ### displays -/
theorem dk_empty {P : Program} {w : World} {H : Hp} (h : Heap) (hb : sysModules < h.objs.size) : ObjOk P w H (h.push { cls := .type "dict", data := .dict #[] }) h.objs.size (.dK []) :=
  ⟨Nat.zero_le _, beq_eq_false_iff_ne.mpr (Ne.symm (Nat.ne_of_lt hb)), [], .nil, Heap.DictOf.new h⟩
/-- {}, to be a dict of the kind that is wanted -/
def tDNewK : TE := fun _ H Q => ∀ p, H p = none → Q (.ref p) (upd H p (.dK []))
section
variable {X : Cx} {pos : Pos}
theorem pe_dnewK : PE X (.Dict [] [] pos) tDNewK := fun pins s σ H Q I h =>
  wpAny_Dict_empty ⟨.ref s.heap.objs.size, _, I.laid (a := s.heap.objs.size) (o := .dK []) (t' := s.toks) (fun _ _ q => Heap.get?_push_of_some _ q) (Nat.le_refl _) (dk_empty s.heap I.big), rfl, h _ (I.hok.fresh (Nat.le_refl _))⟩
end

/-! ### methods -/
section
variable {X : Cx} {pins : List (Addr × Obj)} {σ : St} {H : Hp} {s : Shared} {a : Addr} {y d : V} {u r : Value} {o : Option V} {A : Around} {E : Value → Shared → Prop}
end

section
variable {X : Cx} {o e f : Expr} {apos cpos : Pos} {td ty tx : TE}
end

/-! ### dict(d): a copy -/
section
variable {X : Cx} {pins : List (Addr × Obj)} {σ : St} {H : Hp} {s : Shared} {a : Addr} {kvs : List (Key × V)} {A : Around} {E : Value → Shared → Prop}
end


section
variable {X : Cx} {pins : List (Addr × Obj)} {σ : St} {H : Hp} {s : Shared} {a : Addr} {y : V} {u : Value} {A : Around} {E : Value → Shared → Prop}
end
end L2

namespace Att
open PySem PySem.W PySem.Calls PyProof.Rows

/-! ### the script -/
theorem ints_of_wellAll {P : Params} {h : Heap} : ∀ (ns : List Int) (vs : List Value), WellAll P h vs (ns.map WData.int) → IntsAre vs ns := by
  intro ns
  induction ns with
  | nil =>
    intro vs w
    rw [List.map_nil] at w
    cases w
    exact .nil
  | cons n ns ih =>
    intro vs w
    rw [List.map_cons] at w
    cases w with
    | cons a b =>
      cases a
      exact .cons _ _ (ih _ b)

theorem script_of {l : OpenLaw} {n : Nat} (hn : l.most = some n) {P : Params} {h : Heap} {args : List WData} {vals : List Value}
    (hpre : l.row.toRowW.claim.pre args = true) (hwl : WellAll P h vals args) :
    ∃ a vs ns, vals = [Value.ref a] ∧ args = [WData.list (ns.map WData.int)] ∧ h.get? a = some { cls := .type "list", data := .seq vs.toArray } ∧ IntsAre vs ns ∧ ns.length ≤ n := by
  have hsh : WShape.hasAll [] args [.list .int] = true := (pre_splitW hpre).1
  have hc : l.pre.holds [] { args := args } = true := (pre_splitW hpre).2
  obtain ⟨d, r, rfl, h1, h2⟩ := hasAllW_cons hsh
  obtain rfl := hasAllW_nil h2
  obtain ⟨xs, rfl, h3⟩ := hasW_list h1
  obtain ⟨ns, rfl⟩ := items_int h3
  have hlen : ns.length ≤ n := by
    unfold OpenLaw.pre at hc
    have h4 : (WTm.not (.lt (.lit (.int (n : Int))) (.len (.arg 0)))).holds [] { args := [.list (ns.map .int)] } = true := by
      have h4 := (holds_andW hc).1
      rw [hn] at h4
      exact h4
    have h5 := condW_of h4 (w_not (w_lt w_lit (w_len_list (w_arg rfl))))
    rw [List.length_map] at h5
    refine Nat.le_of_not_lt fun q => ?_
    have q' : (n : Int) < ((ns.length : Nat) : Int) := by omega
    first
      | (rw [decide_eq_true q'] at h5; exact absurd h5 (by decide))
      | (simp at h5; omega)
  cases hwl with
  | cons w1 w2 =>
    cases w2
    cases w1 with
    | list ho hall => exact ⟨_, _, ns, rfl, rfl, ho, ints_of_wellAll ns _ hall, hlen⟩

theorem post_true (l : OpenLaw) (args : List WData) : l.row.toRowW.claim.post args (.bool true) args = true :=
  postW_of (r := l.row.toRowW) (X := (true == true))
    (show WShape.has [] (.bool true) .bool = true by first | rfl | decide | simp [WShape.has, WShape.arms, WShape.armsAll])
    (show (WTm.eq .res (.lit (.bool true))).value [] { args := args, res := some (.bool true), after := args } = some (.bool (true == true)) from w_eq_bool (w_res rfl) w_lit) rfl

/-! ### the attachment: holds_open's last premise (the goal 'hc' behind k_head) from a wpAny of the law's body -/
/-- the same from a codeAny of the CALL (for a layer whose function contracts speak of calls) -/
theorem attach_call {l : OpenLaw} {n : Nat} {q : Program} {loose : List Str} {XP : (Str → Option Value) → Heap → Prop} {YP : World → Heap → Prop} {d : DefRec}
    (hn : l.most = some n) (hdf : d.params.defaults = [])
    (call : ∀ (w : World) (s₀ s₁ : Shared) (mg mb : Str → Option Value) (fa : Addr) (o : Obj) (pm cd doc : Value) (a : Addr) (vs : List Value) (ns : List Int),
      Ground q loose [] XP w s₀ mg mb s₁.heap → YP w s₁.heap →
      s₁.heap.get? fa = some o → o.data = .func (docDef d.name d.params d.body d.scope pm cd doc) → s₁.heap.CodeRec cd d.name → mg d.name = some (.ref fa) →
      s₁.heap.get? a = some { cls := .type "list", data := .seq vs.toArray } → IntsAre vs ns → ns.length ≤ n → s₁.gens = #[] →
      codeAny (model l.prog w) callerA (.call (.ref fa) ⟨[.ref a], []⟩) (fun r s' => r = .ok (.ret (.bool true)) ∧ OldK s₁.heap s'.heap ∧ s'.os = s₁.os ∧ AllBare s'.gens) s₁) :
    WalkO q loose XP YP l.row.toRowW d [] (fun f vs => PySem.call f vs) := by
  intro w s₀ s₁ mg mb G Y fa o pm cd doc dV kV ho hd hcd hD hmg hg args vals as hpre hlay hrd hwl hlo
  obtain rfl : dV = .none := Dflts.none hD hdf
  obtain rfl : kV = .none := Dflts.noKw hD
  obtain ⟨a, vs, ns, rfl, rfl, hobj, hints, hlen⟩ := script_of hn hpre hwl
  refine enter_call (codeAny_mono (call w s₀ s₁ mg mb fa o pm cd doc a vs ns G Y ho (fd_plain hd) hcd hmg hobj hints hlen hg) fun r s' hq => ?_)
  obtain ⟨rfl, h2, h3, h4⟩ := hq
  exact ⟨.inl ⟨.bool true, .bool true, [], rfl, fun _ => rfl, .bool true, post_true l _, fun _ => ⟨List.Pairwise.nil, fun _ hm => (nomatch hm)⟩⟩, h2, h3, h4⟩

/-! ### rules over ANY heap (no ledger) from facts about the written part K: the library's own take a ledger (News) for what they write -/
section
variable {prog : Program} {w : World} {A : Around} {E : Value → Shared → Prop} {s : Shared} {K : Frag}

/-! the whole heap as the ledger: makes every rule that writes through a ledger a rule over any heap -/
end
end Att

namespace L2
open PySem PySem.Spec PyProof.Rows

theorem vals_ints : ∀ {vs : List Value} {ns : List Int}, IntsAre vs ns → Vals (ns.map V.int) vs
  | _, _, .nil => .nil
  | _, _, .cons n t h => .cons ⟨t, rfl⟩ (vals_ints h)

/-- nothing is tracked but the script, known to the object (or it is an object of the module) -/
def Only (H : Hp) : Prop := ∀ b, H b = none ∨ ∃ o xs, H b = some (.frz o (.lst xs))

/-- THE HEAD: the law's promise, at the heap behind the top. F, the promise of the law's def, may use that base is part of the heap (so K.In base, base.Ns mainGlobals mg stand in Mod) -/
theorem law_call {P : Program} {w : World} {K : PySem.W.Frag} {mg mb : Str → Option Value} {CX : CXT} {k : Nat} {fa a : Addr} {fd : FuncData} {x : Str} {sp : Sp} {s₁ : Shared} {vs : List Value} {ns : List Int}
    (KX : K.In s₁.heap) (hns : s₁.heap.Ns mainGlobals mg) (hb : s₁.heap.Ns builtinsNs mb) (hbb : ∀ x : Str, x ≠ "__name__" → mb x = bootBuiltins x) (hlim : s₁.heap.NoLimit) (hg : s₁.gens = #[])
    (ha : s₁.heap.get? a = some { cls := .type "list", data := .seq vs.toArray }) (hi : IntsAre vs ns) (hl : ns.length ≤ sizeLine) (hr : Room k callerA)
    (F : ∀ base : Heap, K.In base → base.Ns mainGlobals mg → FnOk P w K mg base CX k fa fd [x] sp) (hbind : ∀ (s : Shared) (u : Value), BindsTo s fd ⟨[u], []⟩ [(x, u)])
    (hsp : ∀ H : Hp, Only H → SqL K H a (ns.map V.int) → sp [.ref a] H (fun v _ => v = .bl true) fun _ _ _ => False)
    (hCX : ∀ H e s', CX [] H s₁ (fun _ _ _ => False) e s' → False) :
    codeAny (model P w) callerA (.call (.ref fa) ⟨[.ref a], []⟩) (fun r s' => r = .ok (.ret (.bool true)) ∧ OldK s₁.heap s'.heap ∧ s'.os = s₁.os ∧ AllBare s'.gens) s₁ := by
  have rv := vals_ints hi
  have lenV := hi.length
  -- from an abstract heap in which nothing but the script may be tracked
  have core : ∀ H : Hp, Only H → SqL K H a (ns.map V.int) → HOk P w H s₁.heap → (∀ b, H b ≠ none → b = a) → (H a ≠ none → K.lookup a = none) →
      codeAny (model P w) callerA (.call (.ref fa) ⟨[.ref a], []⟩) (fun r s' => r = .ok (.ret (.bool true)) ∧ OldK s₁.heap s'.heap ∧ s'.os = s₁.os ∧ AllBare s'.gens) s₁ := by
    intro H hO hS hok hA hK
    have base_of : ∀ {b : Addr} {o : Obj}, s₁.heap.get? b = some o → H b = none → (hidT s₁.heap H).get? b = some o := fun e n => hidT_get e n
    have noA : ∀ {b : Addr} {o : Obj} {es : Array DictEntry} {ep : Nat}, s₁.heap.get? b = some o → o.data = .dict es ep → H b = none := fun {b o es ep} e d => by
      cases q : H b with
      | none => rfl
      | some u =>
        have e' : b = a := hA b (by rw [q]; simp)
        subst e'
        rw [ha] at e; cases e
        have d' : Data.seq vs.toArray _ = Data.dict es ep := d
        cases d'
    have nsK : ∀ {b : Addr} {m : Str → Option Value}, s₁.heap.Ns b m → (hidT s₁.heap H).Ns b m := fun {b m} ⟨o, es, ep, e, d, r⟩ => ⟨o, es, ep, base_of e (noA e d), d, r⟩
    have hKb : K.In (hidT s₁.heap H) := fun b o e => base_of (KX b o e) (by
      cases q : H b with
      | none => rfl
      | some u =>
        have e' : b = a := hA b (by rw [q]; simp)
        subst e'
        rw [hK (by rw [q]; simp)] at e; cases e)
    have hM : Mod K mg (hidT s₁.heap H) := ⟨hKb, nsK hns, ⟨mb, nsK hb, hbb⟩, let ⟨mc, h1, h2⟩ := hlim; ⟨mc, nsK h1, h2⟩⟩
    have e0 : Env0 P w K mg (hidT s₁.heap H) callerA [] s₁ H := ⟨rfl, hM, fun b o e => of_hidT e, Nat.le_of_eq (hidT_size _ _), trivial, fun b hb => absurd (show b ∈ ([] : List Addr) from hb) (by simp), hok, .of_eq hg⟩
    refine codeAny_mono ((F _ hKb (nsK hns)).run callerA [] s₁ H ⟨[.ref a], []⟩ [.ref a] [.ref a] _ _ hr e0 (hbind s₁ (.ref a)) (.cons rfl .nil) (hsp H hO hS)) fun r s' h => ?_
    cases r with
    | error e => exact (hCX H e s' h).elim
    | ok fl =>
      cases fl with
      | next => exact False.elim h
      | brk => exact False.elim h
      | cont => exact False.elim h
      | ret u =>
        obtain ⟨v, H', os, bare, un, hok', r', q⟩ := h
        have q' : v = .bl true := q
        subst q'
        obtain rfl : u = Value.bool true := r'
        refine ⟨rfl, OldK.of_keep fun b o e => ?_, os, bare⟩
        cases q : H b with
        | none => exact un.keep b o e q (by intro z; exact absurd (show b ∈ ([] : List Addr) from z) (by simp)) (by simp)
        | some u =>
          rcases hO b with z | ⟨ob, xs, z⟩
          · rw [q] at z; cases z
          · have z2 := un.frzs b ob _ z
            obtain ⟨e1, _⟩ := hok b _ z
            obtain ⟨e2, _⟩ := hok' b _ z2
            rw [e] at e1; cases e1
            exact e2
  cases hk : K.lookup a with
  | some o =>
    -- the script is one of the module's own objects
    have e := KX a o hk
    rw [ha] at e
    cases e
    refine core (fun _ => none) (fun _ => .inl rfl) (.inr ⟨_, vs.toArray, _, hk, rfl, rfl, rfl, by rw [List.size_toArray, lenV]; exact hl, by simpa using rv⟩) (fun b u z => by have z' : (none : Option HO) = some u := z; cases z') (fun b z => absurd rfl z) fun z => absurd rfl z
  | none =>
    refine core (fun b => if b = a then some (.frz { cls := .type "list", data := .seq vs.toArray } (.lst (ns.map V.int))) else none) (fun b => ?_) (.inl (.inr ⟨{ cls := .type "list", data := .seq vs.toArray }, if_pos rfl⟩)) (fun b u z => ?_) (fun b z => ?_) fun _ => hk
    · by_cases hb : b = a
      · exact .inr ⟨_, _, if_pos hb⟩
      · exact .inl (if_neg hb)
    · by_cases hb : b = a
      · have z' := (if_pos hb).symm.trans z
        cases z'
        subst hb
        exact ⟨ha, by rw [List.length_map]; exact hl, vs, _, rv, ha⟩
      · have z' := (if_neg hb).symm.trans z
        cases z'
    · by_cases hb : b = a
      · exact hb
      · exact absurd (if_neg hb) z
end L2

namespace L2
open PySem PySem.Spec PyProof.Rows

/-- the goal that k_head leaves (case hc), from the law's promise. F gives the function object fd (K's own) once, then the promise over every base -/
theorem walk_of {l : PySem.W.OpenLaw} {n k : Nat} {q : Program} {loose : List Str} {XP : (Str → Option Value) → Heap → Prop} {YP : World → Heap → Prop} {d : DefRec} {K : Params → PySem.W.Frag} {CX : World → CXT} {sp : World → Sp} {x : Str}
    (hn : l.most = some n) (hn2 : n ≤ sizeLine) (hdf : d.params.defaults = []) (hr : Room k callerA)
    (hY : ∀ (w : World) (h : Heap), YP w h → (K w.params).In h)
    (F : ∀ (w : World) (mg : Str → Option Value) (fa : Addr) (h : Heap), (K w.params).In h → h.Ns mainGlobals mg → mg d.name = some (.ref fa) →
      ∃ fd : FuncData, (∀ (s : Shared) (u : Value), BindsTo s fd ⟨[u], []⟩ [(x, u)]) ∧
        ∀ base : Heap, (K w.params).In base → base.Ns mainGlobals mg → FnOk l.prog w (K w.params) mg base (CX w) k fa fd [x] (sp w))
    (hsp : ∀ (w : World) (H : Hp) (a : Addr) (ns : List Int), ns.length ≤ n → Only H → SqL (K w.params) H a (ns.map V.int) → sp w [.ref a] H (fun v _ => v = .bl true) fun _ _ _ => False)
    (hCX : ∀ (w : World) (H : Hp) (s : Shared) (e : Value) (s' : Shared), CX w [] H s (fun _ _ _ => False) e s' → False) :
    PySem.W.WalkO q loose XP YP l.row.toRowW d [] (fun f vs => PySem.call f vs) := by
  refine Att.attach_call hn hdf fun w s₀ s₁ mg mb fa o pm cd doc a vs ns G Y ho hd hcd hmg hobj hints hlen hg => ?_
  have KX := hY w _ Y
  obtain ⟨fd, hb, hF⟩ := F w mg fa _ KX G.T.g hmg
  exact law_call KX G.T.g G.T.b G.T.builtins G.T.nolimit hg hobj hints (Nat.le_trans hlen hn2) hr hF hb (fun H hO hS => hsp w H a ns hlen hO hS) fun H e s' => hCX w H s₁ e s'
end L2

/- THE LAST THEOREM (shape; LID, My.* are yours):
   My.Adr: a structure of the addresses that your layer names (classes, functions); My.Txt K t: a structure (Prop) of the equations over K;
   My.txt_mk : {K} {implicit addresses ..} (e1 : nsIn K mainGlobals "law" = some (some (.ref f))) (e2 : K.lookup f = some ⟨oc, od, .func (fnOf "law" "law" params body scope dV kV doc pm an cdv ct), sl⟩) (e3 : codeIn K cdv "law" = true) .. : ∃ t, My.Txt K t

set_option maxRecDepth 100000 in
set_option maxHeartbeats 0 in
theorem PySem.Challenge.cw_LID_holds : PySem.Challenge.rw_LID.Holds := by
  w_on; o_law; k_head; (case hw => w_witness2)
  k_fill
  refine L2.walk_of (l := PySem.Challenge.rw_LID) (n := 63) (k := 40) (x := "script") (CX := fun w => ..) (sp := fun _ => My.sp_law) rfl (by decide) rfl ⟨rfl, by decide, by decide⟩ (fun w h Y => PySem.W.kIn_of Y) ?F ?S ?C
  case F =>
    intro w mg fa h KX G hmg
    have T : ∃ t, My.Txt (L2.KOf KX) t := by
      dsimp only [L2.KOf]                          -- K must stand as «<heap const> w.params» for k_is
      refine' My.txt_mk ?e1 ?e2 ?e3 ..
      (case e1 => PySem.W.k_is)                    -- in the order: a name -> its address -> its object -> its parts
      (case e2 => PySem.W.k_is)
      ..
    obtain ⟨t, T⟩ := T
    have e0 := hmg.symm.trans (PySem.W.mg_of KX G T.law)
    cases e0                                       -- fa is the law's own address
    exact ⟨_, fun s u => .of_eq rfl, fun base kb nb => My.law_fn T kb nb⟩     -- if «.of_eq rfl» comes too early: refine' ⟨_, ?b, fun base kb nb => My.law_fn T kb nb⟩; exact fun s u => .of_eq rfl
  case S => exact fun w H a ns hl hO hS => ..
  case C => exact ..
(the tactic k_is has no namespace: write k_is) -/

/-! SHORT WORDS over the layer: a def of the text, its body, what a loop and a test want. -/
namespace L2
open PySem PySem.Spec PyProof.Rows

/-! ### the text by places -/
/-- the j-th statement of a class's body -/
def inClass (s : Stmt) (j : Nat) : Stmt := match s with
  | .ClassDef _ _ _ body _ _ _ _ _ _ _ => body.getD j (.Pass ⟨0, 0, 0, 0⟩)
  | _ => .Pass ⟨0, 0, 0, 0⟩
def defArgs (s : Stmt) : Arguments := match s with
  | .FunctionDef _ a _ _ _ _ _ _ _ _ => a
  | _ => { posonlyargs := [], args := [], vararg := none, kwonlyargs := [], kw_defaults := [], kwarg := none, defaults := [] }
def defBody (s : Stmt) : List Stmt := match s with
  | .FunctionDef _ _ b _ _ _ _ _ _ _ => b
  | _ => []
def defScope (s : Stmt) : Scope := match s with
  | .FunctionDef _ _ _ _ _ _ sc _ _ _ => sc
  | _ => { kind := .function, names := [], isGenerator := false, isCoroutine := false }

/-! ### no exception leaves a def -/
abbrev CX0 : CXT := fun _ _ _ _ _ _ => False
abbrev E0 : XK := fun _ _ _ => False
theorem pass0 {X : Cx} : Passes CX0 X E0 := fun _ _ _ _ _ _ _ h => h.elim

/-! ### a def (or method) of the text as it stands behind the top -/
structure Fun (K : PySem.W.Frag) (x qual : Str) (st : Stmt) (f : Addr) (fd : FuncData) : Prop where
  ex : ∃ (oc : Value) (od : Option Addr) (kV doc pm : Value) (an : Option Addr) (cdv ct : Value) (osl : Array (Option Value)),
    fd = PySem.W.fnOf x qual (defArgs st) (defBody st) (defScope st) .none kV doc pm an cdv ct ∧ K.lookup f = some ⟨oc, od, .func fd, osl⟩ ∧ PySem.W.codeIn K cdv qual = true
  kp : PySem.W.keepIn K (.ref f) = true
section
variable {P : Program} {w : World} {K : PySem.W.Frag} {mg : Str → Option Value} {base : Heap}
/-- THE RULE for a def: its body as a term of rules, and the reading of that term -/
theorem Fun.ok {x qual : Str} {st : Stmt} {f : Addr} {fd : FuncData} {N ps : List Str} {k : Nat} {sp : Sp} (F : Fun K x qual st f fd) (S : FnScope N ps (defScope st)) (len : ∀ vs H Q E, sp vs H Q E → vs.length = ps.length)
    (hbody : ∀ (cdv : Value) (A : Around) (outer : List Env) (s : Shared) (H : Hp) (vs : List V) (Q : VK) (E : XK), Room k (A.deeper (envOfC qual (defScope st) s.heap.objs.size f cdv)) → sp vs H Q E →
      ∃ t, PSs (cxOf CX0 P w K mg base N qual (defScope st) f cdv A outer s H E).nox (defBody st) t ∧ t { nx := fun _ H' => Q .non H', rt := Q } (start N vs) H) : FnOk P w K mg base CX0 (k + 1) f fd ps sp := by
  obtain ⟨oc, od, kV, doc, pm, an, cdv, ct, osl, rfl, lk, hcd⟩ := F.ex
  refine fn_of lk hcd S len fun A outer s H vs Q E hr hsp => ?_
  obtain ⟨t, h, q⟩ := hbody cdv A outer s H vs Q E hr hsp
  exact ⟨t, h.nox, q⟩
/-- how its arguments bind (no defaults): h is «fun _ _ _ _ _ _ us hl => match us, hl with | [_, _], _ => rfl», one _ a parameter -/
theorem Fun.binds {x qual : Str} {st : Stmt} {f : Addr} {fd : FuncData} {ps : List Str} (F : Fun K x qual st f fd)
    (h : ∀ (kV doc pm : Value) (an : Option Addr) (cdv ct : Value) (us : List Value), us.length = ps.length → bindArgs (PySem.W.fnOf x qual (defArgs st) (defBody st) (defScope st) .none kV doc pm an cdv ct) ⟨us, []⟩ = pure (ps.zip us)) : Binds K fd ps [] := by
  obtain ⟨oc, od, kV, doc, pm, an, cdv, ct, osl, rfl, lk, hcd⟩ := F.ex
  exact .all (h kV doc pm an cdv ct)
theorem fun_mk {x qual : Str} {st : Stmt} {f : Addr} {oc : Value} {od an : Option Addr} {osl : Array (Option Value)} {kV doc pm cdv ct : Value} (l : K.lookup f = some ⟨oc, od, .func (PySem.W.fnOf x qual (defArgs st) (defBody st) (defScope st) .none kV doc pm an cdv ct), osl⟩)
    (c : PySem.W.codeIn K cdv qual = true) (k : PySem.W.keepIn K (.ref f) = true) : Fun K x qual st f (PySem.W.fnOf x qual (defArgs st) (defBody st) (defScope st) .none kV doc pm an cdv ct) := ⟨⟨oc, od, kV, doc, pm, an, cdv, ct, osl, rfl, l, c⟩, k⟩
end
theorem hu_of {A : Around} {k : Nat} (hr : Room k A) : A.units + 1 < cLine := Nat.lt_of_le_of_lt (Nat.add_le_add_left (by decide : 1 ≤ 64) _) hr.units
/-! ### expressions in short: the name that stands in the i-th slot -/
section
variable {X : Cx}
theorem pv (i : Nat) {x : Str} {pos : Pos} (hN : X.N[i]? = some x := by rfl) (hv : Vis X.env.scope x := by first | exact Or.inl rfl | exact Or.inr (Or.inl rfl) | exact Or.inr (Or.inr rfl)) (hd : (x == ("__debug__" : Str)) = false := by decide)
    (hcd : (x == ("__classdict__" : Str)) = false := by decide) : PE X (.Name x pos) (tVar i) := pe_var hN hv hd hcd
end

/-! ### tests -/
theorem iteF {A B : Prop} (h : B) : if false = true then A else B := by
  rw [if_neg Bool.false_ne_true]
  exact h
theorem iteT {A B : Prop} (h : A) : if true = true then A else B := by
  rw [if_pos rfl]
  exact h
theorem ite2 {c A B : Prop} [Decidable c] (h1 : c → A) (h2 : ¬ c → B) : if c then A else B := by
  by_cases h : c
  · rw [if_pos h]
    exact h1 h
  · rw [if_neg h]
    exact h2 h
theorem iteNS {c A B : Prop} [Decidable c] (hc : c) (h : B) : if (!decide c) = true then A else B := by
  rw [decide_eq_true hc]
  exact iteF h

/-! ### heaps -/
/-- all that was tracked is as it was -/
def Same (H H' : Hp) : Prop := ∀ b o, H b = some o → H' b = some o
theorem Same.refl (H : Hp) : Same H H := fun _ _ h => h
theorem Same.trans {H H1 H2 : Hp} (a : Same H H1) (b : Same H1 H2) : Same H H2 := fun c o h => b c o (a c o h)
theorem Same.free {H H' : Hp} (e : Same H H') {l : Addr} (h : H' l = Option.none) : H l = Option.none := by
  cases q : H l with
  | none => rfl
  | some o =>
    rw [e l o q] at h
    cases h
theorem Same.seq {K : PySem.W.Frag} {H H' : Hp} {a : Addr} {xs : List V} (e : Same H H') (h : SqL K H a xs) : SqL K H' a xs := by
  rcases h with (h | ⟨o, h⟩) | h
  · exact .inl (.inl (e _ _ h))
  · exact .inl (.inr ⟨o, e _ _ h⟩)
  · exact .inr h

/-! ### a dict's pairs: keys that differ -/
section
variable {κ : Type} [DecidableEq κ]
end
end L2


/-! MY RULES over the hand layer: isinstance, == and != of lists of ints, t + u with an empty t, products and quotients of long ints. -/
namespace L2
open PySem PySem.Spec PyProof.Rows
section
variable {X : Cx}
/-- a statement, then the rest, with a word between them -/
def tCut (t u : TS) : TS := fun D σ H => ∃ M : St → Hp → Prop, t { D with nx := M } σ H ∧ ∀ σ' H', M σ' H' → u D σ' H'
theorem pss_cut {st : Stmt} {rest : List Stmt} {t u : TS} (h1 : PS X st t) (h2 : PSs X rest u) : PSs X (st :: rest) (tCut t u) := by
  intro pins s σ H D I h
  obtain ⟨M, h, hm⟩ := h
  refine wpAny_execs_cons (thn (h1 pins s σ H { D with nx := M } I h) fun f s1 q => ?_)
  cases f with
  | next =>
    obtain ⟨σ', H', I', q⟩ := q
    exact h2 pins s1 σ' H' D I' (hm _ _ q)
  | ret v => exact q
  | brk => exact q
  | cont => exact q
/-- isinstance(x, c) -/
def rIsi (K : PySem.W.Frag) : List V → Hp → VK → Prop := fun xs H Q => ∃ x c t b, xs = [x, c] ∧ TyOf K H x t ∧ (∀ u, RelV c u → PySem.W.kitOne K t u = some b) ∧ Q (.bl b) H
theorem call_isinst : CallR X (.builtin "isinstance") (rIsi X.K) := by
  intro pins s σ H xs us Q I r h
  obtain ⟨x, c, t, b, rfl, ty, e, q⟩ := h
  obtain ⟨u, w', rfl, ru, rw'⟩ := vals2 r
  exact isinst_ok I ru ty (e w' rw') fun tk => ⟨.bl b, H, I.tok tk, rfl, q⟩
theorem isi_same {K : PySem.W.Frag} (T : String) : ∀ u, RelV (.ty T) u → PySem.W.kitOne K (.type T) u = some true := by
  intro u h
  cases (show u = Value.type T from h)
  unfold PySem.W.kitOne
  rw [if_pos (beq_self_eq_true _)]
theorem isi_by {K : PySem.W.Frag} {T U : String} {b : Bool} (h : (Value.type T == Value.type U) = false) (hm : PySem.W.kitMeta U = true) (hs : (PySem.fastBuiltinMro T).map (·.contains (Value.type U)) = some b) :
    ∀ u, RelV (.ty U) u → PySem.W.kitOne K (.type T) u = some b := by
  intro u z
  cases (show u = Value.type U from z)
  unfold PySem.W.kitOne
  rw [if_neg (by rw [h]; exact Bool.false_ne_true)]
  show (if PySem.W.kitMeta U = true then PySem.W.subIn K (.type T) (.type U) else none) = some b
  rw [if_pos hm]
  exact hs
/-- t + u, u not empty: t empty gives u itself -/
def rCatT2 (K : PySem.W.Frag) : R2 := fun x y H Q => ∃ a b xs ys, x = .ref a ∧ y = .ref b ∧ SqT K H a xs ∧ SqT K H b ys ∧ ys ≠ [] ∧ xs.length + ys.length ≤ sizeLine ∧
  (xs = [] → Q (.ref b) H) ∧ (xs ≠ [] → ∀ p, H p = none → Q (.ref p) (upd H p (.tup (xs ++ ys))))
theorem op_catT2 : OpR X (binaryOp .Add) (rCatT2 X.K) := by
  intro pins s σ H x y v u Q I rx ry h
  obtain ⟨a, b, xs, ys, rfl, rfl, ha, hb, hy, hz, q1, q2⟩ := h
  by_cases hx : xs = []
  · subst hx
    cases rx
    cases ry
    obtain ⟨its, r1, p1, _⟩ := I.tuple ha
    obtain ⟨its2, r2, p2, _⟩ := I.tuple hb
    have e1 : its = [] := r1.nil_iff.mpr rfl
    obtain ⟨⟨cls, dd, data, sl⟩, ho, hc, n, hd⟩ := id p1
    obtain ⟨⟨cls2, dd2, data2, sl2⟩, ho2, hc2, n2, hd2⟩ := id p2
    simp only at hc hd hc2 hd2
    subst hc hd hc2 hd2
    exact concat_meets ⟨_, ho, rfl⟩ ⟨_, ho2, rfl⟩ noFill_tuple_add seq_tuple_add PySem.F.slot_tuple_add PySem.F.entry_tuple_add (PySem.F.args_tuple_add_2 _ _)
      (tuple_addW0 a b its.toArray its2.toArray n n2 dd dd2 sl sl2 (by simp [e1])) ⟨ho, ho2, ⟨.ref b, H, I, rfl, q1 rfl⟩⟩
  · exact op_catT pins s σ H _ _ v u Q I rx ry ⟨a, b, xs, ys, rfl, rfl, ha, hb, hx, hz, fun z => absurd z hy, fun _ => q2 hx⟩
end
end L2

/-! MY RULES: zip over two sources of any kind that is walked (list, tuple), reversed(list) walked, tuple(reversed(list)). -/
namespace L2
open PySem PySem.Spec PyProof.Rows
/-- a source that is drawn from by its own iterator: at the k-th draw it stands at st k -/
structure Nx (it l : Addr) (st : Nat → Heap → Prop) (src : Array Value → Heap → Prop) : Prop where
  item : ∀ {prog : Program} {w : World} {A : Around} {E : Value → Shared → Prop} {s : Shared} {k : Nat} {xs : Array Value} {x : Value} {Q : Value → Shared → Prop}, st k s.heap → src xs s.heap → xs[k]? = some x →
    (∀ h', st (k + 1) h' → Heap.SameBut it s.heap h' → Q x { s with heap := h' }) → wpAny (model prog w) A (Builtin.SmallTypes.nextOf (.ref it)) Q E s
  fin : ∀ {prog : Program} {w : World} {A : Around} {E : Value → Shared → Prop} {s : Shared} {k : Nat} {xs : Array Value} {Q : Value → Shared → Prop}, A.handled = none → st k s.heap → src xs s.heap → xs[k]? = none →
    (∀ h' e, Heap.ExtBut it s.heap h' → (∃ o, h'.get? e = some o ∧ o.cls = .type "StopIteration") → E (.ref e) { s with heap := h' }) → wpAny (model prog w) A (Builtin.SmallTypes.nextOf (.ref it)) Q E s
  mv : ∀ {k : Nat} {h h' : Heap}, st k h → (∀ o, h.get? it = some o → h'.get? it = some o) → st k h'
  mvS : ∀ {xs : Array Value} {h h' : Heap}, src xs h → (∀ o, h.get? l = some o → h'.get? l = some o) → src xs h'
  ob : ∀ {k : Nat} {h : Heap}, st k h → ∃ o, h.get? it = some o ∧ ∀ v, o.data ≠ .cell v
theorem nx_list (it l : Addr) : Nx it l (fun k h => h.IsListIter it l k) (fun xs h => h.IsList l xs) where
  item := wpAny_nextOf_list_item
  fin := wpAny_nextOf_list_end
  mv := fun x e => x.at e
  mvS := fun x e => x.at e
  ob := fun ⟨o, e, _, d⟩ => ⟨o, e, fun v z => by rw [d] at z; cases z⟩
section
variable {prog : Program} {w : World} {A : Around} {E : Value → Shared → Prop} {s : Shared}
theorem nextOf_tuple_item {it l : Addr} {k : Nat} {xs : Array Value} {x : Value} {Q : Value → Shared → Prop} (hi : s.heap.IsTupleIter it l k) (hl : s.heap.IsTuple l xs) (hx : xs[k]? = some x)
    (hQ : ∀ h', h'.IsTupleIter it l (k + 1) → Heap.SameBut it s.heap h' → Q x { s with heap := h' }) : wpAny (model prog w) A (Builtin.SmallTypes.nextOf (.ref it)) Q E s := by
  obtain ⟨o, ho, hc, hd⟩ := id hi
  obtain ⟨ol, hol, _, nl, hdl⟩ := hl
  unfold Builtin.SmallTypes.nextOf
  refine wpAny_bind (wpAny_callSpecial?_slot (name := Str.ofString "__next__") hi.typeIs F.slot_tuple_iterator_next (wpAny_call_entry F.slot_tuple_iterator_next hi.typeIs F.entry_tuple_iterator_next ?_ (F.args_tuple_iterator_next_1 _)))
  show wpAny _ _ (field (.ref it) 0 >>= _) _ _ s
  refine wpAny_bind (wpAny_field ho hd (x := .ref l) rfl ?_)
  show wpAny _ _ (if (Value.ref l == Value.none) = true then _ else _) _ _ s
  rw [if_neg (show ¬ ((Value.ref l == Value.none) = true) from Bool.false_ne_true)]
  show wpAny _ _ (field (.ref it) 1 >>= _) _ _ s
  refine wpAny_bind (wpAny_field ho hd (x := .int k 0) rfl ?_)
  show wpAny _ _ (seqItems? (.ref l) >>= _) _ _ s
  refine wpAny_bind (wpAny_seqItems hol hdl ?_)
  simp only [Int.toNat_natCast, hx]
  refine wpAny_bind (wpAny_setField ho hd (by simp) (wpAny_pure ⟨x, rfl, wpAny_pure (hQ _ ?_ (Heap.SameBut.update ..))⟩))
  exact ⟨_, Heap.get?_update_self _ ho (Obj.isFreed_of_fields (Obj.data_mapFields hd _)), (Obj.cls_mapFields ..).trans hc, by rw [Obj.data_mapFields hd]; simp [rawInt]⟩
theorem nextOf_tuple_end {it l : Addr} {k : Nat} {xs : Array Value} {Q : Value → Shared → Prop} (hh : A.handled = none) (hi : s.heap.IsTupleIter it l k) (hl : s.heap.IsTuple l xs) (hx : xs[k]? = none)
    (hE : ∀ h' e, Heap.ExtBut it s.heap h' → (∃ o, h'.get? e = some o ∧ o.cls = .type "StopIteration") → E (.ref e) { s with heap := h' }) : wpAny (model prog w) A (Builtin.SmallTypes.nextOf (.ref it)) Q E s := by
  obtain ⟨o, ho, hc, hd⟩ := id hi
  obtain ⟨ol, hol, _, nl, hdl⟩ := hl
  unfold Builtin.SmallTypes.nextOf
  refine wpAny_bind (wpAny_callSpecial?_slot (name := Str.ofString "__next__") hi.typeIs F.slot_tuple_iterator_next (wpAny_call_entry F.slot_tuple_iterator_next hi.typeIs F.entry_tuple_iterator_next ?_ (F.args_tuple_iterator_next_1 _)))
  show wpAny _ _ (field (.ref it) 0 >>= _) _ _ s
  refine wpAny_bind (wpAny_field ho hd (x := .ref l) rfl ?_)
  show wpAny _ _ (if (Value.ref l == Value.none) = true then _ else _) _ _ s
  rw [if_neg (show ¬ ((Value.ref l == Value.none) = true) from Bool.false_ne_true)]
  show wpAny _ _ (field (.ref it) 1 >>= _) _ _ s
  refine wpAny_bind (wpAny_field ho hd (x := .int k 0) rfl ?_)
  show wpAny _ _ (seqItems? (.ref l) >>= _) _ _ s
  refine wpAny_bind (wpAny_seqItems hol hdl ?_)
  simp only [Int.toNat_natCast, hx]
  refine wpAny_bind (wpAny_rule (wpAny_bind (wpAny_setField ho hd (by simp) ?_)))
  show wpAny _ _ (newExc (.type "StopIteration") [] >>= _) _ _ _
  refine wpAny_bind ?_
  simp only [newExc, newTuple]
  refine wpAny_bind (wpAny_newObj_type ?_ (by size_fits))
  refine wpAny_bind (m := firstArgMember _ _) (wpAny_of_eq (a := Value.none) (by first | rfl | (simp only [firstArgMember]; rfl)) ?_)
  refine wpAny_newObj_type ?_ (by size_fits)
  simp only [raiseNew]
  refine wpAny_bind (wpAny_handled ?_)
  first | rw [show A.in1.handled = none from hh] | rw [hh]
  refine wpAny_bind (wpAny_pure (wpAny_throw ?_))
  exact hE _ _ (((Heap.SameBut.update ..).extBut.push _).push _) ⟨_, Heap.get?_push_size _ rfl, rfl⟩
end
theorem nx_tuple (it l : Addr) : Nx it l (fun k h => h.IsTupleIter it l k) (fun xs h => h.IsTuple l xs) where
  item := nextOf_tuple_item
  fin := nextOf_tuple_end
  mv := fun ⟨o, e, r⟩ f => ⟨o, f _ e, r⟩
  mvS := fun ⟨o, e, r⟩ f => ⟨o, f _ e, r⟩
  ob := fun ⟨o, e, _, d⟩ => ⟨o, e, fun v z => by rw [d] at z; cases z⟩
section
variable {z TI TO i1 i2 l1 l2 : Addr} {st1 st2 : Nat → Heap → Prop} {src1 src2 : Array Value → Heap → Prop} {prog : Program} {w : World} {A : Around} {E : Value → Shared → Prop} {s : Shared}
/-- a zip's draw -/
theorem zip_item (N1 : Nx i1 l1 st1 src1) (N2 : Nx i2 l2 st2 src2) {k1 k2 : Nat} {xs ys : Array Value} {x y a b : Value} {Q : Option Value → Shared → Prop} (D : ZipApart z TI TO i1 i2 l1 l2)
    (hz : IsZip s.heap z TI TO .none) (hTI : IsPair s.heap TI (.ref i1) (.ref i2)) (hTO : IsPair s.heap TO a b) (h1 : st1 k1 s.heap) (h2 : st2 k2 s.heap) (hl1 : src1 xs s.heap) (hl2 : src2 ys s.heap) (hx : xs[k1]? = some x) (hy : ys[k2]? = some y)
    (hQ : ∀ h', IsZip h' z TI TO (rawInt s.heap.objs.size) → IsPair h' TO x y → st1 (k1 + 1) h' → st2 (k2 + 1) h' → IsPair h' s.heap.objs.size x y →
      (∀ c o, c ≠ z → c ≠ TO → c ≠ i1 → c ≠ i2 → s.heap.get? c = some o → h'.get? c = some o) → Q (some (.ref s.heap.objs.size)) { s with heap := h' }) : wpAny (model prog w) A (pyNext (.ref z)) Q E s := by
  have hT : s.TypeIs (.ref z) "zip" := ⟨_, hz, rfl⟩
  unfold pyNext
  refine wpAny_bind (wpAny_attempt (wpAny_callSpecial?_slot (name := Str.ofString "__next__") hT F.slot_zip_next (wpAny_call_entry F.slot_zip_next hT F.entry_zip_next ?_ (F.args_zip_next_1 _))))
  show wpAny _ _ (field (.ref z) 2 >>= _) _ _ _
  refine wpAny_bind (wpAny_field hz rfl (x := .bool false) rfl ?_)
  show wpAny _ _ (field (.ref z) 3 >>= _) _ _ _
  refine wpAny_bind (wpAny_field hz rfl (x := .ref TI) rfl ?_)
  refine wpAny_bind (wpAny_seqItems hTI rfl ?_)
  show wpAny _ _ (Builtin.SmallTypes.ownedTupleIsFree (.ref z) >>= _) _ _ _
  refine wpAny_bind ?_
  unfold Builtin.SmallTypes.ownedTupleIsFree
  refine wpAny_bind (wpAny_field hz rfl (x := .none) rfl (wpAny_pure ?_))
  simp only [if_true]
  refine wpAny_bind (wpAny_rule ?_)
  refine wpAny_bind (wpAny_field hz rfl (x := .ref TO) rfl ?_)
  refine wpAny_bind (wpAny_setField_rec hz (by simp) fun g1 z1 b1 => ?_)
  replace z1 : IsZip g1 z TI TO .ellipsis := z1
  refine wpAny_bind ?_
  simp only [List.zipIdx_cons, List.zipIdx_nil, List.forIn_cons, List.forIn_nil]
  -- the first source
  refine wpAny_bind (wpAny_bind (wpAny_onRaise ?_))
  show wpAny _ _ (Builtin.SmallTypes.nextOf (.ref i1) >>= _) _ _ _
  refine wpAny_bind (N1.item (N1.mv h1 fun o e => b1.extBut _ _ D.i1z e) (N1.mvS hl1 fun o e => b1.extBut _ _ D.l1z e) hx fun g2 t2 b2 => wpAny_pure ?_)
  have p2 : IsPair g2 TO a b := b2.extBut _ _ D.TOi1 (b1.extBut _ _ D.TOz hTO)
  refine wpAny_bind (wpAny_seqItems p2 rfl ?_)
  refine wpAny_bind (wpAny_updateSeq_pair p2 fun g3 p3 b3 => ?_)
  replace p3 : IsPair g3 TO x b := p3
  refine wpAny_bind (wpAny_letGo (wpAny_pure ?_))
  -- the second one
  refine wpAny_bind (wpAny_bind (wpAny_onRaise ?_))
  show wpAny _ _ (Builtin.SmallTypes.nextOf (.ref i2) >>= _) _ _ _
  refine wpAny_bind (N2.item (N2.mv h2 fun o e => b3.extBut _ _ D.TOi2.symm (b2.extBut _ _ D.i12.symm (b1.extBut _ _ D.i2z e))) (N2.mvS hl2 fun o e => b3.extBut _ _ D.l2TO (b2.extBut _ _ D.l2i1 (b1.extBut _ _ D.l2z e))) hy fun g4 t4 b4 => wpAny_pure ?_)
  have p4 : IsPair g4 TO x b := b4.extBut _ _ D.TOi2 p3
  refine wpAny_bind (wpAny_seqItems p4 rfl ?_)
  refine wpAny_bind (wpAny_updateSeq_pair p4 fun g5 p5 b5 => ?_)
  replace p5 : IsPair g5 TO x y := p5
  refine wpAny_bind (wpAny_letGo (wpAny_pure (wpAny_pure ?_)))
  -- the pair that is handed out
  refine wpAny_bind (wpAny_seqItems p5 rfl ?_)
  refine wpAny_bind (wpAny_newTuple ?_)
  have hsz : g5.objs.size = s.heap.objs.size := by rw [b5.1, b4.1, b3.1, b2.1, b1.1]
  have z5 : IsZip g5 z TI TO .ellipsis := b5.extBut _ _ D.TOz.symm (b4.extBut _ _ D.i2z.symm (b3.extBut _ _ D.TOz.symm (b2.extBut _ _ D.i1z.symm z1)))
  have k5 : ∀ c o, c ≠ z → c ≠ TO → c ≠ i1 → c ≠ i2 → s.heap.get? c = some o → g5.get? c = some o := fun c o c1 c2 c3 c4 e => b5.extBut _ _ c2 (b4.extBut _ _ c4 (b3.extBut _ _ c2 (b2.extBut _ _ c3 (b1.extBut _ _ c1 e))))
  have s1 : st1 (k1 + 1) g5 := N1.mv t2 fun o e => b5.extBut _ _ D.TOi1.symm (b4.extBut _ _ D.i12 (b3.extBut _ _ D.TOi1.symm e))
  have s2 : st2 (k2 + 1) g5 := N2.mv t4 fun o e => b5.extBut _ _ D.TOi2.symm e
  have zlt : z < g5.objs.size := Heap.lt_size z5
  show wpAny _ _ (Builtin.SmallTypes.ownedTupleHandOut (.ref z) (.ref g5.objs.size) >>= _) _ _ _
  refine wpAny_bind ?_
  unfold Builtin.SmallTypes.ownedTupleHandOut
  have z6 : IsZip (g5.push { cls := .type "tuple", data := .seq #[x, y] }) z TI TO .ellipsis := Heap.get?_push_of_some _ z5
  refine wpAny_bind (wpAny_setField_rec z6 (by simp) fun g7 z7 b7 => ?_)
  replace z7 : IsZip g7 z TI TO (rawInt g5.objs.size) := z7
  refine wpAny_setField_rec z7 (by simp) fun g8 z8 b8 => ?_
  replace z8 : IsZip g8 z TI TO (rawInt g5.objs.size) := z8
  have up : ∀ c o, c ≠ z → g5.get? c = some o → g8.get? c = some o := fun c o c1 e => b8.extBut _ _ c1 (b7.extBut _ _ c1 (Heap.get?_push_of_some _ e))
  have p8 : IsPair g8 g5.objs.size x y := b8.extBut _ _ (Nat.ne_of_gt zlt) (b7.extBut _ _ (Nat.ne_of_gt zlt) (Heap.get?_push_size _ rfl))
  rw [hsz] at z8 p8
  refine wpAny_pure ⟨_, rfl, wpAny_pure ?_⟩
  show Q (some (.ref g5.objs.size)) _
  rw [hsz]
  exact hQ g8 z8 (up _ _ D.TOz p5) (N1.mv s1 fun o e => up _ o D.i1z e) (N2.mv s2 fun o e => up _ o D.i2z e) p8 fun c o c1 c2 c3 c4 e => up c o c1 (k5 c o c1 c2 c3 c4 e)
/-- .. and its end -/
theorem zip_end (N1 : Nx i1 l1 st1 src1) (N2 : Nx i2 l2 st2 src2) {k1 k2 : Nat} {xs ys : Array Value} {a b : Value} {Q : Option Value → Shared → Prop} (hh : A.handled = none) (D : ZipApart z TI TO i1 i2 l1 l2)
    (hz : IsZip s.heap z TI TO .none) (hTI : IsPair s.heap TI (.ref i1) (.ref i2)) (hTO : IsPair s.heap TO a b) (h1 : st1 k1 s.heap) (h2 : st2 k2 s.heap) (hl1 : src1 xs s.heap) (hl2 : src2 ys s.heap) (hend : xs[k1]? = none ∨ ys[k2]? = none)
    (hQ : ∀ h', (∀ c o, c ≠ z → c ≠ TO → c ≠ i1 → c ≠ i2 → s.heap.get? c = some o → h'.get? c = some o) → Q none { s with heap := h' }) : wpAny (model prog w) A (pyNext (.ref z)) Q E s := by
  have hT : s.TypeIs (.ref z) "zip" := ⟨_, hz, rfl⟩
  unfold pyNext
  have fin : ∀ (h' : Heap) (e : Addr), (∀ c o, c ≠ z → c ≠ TO → c ≠ i1 → c ≠ i2 → s.heap.get? c = some o → h'.get? c = some o) → (∃ o, h'.get? e = some o ∧ o.cls = .type "StopIteration") →
      wpAny (model prog w) A (isInstance (.ref e) (.type "StopIteration") >>= fun b => if b = true then pure none else throw (.ref e)) Q E { s with heap := h' } := fun h' e hk ⟨o, ho, hc⟩ =>
    wpAny_bind (wpAny_isInstance (T := "StopIteration") (b := true) ⟨o, ho, hc⟩ isSubtype_stop (wpAny_pure (hQ _ hk)))
  refine wpAny_bind (wpAny_attempt (wpAny_callSpecial?_slot (name := Str.ofString "__next__") hT F.slot_zip_next (wpAny_call_entry F.slot_zip_next hT F.entry_zip_next ?_ (F.args_zip_next_1 _))))
  show wpAny _ _ (field (.ref z) 2 >>= _) _ _ _
  refine wpAny_bind (wpAny_field hz rfl (x := .bool false) rfl ?_)
  show wpAny _ _ (field (.ref z) 3 >>= _) _ _ _
  refine wpAny_bind (wpAny_field hz rfl (x := .ref TI) rfl ?_)
  refine wpAny_bind (wpAny_seqItems hTI rfl ?_)
  show wpAny _ _ (Builtin.SmallTypes.ownedTupleIsFree (.ref z) >>= _) _ _ _
  refine wpAny_bind ?_
  unfold Builtin.SmallTypes.ownedTupleIsFree
  refine wpAny_bind (wpAny_field hz rfl (x := .none) rfl (wpAny_pure ?_))
  simp only [if_true]
  refine wpAny_bind (wpAny_rule ?_)
  refine wpAny_bind (wpAny_field hz rfl (x := .ref TO) rfl ?_)
  refine wpAny_bind (wpAny_setField_rec hz (by simp) fun g1 z1 b1 => ?_)
  replace z1 : IsZip g1 z TI TO .ellipsis := z1
  refine wpAny_bind ?_
  simp only [List.zipIdx_cons, List.zipIdx_nil, List.forIn_cons, List.forIn_nil]
  refine wpAny_bind (wpAny_bind (wpAny_onRaise ?_))
  show wpAny _ _ (Builtin.SmallTypes.nextOf (.ref i1) >>= _) _ _ _
  have u1 := N1.mv h1 fun o e => b1.extBut _ _ D.i1z e
  have v1 := N1.mvS hl1 fun o e => b1.extBut _ _ D.l1z e
  cases hx : xs[k1]? with
  | none =>
    refine wpAny_bind (N1.fin hh u1 v1 hx fun g2 e b2 he => ?_)
    obtain ⟨oe, hoe, hce⟩ := he
    have z2 : IsZip g2 z TI TO .ellipsis := b2 _ _ D.i1z.symm z1
    have ez : e ≠ z := fun x => by subst x; rw [z2] at hoe; cases hoe; simp at hce
    exact wpAny_setField_rec z2 (by simp) fun g3 _ b3 => fin g3 e (fun c o c1 _ c3 _ x => b3.extBut _ _ c1 (b2 _ _ c3 (b1.extBut _ _ c1 x))) ⟨oe, b3.extBut _ _ ez hoe, hce⟩
  | some x =>
    have hy : ys[k2]? = none := by
      rcases hend with h | h
      · rw [hx] at h; cases h
      · exact h
    refine wpAny_bind (N1.item u1 v1 hx fun g2 t2 b2 => wpAny_pure ?_)
    have p2 : IsPair g2 TO a b := b2.extBut _ _ D.TOi1 (b1.extBut _ _ D.TOz hTO)
    refine wpAny_bind (wpAny_seqItems p2 rfl ?_)
    refine wpAny_bind (wpAny_updateSeq_pair p2 fun g3 p3 b3 => ?_)
    refine wpAny_bind (wpAny_letGo (wpAny_pure ?_))
    refine wpAny_bind (wpAny_bind (wpAny_onRaise ?_))
    show wpAny _ _ (Builtin.SmallTypes.nextOf (.ref i2) >>= _) _ _ _
    refine wpAny_bind (N2.fin hh (N2.mv h2 fun o e => b3.extBut _ _ D.TOi2.symm (b2.extBut _ _ D.i12.symm (b1.extBut _ _ D.i2z e))) (N2.mvS hl2 fun o e => b3.extBut _ _ D.l2TO (b2.extBut _ _ D.l2i1 (b1.extBut _ _ D.l2z e))) hy fun g4 e b4 he => ?_)
    obtain ⟨oe, hoe, hce⟩ := he
    have z4 : IsZip g4 z TI TO .ellipsis := b4 _ _ D.i2z.symm (b3.extBut _ _ D.TOz.symm (b2.extBut _ _ D.i1z.symm z1))
    have ez : e ≠ z := fun x => by subst x; rw [z4] at hoe; cases hoe; simp at hce
    exact wpAny_setField_rec z4 (by simp) fun g5 _ b5 => fin g5 e (fun c o c1 c2 c3 c4 x => b5.extBut _ _ c1 (b4 _ _ c4 (b3.extBut _ _ c2 (b2.extBut _ _ c3 (b1.extBut _ _ c1 x))))) ⟨oe, b5.extBut _ _ ez hoe, hce⟩
end
section
variable {X : Cx} {pins : List (Addr × Obj)} {σ : St} {H : Hp} {s : Shared} {h' : Heap}
/-- untracked records of ours (iterators) have turned, a new object is laid and tracked -/
theorem Inv.turnedNew {t' : Nat} {ts : List Addr} {a : Addr} {o : HO} (I : Inv X pins σ H s) (k : ∀ b u, b ∉ ts → s.heap.get? b = some u → h'.get? b = some u) (f : ∀ b ∈ ts, FpOk X pins H b) (hp : s.heap.objs.size ≤ a)
    (new : ObjOk X.prog X.w (upd H a o) h' a o) : Inv X pins σ (upd H a o) { s with heap := h', toks := t' } := by
  have nt : ∀ b u, H b = some u → b ∉ ts := fun b u e z => by have := (f b z).1; rw [e] at this; cases this
  have na : ∀ b u, s.heap.get? b = some u → b ≠ a := fun b u e => Nat.ne_of_lt (Nat.lt_of_lt_of_le (Heap.lt_size e) hp)
  have ha : H a = none := I.hok.fresh hp
  refine I.step (g' := s.gens) (d' := s.drawn) (ch := ts) (fun b hb => ⟨(f b hb).2.2.2.1, (f b hb).2.1, (f b hb).2.2.2.2.1, (f b hb).2.2.2.2.2⟩) (fun b u _ _ hc e _ => k b u hc e) (fun b u _ _ hc e _ => ⟨u.slots, k b u hc e⟩)
    (fun b u _ e n => by rw [upd_ne (na b u e)]; exact n) (fun b u hc e => ⟨u, k b u hc e⟩) (fun b xs e => by rw [upd_ne (ne_of_none e ha)]; exact e) (fun b u xs e => by rw [upd_ne (ne_of_none e ha)]; exact e)
    (fun b ps e => ⟨#[], by rw [upd_ne (ne_of_none e ha), e]; simp⟩) (fun m hm => ?_) (fun b u e => ?_) I.bare
  · obtain ⟨ob, es, ep, ho, r⟩ := hm
    exact ⟨ob, es, ep, k _ ob (fun z => (f _ z).2.1 rfl) ho, r⟩
  · by_cases hb : b = a
    · subst hb
      rw [upd_same] at e
      cases e
      exact new
    · rw [upd_ne hb] at e
      refine (I.hok b u e).stay (fun c v hc q => k c v ?_ q) (fun c q => by rw [upd_ne (ne_of_none q ha)]; exact q) fun c xs q => by rw [upd_ne (ne_of_none q ha)]; exact q
      rcases hc with rfl | hc
      · exact nt _ _ e
      · exact nt _ _ hc
/-- untracked records of ours have turned -/
theorem Inv.turnedL {t' : Nat} {ts : List Addr} (I : Inv X pins σ H s) (k : ∀ b u, b ∉ ts → s.heap.get? b = some u → h'.get? b = some u) (f : ∀ b ∈ ts, FpOk X pins H b) : Inv X pins σ H { s with heap := h', toks := t' } := by
  have nt : ∀ b u, H b = some u → b ∉ ts := fun b u e z => by have := (f b z).1; rw [e] at this; cases this
  refine I.step (g' := s.gens) (d' := s.drawn) (ch := ts) (fun b hb => ⟨(f b hb).2.2.2.1, (f b hb).2.1, (f b hb).2.2.2.2.1, (f b hb).2.2.2.2.2⟩) (fun b u _ _ hc e _ => k b u hc e) (fun b u _ _ hc e _ => ⟨u.slots, k b u hc e⟩)
    (fun b u _ e n => n) (fun b u hc e => ⟨u, k b u hc e⟩) (fun b xs e => e) (fun b u xs e => e) (fun b ps e => ⟨#[], by rw [e]; simp⟩) (fun m hm => ?_) (fun b u e => ?_) I.bare
  · obtain ⟨ob, es, ep, ho, r⟩ := hm
    exact ⟨ob, es, ep, k _ ob (fun z => (f _ z).2.1 rfl) ho, r⟩
  · refine (I.hok b u e).stay (fun c v hc q => k c v ?_ q) (fun c q => q) fun c xs q => q
    rcases hc with rfl | hc
    · exact nt _ _ e
    · exact nt _ _ hc
end
/-! ### zip(list, tuple) is made -/
/-! ### reversed(list) -/
def Itv (K : PySem.W.Frag) (a : Addr) (n : Nat) : It :=
  ⟨fun i H => ∃ xs x, SqL K H a xs ∧ xs.length = n ∧ i < n ∧ xs[n - 1 - i]? = some x, fun i H x H' => H' = H ∧ ∀ xs, SqL K H a xs → xs[n - 1 - i]? = some x, fun i _ => i = n⟩
theorem turn_rev {P : Program} {w : World} {K : PySem.W.Frag} {tg : Expr} (a it : Addr) (n : Nat) : Turn P w K tg (Itv K a n) [it] it (fun i h => h.IsRevIter it a ((n : Int) - 1 - (i : Int))) where
  mem := by simp
  obj := fun i h st b hb => by
    have e : b = it := by simpa using hb
    subst e
    obtain ⟨o, e, c, d⟩ := st
    exact ⟨o, e, fun v z => by rw [d] at z; cases z⟩
  keep := fun i h h' st k => st.at fun o e => k it (by simp) o e
  item := by
    intro X hP hw hK hc i pins s σ H E I hf st hg
    subst hP hw hK
    obtain ⟨xs, x, hq, hn, hi, hx⟩ := hg
    obtain ⟨its, rv, p, hz⟩ := I.list hq
    obtain ⟨u, hu, ru⟩ := rv.get hx
    obtain ⟨f0, f1, f2, f3, f4, f5⟩ := hf it (by simp)
    have e1 : (n : Int) - 1 - (i : Int) = ((n - 1 - i : Nat) : Int) := by omega
    rw [e1] at st
    refine wpAny_pyNext_rev_item st p.isList (x := u) (by simpa using hu) fun h' st' sb => ?_
    have I1 : Inv X pins σ H { s with heap := h' } := I.turned (t' := s.toks) (fun b o hb e => (sb.2 b hb).trans e) f0 f1 f3 f4 f5
    have e2 : ((n - 1 - i : Nat) : Int) - 1 = (n : Int) - 1 - ((i + 1 : Nat) : Int) := by omega
    rw [e2] at st'
    obtain ⟨o, e, c, d⟩ := id st'
    exact ⟨u, rfl, go_of (s := { s with heap := h' }) e c d (by decide) ⟨x, H, I1, ru, ⟨rfl, fun ys hy => by rw [I.list_inj hy hq]; exact hx⟩, st', fun b hb => (hf b hb).1⟩⟩
  done := by
    intro X hP hw hK hc i pins s σ H E I hf st hg
    subst hP hw hK
    have hi : i = n := hg
    subst hi
    obtain ⟨f0, f1, f2, f3, f4, f5⟩ := hf it (by simp)
    have e1 : (i : Int) - 1 - (i : Int) = -1 := by omega
    rw [e1] at st
    exact wpAny_pyNext_rev_end (I.ok.hd hc) st fun h' eb => ⟨rfl, I.turned (t' := s.toks) (fun b o hb e => eb b o hb e) f0 f1 f3 f4 f5⟩
  self := fun _ _ _ _ _ st h => wpAny_pyIter_revIter st h
def iRev (K : PySem.W.Frag) (ta : TA) : TI := fun σ H R => ta σ H fun vs H1 => ∃ a xs, vs = [.ref a] ∧ SqL K H1 a xs ∧ R (Itv K a xs.length) H1
theorem pi_rev {X : Cx} {tg : Expr} {a : Expr} {ta : TA} {p pos : Pos} (hg : Gl X "reversed") (hm : X.mg "reversed" = none) (ha : PA X [a] ta) (hs : starEach [a] X.env = [(false, eval a X.env)] := by rfl) :
    PI X tg (.Call (.Name "reversed" p) [a] [] pos) (iRev X.K ta) := by
  intro pins s σ H R I h
  refine Call_ (ld_blt I hg hm boot_reversed (PyProof.Rows.callWith_type1 (thn (ha pos pins s σ H _ I h) fun us s1 ⟨vs, H1, I1, r1, q1⟩ => ?_) hs rfl))
  obtain ⟨l, xs, e, hq, q⟩ := q1
  subst e
  obtain ⟨u, rfl, ru⟩ := vals1 r1
  cases ru
  obtain ⟨its, rv, p1, _⟩ := I1.list hq
  have en : (its.toArray.size : Int) - 1 = (xs.length : Int) - 1 - ((0 : Nat) : Int) := by rw [List.size_toArray, ← rv.length]; omega
  refine call_reversed_list p1.isList ?_
  rw [en]
  have st : (s1.heap.push (revObj l ((xs.length : Int) - 1 - ((0 : Nat) : Int)))).IsRevIter s1.heap.objs.size l ((xs.length : Int) - 1 - ((0 : Nat) : Int)) := ⟨_, Heap.get?_push_size _ rfl, rfl, rfl⟩
  refine wpAny_pyIter_revIter (s := { s1 with heap := s1.heap.push (revObj l ((xs.length : Int) - 1 - ((0 : Nat) : Int))) }) st ?_
  refine ⟨_, [s1.heap.objs.size], _, _, H1, rfl, I1.kept (t' := s1.toks) fun b o e => Heap.get?_push_of_some _ e, turn_rev l _ xs.length, st, fun b hb => ?_, q⟩
  have e : b = s1.heap.objs.size := by simpa using hb
  subst e
  exact I1.fpOk (Nat.le_refl _) (I1.hok.fresh (Nat.le_refl _))
theorem for_rev {K : PySem.W.Frag} {a : Addr} {xs : List V} {g : TG} {tb : TS} {D : Ends} {σ : St} {H : Hp} (Pv : Nat → St → Hp → Prop) (h0 : Pv 0 σ H) (hl : ∀ i σ H, Pv i σ H → SqL K H a xs)
    (hs : ∀ i x σ H, i < xs.length → xs[xs.length - 1 - i]? = some x → Pv i σ H → g x σ H fun σ2 H2 => tb { D with nx := Pv (i + 1), ct := Pv (i + 1), bk := D.nx } σ2 H2) (hd : ∀ σ H, Pv xs.length σ H → D.nx σ H) :
    ∃ W : Nat → Nat → St → Hp → Prop, (∃ m, W 0 m σ H) ∧ ∀ i m σ H, W i m σ H →
      ((Itv K a xs.length).stop i H ∧ D.nx σ H) ∨ ((Itv K a xs.length).go i H ∧ ∃ N : St → Hp → Prop, (∀ σ' H', N σ' H' → ∃ m', m' < m ∧ W (i + 1) m' σ' H') ∧ ∀ x H', (Itv K a xs.length).yld i H x H' → g x σ H' fun σ2 H2 => tb { D with nx := N, ct := N, bk := D.nx } σ2 H2) := by
  refine ⟨fun i m σ H => m = xs.length - i ∧ i ≤ xs.length ∧ Pv i σ H, ⟨xs.length, by simp, Nat.zero_le _, h0⟩, ?_⟩
  rintro i m σ H ⟨rfl, hi, p⟩
  have q := hl i σ H p
  by_cases hlt : i < xs.length
  · refine .inr ⟨⟨xs, xs[xs.length - 1 - i], q, rfl, hlt, List.getElem?_eq_getElem _⟩, Pv (i + 1), fun σ' H' p' => ⟨xs.length - (i + 1), by omega, rfl, hlt, p'⟩, fun x H' y => ?_⟩
    obtain ⟨e, y⟩ := y
    subst e
    exact hs i x σ _ hlt (y xs q) p
  · have e : i = xs.length := by omega
    subst e
    exact .inl ⟨rfl, hd σ H p⟩
end L2

/-! MY RULES: a list comprehension of one clause, with no test or one. -/
namespace L2
open PySem PySem.Spec PyProof.Rows
/-- what the comprehension's own scope and the cells that it takes over must be -/
structure ClOk (X : Cx) (scope : Scope) (cl : List (Str × Addr)) : Prop where
  eq : closureFor scope X.env = pure cl
  sub : ∀ x c, cl.lookup x = some c → X.env.cells.lookup x = some c
  has : ∀ x, ((relabel scope X.env).names.lookup x = some .cell ∨ (relabel scope X.env).names.lookup x = some .free) → ∃ c, cl.lookup x = some c
  kind : scope.kind = .function
  ncell : ∀ y ∈ scope.names, y.2 ≠ .cell
  names : ∀ y ∈ scope.names, y.2 = .local → scope.names.lookup y.1 = some .local
/-- the block's context: its names, its own dict at C, the state at its entry, the iterator that it walks -/
def blk (X : Cx) (N' : List Str) (scope : Scope) (cl : List (Str × Addr)) (C : Addr) (s₀ : Shared) (H₀ : Hp) (fp : List Addr) : Cx :=
  { X with N := N', s₀ := s₀, H₀ := H₀, env := compEnvC scope cl C X.env, outer := X.stack, ex := fp, fn := fun _ => false, pn := [], xe := fun _ _ => False }
/-- the names' values at the block's entry: those that are taken over -/
def blkSt (ix : List (Option Nat)) (σ : St) : St := ix.map fun o => o.bind fun j => (σ[j]?).bind id
section
variable {X : Cx} {pins : List (Addr × Obj)} {σ : St} {H : Hp} {s : Shared} {N' : List Str} {scope : Scope} {cl : List (Str × Addr)} {fp : List Addr} {ix : List (Option Nat)}
/-- which outer slots stand for the names that are taken over -/
def IxOk (X : Cx) (N' : List Str) (scope : Scope) (ix : List (Option Nat)) : Prop :=
  ix.length = N'.length ∧ ∀ i j : Nat, ix[i]? = some (some j) → ∃ x, N'[i]? = some x ∧ X.N[j]? = some x ∧ (X.env.scope.names.lookup x = some .cell ∨ X.env.scope.names.lookup x = some .free) ∧
    ((relabel scope X.env).names.lookup x = some .cell ∨ (relabel scope X.env).names.lookup x = some .free)
theorem blk_ok (I : Inv X pins σ H s) (ck : ClOk X scope cl) (f : ∀ b ∈ fp, FpOk X pins H b) (hlt : ∀ b ∈ fp, b < s.heap.objs.size) : (blk X N' scope cl s.heap.objs.size s H fp).Ok where
  mod := I.ok.mod
  kind := ck.kind
  glob := I.ok.glob
  blt := I.ok.blt
  above := Nat.le_refl _
  inj := fun x y c h1 h2 => I.ok.inj x y c (ck.sub x c h1) (ck.sub y c h2)
  has := fun x h => ck.has x h
  cab := fun x c h => by cases h
  hd := I.ok.hd
  frames := I.ok.frames
  stk := .inl rfl
  exf := fun b hb => ⟨Nat.ne_of_lt (hlt b hb), fun x c h => (f b hb).2.2.2.2.1 x c (ck.sub x c h)⟩
  bs := I.bs
  bsz := Nat.le_trans I.ok.bsz I.sz
  noex := fun b o e hb => by
    rcases (f b hb).2.2.2.1 with z | z
    · exact I.ok.noex b o e z
    · exact absurd (Nat.lt_of_lt_of_le (Heap.lt_size (I.ok.bs b o e).1) z) (Nat.lt_irrefl _)
  exfs := fun b hb hs => by
    rcases List.mem_cons.mp (I.stkSub b hs) with z | z
    · exact (f b hb).2.1 z
    · exact (f b hb).2.2.1 z
  funs := I.stack
  frf := I.stkFree
theorem blk_start (I : Inv X pins σ H s) (ck : ClOk X scope cl) (io : IxOk X N' scope ix) (f : ∀ b ∈ fp, FpOk X pins H b) (hlt : ∀ b ∈ fp, b < s.heap.objs.size) {h' : Heap} {m : Str → Option Value} {t' : Nat}
    (hn : h'.Ns s.heap.objs.size m) (k : ∀ b o, s.heap.get? b = some o → h'.get? b = some o) : Inv (blk X N' scope cl s.heap.objs.size s H fp) [] (blkSt ix σ) H { s with heap := h', toks := t' } := by
  have cl' : ∀ x c, cl.lookup x = some c → ∃ v, s.heap.IsCell c v := fun x c h => I.cell x c (ck.sub x c h)
  refine ⟨blk_ok I ck f hlt, rfl, I.bare, Un.kept k, ⟨m, hn, fun i x v e1 e2 e3 => ?_⟩, fun x c e => ?_, I.hok.fresh (Nat.le_refl _), fun x c e => I.freeC x c (ck.sub x c e), (fun p hp => by cases hp), I.hok.kept k, ?_⟩
  · unfold blkSt at e2
    rw [List.getElem?_map] at e2
    cases hi : ix[i]? with
    | none => rw [hi] at e2; cases e2
    | some o =>
      rw [hi] at e2
      cases o with
      | none => cases Option.some.inj e2
      | some j =>
        have e2' : (σ[j]?).bind id = some v := Option.some.inj e2
        obtain ⟨x', n1, n2, k1, k2⟩ := io.2 i j hi
        have ex : x' = x := Option.some.inj (n1.symm.trans e1)
        subst ex
        have es : σ[j]? = some (some v) := by
          cases q : σ[j]? with
          | none => rw [q] at e2'; cases e2'
          | some w =>
            rw [q] at e2'
            exact congrArg some e2'
        obtain ⟨m0, _, hl⟩ := I.loc
        obtain ⟨u, ru, lo⟩ := hl j x' v n2 es (k1.elim (fun z => .inr (.inl z)) fun z => .inr (.inr z))
        refine ⟨u, ru, .inr ⟨k2, ?_⟩⟩
        obtain ⟨c, hc⟩ := ck.has x' k2
        refine ⟨c, hc, ?_⟩
        rcases lo with ⟨z, _⟩ | ⟨_, c', hc', ic⟩
        · exfalso
          have z' : X.env.scope.names.lookup x' = some .local := z
          rcases k1 with k1 | k1 <;> (rw [z'] at k1; cases k1)
        · have ec : c' = c := Option.some.inj (hc'.symm.trans (ck.sub x' c hc))
          subst ec
          obtain ⟨o, ho, hd⟩ := ic
          exact ⟨o, k _ _ ho, hd⟩
  · obtain ⟨v, o, ho, hd⟩ := cl' x c e
    exact ⟨v, o, k _ _ ho, hd⟩
  · unfold blkSt
    rw [List.length_map]
    exact io.1
/-- behind the block: the frame's own words stand again -/
theorem blk_end (I : Inv X pins σ H s) (f : ∀ b ∈ fp, FpOk X pins H b) {σ' : St} {H' : Hp} {s' : Shared} {pl : List (Addr × Obj)} (J : Inv (blk X N' scope cl s.heap.objs.size s H fp) pl σ' H' s') {h' : Heap} (sb : Heap.SameBut s.heap.objs.size s'.heap h') :
    Inv X pins σ H' { s' with heap := h' } := by
  have nC : ∀ b o, s.heap.get? b = some o → b ≠ s.heap.objs.size := fun b o e => Nat.ne_of_lt (Heap.lt_size e)
  have hC : H' s.heap.objs.size = none := J.free
  have u : Un (frs X.stack) fp H H' s.heap s'.heap := J.base
  refine I.call' (ch := fp) (s' := { s' with heap := h' }) J.os ⟨fun b o e n hb hx => (sb.2 b (nC b o e)).trans (u.keep b o e n hb hx), fun b o e n hb hx => ?_, u.free, fun b o e hx => ?_, u.tups, u.frzs, u.tbls⟩ (fun b o e => ?_) J.bare
    (fun b hb => ⟨(f b hb).2.2.2.1, (f b hb).2.1, (f b hb).2.2.2.2.1, (f b hb).2.2.2.2.2⟩)
  · obtain ⟨sl, q⟩ := u.slot b o e n hb hx
    exact ⟨sl, (sb.2 b (nC b o e)).trans q⟩
  · obtain ⟨o', q⟩ := u.there b o e hx
    exact ⟨o', (sb.2 b (nC b o e)).trans q⟩
  · refine (J.hok b o e).stay (fun c v hc q => (sb.2 c ?_).trans q) (fun c q => q) fun c xs q => q
    rcases hc with rfl | hc
    · exact ne_of_none e hC
    · exact ne_of_none hc hC
end
/-- what the one knows the other one knows too -/
def StKeep : St → St → Prop
  | [], _ => True
  | none :: r, _ :: r' => StKeep r r'
  | none :: r, [] => StKeep r []
  | some v :: r, w :: r' => w = some v ∧ StKeep r r'
  | some _ :: _, [] => False
theorem StKeep.get : ∀ {a b : St}, StKeep a b → ∀ (j : Nat) v, a[j]? = some (some v) → b[j]? = some (some v)
  | [], _, _, _, _, e => by simp at e
  | none :: r, _ :: r', h, 0, v, e => by simp at e
  | none :: r, _ :: r', h, j + 1, v, e => by simpa using StKeep.get (a := r) (b := r') h j v (by simpa using e)
  | none :: r, [], h, 0, v, e => by simp at e
  | none :: r, [], h, j + 1, v, e => by have := StKeep.get (a := r) (b := []) h j v (by simpa using e); simp at this
  | some w :: r, _ :: r', h, 0, v, e => by
    have e' : w = v := by simpa using e
    subst e'
    simpa using h.1
  | some _ :: r, _ :: r', h, j + 1, v, e => by simpa using StKeep.get (a := r) (b := r') h.2 j v (by simpa using e)
section
variable {X : Cx}
/-- [elt for tg in iter]: D the list that grows -/
def tComp (ix : List (Option Nat)) (wi : TI) (g : TG) (te : TE) : TE := fun σ H Q => wi σ H fun J H1 => ∀ D, H1 D = none → ∃ W : Nat → Nat → Hp → Prop, (∃ m, W 0 m (upd H1 D (.lst []))) ∧ ∀ i m H2, W i m H2 →
  (J.stop i H2 ∧ Q (.ref D) H2) ∨ (J.go i H2 ∧ ∃ N : VK, (∀ y H5, N y H5 → ∃ xs, H5 D = some (.lst xs) ∧ xs.length < sizeLine ∧ ∃ m', m' < m ∧ W (i + 1) m' (upd H5 D (.lst (xs ++ [y])))) ∧ ∀ x H3, J.yld i H2 x H3 → g x (blkSt ix σ) H3 fun σ4 H4 => StKeep (blkSt ix σ) σ4 ∧ te σ4 H4 N)
theorem pe_comp {elt iter tg : Expr} {scope : Scope} {pos : Pos} {N' : List Str} {ix : List (Option Nat)} {cl : List (Str × Addr)} {wi : TI} {g : TG} {te : TE} (hc : X.calm = true) (ck : ClOk X scope cl) (io : IxOk X N' scope ix) (hi : PI X tg iter wi)
    (hg : ∀ C s₀ H₀ fp, PG (blk X N' scope cl C s₀ H₀ fp) tg g) (he : ∀ C s₀ H₀ fp, PE (blk X N' scope cl C s₀ H₀ fp) elt te) (hs : ∀ x, foldedSetIterable iter X.env x = pure x := by intro _; rfl) :
    PE X (.ListComp elt [⟨tg, iter, [], 0⟩] scope pos) (tComp ix wi g te) := by
  intro pins s σ H Q I h
  rw [eval_ListComp]
  refine wpAny_comprehension_free (use := none) rfl hs ck.eq ck.kind ck.names (thn (hi pins s σ H _ I h) fun xv s1 h1 => thn h1 fun itv s2 h2 => ?_)
  obtain ⟨it, fp, tn, J, H1, rfl, I1, T, st1, f1, R⟩ := h2
  -- the list
  refine wpAny_newObj_type ?_
  have hD : H1 s2.heap.objs.size = none := I1.hok.fresh (Nat.le_refl _)
  obtain ⟨W, ⟨m0, w0⟩, turn⟩ := R _ hD
  have hfD : ∀ b ∈ fp, b < s2.heap.objs.size := fun b hb => let ⟨o, e, _⟩ := T.obj _ _ st1 b hb; Heap.lt_size e
  have I2 : Inv X pins σ (upd H1 s2.heap.objs.size (.lst [])) { s2 with heap := s2.heap.push { cls := .type "list", data := .seq ([] : List Value).toArray }, toks := s2.toks } := I1.lnew (its := []) .nil (Nat.zero_le _)
  have f2 : ∀ b ∈ fp, FpOk X pins (upd H1 s2.heap.objs.size (.lst [])) b := fun b hb => ⟨by rw [upd_ne (Nat.ne_of_lt (hfD b hb))]; exact (f1 b hb).1, (f1 b hb).2⟩
  have lt2 : ∀ b ∈ fp, b < (s2.heap.push { cls := .type "list", data := .seq ([] : List Value).toArray }).objs.size := fun b hb => by rw [Heap.size_push]; exact Nat.lt_succ_of_lt (hfD b hb)
  -- the block's own dict
  refine wpAny_newFunctionEnv ck.ncell (by intro y hy; simp at hy) (fun h3 hns sb3 => ?_) ck.kind
  dsimp only at hns sb3 ⊢
  have k3 : ∀ b o, (s2.heap.push { cls := .type "list", data := .seq ([] : List Value).toArray }).get? b = some o → h3.get? b = some o := fun b o e => (sb3.2 b (Nat.ne_of_lt (Heap.lt_size e))).trans (Heap.get?_push_of_some _ e)
  generalize hs2 : ({ s2 with heap := s2.heap.push { cls := .type "list", data := .seq ([] : List Value).toArray }, toks := s2.toks } : Shared) = s3 at I2
  have e3 : s2.heap.push { cls := .type "list", data := .seq ([] : List Value).toArray } = s3.heap := by rw [← hs2]
  rw [e3] at hns k3 lt2
  have I3 := blk_start (N' := N') (ix := ix) I2 ck io f2 lt2 (h' := h3) (t' := s2.toks + ([] : List (Str × Value)).length) hns k3
  have e4 : ({ s3 with heap := h3, toks := s2.toks + ([] : List (Str × Value)).length } : Shared) = { s2 with heap := h3, toks := s2.toks + ([] : List (Str × Value)).length } := by rw [← hs2]
  rw [e4] at I3
  have st3 : tn 0 h3 := T.keep _ _ _ st1 fun b hb o e => k3 b o (by rw [← e3]; exact Heap.get?_push_of_some _ e)
  have loop : ∀ s4 : Shared, s4 = { s2 with heap := h3, toks := s2.toks + ([] : List (Str × Value)).length } →
      codeAny (model X.prog X.w) X.A (.compLoop (.ListComp elt [⟨tg, iter, [], 0⟩] scope pos) 0 (.ref it) (.ref s2.heap.objs.size) (compEnvC scope cl s3.heap.objs.size X.env))
        (compPost (model X.prog X.w) X.A X.xe none (EP X pins σ Q) (.ref s2.heap.objs.size) s3.heap.objs.size) s4 := by
    rintro s4 rfl
    have stat : ∀ {H' : Hp}, (∀ b ∈ fp, H' b = none) → ∀ b ∈ fp, FpOk (blk X N' scope cl s3.heap.objs.size s3 (upd H1 s2.heap.objs.size (.lst [])) fp) [] H' b := fun hn b hb =>
      ⟨hn b hb, Nat.ne_of_lt (lt2 b hb), fun hs => I3.ok.exfs b hb hs, .inl hb, fun x c e => (f2 b hb).2.2.2.2.1 x c (ck.sub x c e), (fun p hp => by cases hp)⟩
    refine codeAny_loop rfl (fun n s' => ∃ i σ' H', Inv (blk X N' scope cl s3.heap.objs.size s3 (upd H1 s2.heap.objs.size (.lst [])) fp) [] σ' H' s' ∧ (∀ (j : Nat) v, (blkSt ix σ)[j]? = some (some v) → σ'[j]? = some (some v)) ∧ tn i s'.heap ∧ (∀ b ∈ fp, H' b = none) ∧ W i n H')
      (fun n s' hI => ?_) m0 ⟨0, _, _, I3, fun _ _ z => z, st3, fun b hb => (f2 b hb).1, w0⟩
    obtain ⟨i, σ5, H5, I5, wk, st5, fr5, w5⟩ := hI
    show wpAny _ _ ((compTurn (.ListComp elt [⟨tg, iter, [], 0⟩] scope pos) 0 (.ref it) (.ref s2.heap.objs.size) (compEnvC scope cl s3.heap.objs.size X.env)).onRaise (fun x => do noteFrame x (compEnvC scope cl s3.heap.objs.size X.env); theTreesLotGoes x)) _ _ s'
    refine wpAny_noted ?_
    rw [compTurn_list1]
    refine wpAny_bind (wpAny_standAt ?_)
    rcases turn i n H5 w5 with ⟨stop, qn⟩ | ⟨go, NN, hNN, step⟩
    · refine wpAny_bind (wpAny_mono (T.done (blk X N' scope cl s3.heap.objs.size s3 (upd H1 s2.heap.objs.size (.lst [])) fp) rfl rfl rfl hc i [] s' σ5 H5 (fun _ _ => False) I5 (stat fr5) st5 stop) (fun r s6 h6 => ?_) fun _ _ z => z.elim)
      obtain ⟨rfl, I6⟩ := h6
      refine wpAny_pure ?_
      obtain ⟨mm, hm, _⟩ := id I6.loc
      exact ⟨mm, hm, fun h' sb => ⟨.ref s2.heap.objs.size, H5, blk_end I2 f2 I6 sb, rfl, qn⟩⟩
    · refine wpAny_bind (wpAny_mono (T.item (blk X N' scope cl s3.heap.objs.size s3 (upd H1 s2.heap.objs.size (.lst [])) fp) rfl rfl rfl hc i [] s' σ5 H5 (fun _ _ => False) I5 (stat fr5) st5 go) (fun r s6 h6 => ?_) fun _ _ z => z.elim)
      obtain ⟨u, rfl, h6⟩ := h6
      refine wpAny_bind (wpAny_mono h6 (fun _ s7 h7 => ?_) fun _ _ z => z.elim)
      obtain ⟨x, H7, I7, r7, y7, st7, fr7⟩ := h7
      have I7w : Inv (blk X N' scope cl s3.heap.objs.size s3 (upd H1 s2.heap.objs.size (.lst [])) fp) [] (blkSt ix σ) H7 s7 := I7.weak (by rw [I7.len]; unfold blkSt; rw [List.length_map]; exact io.1) wk
      have I7p := I7w.pinned (stat fr7) (T.obj _ _ st7)
      refine wpAny_bind (wpAny_mono (hg _ _ _ _ _ s7 _ H7 x u _ I7p r7 (step x H7 y7)) (fun _ s8 h8 => ?_) fun _ _ z => z.elim)
      obtain ⟨σ8, H8, I8, kp8, q8⟩ := h8
      refine wpAny_bind (wpAny_bind (wpAny_mono (he _ _ _ _ _ s8 σ8 H8 _ I8 q8) (fun yv s9 h9 => ?_) fun _ _ z => z.elim))
      obtain ⟨y, H9, I9, r9, n9⟩ := h9
      obtain ⟨xs, hx9, hz9, m', hm', w9⟩ := hNN _ _ n9
      refine wpAny_bind (wpAny_mono (mt_append (X := blk X N' scope cl s3.heap.objs.size s3 (upd H1 s2.heap.objs.size (.lst [])) fp) _ s9 σ8 H9 (.ref s2.heap.objs.size) [y] (.ref s2.heap.objs.size) [yv] (fun _ H' => W (i + 1) m' H') I9 rfl (.cons r9 .nil) ⟨_, xs, y, rfl, rfl, hx9, hz9, w9⟩) (fun _ s10 h10 => ?_) fun _ _ z => z.elim)
      obtain ⟨_, H10, I10, _, w10⟩ := h10
      refine wpAny_pure (wpAny_pure ⟨rfl, m', hm', i + 1, σ8, H10, I10.unpinned, ?_, T.keep _ _ _ st7 fun b hb o e => (I10.pin (b, o) (List.mem_append_right _ (List.mem_append_right _ (mem_pinsAt hb e)))).1, fun b hb => ?_, w10⟩)
      · exact kp8.get
      · obtain ⟨o, e, d⟩ := T.obj _ _ st7 b hb
        exact (I10.pin (b, o) (List.mem_append_right _ (List.mem_append_right _ (mem_pinsAt hb e)))).2.1
  have e5 : s3.heap.objs.size = (s2.heap.push { cls := .type "list", data := .seq ([] : List Value).toArray }).objs.size := by rw [e3]
  rw [e5] at loop
  exact codeAny_compStart_list (loop _ rfl) (T.self X.A 0 _ _ _ st3 (loop _ rfl))
end
end L2

/-! MY RULES: a method by the object's own class; data (ints, texts, tuples, lists within one another) and their ==; texts; comprehensions over lists and tuples. -/
namespace L2
open PySem PySem.Spec PyProof.Rows
/-! ### o.m(..), the class and the method found where the object stands -/
section
variable {X : Cx} {m : Str} {pos apos : Pos} {e o : Expr} {es : List Expr} {ta : TE} {t : TA}
end
/-! ### data -/
mutual
inductive Rep (H : Hp) : V → PyData → Prop
  | non : Rep H .non .none
  | bl (b : Bool) : Rep H (.bl b) (.bool b)
  | int (i : Int) : Rep H (.int i) (.int i)
  | str (x : Str) : Rep H (.str x) (.str x)
  | lst {p : Addr} {xs : List V} {ds : List PyData} : H p = some (.lst xs) → Reps H xs ds → Rep H (.ref p) (.list ds)
  | tup {p : Addr} {xs : List V} {ds : List PyData} : H p = some (.tup xs) → Reps H xs ds → Rep H (.ref p) (.tuple ds)
inductive Reps (H : Hp) : List V → List PyData → Prop
  | nil : Reps H [] []
  | cons {v : V} {vs : List V} {d : PyData} {ds : List PyData} : Rep H v d → Reps H vs ds → Reps H (v :: vs) (d :: ds)
end
mutual
theorem Rep.imp {H H' : Hp} (f : ∀ p o, H p = some o → H' p = some o) : ∀ {v : V} {d : PyData}, Rep H v d → Rep H' v d
  | _, _, .non => .non
  | _, _, .bl b => .bl b
  | _, _, .int i => .int i
  | _, _, .str x => .str x
  | _, _, .lst e r => .lst (f _ _ e) (Reps.imp f r)
  | _, _, .tup e r => .tup (f _ _ e) (Reps.imp f r)
theorem Reps.imp {H H' : Hp} (f : ∀ p o, H p = some o → H' p = some o) : ∀ {vs : List V} {ds : List PyData}, Reps H vs ds → Reps H' vs ds
  | _, _, .nil => .nil
  | _, _, .cons a r => .cons (Rep.imp f a) (Reps.imp f r)
end
theorem Rep.same {H H' : Hp} {v : V} {d : PyData} (h : Rep H v d) (s : Same H H') : Rep H' v d := h.imp s
theorem Reps.same {H H' : Hp} {v : List V} {d : List PyData} (h : Reps H v d) (s : Same H H') : Reps H' v d := h.imp s
theorem Reps.len {H : Hp} : ∀ {vs : List V} {ds : List PyData}, Reps H vs ds → vs.length = ds.length
  | _, _, .nil => rfl
  | _, _, .cons _ r => by rw [List.length_cons, List.length_cons, Reps.len r]
theorem Reps.snoc {H : Hp} {v : V} {d : PyData} (a : Rep H v d) : ∀ {vs : List V} {ds : List PyData}, Reps H vs ds → Reps H (vs ++ [v]) (ds ++ [d])
  | _, _, .nil => .cons a .nil
  | _, _, .cons b r => .cons b (Reps.snoc a r)
theorem Reps.append {H : Hp} : ∀ {vs ws : List V} {ds es : List PyData}, Reps H vs ds → Reps H ws es → Reps H (vs ++ ws) (ds ++ es)
  | _, _, _, _, .nil, s => s
  | _, _, _, _, .cons a r, s => .cons a (Reps.append r s)
theorem Reps.strs {H : Hp} : ∀ xs : List Str, Reps H (xs.map V.str) (xs.map PyData.str)
  | [] => .nil
  | x :: r => .cons (.str x) (Reps.strs r)
section
variable {X : Cx} {pins : List (Addr × Obj)} {σ : St} {H : Hp} {s : Shared}
mutual
theorem rep_reads (I : Inv X pins σ H s) : ∀ {v : V} {d : PyData} {u : Value}, Rep H v d → RelV v u → ∃ as, Reads s.heap u d as
  | _, _, u, .non, r => by cases (show u = Value.none from r); exact ⟨_, .none⟩
  | _, _, u, .bl b, r => by cases (show u = Value.bool b from r); exact ⟨_, .bool b⟩
  | _, _, u, .int i, r => by obtain ⟨t, q⟩ := (show ∃ t, u = Value.int i t from r); cases q; exact ⟨_, .int i t⟩
  | _, _, u, .str x, r => by obtain ⟨t, q⟩ := (show ∃ t, u = Value.str x t from r); cases q; exact ⟨_, .str x t⟩
  | _, _, u, @Rep.lst _ p xs ds e q, r => by
    cases (show u = Value.ref p from r)
    obtain ⟨_, its, n, rv, ho⟩ := (show ObjOk X.prog X.w H s.heap p (.lst xs) from I.hok p _ e)
    obtain ⟨as, z⟩ := reps_reads I q rv
    exact ⟨_, Reads.list ho rfl rfl (by simpa using z)⟩
  | _, _, u, @Rep.tup _ p xs ds e q, r => by
    cases (show u = Value.ref p from r)
    obtain ⟨_, its, rv, o, ho, hc, n, hd⟩ := (show ObjOk X.prog X.w H s.heap p (.tup xs) from I.hok p _ e)
    obtain ⟨as, z⟩ := reps_reads I q rv
    exact ⟨_, Reads.tuple ho hc hd (by simpa using z)⟩
theorem reps_reads (I : Inv X pins σ H s) : ∀ {vs : List V} {ds : List PyData} {us : List Value}, Reps H vs ds → Vals vs us → ∃ as, ReadsAll s.heap us ds as
  | _, _, _, .nil, .nil => ⟨_, .nil⟩
  | _, _, _, .cons a r, .cons q rv => by
    obtain ⟨as, z⟩ := rep_reads I a q
    obtain ⟨bs, y⟩ := reps_reads I r rv
    exact ⟨_, .cons z y⟩
end
end
/-- == and != of data -/
def rEqD (neg : Bool) : R2 := fun x y H Q => ∃ d e, Rep H x d ∧ Rep H y e ∧ SeqAt.shaped d = true ∧ SeqAt.shaped e = true ∧ Q (.bl (if neg then !PyData.eqv d e else PyData.eqv d e)) H
section
variable {X : Cx}
theorem op_eqD (hu : X.A.units + 64 < cLine) : OpR X (compareOp .Eq) (rEqD false) := by
  intro pins s σ H x y v u Q I rx ry h
  obtain ⟨d, e, h1, h2, s1, s2, q⟩ := h
  obtain ⟨as, r1⟩ := rep_reads I h1 rx
  obtain ⟨bs, r2⟩ := rep_reads I h2 ry
  exact eq_dataH r1 r2 s1 s2 hu ⟨.bl (PyData.eqv d e), H, I, rfl, q⟩
theorem op_neD (hu : X.A.units + 64 < cLine) : OpR X (compareOp .NotEq) (rEqD true) := by
  intro pins s σ H x y v u Q I rx ry h
  obtain ⟨d, e, h1, h2, s1, s2, q⟩ := h
  obtain ⟨as, r1⟩ := rep_reads I h1 rx
  obtain ⟨bs, r2⟩ := rep_reads I h2 ry
  exact ne_dataH r1 r2 s1 s2 hu ⟨.bl (!PyData.eqv d e), H, I, rfl, q⟩
/-! ### texts -/
/-- s[lo:hi] -/
def rSlS : V → Option Int → Option Int → Hp → VK → Prop := fun x lo hi H Q => ∃ z, x = .str z ∧ z.length ≤ sizeLine ∧ Q (.str (Txt.slice z lo hi)) H
theorem sl_str : SlR X rSlS := by
  intro pins s σ H x v vl vu lo hi sl Q I rx hs pl pu h
  obtain ⟨z, rfl, hz, q⟩ := h
  obtain ⟨t, rfl⟩ := (show ∃ t, v = Value.str z t from rx)
  refine ⟨"str", _, F.slot_str_getitem.lookup, typeIs_str _ _ _, ?_⟩
  obtain ⟨ob, ho, hc, hd⟩ := hs
  have fin : ∀ t' k, EP X pins σ Q (.str (Txt.slice z lo hi) t') { s with toks := k } := fun t' k => ⟨.str (Txt.slice z lo hi), H, I.tok k, ⟨t', rfl⟩, q⟩
  cases pl with
  | none =>
    cases pu with
    | none => exact wpAny_getItem_str_slice (l := none) (u := none) (st := none) ⟨ob, ho, hc, hd⟩ rfl (post_val_or_str ⟨Nat.le_trans (Txt.slice_le z _ _) hz, fin⟩)
    | int j uj => exact wpAny_getItem_str_slice (l := none) (u := some (j, uj)) (st := none) ⟨ob, ho, hc, hd⟩ rfl (post_val_or_str ⟨Nat.le_trans (Txt.slice_le z _ _) hz, fin⟩)
  | int i ui =>
    cases pu with
    | none => exact wpAny_getItem_str_slice (l := some (i, ui)) (u := none) (st := none) ⟨ob, ho, hc, hd⟩ rfl (post_val_or_str ⟨Nat.le_trans (Txt.slice_le z _ _) hz, fin⟩)
    | int j uj => exact wpAny_getItem_str_slice (l := some (i, ui)) (u := some (j, uj)) (st := none) ⟨ob, ho, hc, hd⟩ rfl (post_val_or_str ⟨Nat.le_trans (Txt.slice_le z _ _) hz, fin⟩)
end
/-! ### comprehensions -/
theorem clok_none {X : Cx} {scope : Scope} (hk : scope.kind = .function) (hn : ∀ y ∈ scope.names, y.2 ≠ .free ∧ y.2 ≠ .cell) (hl : ∀ y ∈ scope.names, y.2 = .local → scope.names.lookup y.1 = some .local) : ClOk X scope [] where
  eq := closureFor_none fun y hy => (hn y hy).1
  sub := fun x c h => by cases h
  has := fun x h => by
    exfalso
    have e : (relabel scope X.env).names = scope.names := map_eq_self fun y hy => by
      obtain ⟨n, k⟩ := y
      have z := (hn _ hy).1
      have z' : (k == NameKind.free) = false := by simpa using z
      simp [z']
    rw [e] at h
    have mem : ∀ {k : NameKind}, scope.names.lookup x = some k → (x, k) ∈ scope.names := fun {k} q => by
      generalize scope.names = l at q
      induction l with
      | nil => cases q
      | cons a r ih =>
        obtain ⟨n, k'⟩ := a
        rw [List.lookup_cons] at q
        split at q
        · rename_i hb
          have hb' : x = n := by simpa using hb
          cases q
          subst hb'
          exact .head _
        · exact .tail _ (ih q)
    rcases h with h | h
    · exact (hn _ (mem h)).2 rfl
    · exact (hn _ (mem h)).1 rfl
  kind := hk
  ncell := fun y hy => (hn y hy).2
  names := hl
theorem ixok_none {X : Cx} {N' : List Str} {scope : Scope} {n : Nat} (h : n = N'.length) : IxOk X N' scope (List.replicate n none) := ⟨by rw [List.length_replicate]; exact h, fun i j e => by
  rw [List.getElem?_replicate] at e
  split at e <;> cases e⟩
section
variable {K : PySem.W.Frag} {a D : Addr} {xs : List V} {g : TG} {te : TE} {Q : VK} {σ₀ : St} {H : Hp}
theorem comp_list (Pv : Nat → List V → Hp → Prop) (h0 : Pv 0 [] (upd H D (.lst []))) (hl : ∀ i ys H, Pv i ys H → SqL K H a xs)
    (hs : ∀ i x ys H, xs[i]? = some x → Pv i ys H → g x σ₀ H fun σ4 H4 => StKeep σ₀ σ4 ∧ te σ4 H4 fun y H5 => H5 D = some (.lst ys) ∧ ys.length < sizeLine ∧ Pv (i + 1) (ys ++ [y]) (upd H5 D (.lst (ys ++ [y])))) (hd : ∀ ys H, Pv xs.length ys H → Q (.ref D) H) :
    ∃ W : Nat → Nat → Hp → Prop, (∃ m, W 0 m (upd H D (.lst []))) ∧ ∀ i m H2, W i m H2 →
      ((Itl K a).stop i H2 ∧ Q (.ref D) H2) ∨ ((Itl K a).go i H2 ∧ ∃ N : VK, (∀ y H5, N y H5 → ∃ xs, H5 D = some (.lst xs) ∧ xs.length < sizeLine ∧ ∃ m', m' < m ∧ W (i + 1) m' (upd H5 D (.lst (xs ++ [y])))) ∧
        ∀ x H3, (Itl K a).yld i H2 x H3 → g x σ₀ H3 fun σ4 H4 => StKeep σ₀ σ4 ∧ te σ4 H4 N) := by
  refine ⟨fun i m H => m = xs.length - i ∧ i ≤ xs.length ∧ ∃ ys, Pv i ys H, ⟨xs.length, by simp, Nat.zero_le _, [], h0⟩, ?_⟩
  rintro i m H2 ⟨rfl, hi, ys, p⟩
  have q := hl i ys H2 p
  by_cases hlt : i < xs.length
  · refine .inr ⟨⟨xs, xs[i], q, by simp [hlt]⟩, fun y H5 => H5 D = some (.lst ys) ∧ ys.length < sizeLine ∧ Pv (i + 1) (ys ++ [y]) (upd H5 D (.lst (ys ++ [y]))), fun y H5 n => ⟨ys, n.1, n.2.1, xs.length - (i + 1), by omega, rfl, hlt, _, n.2.2⟩, fun x H3 z => ?_⟩
    obtain ⟨e, z⟩ := z
    subst e
    exact hs i x ys _ (z xs q) p
  · have e : i = xs.length := by omega
    subst e
    exact .inl ⟨⟨xs, q, Nat.le_refl _⟩, hd ys H2 p⟩
theorem comp_tup (Pv : Nat → List V → Hp → Prop) (h0 : Pv 0 [] (upd H D (.lst []))) (hl : ∀ i ys H, Pv i ys H → SqT K H a xs)
    (hs : ∀ i x ys H, xs[i]? = some x → Pv i ys H → g x σ₀ H fun σ4 H4 => StKeep σ₀ σ4 ∧ te σ4 H4 fun y H5 => H5 D = some (.lst ys) ∧ ys.length < sizeLine ∧ Pv (i + 1) (ys ++ [y]) (upd H5 D (.lst (ys ++ [y])))) (hd : ∀ ys H, Pv xs.length ys H → Q (.ref D) H) :
    ∃ W : Nat → Nat → Hp → Prop, (∃ m, W 0 m (upd H D (.lst []))) ∧ ∀ i m H2, W i m H2 →
      ((Itt K a).stop i H2 ∧ Q (.ref D) H2) ∨ ((Itt K a).go i H2 ∧ ∃ N : VK, (∀ y H5, N y H5 → ∃ xs, H5 D = some (.lst xs) ∧ xs.length < sizeLine ∧ ∃ m', m' < m ∧ W (i + 1) m' (upd H5 D (.lst (xs ++ [y])))) ∧
        ∀ x H3, (Itt K a).yld i H2 x H3 → g x σ₀ H3 fun σ4 H4 => StKeep σ₀ σ4 ∧ te σ4 H4 N) := by
  refine ⟨fun i m H => m = xs.length - i ∧ i ≤ xs.length ∧ ∃ ys, Pv i ys H, ⟨xs.length, by simp, Nat.zero_le _, [], h0⟩, ?_⟩
  rintro i m H2 ⟨rfl, hi, ys, p⟩
  have q := hl i ys H2 p
  by_cases hlt : i < xs.length
  · refine .inr ⟨⟨xs, xs[i], q, by simp [hlt]⟩, fun y H5 => H5 D = some (.lst ys) ∧ ys.length < sizeLine ∧ Pv (i + 1) (ys ++ [y]) (upd H5 D (.lst (ys ++ [y]))), fun y H5 n => ⟨ys, n.1, n.2.1, xs.length - (i + 1), by omega, rfl, hlt, _, n.2.2⟩, fun x H3 z => ?_⟩
    obtain ⟨e, z⟩ := z
    subst e
    exact hs i x ys _ (z xs q) p
  · have e : i = xs.length := by omega
    subst e
    exact .inl ⟨⟨xs, q, Nat.le_refl _⟩, hd ys H2 p⟩
end
end L2

/-! MY RULES: a comprehension that takes one name over; range(a, b, c). -/
namespace L2
open PySem PySem.Spec PyProof.Rows
theorem lookup_mem {x : Str} {k : NameKind} : ∀ {l : List (Str × NameKind)}, l.lookup x = some k → (x, k) ∈ l
  | [], q => by cases q
  | (n, k') :: r, q => by
    rw [List.lookup_cons] at q
    split at q
    · rename_i hb
      have hb' : x = n := by simpa using hb
      cases q
      subst hb'
      exact .head _
    · exact .tail _ (lookup_mem q)
theorem clok_one {X : Cx} {scope : Scope} {x : Str} {c : Addr} (he : closureFor scope X.env = pure [(x, c)]) (hc : X.env.cells.lookup x = some c) (hk : scope.kind = .function) (hn : ∀ y ∈ scope.names, y.2 ≠ .cell ∧ (y.2 = .free → y.1 = x))
    (hl : ∀ y ∈ scope.names, y.2 = .local → scope.names.lookup y.1 = some .local) : ClOk X scope [(x, c)] where
  eq := he
  sub := fun y d h => by
    rw [List.lookup_cons] at h
    split at h
    · rename_i hb
      have hb' : y = x := by simpa using hb
      cases h
      subst hb'
      exact hc
    · cases h
  has := fun y h => by
    have key : y = x := by
      have m : ∃ k, (y, k) ∈ (relabel scope X.env).names ∧ (k = .cell ∨ k = .free) := h.elim (fun z => ⟨_, lookup_mem z, .inl rfl⟩) fun z => ⟨_, lookup_mem z, .inr rfl⟩
      obtain ⟨k, hm, hk⟩ := m
      obtain ⟨⟨n, k0⟩, h0, e⟩ := List.mem_map.mp hm
      dsimp only at e
      by_cases hf : k0 = .free
      · have en : n = y := by
          split at e
          · exact congrArg Prod.fst e
          · exact congrArg Prod.fst e
        rw [← en]
        exact (hn _ h0).2 hf
      · have hb : (k0 == NameKind.free) = false := by simpa using hf
        simp only [hb, Bool.false_and, Bool.false_eq_true, if_false] at e
        have e2 : k0 = k := congrArg Prod.snd e
        subst e2
        rcases hk with hk | hk
        · exact absurd hk (hn _ h0).1
        · exact absurd hk hf
    subst key
    exact ⟨c, by simp [List.lookup_cons]⟩
  kind := hk
  ncell := fun y hy => (hn y hy).1
  names := hl
theorem ixok_last {X : Cx} {N0 : List Str} {x : Str} {scope : Scope} {j : Nat} (hN : X.N[j]? = some x) (h1 : X.env.scope.names.lookup x = some .cell ∨ X.env.scope.names.lookup x = some .free)
    (h2 : (relabel scope X.env).names.lookup x = some .cell ∨ (relabel scope X.env).names.lookup x = some .free) : IxOk X (N0 ++ [x]) scope (List.replicate N0.length none ++ [some j]) := by
  refine ⟨by simp, fun i k e => ?_⟩
  by_cases hi : i < N0.length
  · rw [List.getElem?_append_left (by simpa using hi), List.getElem?_replicate] at e
    split at e <;> cases e
  · have hi' : i = N0.length := by
      have := (List.getElem?_eq_some_iff.mp e).1
      simp at this
      omega
    subst hi'
    rw [List.getElem?_append_right (by simp)] at e
    have ek : j = k := by simpa using e
    subst ek
    exact ⟨x, by simp, hN, h1, h2⟩
/-! ### range(a, b, c) -/
end L2

/-! MY RULES: a part of the heap; data in a part; lookups of attributes; what is walked may be a list or a tuple. -/
set_option linter.all false
namespace L2
open PySem PySem.Spec PyProof.Rows
/-! ### heaps -/
theorem same_fresh {H H' : Hp} {l : Addr} {o : HO} (s : Same H H') (hl : H l = none) : Same H (upd H' l o) := fun b u e => by
  rw [upd_ne (ne_of_none e hl)]
  exact s b u e
theorem same_new {H : Hp} {l : Addr} {o : HO} (hl : H l = none) : Same H (upd H l o) := same_fresh (Same.refl H) hl
theorem same_made {H : Hp} {x dx : Addr} {o u v : HO} (hx : H x = none) (hd : H dx = none) : Same H (upd (upd (upd H dx o) x u) x v) := same_fresh (same_fresh (same_new hd) hx) hx
theorem line_le {n : Nat} (h : n ≤ 1000000) : n ≤ sizeLine := by rw [sizeLine_eq]; omega
theorem line_lt {n : Nat} (h : n ≤ 1000000) : n < sizeLine := by rw [sizeLine_eq]; omega
theorem Paired.snoc {α β : Type} {F : α → β → Prop} {a : α} {b : β} (h : F a b) : ∀ {xs : List α} {ys : List β}, Paired F xs ys → Paired F (xs ++ [a]) (ys ++ [b])
  | _, _, .nil => .cons h .nil
  | _, _, .cons r t => .cons r (Paired.snoc h t)
/-- the part of the heap that S says -/
noncomputable def restr (S : Addr → Prop) (H : Hp) : Hp := fun a => @ite _ (S a) (Classical.propDecidable _) (H a) none
theorem restr_in {S : Addr → Prop} {H : Hp} {a : Addr} (h : S a) : restr S H a = H a := by unfold restr; rw [if_pos h]
theorem restr_out {S : Addr → Prop} {H : Hp} {a : Addr} (h : ¬ S a) : restr S H a = none := by unfold restr; rw [if_neg h]
theorem restr_some {S : Addr → Prop} {H : Hp} {a : Addr} {o : HO} (h : restr S H a = some o) : S a ∧ H a = some o := by
  by_cases hs : S a
  · rw [restr_in hs] at h; exact ⟨hs, h⟩
  · rw [restr_out hs] at h; cases h
theorem restr_mk {S : Addr → Prop} {H : Hp} {a : Addr} {o : HO} (hs : S a) (h : H a = some o) : restr S H a = some o := by rw [restr_in hs]; exact h
theorem restr_same {S : Addr → Prop} {H H' : Hp} (s : Same H H') : Same (restr S H) (restr S H') := fun b o e => restr_mk (restr_some e).1 (s _ _ (restr_some e).2)
theorem restr_imp {S S' : Addr → Prop} {H H' : Hp} (s : Same H H') (h : ∀ a o, H a = some o → S a → S' a) : Same (restr S H) (restr S' H') := fun b o e => restr_mk (h _ _ (restr_some e).2 (restr_some e).1) (s _ _ (restr_some e).2)
theorem restr_upd {S : Addr → Prop} {H H' : Hp} {l : Addr} {o : HO} (s : Same (restr S H) (restr S H')) (h : ¬ S l) : Same (restr S H) (restr S (upd H' l o)) := fun b u e => by
  have q := restr_some (s _ _ e)
  have hne : b ≠ l := fun z => h (by rw [← z]; exact q.1)
  exact restr_mk q.1 (by rw [upd_ne hne]; exact q.2)
/-! ### data -/
mutual
theorem Rep.imp2 {H H' : Hp} (f : ∀ p xs, H p = some (.lst xs) → H' p = some (.lst xs)) (g : ∀ p xs, H p = some (.tup xs) → H' p = some (.tup xs)) : ∀ {v : V} {d : PyData}, Rep H v d → Rep H' v d
  | _, _, .non => .non
  | _, _, .bl b => .bl b
  | _, _, .int i => .int i
  | _, _, .str x => .str x
  | _, _, .lst e r => .lst (f _ _ e) (Reps.imp2 f g r)
  | _, _, .tup e r => .tup (g _ _ e) (Reps.imp2 f g r)
theorem Reps.imp2 {H H' : Hp} (f : ∀ p xs, H p = some (.lst xs) → H' p = some (.lst xs)) (g : ∀ p xs, H p = some (.tup xs) → H' p = some (.tup xs)) : ∀ {vs : List V} {ds : List PyData}, Reps H vs ds → Reps H' vs ds
  | _, _, .nil => .nil
  | _, _, .cons a r => .cons (Rep.imp2 f g a) (Reps.imp2 f g r)
end
section
variable {G : Hp} {v : V} {vs : List V} {d : PyData} {ds : List PyData}
theorem rep_lst (h : Rep G v (.list ds)) : ∃ p xs, v = .ref p ∧ G p = some (.lst xs) ∧ Reps G xs ds := by
  cases h with
  | lst e r => exact ⟨_, _, rfl, e, r⟩
theorem rep_int {x : Int} (h : Rep G v (.int x)) : v = .int x := by cases h; rfl
end
mutual
def cnt : PyData → Nat
  | .none => 1
  | .bool _ => 1
  | .int _ => 1
  | .str _ => 1
  | .list xs => cntAll xs + 1
  | .tuple xs => cntAll xs + 1
  | .dict _ => 1
def cntAll : List PyData → Nat
  | [] => 0
  | x :: xs => cnt x + cntAll xs
end
theorem cnt_pos (d : PyData) : 1 ≤ cnt d := by cases d <;> simp [cnt]
theorem cnt_len : ∀ ds : List PyData, ds.length ≤ cntAll ds
  | [] => by simp [cntAll]
  | d :: r => by
    have := cnt_len r
    have := cnt_pos d
    simp only [cntAll, List.length_cons]
    omega
theorem cnt_at : ∀ {ds : List PyData} {i : Nat} {d : PyData}, ds[i]? = some d → cnt d ≤ cntAll ds ∧ PyData.depth d ≤ PyData.depthAll ds
  | [], _, _, e => by simp at e
  | d :: r, 0, _, e => by
    simp at e; subst e
    simp only [cntAll, PyData.depthAll]
    omega
  | x :: r, i + 1, d, e => by
    have := cnt_at (ds := r) (i := i) (d := d) (by simpa using e)
    simp only [cntAll, PyData.depthAll]
    omega
theorem Reps.get2 {H : Hp} : ∀ {vs : List V} {ds : List PyData} {i : Nat} {v : V}, Reps H vs ds → vs[i]? = some v → ∃ d, ds[i]? = some d ∧ Rep H v d
  | _, _, _, _, .nil, e => by simp at e
  | _, _, 0, _, .cons a _, e => by simp at e; subst e; exact ⟨_, rfl, a⟩
  | _, _, i + 1, v, .cons _ r, e => by
    obtain ⟨d, h1, h2⟩ := Reps.get2 (i := i) (v := v) r (by simpa using e)
    exact ⟨d, by simpa using h1, h2⟩
/-! ### attributes -/
theorem lk0 {k : Str} {v : V} {r : List (Str × V)} : List.lookup k ((k, v) :: r) = some v := by simp [List.lookup_cons]
theorem lk1 {k j : Str} {v : V} {r : List (Str × V)} {o : Option V} (h : (k == j) = false) (e : List.lookup k r = o) : List.lookup k ((j, v) :: r) = o := by
  rw [List.lookup_cons, h]
  exact e
theorem putF_nil {f : Str} {v : V} : putF f v [] = [(f, v)] := rfl
theorem putF_ne {f g : Str} {v x : V} {r : List (Str × V)} (h : ¬ g = f) : putF f v ((g, x) :: r) = (g, x) :: putF f v r := by rw [putF, if_neg h]
/-! ### a test that is known -/
theorem iteD {c A B : Prop} [Decidable c] (h1 : c → A) (h2 : ¬ c → B) : if decide c = true then A else B :=
  ite2 (fun h => h1 (of_decide_eq_true h)) (fun h => h2 fun hc => h (decide_eq_true hc))
theorem iteND {c A B : Prop} [Decidable c] (h1 : ¬ c → A) (h2 : c → B) : if (!decide c) = true then A else B :=
  ite2 (fun h => h1 fun hc => by rw [decide_eq_true hc] at h; cases h) (fun h => h2 (by
    by_cases hc : c
    · exact hc
    · rw [decide_eq_false hc] at h; exact absurd rfl h))
/-! ### a list or a tuple is walked -/
section
variable {X : Cx}
theorem pi_seq {tg l : Expr} {tl : TE} (hl : PE X l tl) : PI X tg l (fun σ H R => iList X.K tl σ H R ∨ iTup X.K tl σ H R) := fun pins s σ H R I h => h.elim (pi_list hl pins s σ H R I) (pi_tup hl pins s σ H R I)
end
/-! ### atI -/
theorem at_mapV {α : Type} {f : α → V} {xs : List α} {i : Int} (h0 : 0 ≤ i) (h1 : i < xs.length) : ∃ x, xs[i.toNat]? = some x ∧ atI (xs.map f) i = some (f x) := by
  obtain ⟨n, rfl⟩ := Int.eq_ofNat_of_zero_le h0
  have hn : n < xs.length := by omega
  exact ⟨xs[n], by simp [hn], atI_nat (by simp [hn])⟩
/-! ### comprehensions: the end is said of the heap alone -/
section
variable {K : PySem.W.Frag} {a D : Addr} {xs : List V} {g : TG} {te : TE} {QD : Hp → Prop} {σ₀ : St} {H : Hp}
theorem comp_listQ (Pv : Nat → List V → Hp → Prop) (h0 : Pv 0 [] (upd H D (.lst []))) (hl : ∀ i ys H, Pv i ys H → SqL K H a xs)
    (hs : ∀ i x ys H, xs[i]? = some x → Pv i ys H → g x σ₀ H fun σ4 H4 => StKeep σ₀ σ4 ∧ te σ4 H4 fun y H5 => H5 D = some (.lst ys) ∧ ys.length < sizeLine ∧ Pv (i + 1) (ys ++ [y]) (upd H5 D (.lst (ys ++ [y])))) (hd : ∀ ys H, Pv xs.length ys H → QD H) :
    ∃ W : Nat → Nat → Hp → Prop, (∃ m, W 0 m (upd H D (.lst []))) ∧ ∀ i m H2, W i m H2 →
      ((Itl K a).stop i H2 ∧ QD H2) ∨ ((Itl K a).go i H2 ∧ ∃ N : VK, (∀ y H5, N y H5 → ∃ xs, H5 D = some (.lst xs) ∧ xs.length < sizeLine ∧ ∃ m', m' < m ∧ W (i + 1) m' (upd H5 D (.lst (xs ++ [y])))) ∧
        ∀ x H3, (Itl K a).yld i H2 x H3 → g x σ₀ H3 fun σ4 H4 => StKeep σ₀ σ4 ∧ te σ4 H4 N) := comp_list (Q := fun _ H => QD H) Pv h0 hl hs hd
theorem comp_tupQ (Pv : Nat → List V → Hp → Prop) (h0 : Pv 0 [] (upd H D (.lst []))) (hl : ∀ i ys H, Pv i ys H → SqT K H a xs)
    (hs : ∀ i x ys H, xs[i]? = some x → Pv i ys H → g x σ₀ H fun σ4 H4 => StKeep σ₀ σ4 ∧ te σ4 H4 fun y H5 => H5 D = some (.lst ys) ∧ ys.length < sizeLine ∧ Pv (i + 1) (ys ++ [y]) (upd H5 D (.lst (ys ++ [y])))) (hd : ∀ ys H, Pv xs.length ys H → QD H) :
    ∃ W : Nat → Nat → Hp → Prop, (∃ m, W 0 m (upd H D (.lst []))) ∧ ∀ i m H2, W i m H2 →
      ((Itt K a).stop i H2 ∧ QD H2) ∨ ((Itt K a).go i H2 ∧ ∃ N : VK, (∀ y H5, N y H5 → ∃ xs, H5 D = some (.lst xs) ∧ xs.length < sizeLine ∧ ∃ m', m' < m ∧ W (i + 1) m' (upd H5 D (.lst (xs ++ [y])))) ∧
        ∀ x H3, (Itt K a).yld i H2 x H3 → g x σ₀ H3 fun σ4 H4 => StKeep σ₀ σ4 ∧ te σ4 H4 N) := comp_tup (Q := fun _ H => QD H) Pv h0 hl hs hd
end
/-! ### isinstance of an own class -/
end L2

/-! MY RULES: dict(d), for k in d, == and != of two dicts that hold the same, a comprehension with a test. -/
set_option linter.all false
namespace L2
open PySem PySem.Spec PyProof.Rows
section
variable {X : Cx}
/-! ### frozen while it is walked -/
theorem Inv.frozen {pins : List (Addr × Obj)} {σ : St} {H : Hp} {s : Shared} {a : Addr} {o : Obj} {kvs : List (Key × V)} (I : Inv X pins σ H s) (ha : H a = some (.dK kvs)) (ho : s.heap.get? a = some o) : Inv X pins σ (upd H a (.frz o (.dK kvs))) s :=
  I.write (t' := s.toks) (h' := s.heap) (e := a) (by rw [ha]; trivial) (.inl rfl) (fun _ _ _ e => e) ⟨o, ho⟩ ⟨ho, (show ObjOk X.prog X.w H s.heap a (.dK kvs) from I.hok a _ ha)⟩
theorem Inv.thaw {pins : List (Addr × Obj)} {σ : St} {H : Hp} {s : Shared} {a : Addr} {o : Obj} {u : HO} (I : Inv X pins σ H s) (ha : H a = some (.frz o u)) (hu : ∃ kvs, u = .dK kvs) (h0 : ∀ o' u', X.H₀ a ≠ some (.frz o' u')) : Inv X pins σ (upd H a u) s := by
  have nf : ∀ b, H b = none → upd H a u b = none := fun b e => by rw [upd_ne (fun z => by subst z; rw [ha] at e; cases e)]; exact e
  obtain ⟨kvs, rfl⟩ := hu
  refine ⟨I.ok, I.os, I.bare, ⟨I.base.keep, I.base.slot, fun b ob e n hx => nf b (I.base.free b ob e n hx), I.base.there, fun b xs e => ?_, fun b ob u' e => ?_, fun b ps e => ?_⟩, I.loc, I.cell, nf _ I.free, fun x c e => nf _ (I.freeC x c e),
    fun p hp => ⟨(I.pin p hp).1, nf _ (I.pin p hp).2.1, (I.pin p hp).2.2⟩, fun b v e => ?_, I.len⟩
  · have q := I.base.tups b xs e
    rw [upd_ne (ne_of q ha (by intro z; cases z))]; exact q
  · have q := I.base.frzs b ob u' e
    rw [upd_ne (fun z => by subst z; exact h0 _ _ e)]; exact q
  · obtain ⟨more, q⟩ := I.base.tbls b ps e
    exact ⟨more, by rw [upd_ne (ne_of q ha (by intro z; cases z))]; exact q⟩
  · by_cases hb : b = a
    · subst hb
      rw [upd_same] at e
      cases e
      obtain ⟨_, q⟩ := (show ObjOk X.prog X.w H s.heap b (.frz o (.dK kvs)) from I.hok b _ ha)
      exact q
    · rw [upd_ne hb] at e
      exact (I.hok b v e).stay (fun _ _ _ q => q) (fun c q => by rw [upd_ne (ne_of q ha (by intro z; cases z))]; exact q) fun c xs q => by rw [upd_ne (ne_of q ha (by intro z; cases z))]; exact q
def Itd (a : Addr) (o : Obj) (kvs : List (Key × V)) : It :=
  ⟨fun i H => H a = some (.frz o (.dK kvs)) ∧ i < kvs.length, fun i H x H' => H' = H ∧ ∃ k v, kvs[i]? = some (k, v) ∧ x = kV k, fun i H => H a = some (.frz o (.dK kvs)) ∧ i = kvs.length⟩
theorem is_kV {P : Program} {w : World} {k : Key} {u : Value} (h : (mixKind P w).is k u = true) : RelV (kV k) u := by
  rcases keyIs_shape (show keyIs k u = true from h) with ⟨i, t, rfl, rfl⟩ | ⟨x, t, rfl, rfl⟩
  · exact ⟨t, rfl⟩
  · exact ⟨t, rfl⟩
theorem KV.at {kvs : List (Key × V)} {vs : List (Key × Value)} : KV kvs vs → ∀ {i : Nat} {k : Key} {v : V}, kvs[i]? = some (k, v) → ∃ u, vs[i]? = some (k, u) ∧ RelV v u := by
  intro r
  unfold KV at r
  induction r with
  | nil => intro i k v e; simp at e
  | @cons p q ps qs h t ih =>
    intro i k v e
    cases i with
    | zero =>
      simp at e
      subst e
      obtain ⟨h1, h2⟩ := h
      obtain ⟨q1, q2⟩ := q
      cases h1
      exact ⟨q2, rfl, h2⟩
    | succ j =>
      obtain ⟨u, e1, e2⟩ := ih (i := j) (by simpa using e)
      exact ⟨u, by simpa using e1, e2⟩
end
theorem dict_ep {P : Program} {w : World} {H : Hp} {h : Heap} {a : Addr} {o : Obj} {kvs : List (Key × V)} {es : Array DictEntry} {ep : Nat} (ok : HOk P w H h) (ha : H a = some (.frz o (.dK kvs))) (ho : o.data = .dict es ep) :
    (a == sysModules) = false ∧ ∃ vs, KV kvs vs ∧ h.DictAt (mixKind P w) a vs ep := by
  obtain ⟨e1, hz, hs, vs, rel, o', es', ep', e2, c, d, r⟩ := (show ObjOk P w H h a (.frz o (.dK kvs)) from ok a _ ha)
  rw [e1] at e2
  cases e2
  rw [ho] at d
  cases d
  exact ⟨hs, vs, rel, o, es, e1, c, ho, r⟩
theorem turn_dict {P : Program} {w : World} {K : PySem.W.Frag} {tg : Expr} (it a : Addr) (o : Obj) (kvs : List (Key × V)) (es : Array DictEntry) (ep : Nat) (ho : o.data = .dict es ep) :
    Turn P w K tg (Itd a o kvs) [it] it (fun i h => h.IsKeyIter it a i kvs.length ep) where
  mem := by simp
  obj := fun i h st b hb => by
    have e : b = it := by simpa using hb
    subst e
    obtain ⟨ob, e, _, d⟩ := st
    exact ⟨ob, e, fun v z => by rw [d] at z; cases z⟩
  keep := fun i h h' st k => st.at fun ob e => k it (by simp) ob e
  item := by
    intro X hP hw hK hc i pins s σ H E I hf st hg
    subst hP hw hK
    obtain ⟨ha, hi⟩ := hg
    obtain ⟨f0, f1, f2, f3, f4, f5⟩ := hf it (by simp)
    obtain ⟨_, vs, rel, dd⟩ := dict_ep I.hok ha ho
    have hl := rel.length
    obtain ⟨⟨k, v⟩, hkv⟩ : ∃ p, kvs[i]? = some p := ⟨kvs[i], by simp [hi]⟩
    obtain ⟨u, hu, _⟩ := rel.at hkv
    rw [hl] at st
    refine wpAny_pyNext_dict_item st dd hu fun key h' hk hit sb => ?_
    have I1 : Inv X pins σ H { s with heap := h', toks := s.toks } := I.turned (t' := s.toks) (fun b ob hb e => (sb.2 b hb).trans e) f0 f1 f3 f4 f5
    obtain ⟨ob, e, c, d⟩ := id hit
    exact ⟨key, rfl, go_of (s := { s with heap := h' }) e c d (by decide) ⟨kV k, H, I1, is_kV hk, ⟨rfl, k, v, hkv, rfl⟩, by rw [hl]; exact hit, fun b hb => (hf b hb).1⟩⟩
  done := by
    intro X hP hw hK hc i pins s σ H E I hf st hg
    subst hP hw hK
    obtain ⟨ha, hi⟩ := hg
    obtain ⟨f0, f1, f2, f3, f4, f5⟩ := hf it (by simp)
    obtain ⟨_, vs, rel, dd⟩ := dict_ep I.hok ha ho
    have hl := rel.length
    rw [hl] at st
    exact wpAny_pyNext_dict_end (I.ok.hd hc) st dd (by simp; omega) fun h' eb => ⟨rfl, I.turned (t' := s.toks) (fun b ob hb e => eb b ob hb e) f0 f1 f3 f4 f5⟩
  self := fun _ _ _ _ _ st h => wpAny_pyIter_keyiter st h
def iDict (tl : TE) : TI := fun σ H R => tl σ H fun x H1 => ∃ a kvs, x = .ref a ∧ H1 a = some (.dK kvs) ∧ ∀ o, R (Itd a o kvs) (upd H1 a (.frz o (.dK kvs)))
theorem pi_dict {X : Cx} {tg l : Expr} {tl : TE} (hl : PE X l tl) : PI X tg l (iDict tl) := by
  intro pins s σ H R I h
  refine thn (hl pins s σ H _ I h) fun u s1 ⟨x, H1, I1, rx, a, kvs, ex, ha, q⟩ => ?_
  subst ex
  cases rx
  obtain ⟨hz, hs, vs, rel, o, es, ep, ho, hx, hd, r⟩ := dk_of I1.hok ha
  have dd : s1.heap.DictAt (mixKind X.prog X.w) a vs ep := ⟨o, es, ho, hx, hd, r⟩
  refine wpAny_pyIter_dict hs dd ?_
  have I2 : Inv X pins σ H1 { s1 with heap := s1.heap.push { cls := .type "dict_keyiterator", data := .fields #[.ref a, .int 0 0, .int vs.length 0, .int ep 0] }, toks := s1.toks } := I1.kept fun b ob e => Heap.get?_push_of_some _ e
  have I3 := I2.frozen ha (Heap.get?_push_of_some _ ho)
  refine ⟨_, [s1.heap.objs.size], _, _, _, rfl, I3, turn_dict _ a o kvs es ep hd, ?_, fun b hb => ?_, q o⟩
  · rw [rel.length]
    exact ⟨_, Heap.get?_push_size _ rfl, rfl, rfl⟩
  · have e : b = s1.heap.objs.size := by simpa using hb
    subst e
    refine I1.fpOk (Nat.le_refl _) ?_
    rw [upd_ne (Nat.ne_of_gt (I1.hok.lt ha))]
    exact I1.hok.fresh (Nat.le_refl _)
theorem same_thaw {H H2 : Hp} {a : Addr} {o : Obj} {u : HO} (ha : H a = some u) (s : Same (upd H a (.frz o u)) H2) : Same H (upd H2 a u) := fun b v e => by
  by_cases hb : b = a
  · subst hb
    rw [ha] at e
    cases e
    exact upd_same
  · rw [upd_ne hb]
    exact s b v (by rw [upd_ne hb]; exact e)
/-! ### two dicts that hold the same -/
section
variable {X : Cx}
end
end L2

/-! MY RULES: for k, v in d.items() with d of either kind of keys, d.setdefault, for c in text. -/
set_option linter.all false
set_option maxRecDepth 100000
namespace L2
open PySem PySem.Spec PyProof.Rows
section
variable {prog : Program} {w : World} {A : Around} {E : Value → Shared → Prop} {s : Shared}
theorem items_iter {v d : Addr} {od : Obj} {es : Array DictEntry} {ep : Nat} {Q : Value → Shared → Prop} (h1 : s.heap.IsItemsView v d) (h2 : s.heap.get? d = some od) (h3 : od.data = .dict es ep)
    (q : Q (.ref s.heap.objs.size) { s with heap := s.heap.push { cls := .type "dict_itemiterator", data := .fields #[.none, .bool false, .ref d, .int 0 0, .int es.size 0, .int ep 0, .none, .none] } }) :
    wpAny (model prog w) A (pyIter (.ref v)) Q E s := by
  obtain ⟨ov, g1, g2, g3⟩ := id h1
  refine wpAny_pyIter_slot h1.typeIs F.slot_dict_items_iter (wpAny_call_entry F.slot_dict_items_iter h1.typeIs F.entry_dict_items_iter ?_ (F.args_dict_items_iter_1 _)); unfold Builtin.«dict_items.__iter__»
  refine wpAny_bind (wpAny_pure (wpAny_bind ?_)); unfold Builtin.Dict_items.dictOf
  refine wpAny_bind (wpAny_field g1 g3 (x := .ref d) rfl (wpAny_pure (wpAny_bind ?_))); unfold Builtin.Dict_items.newIterator
  refine wpAny_bind (wpAny_dictEntries h2 h3 (wpAny_bind (wpAny_dictEpoch h2 h3 ?_)))
  simp only [show Builtin.Dict_items.ownsTuple "dict_itemiterator" = true by decide, if_true]
  refine wpAny_newObj_type (wpAny_pure ⟨_, rfl, "dict_itemiterator", _, ⟨_, Heap.get?_push_size _ rfl, rfl⟩, F.slot_dict_itemiterator_next.lookup, ?_⟩) (by
    simp only [sizeOk, Builtin.Dict_items.ownedTupleFields, List.size_toArray, List.length_append, List.length_cons, List.length_nil, sizeLine_eq]
    omega)
  simpa [rawInt, Builtin.Dict_items.ownedTupleFields] using q
theorem items_next {it d : Addr} {i n ep : Nat} {od : Obj} {es : Array DictEntry} {e : DictEntry} {x y : Value} {Q : Option Value → Shared → Prop}
    (h1 : IsItemIter s.heap it d i n ep x y) (h2 : s.heap.get? d = some od) (h3 : od.data = .dict es ep) (h4 : es.size = n) (h5 : es[i]? = some e)
    (q : ∀ h', IsItemIterOut h' it d (i + 1) n ep e.key e.val s.heap.objs.size → h'.get? s.heap.objs.size = some { cls := .type "tuple", data := .seq #[e.key, e.val] } →
      (∀ c u, c ≠ it → s.heap.get? c = some u → h'.get? c = some u) → Q (some (.ref s.heap.objs.size)) { s with heap := h' }) :
    wpAny (model prog w) A (pyNext (.ref it)) Q E s := by
  obtain ⟨hp, g, dr, tk, os⟩ := s
  have ty : Shared.TypeIs ⟨hp, g, dr, tk, os⟩ (.ref it) "dict_itemiterator" := ⟨_, h1, rfl⟩
  unfold pyNext
  refine wpAny_bind (wpAny_attempt (wpAny_callSpecial?_slot (name := Str.ofString "__next__") ty F.slot_dict_itemiterator_next (wpAny_call_entry F.slot_dict_itemiterator_next ty F.entry_dict_itemiterator_next ?_ (F.args_dict_itemiterator_next_1 _))))
  refine wpAny_bind (wpAny_pure (wpAny_bind (wpAny_bind ?_)))
  refine wpAny_bind (wpAny_typeNameOfWhole_itemiter ty (wpAny_pure (wpAny_bind (wpAny_fieldsOf h1 rfl ?_))))
  simp only [show Builtin.Dict_items.ownsTuple "dict_itemiterator" = true by decide, if_true]
  show wpAny _ _ (ite ((Value.ref d == Value.none) = true) _ _) _ _ _; rw [if_neg (show ¬ ((Value.ref d == Value.none) = true) from Bool.false_ne_true)]
  refine wpAny_bind (wpAny_pure (wpAny_bind (wpAny_dictEntries h2 h3 ?_)))
  rw [if_neg (by rw [h4]; simp)]
  refine wpAny_bind (wpAny_pure (wpAny_bind (wpAny_dictEpoch h2 h3 ?_)))
  rw [if_neg (by simp)]
  obtain ⟨lt, ee⟩ := Array.getElem?_eq_some_iff.mp h5
  refine wpAny_pure ?_
  simp only [show ¬ ((i : Int) < 0) from by omega, if_false, Int.toNat_natCast, h5]
  refine wpAny_bind (wpAny_bind (wpAny_typeNameOfWhole_itemiter ty (wpAny_pure (wpAny_bind (wpAny_isOneOf_itemiter ty ?_)))))
  show wpAny _ _ (setField (.ref it) 3 (rawInt ((i : Int) + 1)) >>= _) _ _ (⟨hp, g, dr, tk, os⟩ : Shared)
  refine wpAny_bind (wpAny_setField_rec h1 (by simp) fun k1 e1 s1 => ?_)
  replace s1 : Heap.SameBut it hp k1 := s1
  replace e1 : IsItemIter k1 it d (i + 1) n ep x y := by
    have z : ((i + 1 : Nat) : Int) = (i : Int) + 1 := by omega
    unfold IsItemIter
    rw [z]
    simpa [rawInt] using e1
  have ty1 : Shared.TypeIs ⟨k1, g, dr, tk, os⟩ (.ref it) "dict_itemiterator" := ⟨_, e1, rfl⟩
  refine wpAny_bind (wpAny_holding (wpAny_bind (wpAny_isOneOf_itemiter ty1 (wpAny_bind (wpAny_isOneOf_itemiter ty1 ?_)))))
  show wpAny _ _ (Builtin.Dict_items.pairFromOwner (.ref it) 6 e.key e.val) _ _ (⟨k1, g, dr, tk, os⟩ : Shared)
  unfold Builtin.Dict_items.pairFromOwner; refine wpAny_bind (wpAny_newTuple ?_)
  have z1 : k1.objs.size = hp.objs.size := s1.1
  have li : it < hp.objs.size := Heap.lt_size h1
  have e2 : IsItemIter (k1.push { cls := .type "tuple", data := .seq #[e.key, e.val] }) it d (i + 1) n ep x y := Heap.get?_push_of_some _ e1
  have t2 : (k1.push { cls := .type "tuple", data := .seq #[e.key, e.val] }).get? hp.objs.size = some { cls := .type "tuple", data := .seq #[e.key, e.val] } := by rw [← z1]; exact Heap.get?_push_size _ rfl
  have m2 : ∀ b o, b ≠ it → hp.get? b = some o → (k1.push { cls := .type "tuple", data := .seq #[e.key, e.val] }).get? b = some o := fun b o hb z => Heap.get?_push_of_some _ (s1.extBut b o hb z)
  generalize k1.push { cls := .type "tuple", data := .seq #[e.key, e.val] } = k2 at e2 t2 m2
  show wpAny _ _ (Builtin.Dict_items.ownedTupleIsFree (.ref it) >>= _) _ _ (⟨k2, g, dr, tk, os⟩ : Shared)
  rw [z1]
  clear e1 s1 ty1 z1 k1
  refine wpAny_bind ?_; unfold Builtin.Dict_items.ownedTupleIsFree
  refine wpAny_bind (wpAny_field e2 rfl (x := .none) rfl (wpAny_pure ?_))
  simp only [if_true]
  refine wpAny_bind (wpAny_field e2 rfl (x := x) rfl (wpAny_bind (wpAny_field e2 rfl (x := y) rfl (wpAny_bind (wpAny_setField_rec e2 (by simp) fun k3 e3 s3 => ?_)))))
  replace s3 : Heap.SameBut it k2 k3 := s3
  replace e3 : IsItemIter k3 it d (i + 1) n ep e.key y := e3
  refine wpAny_bind (wpAny_setField_rec e3 (by simp) fun k4 e4 s4 => ?_)
  replace s4 : Heap.SameBut it k3 k4 := s4
  replace e4 : IsItemIter k4 it d (i + 1) n ep e.key e.val := e4
  refine wpAny_bind (wpAny_setField_rec e4 (by simp) fun k5 e5 s5 => ?_)
  replace s5 : Heap.SameBut it k4 k5 := s5
  replace e5 : IsItemIterOut k5 it d (i + 1) n ep e.key e.val hp.objs.size := e5
  refine wpAny_bind (wpAny_setField_rec e5 (by simp) fun k6 e6 s6 => ?_)
  replace s6 : Heap.SameBut it k5 k6 := s6
  replace e6 : IsItemIterOut k6 it d (i + 1) n ep e.key e.val hp.objs.size := e6
  have all : ∀ b o, b ≠ it → k2.get? b = some o → k6.get? b = some o := fun b o hb z => s6.extBut b o hb (s5.extBut b o hb (s4.extBut b o hb (s3.extBut b o hb z)))
  exact wpAny_bind (wpAny_letGo (wpAny_pure (wpAny_pure ⟨_, rfl, wpAny_pure (q k6 e6 (all _ _ (Nat.ne_of_gt li) t2) fun b o hb z => all b o hb (m2 b o hb z))⟩)))
theorem items_end {it d : Addr} {i n ep : Nat} {od : Obj} {es : Array DictEntry} {x y : Value} {Q : Option Value → Shared → Prop} (hh : A.handled = none)
    (h1 : IsItemIter s.heap it d i n ep x y) (h2 : s.heap.get? d = some od) (h3 : od.data = .dict es ep) (h4 : es.size = n) (h5 : n ≤ i)
    (q : ∀ h', Heap.ExtBut it s.heap h' → Q none { s with heap := h' }) : wpAny (model prog w) A (pyNext (.ref it)) Q E s := by
  have ty : s.TypeIs (.ref it) "dict_itemiterator" := ⟨_, h1, rfl⟩
  unfold pyNext
  refine wpAny_bind (wpAny_attempt (wpAny_callSpecial?_slot (name := Str.ofString "__next__") ty F.slot_dict_itemiterator_next (wpAny_call_entry F.slot_dict_itemiterator_next ty F.entry_dict_itemiterator_next ?_ (F.args_dict_itemiterator_next_1 _))))
  refine wpAny_bind (wpAny_pure (wpAny_bind (wpAny_bind ?_)))
  refine wpAny_bind (wpAny_typeNameOfWhole_itemiter ty (wpAny_pure (wpAny_bind (wpAny_fieldsOf h1 rfl ?_))))
  simp only [show Builtin.Dict_items.ownsTuple "dict_itemiterator" = true by decide, if_true]
  show wpAny _ _ (ite ((Value.ref d == Value.none) = true) _ _) _ _ _; rw [if_neg (show ¬ ((Value.ref d == Value.none) = true) from Bool.false_ne_true)]
  refine wpAny_bind (wpAny_pure (wpAny_bind (wpAny_dictEntries h2 h3 ?_)))
  rw [if_neg (by rw [h4]; simp)]
  refine wpAny_bind (wpAny_pure (wpAny_bind (wpAny_dictEpoch h2 h3 ?_)))
  rw [if_neg (by simp)]
  refine wpAny_pure ?_
  simp only [show ¬ ((i : Int) < 0) from by omega, if_false, Int.toNat_natCast, Array.getElem?_eq_none (show es.size ≤ i by omega)]
  refine wpAny_bind (wpAny_bind (wpAny_typeNameOfWhole_itemiter ty (wpAny_pure ?_)))
  show wpAny _ _ (setField (.ref it) 2 .none >>= _) _ _ _
  refine wpAny_bind (wpAny_setField h1 rfl (by simp) ?_)
  show wpAny _ _ (newExc (.type "StopIteration") [] >>= _) _ _ (_ : Shared)
  refine wpAny_bind ?_
  simp only [newExc, newTuple]
  refine wpAny_bind (wpAny_newObj_type (wpAny_bind (m := firstArgMember _ _) (wpAny_of_eq (a := Value.none) (by first | rfl | (simp only [firstArgMember]; rfl)) (wpAny_newObj_type ?_ (by size_fits)))) (by size_fits))
  simp only [raiseNew]
  refine wpAny_bind (wpAny_handled ?_)
  rw [show A.in1.handled = none from hh]
  refine wpAny_bind (wpAny_pure (wpAny_throw ?_))
  refine wpAny_bind (wpAny_isInstance (T := "StopIteration") (b := true) ⟨_, Heap.get?_push_size _ rfl, rfl⟩ isSubtype_stop (wpAny_pure ?_))
  exact q _ (((Heap.SameBut.update ..).extBut.push _).push _)
theorem entry_iiter : entryFor table "dict_itemiterator.__iter__" = some Builtin.«dict_keyiterator.__iter__» := entryFor_alias (id' := "dict_keyiterator.__iter__") (by kernel_rfl) rfl (by decide +kernel) (by kernel_rfl)
theorem items_self {it d : Addr} {i n ep : Nat} {x y : Value} {Q : Value → Shared → Prop} (st : IsItemIter s.heap it d i n ep x y) (h : Q (.ref it) s) : wpAny (model prog w) A (pyIter (.ref it)) Q E s := by
  have ty : s.TypeIs (.ref it) "dict_itemiterator" := ⟨_, st, rfl⟩
  refine wpAny_pyIter_slot ty F.slot_dict_itemiterator_iter (wpAny_call_entry F.slot_dict_itemiterator_iter ty entry_iiter ?_ (F.args_dict_itemiterator_iter_1 _)); show wpAny _ _ (ret (.ref it)) _ _ s
  exact wpAny_pure ⟨_, rfl, "dict_itemiterator", _, ty, F.slot_dict_itemiterator_next.lookup, h⟩
/-- d.items(), the dict known by its type alone -/
theorem items_view (d : Addr) (hd : (d == sysModules) = false) :
    MeetsIn prog w (Builtin.«dict.items» ⟨[.ref d], []⟩) (fun _ R s => s.TypeIs (.ref d) "dict" ∧ R (.ok (.ret (.ref s.heap.objs.size))) { s with heap := s.heap.push { cls := .type "dict_items", data := .fields #[.ref d] } }) :=
  .of_wp fun A R s ⟨ty, q⟩ => by
    unfold Builtin.«dict.items»; refine wpAny_bind ?_; unfold Builtin.Dict.noArgs
    refine wpAny_bind (wpAny_notOrdered_dict ty ?_); show wpAny _ _ (pure d) _ _ s
    refine wpAny_pure ?_; show wpAny _ _ (Builtin.Dict.showsAll d >>= _) _ _ s
    unfold Builtin.Dict.showsAll; rw [if_neg (by rw [hd]; exact Bool.false_ne_true)]
    exact wpAny_bind (wpAny_pure (wpAny_bind (wpAny_newObj_type (wpAny_pure ⟨_, rfl, q⟩))))
end
section
variable {X : Cx}
/-- a dict of either kind of keys -/
def isD (u : HO) : Prop := (∃ kvs, u = .dK kvs) ∨ ∃ kvs, u = .dT kvs
/-- the view that d.items() gives -/
def viewO (v d : Addr) : HO := .ext fun h => h.IsItemsView v d
theorem viewO_ok {P : Program} {w : World} {H : Hp} {h : Heap} {v d : Addr} (e : h.IsItemsView v d) : ObjOk P w H h v (viewO v d) :=
  ⟨e, let ⟨o, e1, _⟩ := e; ⟨o, e1⟩, fun h1 h2 ⟨o, e1, e2⟩ k => ⟨o, k o e1, e2⟩⟩
theorem isD_obj {P : Program} {w : World} {H : Hp} {h : Heap} {a : Addr} {u : HO} (hu : isD u) (x : ObjOk P w H h a u) : (a == sysModules) = false ∧ ∃ o es ep, h.get? a = some o ∧ o.ExactDict ∧ o.data = .dict es ep := by
  rcases hu with ⟨kvs, rfl⟩ | ⟨kvs, rfl⟩
  · obtain ⟨hz, hs, vs, rel, o, es, ep, ho, hx, hd, r⟩ := x
    exact ⟨hs, o, es, ep, ho, hx, hd⟩
  · obtain ⟨hz, hs, vs, rel, o, es, ep, ho, hx, hd, r⟩ := x
    exact ⟨hs, o, es, ep, ho, hx, hd⟩
def rItems : V → List V → Hp → VK → Prop := fun x vs H Q => ∃ a u, x = .ref a ∧ vs = [] ∧ H a = some u ∧ isD u ∧ ∀ p, H p = none → Q (.ref p) (upd H p (viewO p a))
theorem mt_items : MtR X "dict.items" rItems := by
  intro pins s σ H x xs v us Q I rx rv h
  obtain ⟨a, u, rfl, rfl, ha, hu, q⟩ := h
  cases rx
  cases rv
  obtain ⟨hs, o, es, ep, ho, hx, hd⟩ := isD_obj hu (I.hok a u ha)
  have ty : s.TypeIs (.ref a) "dict" := ⟨o, ho, hx.1⟩
  refine call_meetsIn PySem.F.slot_dict_items ty PySem.F.entry_dict_items (PySem.F.args_dict_items_1 _) (items_view a hs) ⟨ty, ?_⟩
  exact ⟨.ref s.heap.objs.size, _, I.laid (t' := s.toks) (o := viewO s.heap.objs.size a) (fun b u e => Heap.get?_push_of_some _ e) (Nat.le_refl _) (viewO_ok ⟨_, Heap.get?_push_size _ rfl, rfl, rfl⟩), rfl, q _ (I.hok.fresh (Nat.le_refl _))⟩
/-! ### frozen and thawed, either kind -/
theorem Inv.frozenD {pins : List (Addr × Obj)} {σ : St} {H : Hp} {s : Shared} {a : Addr} {o : Obj} {u : HO} (I : Inv X pins σ H s) (ha : H a = some u) (hu : isD u) (ho : s.heap.get? a = some o) : Inv X pins σ (upd H a (.frz o u)) s := by
  have nt : ∀ b xs, H b = some (.tup xs) → upd H a (.frz o u) b = some (.tup xs) := fun b xs q => by
    rw [upd_ne (ne_of q ha (by rcases hu with ⟨_, rfl⟩ | ⟨_, rfl⟩ <;> intro z <;> cases z))]; exact q
  have no : ∀ b, H b = some (.own a) → upd H a (.frz o u) b = some (.own a) := fun b q => by
    rw [upd_ne (ne_of q ha (by rcases hu with ⟨_, rfl⟩ | ⟨_, rfl⟩ <;> intro z <;> cases z))]; exact q
  have new : ObjOk X.prog X.w (upd H a (.frz o u)) s.heap a (.frz o u) := ⟨ho, (I.hok a u ha).stay (fun _ _ _ q => q) no nt⟩
  exact I.write (t' := s.toks) (h' := s.heap) (e := a) (by rw [ha]; rcases hu with ⟨_, rfl⟩ | ⟨_, rfl⟩ <;> trivial) (.inl rfl) (fun _ _ _ e => e) ⟨o, ho⟩ new
theorem Inv.thawD {pins : List (Addr × Obj)} {σ : St} {H : Hp} {s : Shared} {a : Addr} {o : Obj} {u : HO} (I : Inv X pins σ H s) (ha : H a = some (.frz o u)) (hu : isD u) (h0 : ∀ o' u', X.H₀ a ≠ some (.frz o' u')) : Inv X pins σ (upd H a u) s := by
  have nf : ∀ b, H b = none → upd H a u b = none := fun b e => by rw [upd_ne (fun z => by subst z; rw [ha] at e; cases e)]; exact e
  have nt : ∀ b xs, H b = some (.tup xs) → upd H a u b = some (.tup xs) := fun b xs q => by rw [upd_ne (ne_of q ha (by intro z; cases z))]; exact q
  have no : ∀ b c, H b = some (.own c) → upd H a u b = some (.own c) := fun b c q => by rw [upd_ne (ne_of q ha (by intro z; cases z))]; exact q
  refine ⟨I.ok, I.os, I.bare, ⟨I.base.keep, I.base.slot, fun b ob e n hx => nf b (I.base.free b ob e n hx), I.base.there, fun b xs e => nt b xs (I.base.tups b xs e), fun b ob u' e => ?_, fun b ps e => ?_⟩, I.loc, I.cell, nf _ I.free, fun x c e => nf _ (I.freeC x c e),
    fun p hp => ⟨(I.pin p hp).1, nf _ (I.pin p hp).2.1, (I.pin p hp).2.2⟩, fun b v e => ?_, I.len⟩
  · have q := I.base.frzs b ob u' e
    rw [upd_ne (fun z => by subst z; exact h0 _ _ e)]; exact q
  · obtain ⟨more, q⟩ := I.base.tbls b ps e
    exact ⟨more, by rw [upd_ne (ne_of q ha (by intro z; cases z))]; exact q⟩
  · by_cases hb : b = a
    · subst hb
      rw [upd_same] at e
      cases e
      obtain ⟨_, q⟩ := (show ObjOk X.prog X.w H s.heap b (.frz o u) from I.hok b _ ha)
      exact q.stay (fun _ _ _ q => q) (fun c q => no c b q) fun c xs q => nt c xs q
    · rw [upd_ne hb] at e
      exact (I.hok b v e).stay (fun _ _ _ q => q) (fun c q => no c b q) fun c xs q => nt c xs q
def tThawD (X : Cx) (t : TS) : TS := fun D σ H => ∃ a o u, H a = some (.frz o u) ∧ isD u ∧ (∀ o' u', X.H₀ a ≠ some (.frz o' u')) ∧ t D σ (upd H a u)
theorem pss_thawD {sts : List Stmt} {t : TS} (h : PSs X sts t) : PSs X sts (tThawD X t) := by
  intro pins s σ H D I hw
  obtain ⟨a, o, u, ha, hu, h0, q⟩ := hw
  exact h pins s σ _ D (I.thawD ha hu h0) q
/-! ### for k, v in d.items() -/
/-- what the entries give, in order: key and value -/
abbrev Ents (es : Array DictEntry) (L : List (V × V)) : Prop := Paired (fun (e : DictEntry) (p : V × V) => RelV p.1 e.key ∧ RelV p.2 e.val) es.toList L
def Iti (a : Addr) (o : Obj) (u : HO) (L : List (V × V)) : It :=
  ⟨fun i H => H a = some (.frz o u) ∧ i < L.length, fun i H x H' => ∃ k v p, L[i]? = some (k, v) ∧ H p = none ∧ x = .ref p ∧ H' = upd H p (.tup [k, v]), fun i H => H a = some (.frz o u) ∧ i = L.length⟩
theorem paired_len {α β : Type} {F : α → β → Prop} : ∀ {l : List α} {m : List β}, Paired F l m → l.length = m.length
  | _, _, .nil => rfl
  | _, _, .cons _ t => by simp [paired_len t]
theorem paired_at {α β : Type} {F : α → β → Prop} : ∀ {l : List α} {m : List β}, Paired F l m → ∀ {i : Nat} {y : β}, m[i]? = some y → ∃ x, l[i]? = some x ∧ F x y
  | _, _, .nil, i, y, e => by simp at e
  | _, _, .cons r t, 0, y, e => by simp at e; subst e; exact ⟨_, rfl, r⟩
  | _, _, .cons r t, i + 1, y, e => by
    obtain ⟨x, e1, e2⟩ := paired_at t (i := i) (by simpa using e)
    exact ⟨x, by simpa using e1, e2⟩
theorem turn_items {P : Program} {w : World} {K : PySem.W.Frag} {elts : List Expr} {kk : Nat} {pos : Pos} (it a : Addr) (o : Obj) (u : HO) (L : List (V × V)) (es : Array DictEntry) (ep : Nat) (ho : o.data = .dict es ep) (rl : Ents es L) :
    Turn P w K (.Tuple elts kk pos) (Iti a o u L) [it] it (fun i h => ∃ x y, IsItemIter h it a i es.size ep x y) where
  mem := by simp
  obj := fun i h st b hb => by
    have e : b = it := by simpa using hb
    subst e
    obtain ⟨x, y, e⟩ := st
    exact ⟨_, e, fun v z => by cases (show Data.fields _ = Data.cell v from z)⟩
  keep := fun i h h' st k => let ⟨x, y, e⟩ := st; ⟨x, y, k it (by simp) _ e⟩
  item := by
    intro X hP hw hK hc i pins s σ H E I hf st hg
    subst hP hw hK
    obtain ⟨ha, hi⟩ := hg
    obtain ⟨x, y, st⟩ := st
    have hl : es.size = L.length := by have := paired_len rl; simpa using this
    obtain ⟨⟨k, v⟩, hkv⟩ : ∃ p, L[i]? = some p := ⟨L[i], by simp [hi]⟩
    obtain ⟨e, he, r1, r2⟩ := paired_at rl hkv
    obtain ⟨hob, _⟩ := (show ObjOk X.prog X.w H s.heap a (.frz o u) from I.hok a _ ha)
    refine items_next st hob ho rfl (e := e) (by simpa using he) fun h' z1 z2 kp => ?_
    refine ⟨_, rfl, wpAny_letOwnedTupleGo_items (s := { s with heap := h' }) z1 fun g zg sb => ?_⟩
    have nz : s.heap.objs.size ≠ it := Nat.ne_of_gt (Heap.lt_size st)
    have I1 : Inv X pins σ (upd H s.heap.objs.size (.tup [k, v])) { s with heap := g, toks := s.toks } := I.turnedNew (ts := [it]) (fun c o hc e => by
      have hc' : c ≠ it := by simpa using hc
      exact sb.extBut _ _ hc' (kp c o hc' e)) hf (Nat.le_refl _) ⟨by show 2 ≤ sizeLine; decide, [e.key, e.val], .cons r1 (.cons r2 .nil), ⟨_, sb.extBut _ _ nz z2, rfl, _, rfl⟩⟩
    refine ⟨.ref s.heap.objs.size, _, I1, rfl, ⟨k, v, _, hkv, I.hok.fresh (Nat.le_refl _), rfl, rfl⟩, ⟨_, _, zg⟩, fun c hc => ?_⟩
    have hcn : c = it := by simpa using hc
    subst hcn
    rw [upd_ne nz.symm]
    exact (hf c hc).1
  done := by
    intro X hP hw hK hc i pins s σ H E I hf st hg
    subst hP hw hK
    obtain ⟨ha, hi⟩ := hg
    obtain ⟨x, y, st⟩ := st
    have hl : es.size = L.length := by have := paired_len rl; simpa using this
    obtain ⟨hob, _⟩ := (show ObjOk X.prog X.w H s.heap a (.frz o u) from I.hok a _ ha)
    obtain ⟨f0, f1, f2, f3, f4, f5⟩ := hf it (by simp)
    exact items_end (I.ok.hd hc) st hob ho rfl (by omega) fun h' eb => ⟨rfl, I.turned (t' := s.toks) (fun b ob hb e => eb b ob hb e) f0 f1 f3 f4 f5⟩
  self := fun _ _ s _ _ st h => by
    obtain ⟨x, y, st⟩ := st
    exact items_self st h
end
end L2

/-! MY RULES: for k, v in d.items() (the loop), d.setdefault(k, v), for c in text. -/
set_option linter.all false
namespace L2
open PySem PySem.Spec PyProof.Rows
section
/-- the keys of a dict of tuples as the walk hands them out, with their values -/
abbrev KL (H : Hp) (kvs : List (List Key × V)) (L : List (V × V)) : Prop := Paired (fun (p : List Key × V) (q : V × V) => ∃ b, q.1 = .ref b ∧ H b = some (.tup (p.1.map kV)) ∧ q.2 = p.2) kvs L
theorem paired_of {α β : Type} {F : α → β → Prop} : ∀ {l : List α} {m : List β}, l.length = m.length → (∀ (i : Nat) (x : α) (y : β), l[i]? = some x → m[i]? = some y → F x y) → Paired F l m
  | [], [], _, _ => .nil
  | [], _ :: _, e, _ => by simp at e
  | _ :: _, [], e, _ => by simp at e
  | x :: l, y :: m, e, h => .cons (h 0 x y rfl rfl) (paired_of (by simpa using e) fun i a b p q => h (i + 1) a b (by simpa using p) (by simpa using q))
theorem ents_k {P : Program} {w : World} {kvs : List (Key × V)} {vs : List (Key × Value)} {es : Array DictEntry} (r : KV kvs vs) (p : Pairs (mixKind P w) es.toList vs) : Ents es (kvs.map fun q => (kV q.1, q.2)) := by
  refine paired_of (by rw [p.length, List.length_map]; exact r.length.symm) fun i e y he hy => ?_
  rw [List.getElem?_map] at hy
  obtain ⟨⟨k, v⟩, hk, rfl⟩ := Option.map_eq_some_iff.mp hy
  obtain ⟨u, hu, ru⟩ := r.at hk
  obtain ⟨h1, h2⟩ := p.get? he hu
  subst h2
  exact ⟨is_kV h1, ru⟩
theorem ents_t {P : Program} {w : World} {H : Hp} : ∀ {kvs : List (List Key × V)} {xs : List (List Key × Addr × Value)}, KT H kvs xs →
    ∃ L, Paired (fun (e : DictEntry) (p : V × V) => RelV p.1 e.key ∧ RelV p.2 e.val) (xs.map (entryOfKey (tupleKind (mixKind P w)))) L ∧ KL H kvs L
  | _, _, .nil => ⟨[], .nil, .nil⟩
  | _, _, @Paired.cons _ _ _ p q _ _ h t => by
    obtain ⟨L, h1, h2⟩ := ents_t (P := P) (w := w) t
    exact ⟨(.ref q.2.1, p.2) :: L, .cons ⟨rfl, h.2.2⟩ h1, .cons ⟨q.2.1, rfl, h.2.1, rfl⟩ h2⟩
def iItems (tl : TE) : TI := fun σ H R => tl σ H fun x H1 => ∃ v a u, x = .ref v ∧ H1 v = some (viewO v a) ∧ H1 a = some u ∧
  ((∃ kvs, u = .dK kvs ∧ ∀ o, R (Iti a o u (kvs.map fun q => (kV q.1, q.2))) (upd H1 a (.frz o u))) ∨ ∃ kvs, u = .dT kvs ∧ ∀ o L, KL H1 kvs L → R (Iti a o u L) (upd H1 a (.frz o u)))
theorem pi_items {X : Cx} {l : Expr} {tl : TE} {elts : List Expr} {kk : Nat} {pos : Pos} (hl : PE X l tl) : PI X (.Tuple elts kk pos) l (iItems tl) := by
  intro pins s σ H R I h
  refine thn (hl pins s σ H _ I h) fun y s1 ⟨x, H1, I1, rx, v, a, u, ex, hv, ha, q⟩ => ?_
  subst ex
  cases rx
  obtain ⟨vw, _⟩ := (show ObjOk X.prog X.w H1 s1.heap v (viewO v a) from I1.hok v _ hv)
  have go : ∀ (o : Obj) (es : Array DictEntry) (ep : Nat) (L : List (V × V)), s1.heap.get? a = some o → o.data = .dict es ep → isD u → Ents es L → R (Iti a o u L) (upd H1 a (.frz o u)) →
      wpAny (model X.prog X.w) X.A (pyIter (.ref v)) (PIE X pins σ (.Tuple elts kk pos) R) X.xe s1 := by
    intro o es ep L ho hd hu rl qq
    refine items_iter vw ho hd ?_
    have I2 : Inv X pins σ H1 { s1 with heap := s1.heap.push { cls := .type "dict_itemiterator", data := .fields #[.none, .bool false, .ref a, .int 0 0, .int es.size 0, .int ep 0, .none, .none] }, toks := s1.toks } := I1.kept fun b ob e => Heap.get?_push_of_some _ e
    have I3 := I2.frozenD ha hu (Heap.get?_push_of_some _ ho)
    refine ⟨_, [s1.heap.objs.size], _, _, _, rfl, I3, turn_items _ a o u L es ep hd rl, ⟨.none, .none, Heap.get?_push_size _ rfl⟩, fun b hb => ?_, qq⟩
    have e : b = s1.heap.objs.size := by simpa using hb
    subst e
    refine I1.fpOk (Nat.le_refl _) ?_
    rw [upd_ne (Nat.ne_of_gt (I1.hok.lt ha))]
    exact I1.hok.fresh (Nat.le_refl _)
  rcases q with ⟨kvs, rfl, q⟩ | ⟨kvs, rfl, q⟩
  · obtain ⟨hz, hs, vs, rel, o, es, ep, ho, hx, hd, _, r, _⟩ := dk_of I1.hok ha
    exact go o es ep _ ho hd (.inl ⟨_, rfl⟩) (ents_k rel r) (q o)
  · obtain ⟨hz, hs, xs, rel, o, es, ep, ho, hx, hd, he, _⟩ := (show ObjOk X.prog X.w H1 s1.heap a (.dT kvs) from I1.hok a _ ha)
    obtain ⟨L, h1, h2⟩ := ents_t (P := X.prog) (w := X.w) rel
    exact go o es ep L ho hd (.inr ⟨_, rfl⟩) (by unfold Ents; rw [he]; exact h1) (q o L h2)
theorem for_items {a : Addr} {o : Obj} {u : HO} {L : List (V × V)} {g : TG} {tb : TS} {D : Ends} {σ : St} {H : Hp} (Pv : Nat → St → Hp → Prop) (h0 : Pv 0 σ H) (hl : ∀ i σ H, Pv i σ H → H a = some (.frz o u))
    (hs : ∀ i k v p σ H, L[i]? = some (k, v) → H p = none → Pv i σ H → g (.ref p) σ (upd H p (.tup [k, v])) fun σ2 H2 => tb { D with nx := Pv (i + 1), ct := Pv (i + 1), bk := D.nx } σ2 H2) (hd : ∀ σ H, Pv L.length σ H → D.nx σ H) :
    ∃ W : Nat → Nat → St → Hp → Prop, (∃ m, W 0 m σ H) ∧ ∀ i m σ H, W i m σ H →
      ((Iti a o u L).stop i H ∧ D.nx σ H) ∨ ((Iti a o u L).go i H ∧ ∃ N : St → Hp → Prop, (∀ σ' H', N σ' H' → ∃ m', m' < m ∧ W (i + 1) m' σ' H') ∧ ∀ x H', (Iti a o u L).yld i H x H' → g x σ H' fun σ2 H2 => tb { D with nx := N, ct := N, bk := D.nx } σ2 H2) := by
  refine ⟨fun i m σ H => m = L.length - i ∧ i ≤ L.length ∧ Pv i σ H, ⟨L.length, by simp, Nat.zero_le _, h0⟩, ?_⟩
  rintro i m σ H ⟨rfl, hi, p⟩
  by_cases hlt : i < L.length
  · refine .inr ⟨⟨hl i σ H p, hlt⟩, Pv (i + 1), fun σ' H' p' => ⟨L.length - (i + 1), by omega, rfl, hlt, p'⟩, fun x H' y => ?_⟩
    obtain ⟨k, v, q, e1, e2, rfl, rfl⟩ := y
    exact hs i k v q σ _ e1 e2 p
  · have e : i = L.length := by omega
    subst e
    exact .inl ⟨⟨hl _ σ H p, rfl⟩, hd σ H p⟩
/-! ### d.setdefault(k, v) -/
/-! ### for c in text -/
/-! ### a rule that may go either way -/
end
end L2

/-! MY RULES: a dict's keys stand apart; a copy laid key by key. -/
set_option linter.all false
namespace L2
open PySem PySem.Spec PyProof.Rows
section
variable {X : Cx}
def Apart (H : Hp) : Prop := (∀ a kvs, H a = some (.dK kvs) → (kvs.map (·.1)).Nodup) ∧ ∀ a kvs, H a = some (.dT kvs) → (kvs.map (·.1)).Nodup
theorem kv_keys {kvs : List (Key × V)} {vs : List (Key × Value)} (r : KV kvs vs) : kvs.map (·.1) = vs.map (·.1) := by
  unfold KV at r
  induction r with
  | nil => rfl
  | cons h t ih => rw [List.map_cons, List.map_cons, ih, h.1]
theorem kt_keys {H : Hp} {kvs : List (List Key × V)} {xs : List (List Key × Addr × Value)} (r : KT H kvs xs) : kvs.map (·.1) = xs.map (·.1) := by
  induction r with
  | nil => rfl
  | cons h t ih => rw [List.map_cons, List.map_cons, ih, h.1]
theorem Inv.apart {pins : List (Addr × Obj)} {σ : St} {H : Hp} {s : Shared} (I : Inv X pins σ H s) : Apart H := by
  refine ⟨fun a kvs e => ?_, fun a kvs e => ?_⟩
  · obtain ⟨_, _, vs, rel, o, es, ep, _, _, _, _, _, n⟩ := dk_of I.hok e
    rw [kv_keys rel]
    exact n
  · obtain ⟨_, _, xs, rel, o, es, ep, _, _, _, _, n⟩ := (show ObjOk X.prog X.w H s.heap a (.dT kvs) from I.hok a _ e)
    rw [kt_keys rel]
    exact n
theorem pss_know {sts : List Stmt} {t : TS} (h : PSs X sts t) : PSs X sts (fun D σ H => Apart H → t D σ H) := fun pins s σ H D I q => h pins s σ H D I (q I.apart)
theorem put_next {κ : Type} [DecidableEq κ] {kvs : List (κ × V)} {i : Nat} {k : κ} {v : V} (n : (kvs.map (·.1)).Nodup) (h : kvs[i]? = some (k, v)) (ws : List (κ × V)) (e : ws.map (·.1) = (kvs.take i).map (·.1)) (u : V) : putK ws k u = ws ++ [(k, u)] := by
  unfold putK
  rw [if_neg]
  intro a
  obtain ⟨p, hp, ek⟩ := List.any_eq_true.mp a
  have ek : p.1 = k := by simpa using ek
  have hm : k ∈ ws.map (·.1) := List.mem_map.mpr ⟨p, hp, ek⟩
  rw [e] at hm
  obtain ⟨q, hq, eq⟩ := List.mem_map.mp hm
  obtain ⟨j, hj, ej⟩ := List.mem_iff_getElem.mp hq
  have hji : j < i := by have := List.length_take_le i kvs; omega
  rw [List.getElem_take] at ej
  obtain ⟨hi, ei⟩ := List.getElem?_eq_some_iff.mp h
  have hjl : j < kvs.length := by omega
  have h1 : (kvs.map fun x => x.1)[j]? = some k := by rw [List.getElem?_map, List.getElem?_eq_getElem hjl, ej]; exact congrArg some eq
  have h2 : (kvs.map fun x => x.1)[i]? = some k := by rw [List.getElem?_map, h]; rfl
  obtain ⟨l1, e1⟩ := List.getElem?_eq_some_iff.mp h1
  obtain ⟨l2, e2⟩ := List.getElem?_eq_some_iff.mp h2
  have : j = i := (List.getElem_inj n).mp (e1.trans e2.symm)
  omega
end
end L2

/-! MY RULES: a comprehension that takes several names over, dict(list of pairs), == and != of dicts that hold the same data. -/
set_option linter.all false
set_option maxRecDepth 100000
namespace L2
open PySem PySem.Spec PyProof.Rows
section
variable {prog : Program} {w : World} {K : Type} [DecidableEq K] {knd : KeyKind prog w K} {A : Around} {R : Result → Shared → Prop} {I l d : Addr} {items : Array Value} {rs : List (K × Value)} {h₀ : Heap} {g : Array GenState} {dr : Drawn} {os : OsState}
end
end L2
namespace L2
open PySem PySem.Spec PyProof.Rows
/-! ### a comprehension that takes several names over -/
def CellsIn (env : Env) : List (Str × Addr) → Prop
  | [] => True
  | p :: r => env.cells.lookup p.1 = some p.2 ∧ CellsIn env r
theorem CellsIn.get {env : Env} : ∀ {cl : List (Str × Addr)}, CellsIn env cl → ∀ {x : Str} {c : Addr}, cl.lookup x = some c → env.cells.lookup x = some c
  | [], _, _, _, h => by cases h
  | (y, d) :: r, h, x, c, e => by
    rw [List.lookup_cons] at e
    split at e
    · rename_i hb
      have hb' : x = y := by simpa using hb
      cases e
      subst hb'
      exact h.1
    · exact CellsIn.get h.2 e
theorem lookup_of_mem {x : Str} : ∀ {cl : List (Str × Addr)}, x ∈ cl.map (·.1) → ∃ c, cl.lookup x = some c
  | [], h => by cases h
  | (y, d) :: r, h => by
    rw [List.lookup_cons]
    cases hb : (x == y) with
    | true => exact ⟨d, rfl⟩
    | false =>
      have hne : x ≠ y := by simpa using hb
      rcases List.mem_cons.mp h with e | e
      · exact absurd e hne
      · exact lookup_of_mem e
theorem clok_many {X : Cx} {scope : Scope} {cl : List (Str × Addr)} {xs : List Str} (he : closureFor scope X.env = pure cl) (hc : CellsIn X.env cl) (hx : cl.map (·.1) = xs) (hk : scope.kind = .function) (hn : ∀ y ∈ scope.names, y.2 ≠ .cell ∧ (y.2 = .free → y.1 ∈ xs))
    (hl : ∀ y ∈ scope.names, y.2 = .local → scope.names.lookup y.1 = some .local) : ClOk X scope cl where
  eq := he
  sub := fun y d h => hc.get h
  has := fun y h => by
    have key : y ∈ xs := by
      have m : ∃ k, (y, k) ∈ (relabel scope X.env).names ∧ (k = .cell ∨ k = .free) := h.elim (fun z => ⟨_, lookup_mem z, .inl rfl⟩) fun z => ⟨_, lookup_mem z, .inr rfl⟩
      obtain ⟨k, hm, hk⟩ := m
      obtain ⟨⟨n, k0⟩, h0, e⟩ := List.mem_map.mp hm
      dsimp only at e
      by_cases hf : k0 = .free
      · have en : n = y := by
          split at e
          · exact congrArg Prod.fst e
          · exact congrArg Prod.fst e
        rw [← en]
        exact (hn _ h0).2 hf
      · have hb : (k0 == NameKind.free) = false := by simpa using hf
        simp only [hb, Bool.false_and, Bool.false_eq_true, if_false] at e
        have e2 : k0 = k := congrArg Prod.snd e
        subst e2
        rcases hk with hk | hk
        · exact absurd hk (hn _ h0).1
        · exact absurd hk hf
    rw [← hx] at key
    exact lookup_of_mem key
  kind := hk
  ncell := fun y hy => (hn y hy).1
  names := hl
def FreeOk (X : Cx) (scope : Scope) : List Str → List Nat → Prop
  | [], [] => True
  | x :: xs, j :: js => (X.N[j]? = some x ∧ (X.env.scope.names.lookup x = some .cell ∨ X.env.scope.names.lookup x = some .free) ∧ ((relabel scope X.env).names.lookup x = some .cell ∨ (relabel scope X.env).names.lookup x = some .free)) ∧ FreeOk X scope xs js
  | _, _ => False
theorem FreeOk.get {X : Cx} {scope : Scope} : ∀ {xs : List Str} {js : List Nat}, FreeOk X scope xs js → xs.length = js.length ∧ ∀ (i j : Nat), js[i]? = some j → ∃ x, xs[i]? = some x ∧ X.N[j]? = some x ∧ (X.env.scope.names.lookup x = some .cell ∨ X.env.scope.names.lookup x = some .free) ∧ ((relabel scope X.env).names.lookup x = some .cell ∨ (relabel scope X.env).names.lookup x = some .free)
  | [], [], _ => ⟨rfl, fun i j e => by simp at e⟩
  | x :: xs, j :: js, h => by
    obtain ⟨e, f⟩ := FreeOk.get h.2
    refine ⟨by simp [e], fun i k ek => ?_⟩
    cases i with
    | zero => simp at ek; subst ek; exact ⟨x, rfl, h.1⟩
    | succ i => exact f i k (by simpa using ek)
  | [], _ :: _, h => h.elim
  | _ :: _, [], h => h.elim
theorem ixok_many {X : Cx} {N0 xs : List Str} {js : List Nat} {scope : Scope} (h : FreeOk X scope xs js) : IxOk X (N0 ++ xs) scope (List.replicate N0.length none ++ js.map some) := by
  obtain ⟨hl, hf⟩ := h.get
  refine ⟨by simp [hl], fun i k e => ?_⟩
  by_cases hi : i < N0.length
  · rw [List.getElem?_append_left (by simpa using hi), List.getElem?_replicate] at e
    split at e <;> cases e
  · rw [List.getElem?_append_right (by simpa using hi), List.length_replicate, List.getElem?_map] at e
    obtain ⟨j, ej, ek⟩ := Option.map_eq_some_iff.mp e
    cases ek
    obtain ⟨x, h1, h2, h3, h4⟩ := hf _ _ ej
    exact ⟨x, by rw [List.getElem?_append_right (by omega)]; exact h1, h2, h3, h4⟩
/-! ### dict(l), l a list of pairs -/
section
variable {X : Cx}
/-! ### two dicts that hold the same data -/
end
end L2

/-! MY RULES: zip(list, list), a comprehension over anything, promises joined, dicts laid pair by pair. -/
set_option linter.all false
set_option maxRecDepth 100000
namespace L2
open PySem PySem.Spec PyProof.Rows
/-! ### zip(list, tuple) is made -/
/-! ### a comprehension over anything -/
section
variable {D : Addr} {g : TG} {te : TE} {QD : Hp → Prop} {σ₀ : St} {H : Hp}
theorem comp_genQ {J : It} (n : Nat) (Pv : Nat → List V → Hp → Prop) (h0 : Pv 0 [] (upd H D (.lst []))) (hgo : ∀ i ys H, i < n → Pv i ys H → J.go i H) (hst : ∀ ys H, Pv n ys H → J.stop n H)
    (hs : ∀ i ys H, i < n → Pv i ys H → ∀ x H3, J.yld i H x H3 → g x σ₀ H3 fun σ4 H4 => StKeep σ₀ σ4 ∧ te σ4 H4 fun y H5 => H5 D = some (.lst ys) ∧ ys.length < sizeLine ∧ Pv (i + 1) (ys ++ [y]) (upd H5 D (.lst (ys ++ [y])))) (hd : ∀ ys H, Pv n ys H → QD H) :
    ∃ W : Nat → Nat → Hp → Prop, (∃ m, W 0 m (upd H D (.lst []))) ∧ ∀ i m H2, W i m H2 →
      (J.stop i H2 ∧ QD H2) ∨ (J.go i H2 ∧ ∃ N : VK, (∀ y H5, N y H5 → ∃ xs, H5 D = some (.lst xs) ∧ xs.length < sizeLine ∧ ∃ m', m' < m ∧ W (i + 1) m' (upd H5 D (.lst (xs ++ [y])))) ∧
        ∀ x H3, J.yld i H2 x H3 → g x σ₀ H3 fun σ4 H4 => StKeep σ₀ σ4 ∧ te σ4 H4 N) := by
  refine ⟨fun i m H => m = n - i ∧ i ≤ n ∧ ∃ ys, Pv i ys H, ⟨n, by simp, Nat.zero_le _, [], h0⟩, ?_⟩
  rintro i m H2 ⟨rfl, hi, ys, p⟩
  by_cases hlt : i < n
  · exact .inr ⟨hgo i ys H2 hlt p, fun y H5 => H5 D = some (.lst ys) ∧ ys.length < sizeLine ∧ Pv (i + 1) (ys ++ [y]) (upd H5 D (.lst (ys ++ [y]))), fun y H5 z => ⟨ys, z.1, z.2.1, n - (i + 1), by omega, rfl, hlt, _, z.2.2⟩, fun x H3 z => hs i ys H2 hlt p x H3 z⟩
  · have e : i = n := by omega
    subst e
    exact .inl ⟨hst ys H2 p, hd ys H2 p⟩
end
/-! ### within a comprehension: the rules by the text's own K -/
theorem ix_listK {X : Cx} {K : PySem.W.Frag} (h : X.K = K) : IxR X (rIxL K) := h ▸ ix_list
/-! ### own classes and built-in ones; promises joined -/
theorem isi_bt {K : PySem.W.Frag} {C : Addr} {U : String} {b : Bool} (h : PySem.W.mroIn K C (.type U) = some b) (hm : PySem.W.kitMeta U = true) : ∀ u, RelV (.ty U) u → PySem.W.kitOne K (.ref C) u = some b := by
  intro u z
  cases (show u = Value.type U from z)
  unfold PySem.W.kitOne
  rw [if_neg (show ¬ (Value.ref C == Value.type U) = true from Bool.false_ne_true)]
  show (if PySem.W.kitMeta U = true then PySem.W.subIn K (.ref C) (.type U) else none) = some b
  rw [if_pos hm]
  exact h
theorem FnOk.or {P : Program} {w : World} {K : PySem.W.Frag} {mg : Str → Option Value} {base : Heap} {CX : CXT} {k : Nat} {f : Addr} {fd : FuncData} {ps : List Str} {sp sp' : Sp} (F : FnOk P w K mg base CX k f fd ps sp) (F' : FnOk P w K mg base CX k f fd ps sp') :
    FnOk P w K mg base CX k f fd ps (fun vs H Q E => sp vs H Q E ∨ sp' vs H Q E) :=
  ⟨fun vs H Q E q => q.elim (F.len vs H Q E) (F'.len vs H Q E), fun A outer s H args us vs Q E hr he hb hv q => q.elim (F.run A outer s H args us vs Q E hr he hb hv) (F'.run A outer s H args us vs Q E hr he hb hv)⟩
/-! ### dicts laid pair by pair -/
theorem putK_mem {kvs : List (Key × V)} {k : Key} {v : V} {p : Key × V} (h : p ∈ putK kvs k v) : p ∈ kvs ∨ p = (k, v) := by
  unfold putK at h
  split at h
  · obtain ⟨q, hq, e⟩ := List.mem_map.mp h
    split at e
    · rename_i ek
      exact .inr (by rw [← e, ek])
    · exact .inl (e ▸ hq)
  · rcases List.mem_append.mp h with h | h
    · exact .inl h
    · exact .inr (by simpa using h)
end L2

/-! MY RULES: name = [..], where the store is exchanged with the letting go of the comprehension's own names. -/
set_option linter.all false
set_option maxRecDepth 100000
namespace L2
open PySem PySem.Spec PyProof.Rows
section
variable {X : Cx}
theorem ps_setC {i₀ : Nat} {x₀ : Str} {pos₀ spos : Pos} {elt iter tg : Expr} {scope : Scope} {pos : Pos} {N' : List Str} {ix : List (Option Nat)} {cl : List (Str × Addr)} {wi : TI} {g : TG} {te : TE} (hN₀ : X.N.Nodup) (hi₀ : X.N[i₀]? = some x₀) (hx₀ : Loc X.env.scope x₀) (hc : X.calm = true) (ck : ClOk X scope cl) (io : IxOk X N' scope ix) (hi : PI X tg iter wi)
    (hg : ∀ C s₀ H₀ fp, PG (blk X N' scope cl C s₀ H₀ fp) tg g) (he : ∀ C s₀ H₀ fp, PE (blk X N' scope cl C s₀ H₀ fp) elt te) (hs : ∀ x, foldedSetIterable iter X.env x = pure x := by intro _; rfl)
    (hsw : swapsWith (.ListComp elt [⟨tg, iter, [], 0⟩] scope pos) (some (.Name x₀ pos₀)) spos.line X.env = pure true := by rfl) (hf₀ : X.fn x₀ = true ∨ X.env.scope.names.lookup x₀ = some .local := by first | exact .inl rfl | exact .inr rfl | assumption) :
    PS X (.Assign [.Name x₀ pos₀] (.ListComp elt [⟨tg, iter, [], 0⟩] scope pos) spos) (tAsg (tComp ix wi g te) (gName i₀)) := by
  intro pins s σ H D₀ I h
  rw [exec_Assign_Name_used _ _ _ _ hsw]
  refine wpAny_bind (wpAny_standAt (wpAny_bind ?_))
  show wpAny _ X.A (do let _ ← comprehension (.ListComp elt [⟨tg, iter, [], 0⟩] scope pos) scope X.env _ (newList []) false (eval iter X.env) (some (assign (.Name x₀ pos₀) X.env))) _ _ s
  refine wpAny_bind (wpAny_mono (wpAny_comprehension_free (use := some (assign (.Name x₀ pos₀) X.env)) (Q := fun _ s' => ∃ σ' H', Inv X pins σ' H' s' ∧ D₀.nx σ' H') rfl hs ck.eq ck.kind ck.names (thn (hi pins s σ H _ I h) fun xv s1 h1 => thn h1 fun itv s2 h2 => ?_)) (fun _ s' hq => wpAny_pure (wpAny_pure hq)) fun _ _ e => e)
  obtain ⟨it, fp, tn, J, H1, rfl, I1, T, st1, f1, R⟩ := h2
  -- the list
  refine wpAny_newObj_type ?_
  have hD : H1 s2.heap.objs.size = none := I1.hok.fresh (Nat.le_refl _)
  obtain ⟨W, ⟨m0, w0⟩, turn⟩ := R _ hD
  have hfD : ∀ b ∈ fp, b < s2.heap.objs.size := fun b hb => let ⟨o, e, _⟩ := T.obj _ _ st1 b hb; Heap.lt_size e
  have I2 : Inv X pins σ (upd H1 s2.heap.objs.size (.lst [])) { s2 with heap := s2.heap.push { cls := .type "list", data := .seq ([] : List Value).toArray }, toks := s2.toks } := I1.lnew (its := []) .nil (Nat.zero_le _)
  have f2 : ∀ b ∈ fp, FpOk X pins (upd H1 s2.heap.objs.size (.lst [])) b := fun b hb => ⟨by rw [upd_ne (Nat.ne_of_lt (hfD b hb))]; exact (f1 b hb).1, (f1 b hb).2⟩
  have lt2 : ∀ b ∈ fp, b < (s2.heap.push { cls := .type "list", data := .seq ([] : List Value).toArray }).objs.size := fun b hb => by rw [Heap.size_push]; exact Nat.lt_succ_of_lt (hfD b hb)
  -- the block's own dict
  refine wpAny_newFunctionEnv ck.ncell (by intro y hy; simp at hy) (fun h3 hns sb3 => ?_) ck.kind
  dsimp only at hns sb3 ⊢
  have k3 : ∀ b o, (s2.heap.push { cls := .type "list", data := .seq ([] : List Value).toArray }).get? b = some o → h3.get? b = some o := fun b o e => (sb3.2 b (Nat.ne_of_lt (Heap.lt_size e))).trans (Heap.get?_push_of_some _ e)
  generalize hs2 : ({ s2 with heap := s2.heap.push { cls := .type "list", data := .seq ([] : List Value).toArray }, toks := s2.toks } : Shared) = s3 at I2
  have e3 : s2.heap.push { cls := .type "list", data := .seq ([] : List Value).toArray } = s3.heap := by rw [← hs2]
  rw [e3] at hns k3 lt2
  have I3 := blk_start (N' := N') (ix := ix) I2 ck io f2 lt2 (h' := h3) (t' := s2.toks + ([] : List (Str × Value)).length) hns k3
  have e4 : ({ s3 with heap := h3, toks := s2.toks + ([] : List (Str × Value)).length } : Shared) = { s2 with heap := h3, toks := s2.toks + ([] : List (Str × Value)).length } := by rw [← hs2]
  rw [e4] at I3
  have st3 : tn 0 h3 := T.keep _ _ _ st1 fun b hb o e => k3 b o (by rw [← e3]; exact Heap.get?_push_of_some _ e)
  have loop : ∀ s4 : Shared, s4 = { s2 with heap := h3, toks := s2.toks + ([] : List (Str × Value)).length } →
      codeAny (model X.prog X.w) X.A (.compLoop (.ListComp elt [⟨tg, iter, [], 0⟩] scope pos) 0 (.ref it) (.ref s2.heap.objs.size) (compEnvC scope cl s3.heap.objs.size X.env))
        (compPost (model X.prog X.w) X.A X.xe (some (assign (.Name x₀ pos₀) X.env)) (fun _ s' => ∃ σ' H', Inv X pins σ' H' s' ∧ D₀.nx σ' H') (.ref s2.heap.objs.size) s3.heap.objs.size) s4 := by
    rintro s4 rfl
    have stat : ∀ {H' : Hp}, (∀ b ∈ fp, H' b = none) → ∀ b ∈ fp, FpOk (blk X N' scope cl s3.heap.objs.size s3 (upd H1 s2.heap.objs.size (.lst [])) fp) [] H' b := fun hn b hb =>
      ⟨hn b hb, Nat.ne_of_lt (lt2 b hb), fun hs => I3.ok.exfs b hb hs, .inl hb, fun x c e => (f2 b hb).2.2.2.2.1 x c (ck.sub x c e), (fun p hp => by cases hp)⟩
    refine codeAny_loop rfl (fun n s' => ∃ i σ' H', Inv (blk X N' scope cl s3.heap.objs.size s3 (upd H1 s2.heap.objs.size (.lst [])) fp) [] σ' H' s' ∧ (∀ (j : Nat) v, (blkSt ix σ)[j]? = some (some v) → σ'[j]? = some (some v)) ∧ tn i s'.heap ∧ (∀ b ∈ fp, H' b = none) ∧ W i n H')
      (fun n s' hI => ?_) m0 ⟨0, _, _, I3, fun _ _ z => z, st3, fun b hb => (f2 b hb).1, w0⟩
    obtain ⟨i, σ5, H5, I5, wk, st5, fr5, w5⟩ := hI
    show wpAny _ _ ((compTurn (.ListComp elt [⟨tg, iter, [], 0⟩] scope pos) 0 (.ref it) (.ref s2.heap.objs.size) (compEnvC scope cl s3.heap.objs.size X.env)).onRaise (fun x => do noteFrame x (compEnvC scope cl s3.heap.objs.size X.env); theTreesLotGoes x)) _ _ s'
    refine wpAny_noted ?_
    rw [compTurn_list1]
    refine wpAny_bind (wpAny_standAt ?_)
    rcases turn i n H5 w5 with ⟨stop, qn⟩ | ⟨go, NN, hNN, step⟩
    · refine wpAny_bind (wpAny_mono (T.done (blk X N' scope cl s3.heap.objs.size s3 (upd H1 s2.heap.objs.size (.lst [])) fp) rfl rfl rfl hc i [] s' σ5 H5 (fun _ _ => False) I5 (stat fr5) st5 stop) (fun r s6 h6 => ?_) fun _ _ z => z.elim)
      obtain ⟨rfl, I6⟩ := h6
      refine wpAny_pure ?_
      obtain ⟨mm, hm, _⟩ := id I6.loc
      have fC : FpOk X pins H5 s3.heap.objs.size := I2.fpOk (Nat.le_refl _) I6.free
      have Io : Inv X pins σ H5 s6 := blk_end I2 f2 I6 (Heap.SameBut.refl _ _)
      show wpAny _ X.A (assign (.Name x₀ pos₀) X.env (.ref s2.heap.objs.size)) _ _ s6
      refine wpAny_assign_Name (store_ok2 Io hN₀ hi₀ hx₀ (v := .ref s2.heap.objs.size) rfl (fun s7 I7 sb7 => ?_) hf₀)
      obtain ⟨a, sb, ha⟩ := sb7
      have ca : s3.heap.objs.size ≠ a := by
        rcases ha with ha | ha
        · rw [ha]; exact fC.2.1
        · exact fun z => fC.2.2.2.2.1 _ _ ha z.symm
      obtain ⟨oC, es, ep, ho, r⟩ := hm
      exact ⟨mm, ⟨oC, es, ep, (sb.2 _ ca).trans ho, r⟩, fun h' sb' => ⟨_, H5, I7.turned (t' := s7.toks) (fun b o hb e => (sb'.2 b hb).trans e) fC.1 fC.2.1 fC.2.2.2.1 fC.2.2.2.2.1 fC.2.2.2.2.2, qn⟩⟩
    · refine wpAny_bind (wpAny_mono (T.item (blk X N' scope cl s3.heap.objs.size s3 (upd H1 s2.heap.objs.size (.lst [])) fp) rfl rfl rfl hc i [] s' σ5 H5 (fun _ _ => False) I5 (stat fr5) st5 go) (fun r s6 h6 => ?_) fun _ _ z => z.elim)
      obtain ⟨u, rfl, h6⟩ := h6
      refine wpAny_bind (wpAny_mono h6 (fun _ s7 h7 => ?_) fun _ _ z => z.elim)
      obtain ⟨x, H7, I7, r7, y7, st7, fr7⟩ := h7
      have I7w : Inv (blk X N' scope cl s3.heap.objs.size s3 (upd H1 s2.heap.objs.size (.lst [])) fp) [] (blkSt ix σ) H7 s7 := I7.weak (by rw [I7.len]; unfold blkSt; rw [List.length_map]; exact io.1) wk
      have I7p := I7w.pinned (stat fr7) (T.obj _ _ st7)
      refine wpAny_bind (wpAny_mono (hg _ _ _ _ _ s7 _ H7 x u _ I7p r7 (step x H7 y7)) (fun _ s8 h8 => ?_) fun _ _ z => z.elim)
      obtain ⟨σ8, H8, I8, kp8, q8⟩ := h8
      refine wpAny_bind (wpAny_bind (wpAny_mono (he _ _ _ _ _ s8 σ8 H8 _ I8 q8) (fun yv s9 h9 => ?_) fun _ _ z => z.elim))
      obtain ⟨y, H9, I9, r9, n9⟩ := h9
      obtain ⟨xs, hx9, hz9, m', hm', w9⟩ := hNN _ _ n9
      refine wpAny_bind (wpAny_mono (mt_append (X := blk X N' scope cl s3.heap.objs.size s3 (upd H1 s2.heap.objs.size (.lst [])) fp) _ s9 σ8 H9 (.ref s2.heap.objs.size) [y] (.ref s2.heap.objs.size) [yv] (fun _ H' => W (i + 1) m' H') I9 rfl (.cons r9 .nil) ⟨_, xs, y, rfl, rfl, hx9, hz9, w9⟩) (fun _ s10 h10 => ?_) fun _ _ z => z.elim)
      obtain ⟨_, H10, I10, _, w10⟩ := h10
      refine wpAny_pure (wpAny_pure ⟨rfl, m', hm', i + 1, σ8, H10, I10.unpinned, ?_, T.keep _ _ _ st7 fun b hb o e => (I10.pin (b, o) (List.mem_append_right _ (List.mem_append_right _ (mem_pinsAt hb e)))).1, fun b hb => ?_, w10⟩)
      · exact kp8.get
      · obtain ⟨o, e, d⟩ := T.obj _ _ st7 b hb
        exact (I10.pin (b, o) (List.mem_append_right _ (List.mem_append_right _ (mem_pinsAt hb e)))).2.1
  have e5 : s3.heap.objs.size = (s2.heap.push { cls := .type "list", data := .seq ([] : List Value).toArray }).objs.size := by rw [e3]
  rw [e5] at loop
  exact codeAny_compStart_list (loop _ rfl) (T.self X.A 0 _ _ _ st3 (loop _ rfl))
end
end L2

/-! MY RULES: a[lo::k], sum(list of ints), len within a comprehension. -/
set_option linter.all false
set_option maxRecDepth 100000
namespace L2
open PySem PySem.Spec PyProof.Rows
theorem call_len_seqK {X : Cx} {K : PySem.W.Frag} (h : X.K = K) : CallR X (.builtin "len") (fun xs H Q => ∃ p ys, xs = [.ref p] ∧ (SqL K H p ys ∨ SqT K H p ys) ∧ Q (.int ys.length) H) := h ▸ call_len_seq
section
variable {X : Cx}
end
end L2

namespace L2
open PySem PySem.Spec PyProof.Rows
theorem pe_globE {X : Cx} {x : Str} {v : V} {pos : Pos} (h : ∃ u, X.mg x = some u ∧ RelV v u) (hg : Gl X x) (hd : (x == ("__debug__" : Str)) = false := by decide) : PE X (.Name x pos) (tC v) := by
  obtain ⟨u, hm, r⟩ := h
  exact fun _ _ _ H _ I q => ld_glob I hg hm ⟨v, H, I, r, q⟩ hd
end L2

/-! MY RULES: for k, x in enumerate(list); all(list of bools). -/
set_option linter.all false
set_option maxRecDepth 100000
namespace L2
open PySem PySem.Spec PyProof.Rows
/-- enumerate over a list: the i-th pair is a new tuple -/
def ItEn (K : PySem.W.Frag) (a : Addr) : It :=
  ⟨fun i H => ∃ xs x, SqL K H a xs ∧ xs[i]? = some x,
   fun i H v H' => ∃ p, H p = none ∧ v = .ref p ∧ ∃ x, (∀ xs, SqL K H a xs → xs[i]? = some x) ∧ H' = upd H p (.tup [.int (i : Nat), x]),
   fun i H => ∃ xs, SqL K H a xs ∧ xs.length ≤ i⟩
def EnSt (e it a : Addr) (i : Nat) (h : Heap) : Prop := (∃ old, IsEnum h e it (i : Nat) old) ∧ h.IsListIter it a i
theorem turn_enum {P : Program} {w : World} {K : PySem.W.Frag} {elts : List Expr} {kk : Nat} {pos : Pos} {e it a : Addr} (ne : e ≠ it) : Turn P w K (.Tuple elts kk pos) (ItEn K a) [e, it] e (EnSt e it a) where
  mem := by simp
  obj := fun i h st c hc => by
    obtain ⟨⟨old, h1⟩, h2⟩ := st
    simp only [List.mem_cons, List.not_mem_nil, or_false] at hc
    rcases hc with rfl | rfl
    · exact ⟨_, h1, fun v z => by cases (show Data.fields _ = Data.cell v from z)⟩
    · obtain ⟨o, ho, _, hd⟩ := h2
      exact ⟨o, ho, fun v z => by rw [hd] at z; cases z⟩
  keep := fun i h h' st k => by
    obtain ⟨⟨old, h1⟩, h2⟩ := st
    exact ⟨⟨old, k e (by simp) _ h1⟩, h2.at fun o z => k it (by simp) o z⟩
  item := by
    intro X hP hw hK hc i pins s σ H E I hf st hg
    subst hP hw hK
    obtain ⟨xs, x, hq, hx⟩ := hg
    obtain ⟨its, rv, p1, _⟩ := I.list hq
    obtain ⟨u, hu, ru⟩ := rv.get hx
    obtain ⟨⟨old, h1⟩, h2⟩ := st
    refine wpAny_pyNext_enum_item h1 h2 p1.isList (x := u) (by simpa using hu) ne fun h' z1 z2 z3 z4 kp => ?_
    refine ⟨_, rfl, wpAny_letOwnedTupleGo_enum (s := { s with heap := h', toks := s.toks + 1 }) z1 fun g zg sb => ?_⟩
    have nz : s.heap.objs.size ≠ e := Nat.ne_of_gt (Heap.lt_size h1)
    have n2 : it < s.heap.objs.size := let ⟨_, q, _⟩ := h2; Heap.lt_size q
    have tq : g.get? s.heap.objs.size = some { cls := .type "tuple", data := .seq #[.int i s.toks, u] } := sb.extBut _ _ nz z3
    have I1 : Inv X pins σ (upd H s.heap.objs.size (.tup [.int (i : Nat), x])) { s with heap := g, toks := s.toks + 1 } := I.turnedNew (ts := [e, it]) (fun c o hc q => by
      simp only [List.mem_cons, List.not_mem_nil, or_false, not_or] at hc
      exact sb.extBut _ _ hc.1 (kp c o hc.1 hc.2 q)) hf (Nat.le_refl _) ⟨by show 2 ≤ sizeLine; decide, [.int i s.toks, u], .cons ⟨_, rfl⟩ (.cons ru .nil), ⟨_, tq, rfl, _, rfl⟩⟩
    refine ⟨.ref s.heap.objs.size, _, I1, rfl, ⟨_, I.hok.fresh (Nat.le_refl _), rfl, x, fun zs hz => by rw [I.list_inj hz hq]; exact hx, rfl⟩, ⟨⟨_, zg⟩, z2.at fun o q => sb.extBut _ _ ne.symm q⟩, fun c hc => ?_⟩
    have hcn : c ≠ s.heap.objs.size := by
      simp only [List.mem_cons, List.not_mem_nil, or_false] at hc
      rcases hc with rfl | rfl
      · exact nz.symm
      · exact Nat.ne_of_lt n2
    rw [upd_ne hcn]
    exact (hf c hc).1
  done := by
    intro X hP hw hK hc i pins s σ H E I hf st hg
    subst hP hw hK
    obtain ⟨xs, hq, hx⟩ := hg
    obtain ⟨its, rv, p1, _⟩ := I.list hq
    have e1 := rv.length
    obtain ⟨⟨old, h1⟩, h2⟩ := st
    refine wpAny_pyNext_enum_end (I.ok.hd hc) h1 h2 p1.isList (by simp; omega) fun h' kp => ⟨rfl, ?_⟩
    exact I.turnedL (t' := s.toks) (ts := [e, it]) (fun c o hc q => by
      simp only [List.mem_cons, List.not_mem_nil, or_false, not_or] at hc
      exact kp c o hc.2 q) hf
  self := fun _ _ _ _ _ st h => by
    obtain ⟨⟨old, h1⟩, _⟩ := st
    exact wpAny_pyIter_enum h1 h
def iEnum (K : PySem.W.Frag) (ta : TA) : TI := fun σ H R => ta σ H fun vs H1 => ∃ a xs, vs = [.ref a] ∧ SqL K H1 a xs ∧ R (ItEn K a) H1
theorem pi_enum {X : Cx} {elts : List Expr} {kk : Nat} {tpos : Pos} {a : Expr} {ta : TA} {p pos : Pos} (hg : Gl X "enumerate") (hm : X.mg "enumerate" = none) (ha : PA X [a] ta) (hs : starEach [a] X.env = [(false, eval a X.env)] := by rfl) :
    PI X (.Tuple elts kk tpos) (.Call (.Name "enumerate" p) [a] [] pos) (iEnum X.K ta) := by
  intro pins s σ H R I h
  refine Call_ (ld_blt I hg hm boot_enumerate (PyProof.Rows.callWith_type1 (thn (ha pos pins s σ H _ I h) fun us s1 ⟨vs, H1, I1, r1, q1⟩ => ?_) (by rw [hs]; rfl) (by rfl)))
  obtain ⟨l, xs, e, hq, q⟩ := q1
  subst e
  obtain ⟨u, rfl, ru⟩ := vals1 r1
  cases ru
  obtain ⟨its, rv, p1, _⟩ := I1.list hq
  refine call_enumerate_list p1.isList fun h' z1 z2 z3 kp => wpAny_pyIter_enum z1 ?_
  have I2 : Inv X pins σ H1 { s1 with heap := h' } := I1.kept (t' := s1.toks) kp
  refine ⟨_, [s1.heap.objs.size + 1, s1.heap.objs.size], _, _, H1, rfl, I2, turn_enum (Nat.ne_of_gt (Nat.lt_succ_self _)), ⟨⟨_, z1⟩, z2⟩, fun c hc => ?_, q⟩
  have hle : s1.heap.objs.size ≤ c := by
    simp only [List.mem_cons, List.not_mem_nil, or_false] at hc
    rcases hc with rfl | rfl
    · exact Nat.le_succ _
    · exact Nat.le_refl _
  exact I1.fpOk hle (I1.hok.fresh hle)
/-- over a list that the body leaves as it is -/
theorem for_enum {K : PySem.W.Frag} {a : Addr} {xs : List V} {g : TG} {tb : TS} {D : Ends} {σ : St} {H : Hp} (Pv : Nat → St → Hp → Prop) (h0 : Pv 0 σ H) (hl : ∀ i σ H, Pv i σ H → SqL K H a xs)
    (hs : ∀ i x σ H p, xs[i]? = some x → Pv i σ H → H p = none → g (.ref p) σ (upd H p (.tup [.int (i : Nat), x])) fun σ2 H2 => tb { D with nx := Pv (i + 1), ct := Pv (i + 1), bk := D.nx } σ2 H2) (hd : ∀ σ H, Pv xs.length σ H → D.nx σ H) :
    ∃ W : Nat → Nat → St → Hp → Prop, (∃ m, W 0 m σ H) ∧ ∀ i m σ H, W i m σ H →
      ((ItEn K a).stop i H ∧ D.nx σ H) ∨ ((ItEn K a).go i H ∧ ∃ N : St → Hp → Prop, (∀ σ' H', N σ' H' → ∃ m', m' < m ∧ W (i + 1) m' σ' H') ∧ ∀ x H', (ItEn K a).yld i H x H' → g x σ H' fun σ2 H2 => tb { D with nx := N, ct := N, bk := D.nx } σ2 H2) := by
  refine ⟨fun i m σ H => m = xs.length - i ∧ i ≤ xs.length ∧ Pv i σ H, ⟨xs.length, by simp, Nat.zero_le _, h0⟩, ?_⟩
  rintro i m σ H ⟨rfl, hi, p⟩
  have q := hl i σ H p
  by_cases hlt : i < xs.length
  · refine .inr ⟨⟨xs, _, q, List.getElem?_eq_getElem hlt⟩, Pv (i + 1), fun σ' H' p' => ⟨xs.length - (i + 1), by omega, rfl, hlt, p'⟩, fun v H' y => ?_⟩
    obtain ⟨c, hc, rfl, x, f, rfl⟩ := y
    exact hs i x σ H c (f xs q) p hc
  · have e : i = xs.length := by omega
    subst e
    exact .inl ⟨⟨xs, q, Nat.le_refl _⟩, hd σ H p⟩
end L2

/-! MY RULES: != of tuples that hold alike things (data, dicts); a comprehension over a dict; d.clear(); list(..) within a comprehension. -/
set_option linter.all false
set_option maxRecDepth 100000
namespace L2
open PySem PySem.Spec PyProof.Rows
section
variable {X : Cx}
/-! ### a comprehension over a dict: what was walked is thawed -/
def tThawV (X : Cx) (t : TE) : TE := fun σ H Q => t σ H fun v H1 => ∃ a o kvs, H1 a = some (.frz o (.dK kvs)) ∧ (∀ o' u', X.H₀ a ≠ some (.frz o' u')) ∧ Q v (upd H1 a (.dK kvs))
theorem pe_thawV {e : Expr} {t : TE} (h : PE X e t) : PE X e (tThawV X t) := fun pins s σ H Q I q =>
  thn (h pins s σ H _ I q) fun u s1 ⟨v, H1, I1, rv, a, o, kvs, ha, h0, q1⟩ => ⟨v, _, I1.thaw ha ⟨kvs, rfl⟩ h0, rv, q1⟩
end
end L2

/-! MY RULES: a zip's draws where what it gave out lives on, dict(zip(list, tuple)). -/
set_option linter.all false
set_option maxRecDepth 100000
namespace L2
open PySem PySem.Spec PyProof.Rows
abbrev IsZipB (h : Heap) (z TI TO : Addr) (f0 : Value) (b : Bool) : Prop :=
  h.get? z = some { cls := .type "zip", dict := none, data := .fields #[f0, .bool b, .bool false, .ref TI, .ref TO], slots := #[] }
section
variable {prog : Program} {w : World} {A : Around} {E : Value → Shared → Prop} {s : Shared}
theorem wpAny_alive {a : Addr} {Q : Option Obj → Shared → Prop} (h : Q (s.heap.get? a) s) : wpAny (model prog w) A (loadIfAlive a) Q E s := fun Γ p _ => by
  show PySem.Sem.wp _ Γ (.loadIfAlive a .pure) _ _ p s
  rw [PySem.Sem.wp]
  exact h
/-- what the zip gave out still lives -/
theorem zip_notFree {z TI TO p : Addr} {o : Obj} {b : Bool} {Q : Bool → Shared → Prop} (hz : IsZipB s.heap z TI TO (rawInt (p : Int)) b) (hp : s.heap.get? p = some o)
    (q : ∀ h', IsZipB h' z TI TO (rawInt (p : Int)) true → Heap.SameBut z s.heap h' → Q false { s with heap := h' }) : wpAny (model prog w) A (Builtin.SmallTypes.ownedTupleIsFree (.ref z)) Q E s := by
  unfold Builtin.SmallTypes.ownedTupleIsFree
  refine wpAny_bind (wpAny_field hz rfl (x := rawInt (p : Int)) rfl ?_)
  show wpAny _ _ (loadIfAlive (Int.toNat (p : Int)) >>= _) _ _ _
  refine wpAny_bind (wpAny_alive ?_)
  rw [Int.toNat_natCast, hp]
  show wpAny _ _ (field (.ref z) 1 >>= _) _ _ _
  refine wpAny_bind (wpAny_field hz rfl (x := .bool b) rfl ?_)
  cases b with
  | true =>
    show wpAny _ _ (pure false) _ _ _
    exact wpAny_pure (q s.heap hz ⟨rfl, fun _ _ => rfl⟩)
  | false =>
    show wpAny _ _ (setField (.ref z) 1 (.bool true) >>= _) _ _ _
    refine wpAny_bind (wpAny_setField_rec hz (by simp) fun g1 z1 b1 => ?_)
    exact wpAny_pure (q g1 z1 b1)
end
section
variable {z TI TO i1 i2 l1 l2 : Addr} {st1 st2 : Nat → Heap → Prop} {src1 src2 : Array Value → Heap → Prop} {prog : Program} {w : World} {A : Around} {E : Value → Shared → Prop} {s : Shared}
/-- a zip's draw, what it gave out before lives on -/
theorem zip_more (N1 : Nx i1 l1 st1 src1) (N2 : Nx i2 l2 st2 src2) {k1 k2 : Nat} {xs ys : Array Value} {x y : Value} {p : Addr} {o : Obj} {b : Bool} {Q : Option Value → Shared → Prop} (D : ZipApart z TI TO i1 i2 l1 l2)
    (hz : IsZipB s.heap z TI TO (rawInt (p : Int)) b) (hp : s.heap.get? p = some o) (hTI : IsPair s.heap TI (.ref i1) (.ref i2)) (h1 : st1 k1 s.heap) (h2 : st2 k2 s.heap) (hl1 : src1 xs s.heap) (hl2 : src2 ys s.heap) (hx : xs[k1]? = some x) (hy : ys[k2]? = some y)
    (hQ : ∀ h', IsZipB h' z TI TO (rawInt (p : Int)) true → st1 (k1 + 1) h' → st2 (k2 + 1) h' → IsPair h' s.heap.objs.size x y →
      (∀ c o, c ≠ z → c ≠ i1 → c ≠ i2 → s.heap.get? c = some o → h'.get? c = some o) → Q (some (.ref s.heap.objs.size)) { s with heap := h' }) : wpAny (model prog w) A (pyNext (.ref z)) Q E s := by
  have hT : s.TypeIs (.ref z) "zip" := ⟨_, hz, rfl⟩
  unfold pyNext
  refine wpAny_bind (wpAny_attempt (wpAny_callSpecial?_slot (name := Str.ofString "__next__") hT F.slot_zip_next (wpAny_call_entry F.slot_zip_next hT F.entry_zip_next ?_ (F.args_zip_next_1 _))))
  show wpAny _ _ (field (.ref z) 2 >>= _) _ _ _
  refine wpAny_bind (wpAny_field hz rfl (x := .bool false) rfl ?_)
  show wpAny _ _ (field (.ref z) 3 >>= _) _ _ _
  refine wpAny_bind (wpAny_field hz rfl (x := .ref TI) rfl ?_)
  refine wpAny_bind (wpAny_seqItems hTI rfl ?_)
  show wpAny _ _ (Builtin.SmallTypes.ownedTupleIsFree (.ref z) >>= _) _ _ _
  refine wpAny_bind (zip_notFree hz hp fun g1 z1 b1 => ?_)
  simp only [Bool.false_eq_true, if_false]
  refine wpAny_bind ?_
  simp only [← Array.forIn_toList, List.forIn_cons, List.forIn_nil]
  refine wpAny_bind (wpAny_bind (wpAny_holding ?_))
  show wpAny _ _ (Builtin.SmallTypes.nextOf (.ref i1) >>= _) _ _ _
  refine wpAny_bind (N1.item (N1.mv h1 fun o e => b1.extBut _ _ D.i1z e) (N1.mvS hl1 fun o e => b1.extBut _ _ D.l1z e) hx fun g2 t2 b2 => wpAny_pure (wpAny_pure ?_))
  refine wpAny_bind (wpAny_bind (wpAny_holding ?_))
  show wpAny _ _ (Builtin.SmallTypes.nextOf (.ref i2) >>= _) _ _ _
  refine wpAny_bind (N2.item (N2.mv h2 fun o e => b2.extBut _ _ D.i12.symm (b1.extBut _ _ D.i2z e)) (N2.mvS hl2 fun o e => b2.extBut _ _ D.l2i1 (b1.extBut _ _ D.l2z e)) hy fun g3 t3 b3 => wpAny_pure (wpAny_pure (wpAny_pure ?_)))
  have hsz : g3.objs.size = s.heap.objs.size := by rw [b3.1, b2.1, b1.1]
  have zlt : z < g3.objs.size := by rw [hsz]; exact Heap.lt_size hz
  show wpAny _ _ (newTuple [x, y] >>= _) _ _ _
  refine wpAny_bind (wpAny_newTuple ?_)
  have z3 : IsZipB g3 z TI TO (rawInt (p : Int)) true := b3.extBut _ _ D.i2z.symm (b2.extBut _ _ D.i1z.symm z1)
  have k3 : ∀ c o, c ≠ z → c ≠ i1 → c ≠ i2 → s.heap.get? c = some o → g3.get? c = some o := fun c o c1 c3 c4 e => b3.extBut _ _ c4 (b2.extBut _ _ c3 (b1.extBut _ _ c1 e))
  have u1 : st1 (k1 + 1) g3 := N1.mv t2 fun o e => b3.extBut _ _ D.i12 e
  have pr : IsPair (g3.push { cls := .type "tuple", data := .seq #[x, y] }) g3.objs.size x y := Heap.get?_push_size _ rfl
  rw [hsz] at pr
  refine wpAny_pure ⟨_, rfl, wpAny_pure ?_⟩
  show Q (some (.ref g3.objs.size)) _
  rw [hsz]
  exact hQ _ (Heap.get?_push_of_some _ z3) (N1.mv u1 fun o e => Heap.get?_push_of_some _ e) (N2.mv t3 fun o e => Heap.get?_push_of_some _ e) pr fun c o c1 c3 c4 e => Heap.get?_push_of_some _ (k3 c o c1 c3 c4 e)
/-- .. and its end -/
theorem zip_fin (N1 : Nx i1 l1 st1 src1) (N2 : Nx i2 l2 st2 src2) {k1 k2 : Nat} {xs ys : Array Value} {p : Addr} {o : Obj} {b : Bool} {Q : Option Value → Shared → Prop} (hh : A.handled = none) (D : ZipApart z TI TO i1 i2 l1 l2)
    (hz : IsZipB s.heap z TI TO (rawInt (p : Int)) b) (hp : s.heap.get? p = some o) (hTI : IsPair s.heap TI (.ref i1) (.ref i2)) (h1 : st1 k1 s.heap) (h2 : st2 k2 s.heap) (hl1 : src1 xs s.heap) (hl2 : src2 ys s.heap) (hend : xs[k1]? = none ∨ ys[k2]? = none)
    (hQ : ∀ h', (∀ c o, c ≠ z → c ≠ i1 → c ≠ i2 → s.heap.get? c = some o → h'.get? c = some o) → Q none { s with heap := h' }) : wpAny (model prog w) A (pyNext (.ref z)) Q E s := by
  have hT : s.TypeIs (.ref z) "zip" := ⟨_, hz, rfl⟩
  unfold pyNext
  have fin : ∀ (h' : Heap) (e : Addr), (∀ c o, c ≠ z → c ≠ i1 → c ≠ i2 → s.heap.get? c = some o → h'.get? c = some o) → (∃ o, h'.get? e = some o ∧ o.cls = .type "StopIteration") →
      wpAny (model prog w) A (isInstance (.ref e) (.type "StopIteration") >>= fun b => if b = true then pure none else throw (.ref e)) Q E { s with heap := h' } := fun h' e hk ⟨o, ho, hc⟩ =>
    wpAny_bind (wpAny_isInstance (T := "StopIteration") (b := true) ⟨o, ho, hc⟩ isSubtype_stop (wpAny_pure (hQ _ hk)))
  refine wpAny_bind (wpAny_attempt (wpAny_callSpecial?_slot (name := Str.ofString "__next__") hT F.slot_zip_next (wpAny_call_entry F.slot_zip_next hT F.entry_zip_next ?_ (F.args_zip_next_1 _))))
  show wpAny _ _ (field (.ref z) 2 >>= _) _ _ _
  refine wpAny_bind (wpAny_field hz rfl (x := .bool false) rfl ?_)
  show wpAny _ _ (field (.ref z) 3 >>= _) _ _ _
  refine wpAny_bind (wpAny_field hz rfl (x := .ref TI) rfl ?_)
  refine wpAny_bind (wpAny_seqItems hTI rfl ?_)
  show wpAny _ _ (Builtin.SmallTypes.ownedTupleIsFree (.ref z) >>= _) _ _ _
  refine wpAny_bind (zip_notFree hz hp fun g1 z1 b1 => ?_)
  simp only [Bool.false_eq_true, if_false]
  refine wpAny_bind ?_
  simp only [← Array.forIn_toList, List.forIn_cons, List.forIn_nil]
  refine wpAny_bind (wpAny_bind (wpAny_holding ?_))
  show wpAny _ _ (Builtin.SmallTypes.nextOf (.ref i1) >>= _) _ _ _
  have u1 := N1.mv h1 fun o e => b1.extBut _ _ D.i1z e
  have v1 := N1.mvS hl1 fun o e => b1.extBut _ _ D.l1z e
  cases hx : xs[k1]? with
  | none =>
    refine wpAny_bind (N1.fin hh u1 v1 hx fun g2 e b2 he => ?_)
    exact fin g2 e (fun c o c1 c3 _ x => b2 _ _ c3 (b1.extBut _ _ c1 x)) he
  | some x =>
    have hy : ys[k2]? = none := by
      rcases hend with h | h
      · rw [hx] at h; cases h
      · exact h
    refine wpAny_bind (N1.item u1 v1 hx fun g2 t2 b2 => wpAny_pure (wpAny_pure ?_))
    refine wpAny_bind (wpAny_bind (wpAny_holding ?_))
    show wpAny _ _ (Builtin.SmallTypes.nextOf (.ref i2) >>= _) _ _ _
    refine wpAny_bind (N2.fin hh (N2.mv h2 fun o e => b2.extBut _ _ D.i12.symm (b1.extBut _ _ D.i2z e)) (N2.mvS hl2 fun o e => b2.extBut _ _ D.l2i1 (b1.extBut _ _ D.l2z e)) hy fun g4 e b4 he => ?_)
    exact fin g4 e (fun c o c1 c3 c4 x => b4 _ _ c4 (b2.extBut _ _ c3 (b1.extBut _ _ c1 x))) he
end
section
variable {z TI TO i1 i2 a b d : Addr} {prog : Program} {w : World} {A : Around} {E : Value → Shared → Prop} {s : Shared}
end
section
variable {prog : Program} {w : World} {K : Type} [DecidableEq K] {knd : KeyKind prog w K} {A : Around} {R : Result → Shared → Prop} {z TI TO i1 i2 a b d : Addr} {xs ys : Array Value} {rs : List (K × Value)} {h₀ : Heap} {g : Array GenState} {dr : Drawn} {os : OsState}
end
end L2

/-! MY RULES: list(zip(tuple, list)), whole. -/
set_option linter.all false
set_option maxRecDepth 100000
set_option maxHeartbeats 4000000
namespace L2
open PySem PySem.Spec PyProof.Rows
/-! ### zip(tuple, list) is made -/
abbrev zqH1 (h : Heap) (l1 : Addr) : Heap := h.push { cls := .type "tuple_iterator", data := .fields #[.ref l1, .int 0 0] }
abbrev zqH2 (h : Heap) (l1 l2 : Addr) : Heap := (zqH1 h l1).push { cls := .type "list_iterator", data := .fields #[.ref l2, .int 0 0] }
abbrev zqH3 (h : Heap) (l1 l2 : Addr) : Heap := (zqH2 h l1 l2).push { cls := .type "tuple", data := .seq #[.ref h.objs.size, .ref (zqH1 h l1).objs.size] }
abbrev zqH4 (h : Heap) (l1 l2 : Addr) : Heap := (zqH3 h l1 l2).push { cls := .type "tuple", data := .seq #[.none, .none] }
abbrev zqH5 (h : Heap) (l1 l2 : Addr) : Heap := (zqH4 h l1 l2).push { cls := .type "zip", data := .fields #[.none, .bool false, .bool false, .ref (zqH2 h l1 l2).objs.size, .ref (zqH3 h l1 l2).objs.size] }
theorem meets_zip_tl (l1 l2 : Addr) (xs ys : Array Value) : Meets (Builtin.«zip.__new__» ⟨[.type "zip", .ref l1, .ref l2], []⟩) (fun _ R s => s.heap.IsTuple l1 xs ∧ s.heap.IsList l2 ys ∧
    R (.ok (.ret (.ref (zqH4 s.heap l1 l2).objs.size))) { s with heap := zqH5 s.heap l1 l2 }) :=
  .of_wp fun prog w A R s h => by
    obtain ⟨hp, g, d, tk, os⟩ := s; obtain ⟨hl1, hl2, h⟩ := h
    have hsub := sub_zip
    have hL1 : Heap.IsTuple (Shared.heap ⟨hp, g, d, tk, os⟩) l1 xs := hl1
    have hL2 : Heap.IsList (Shared.heap ⟨hp.push { cls := .type "tuple_iterator", data := .fields #[.ref l1, .int 0 0] }, g, d, tk, os⟩) l2 ys := Heap.IsList.push hl2 _
    wp_walk using wpAny_pyIter_tuple hL1, wpAny_pyIter_list hL2
    exact ⟨_, rfl, h⟩
/-- how a zip of a tuple and a list stands before the i-th draw of a list's making -/
def ZQ (z TI TO i1 i2 a b d : Addr) (i : Nat) (h : Heap) : Prop := IsPair h TI (.ref i1) (.ref i2) ∧ h.IsTupleIter i1 a i ∧ h.IsListIter i2 b i ∧
  ((IsZip h z TI TO .none ∧ ∃ u v, IsPair h TO u v) ∨ ∃ (p : Addr) (o : Obj) (bb : Bool), IsZipB h z TI TO (rawInt (p : Int)) bb ∧ h.get? p = some o ∧ p ≠ z ∧ p ≠ i1 ∧ p ≠ i2 ∧ p ≠ d)
theorem call_zip_tl {prog : Program} {w : World} {A : Around} {E : Value → Shared → Prop} {s : Shared} {l1 l2 d : Addr} {xs ys : Array Value} {Q : Value → Shared → Prop} (hl1 : s.heap.IsTuple l1 xs) (hl2 : s.heap.IsList l2 ys)
    (h : ∀ h', IsZip h' (s.heap.objs.size + 4) (s.heap.objs.size + 2) (s.heap.objs.size + 3) .none → ZQ (s.heap.objs.size + 4) (s.heap.objs.size + 2) (s.heap.objs.size + 3) s.heap.objs.size (s.heap.objs.size + 1) l1 l2 d 0 h' → (∀ c o, s.heap.get? c = some o → h'.get? c = some o) → Q (.ref (s.heap.objs.size + 4)) { s with heap := h' }) :
    wpAny (model prog w) A (call (.type "zip") [.ref l1, .ref l2]) Q E s := by
  refine callType_new F.called_zip (by decide) (F.typeCall_zip_2 _ _) (F.newCall_zip_2 _ _) (fun obj => F.args_object_init_3 obj _ _) F.entry_zip_new (meets_zip_tl l1 l2 xs ys) ⟨hl1, hl2, ?_⟩
  have z1 : (zqH1 s.heap l1).objs.size = s.heap.objs.size + 1 := Heap.size_push ..
  have z2 : (zqH2 s.heap l1 l2).objs.size = s.heap.objs.size + 2 := by rw [Heap.size_push, z1]
  have z3 : (zqH3 s.heap l1 l2).objs.size = s.heap.objs.size + 3 := by rw [Heap.size_push, z2]
  have z4 : (zqH4 s.heap l1 l2).objs.size = s.heap.objs.size + 4 := by rw [Heap.size_push, z3]
  have q5 : (zqH5 s.heap l1 l2).get? (zqH4 s.heap l1 l2).objs.size = some _ := Heap.get?_push_size _ rfl
  have q4 : (zqH5 s.heap l1 l2).get? (zqH3 s.heap l1 l2).objs.size = some _ := Heap.get?_push_of_some _ (Heap.get?_push_size _ rfl)
  have q3 : (zqH5 s.heap l1 l2).get? (zqH2 s.heap l1 l2).objs.size = some _ := Heap.get?_push_of_some _ (Heap.get?_push_of_some _ (Heap.get?_push_size _ rfl))
  have q2 : (zqH5 s.heap l1 l2).get? (zqH1 s.heap l1).objs.size = some _ := Heap.get?_push_of_some _ (Heap.get?_push_of_some _ (Heap.get?_push_of_some _ (Heap.get?_push_size _ rfl)))
  have q1 : (zqH5 s.heap l1 l2).get? s.heap.objs.size = some _ := Heap.get?_push_of_some _ (Heap.get?_push_of_some _ (Heap.get?_push_of_some _ (Heap.get?_push_of_some _ (Heap.get?_push_size _ rfl))))
  show _ ∧ _
  rw [z2, z3, z4] at q5
  rw [z1, z2] at q3
  rw [z3] at q4
  rw [z1] at q2
  rw [z4]
  exact ⟨⟨_, q5, rfl⟩, h _ q5 ⟨q3, ⟨_, q1, rfl, rfl⟩, ⟨_, q2, rfl, rfl⟩, .inl ⟨q5, _, _, q4⟩⟩ fun c o x => Heap.get?_push_of_some _ (Heap.get?_push_of_some _ (Heap.get?_push_of_some _ (Heap.get?_push_of_some _ (Heap.get?_push_of_some _ x))))⟩
theorem ZQ.at {z TI TO i1 i2 a b d : Addr} {i : Nat} {h h' : Heap} (x : ZQ z TI TO i1 i2 a b d i h) (nz : z ≠ d) (n1 : TI ≠ d) (n2 : TO ≠ d) (n3 : i1 ≠ d) (n4 : i2 ≠ d) (f : ∀ c o, c ≠ d → h.get? c = some o → h'.get? c = some o) : ZQ z TI TO i1 i2 a b d i h' := by
  obtain ⟨h1, h2, h3, h4⟩ := x
  refine ⟨f _ _ n1 h1, (nx_tuple i1 a).mv h2 fun o e => f _ _ n3 e, (nx_list i2 b).mv h3 fun o e => f _ _ n4 e, ?_⟩
  rcases h4 with ⟨h4, u, v, h5⟩ | ⟨p, o, bb, h4, h5, m1, m2, m3, m4⟩
  · exact .inl ⟨f _ _ nz h4, u, v, f _ _ n2 h5⟩
  · exact .inr ⟨p, o, bb, f _ _ nz h4, f _ _ m4 h5, m1, m2, m3, m4⟩
section
variable {z TI TO i1 i2 a b d : Addr} {prog : Program} {w : World} {A : Around} {E : Value → Shared → Prop} {s : Shared}
theorem zq_next {i : Nat} {xs ys : Array Value} {x y : Value} {Q : Option Value → Shared → Prop} (D : ZipApart z TI TO i1 i2 a b) (ld : d < s.heap.objs.size) (hz : ZQ z TI TO i1 i2 a b d i s.heap) (hl : s.heap.IsTuple a xs) (ht : s.heap.IsList b ys) (hx : xs[i]? = some x) (hy : ys[i]? = some y)
    (hQ : ∀ h', ZQ z TI TO i1 i2 a b d (i + 1) h' → IsPair h' s.heap.objs.size x y → (∀ c o, c ≠ z → c ≠ TO → c ≠ i1 → c ≠ i2 → s.heap.get? c = some o → h'.get? c = some o) → Q (some (.ref s.heap.objs.size)) { s with heap := h' }) :
    wpAny (model prog w) A (pyNext (.ref z)) Q E s := by
  obtain ⟨h1, h2, h3, h4⟩ := hz
  have n4 : i1 < s.heap.objs.size := let ⟨_, e, _⟩ := (nx_tuple i1 a).ob h2; Heap.lt_size e
  have n5 : i2 < s.heap.objs.size := let ⟨_, e, _⟩ := (nx_list i2 b).ob h3; Heap.lt_size e
  rcases h4 with ⟨h4, u, v, h5⟩ | ⟨p, o, bb, h4, h5, m1, m2, m3, m4⟩
  · have nz : z < s.heap.objs.size := Heap.lt_size h4
    refine zip_item (nx_tuple i1 a) (nx_list i2 b) D h4 h1 h5 h2 h3 hl ht hx hy fun h' z1 z2 z3 z4 z5 kp => ?_
    exact hQ h' ⟨kp _ _ D.TIz D.TITO D.TIi1 D.TIi2 h1, z3, z4, .inr ⟨s.heap.objs.size, _, false, z1, z5, Nat.ne_of_gt nz, Nat.ne_of_gt n4, Nat.ne_of_gt n5, Nat.ne_of_gt ld⟩⟩ z5 kp
  · refine zip_more (nx_tuple i1 a) (nx_list i2 b) D h4 h5 h1 h2 h3 hl ht hx hy fun h' z1 z3 z4 z5 kp => ?_
    exact hQ h' ⟨kp _ _ D.TIz D.TIi1 D.TIi2 h1, z3, z4, .inr ⟨p, o, true, z1, kp _ _ m1 m2 m3 h5, m1, m2, m3, m4⟩⟩ z5 fun c o c1 _ c3 c4 e => kp c o c1 c3 c4 e
theorem zq_end {i : Nat} {xs ys : Array Value} {Q : Option Value → Shared → Prop} (hh : A.handled = none) (D : ZipApart z TI TO i1 i2 a b) (hz : ZQ z TI TO i1 i2 a b d i s.heap) (hl : s.heap.IsTuple a xs) (ht : s.heap.IsList b ys) (he : xs[i]? = none ∨ ys[i]? = none)
    (hQ : ∀ h', (∀ c o, c ≠ z → c ≠ TO → c ≠ i1 → c ≠ i2 → s.heap.get? c = some o → h'.get? c = some o) → Q none { s with heap := h' }) : wpAny (model prog w) A (pyNext (.ref z)) Q E s := by
  obtain ⟨h1, h2, h3, h4⟩ := hz
  rcases h4 with ⟨h4, u, v, h5⟩ | ⟨p, o, bb, h4, h5, m1, m2, m3, m4⟩
  · exact zip_end (nx_tuple i1 a) (nx_list i2 b) hh D h4 h1 h5 h2 h3 hl ht he hQ
  · exact zip_fin (nx_tuple i1 a) (nx_list i2 b) hh D h4 h5 h1 h2 h3 hl ht he fun h' kp => hQ h' fun c o c1 _ c3 c4 e => kp c o c1 c3 c4 e
end
theorem zip_no_len : typeLookup (.type "zip") "__len__" = pure none := by rw [typeLookup_type, builtinLookup_eq_fast]; kernel_rfl
theorem zip_no_hint : typeLookup (.type "zip") "__length_hint__" = pure none := by rw [typeLookup_type, builtinLookup_eq_fast]; kernel_rfl
/-- the pairs laid so far -/
def PsAt (H : Hp) (ps : List Addr) (us ws : List V) : Prop := ∀ (i : Nat) (p : Addr), ps[i]? = some p → ∃ u w, us[i]? = some u ∧ ws[i]? = some w ∧ H p = some (.tup [u, w])
theorem same_seqT {K : PySem.W.Frag} {H H' : Hp} {a : Addr} {xs : List V} (e : Same H H') (h : SqT K H a xs) : SqT K H' a xs := by
  rcases h with (h | ⟨o, h⟩) | h
  · exact .inl (.inl (e _ _ h))
  · exact .inl (.inr ⟨o, e _ _ h⟩)
  · exact .inr h
section
variable {X : Cx}
theorem zq_loop {A : Around} {pins : List (Addr × Obj)} {σ : St} {R : Result → Shared → Prop} {z TI TO i1 i2 a b S : Addr} {us ws : List V} {H1 : Hp} (hh : A.handled = none) (D : ZipApart z TI TO i1 i2 a b) (nz : z ≠ S) (n1 : TI ≠ S) (n2 : TO ≠ S) (n3 : i1 ≠ S) (n4 : i2 ≠ S)
    (hf : ∀ c ∈ [z, TI, TO, i1, i2], ∀ H' : Hp, H' c = none → FpOk X pins H' c) (hlt0 : ∀ c ∈ [z, TI, TO, i1, i2], c < S) (hlen : us.length = ws.length) (hsz : us.length ≤ sizeLine) (hT : SqT X.K H1 a us) (hL : SqL X.K H1 b ws) (hS0 : H1 S = none)
    (fin : ∀ (s' : Shared) (H2 : Hp) (ps : List Addr), Inv X pins σ H2 s' → Same H1 H2 → H2 S = some (.lst (ps.map V.ref)) → ps.length = us.length → PsAt H2 ps us ws → R (.ok (.ret .none)) s') :
    ∀ (k i : Nat) (s : Shared) (H2 : Hp) (ps : List Addr), us.length - i = k → i ≤ us.length → ZQ z TI TO i1 i2 a b S i s.heap → Inv X pins σ H2 s → (∀ c ∈ [z, TI, TO, i1, i2], H2 c = none) → Same H1 H2 → H2 S = some (.lst (ps.map V.ref)) → ps.length = i → PsAt H2 ps us ws →
      codeAny (model X.prog X.w) A (.builtin "list.extend.loop" ⟨[.ref S, .ref z, .none], []⟩) R s := by
  intro k
  induction k with
  | zero =>
    intro i s H2 ps hk hi hz I fr sm hS hl hP
    have hin : i = us.length := by omega
    obtain ⟨its, rv, p1, _⟩ := I.tuple (same_seqT sm hT)
    obtain ⟨its2, rv2, p2, _⟩ := I.list (sm.seq hL)
    have e1 := rv.length
    refine codeAny_builtin PySem.F.entry_extend_loop ?_
    rw [Around.under_plainId PySem.F.plain_extend_loop _]
    show wpAny _ A.in1 (pyNext (.ref z) >>= _) _ _ _
    refine wpAny_bind (zq_end (by simpa using hh) D hz (show s.heap.IsTuple a its.toArray from p1) p2.isList (.inl (by rw [hin]; simp; omega)) fun h' kp => ?_)
    refine wpAny_pure (fin _ H2 ps (I.turnedL (t' := s.toks) (ts := [z, TI, TO, i1, i2]) (fun c o hc e => ?_) fun c hc => hf c hc H2 (fr c hc)) sm hS (by omega) hP)
    simp only [List.mem_cons, List.not_mem_nil, or_false, not_or] at hc
    exact kp c o hc.1 hc.2.2.1 hc.2.2.2.1 hc.2.2.2.2 e
  | succ k ih =>
    intro i s H2 ps hk hi hz I fr sm hS hl hP
    have hlt : i < us.length := by omega
    obtain ⟨its, rv, p1, _⟩ := I.tuple (same_seqT sm hT)
    obtain ⟨its2, rv2, p2, _⟩ := I.list (sm.seq hL)
    obtain ⟨u, hu⟩ : ∃ u, us[i]? = some u := ⟨us[i], List.getElem?_eq_getElem hlt⟩
    obtain ⟨w, hw⟩ : ∃ w, ws[i]? = some w := ⟨ws[i], List.getElem?_eq_getElem (by omega)⟩
    obtain ⟨x, hx, rx⟩ := rv.get hu
    obtain ⟨y, hy, ry⟩ := rv2.get hw
    obtain ⟨sI, sn, sr, sg, sz⟩ := I.lst hS
    have lS : S < s.heap.objs.size := Heap.lt_size sg
    refine codeAny_builtin PySem.F.entry_extend_loop ?_
    rw [Around.under_plainId PySem.F.plain_extend_loop _]
    show wpAny _ A.in1 (pyNext (.ref z) >>= _) _ _ _
    refine wpAny_bind (zq_next D lS hz (show s.heap.IsTuple a its.toArray from p1) p2.isList (x := x) (by simpa using hx) (y := y) (by simpa using hy) fun h' zq pr kp => ?_)
    have lz : ∀ c ∈ [z, TI, TO, i1, i2], c < s.heap.objs.size := fun c hc => Nat.lt_trans (hlt0 c hc) lS
    have I1 : Inv X pins σ (upd H2 s.heap.objs.size (.tup [u, w])) { s with heap := h', toks := s.toks } := I.turnedNew (ts := [z, TI, TO, i1, i2]) (fun c o hc e => by
      simp only [List.mem_cons, List.not_mem_nil, or_false, not_or] at hc
      exact kp c o hc.1 hc.2.2.1 hc.2.2.2.1 hc.2.2.2.2 e) (fun c hc => hf c hc H2 (fr c hc)) (Nat.le_refl _) ⟨by show 2 ≤ sizeLine; decide, [x, y], .cons rx (.cons ry .nil), ⟨_, pr, rfl, _, rfl⟩⟩
    have nS : S ≠ s.heap.objs.size := Nat.ne_of_lt lS
    have hS1 : upd H2 s.heap.objs.size (.tup [u, w]) S = some (.lst (ps.map V.ref)) := by rw [upd_ne nS]; exact hS
    have sg1 : h'.get? S = some { cls := .type "list", data := .seq sI.toArray sn } := kp S _ nz.symm n2.symm n3.symm n4.symm sg
    have eS := sr.length
    rw [List.length_map, hl] at eS
    have hN : H2 s.heap.objs.size = none := I.hok.fresh (Nat.le_refl _)
    have I2 : Inv X pins σ (upd (upd H2 s.heap.objs.size (.tup [u, w])) S (.lst ((ps ++ [s.heap.objs.size]).map V.ref))) { s with heap := h'.update S (Obj.mapSeq (·.push (Value.ref s.heap.objs.size))), toks := s.toks } :=
      I1.lset (its' := sI ++ [Value.ref s.heap.objs.size]) hS1 sg1 (by simp) (by rw [List.map_append]; exact sr.append (.cons rfl .nil)) (by rw [List.length_map, List.length_append, List.length_singleton, hl]; omega)
    have up : ∀ c o, c ≠ S → h'.get? c = some o → (h'.update S (Obj.mapSeq (·.push (Value.ref s.heap.objs.size)))).get? c = some o := fun c o hc e => (Heap.get?_update_other _ _ (Ne.symm hc)).trans e
    have sm2 : Same H1 (upd (upd H2 s.heap.objs.size (.tup [u, w])) S (.lst ((ps ++ [s.heap.objs.size]).map V.ref))) := same_fresh (sm.trans (same_new hN)) hS0
    show wpAny _ A.in1 (updateSeq S (·.push (Value.ref s.heap.objs.size)) >>= _) _ _ _
    refine wpAny_bind (wpAny_updateSeq sg1 rfl (wpAny_pure ⟨plainId_quiet PySem.F.plain_extend_loop _, ih (i + 1) _ _ (ps ++ [s.heap.objs.size]) (by omega) hlt (zq.at nz n1 n2 n3 n4 up) I2 (fun c hc => ?_) sm2 upd_same (by rw [List.length_append, hl]; rfl) ?_⟩) (by rw [List.size_toArray]; omega) (by show (sI.toArray.push _).size ≤ sizeLine + 1; rw [Array.size_push, List.size_toArray]; omega))
    · rw [upd_ne (Nat.ne_of_lt (hlt0 c hc)), upd_ne (Nat.ne_of_lt (lz c hc))]
      exact fr c hc
    · intro j p hj
      rcases Nat.lt_trichotomy j ps.length with h1 | h1 | h1
      · rw [List.getElem?_append_left h1] at hj
        obtain ⟨u', w', e1, e2, e3⟩ := hP j p hj
        refine ⟨u', w', e1, e2, ?_⟩
        rw [upd_ne (ne_of e3 hS (by intro z; cases z)), upd_ne (ne_of_none e3 hN)]
        exact e3
      · subst h1
        have hb : s.heap.objs.size = p := by simpa using hj
        subst hb
        refine ⟨u, w, by rw [hl]; exact hu, by rw [hl]; exact hw, ?_⟩
        rw [upd_ne nS.symm]
        exact upd_same
      · have hnone : (ps ++ [s.heap.objs.size])[j]? = none := List.getElem?_eq_none (by rw [List.length_append, List.length_singleton]; omega)
        rw [hnone] at hj; cases hj
def tLZ (K : PySem.W.Frag) (ta : TA) : TE := fun σ H Q => ta σ H fun vs H1 => ∃ t l us ws, vs = [.ref t, .ref l] ∧ SqT K H1 t us ∧ SqL K H1 l ws ∧ us.length = ws.length ∧ ∀ D ps H2, H1 D = none → Same H1 H2 → H2 D = some (.lst ((ps : List Addr).map V.ref)) → ps.length = us.length → PsAt H2 ps us ws → Q (.ref D) H2
theorem pe_listzip {a b : Expr} {ta : TA} {p1 p2 pos1 pos2 : Pos} (hc : X.calm = true) (hgd : Gl X "list") (hmd : X.mg "list" = none) (hgz : Gl X "zip") (hmz : X.mg "zip" = none) (ha : PA X [a, b] ta)
    (hs0 : starEach [.Call (.Name "zip" p2) [a, b] [] pos2] X.env = (false, eval (.Call (.Name "zip" p2) [a, b] [] pos2) X.env) :: starEach [] X.env := by rfl)
    (hs : starEach [a, b] X.env = [(false, eval a X.env), (false, eval b X.env)] := by rfl) (hs2 : starEach [b] X.env = [(false, eval b X.env)] := by rfl) :
    PE X (.Call (.Name "list" p1) [.Call (.Name "zip" p2) [a, b] [] pos2] [] pos1) (tLZ X.K ta) := by
  intro pins s σ H Q I h
  have hh : X.A.handled = none := I.ok.hd hc
  refine wpAny_Call_Name_kw (ld_blt I hgd hmd boot_list ?_)
  refine PyProof.Rows.callWith_type1 ?_ hs0 (by rfl)
  rw [hs0]
  show wpAny _ _ (spliced ((false, eval _ X.env) :: backTo pos1 (starEach [] X.env))) _ _ s
  refine Calls.spliced_cons ?_
  refine Call_ (ld_blt I hgz hmz boot_zip (PyProof.Rows.callWith_type1 (thn (ha pos2 pins s σ H _ I h) fun us s1 ⟨vs, H1, I1, r1, q1⟩ => ?_) (by rw [hs, hs2]) (by rw [hs2]; rfl)))
  obtain ⟨l1, l2, ks, ws, e, hq1, hq2, hle, q⟩ := q1
  subst e
  obtain ⟨u, u2, rfl, ru, ru2⟩ := vals2 r1
  cases ru
  cases ru2
  obtain ⟨its, rv, p1', zk⟩ := I1.tuple hq1
  obtain ⟨its2, rv2, p2', _⟩ := I1.list hq2
  have t1 : l1 < s1.heap.objs.size := p1'.lt
  have t2 : l2 < s1.heap.objs.size := let ⟨_, e, _⟩ := p2'.isList; Heap.lt_size e
  refine call_zip_tl (d := s1.heap.objs.size + 5) (show s1.heap.IsTuple l1 its.toArray from p1') p2'.isList fun h' hz zq kp => Calls.spliced_nil ?_
  have D := zipApart_new t1 t2
  have lz : s1.heap.objs.size + 4 < h'.objs.size := Heap.lt_size hz
  have zq : ZQ (s1.heap.objs.size + 4) (s1.heap.objs.size + 2) (s1.heap.objs.size + 3) s1.heap.objs.size (s1.heap.objs.size + 1) l1 l2 h'.objs.size 0 h' := by
    obtain ⟨g1, g2, g3, g4⟩ := zq
    refine ⟨g1, g2, g3, ?_⟩
    rcases g4 with g4 | ⟨p, o, bb, g4, g5, m1, m2, m3, m4⟩
    · exact .inl g4
    · exact .inr ⟨p, o, bb, g4, g5, m1, m2, m3, Nat.ne_of_lt (Heap.lt_size g5)⟩
  have I2 : Inv X pins σ H1 { s1 with heap := h' } := I1.kept (t' := s1.toks) kp
  refine callType_codes (Q₁ := fun obj s₁ => obj = .ref h'.objs.size ∧ s₁ = { s1 with heap := h'.push { cls := .type "list", data := .seq #[] } }) PySem.F.called_list (PySem.F.typeCall_list_1 _) PySem.F.entry_list_init (code_list_new (s := { s1 with heap := h' }) _ ⟨rfl, rfl⟩) ?_
  rintro obj s₁ ⟨rfl, rfl⟩
  have I3 : Inv X pins σ (upd H1 h'.objs.size (.lst [])) { s1 with heap := h'.push { cls := .type "list", data := .seq #[] }, toks := s1.toks } := I2.lnew (its := []) .nil (Nat.zero_le _)
  have hS : (h'.push { cls := .type "list", data := .seq #[] }).get? h'.objs.size = some { cls := .type "list", data := .seq #[] } := Heap.get?_push_size _ rfl
  have hle5 : ∀ c ∈ [s1.heap.objs.size + 4, s1.heap.objs.size + 2, s1.heap.objs.size + 3, s1.heap.objs.size, s1.heap.objs.size + 1], s1.heap.objs.size ≤ c ∧ c < h'.objs.size := fun c hc => by
    simp only [List.mem_cons, List.not_mem_nil, or_false] at hc
    rcases hc with rfl | rfl | rfl | rfl | rfl <;> exact ⟨by omega, by omega⟩
  have hH0 : H1 h'.objs.size = none := I2.hok.fresh (Nat.le_refl _)
  have ez : (h'.push { cls := .type "list", data := .seq #[] }).get? (s1.heap.objs.size + 4) = some _ := Heap.get?_push_of_some _ hz
  have hTz : Shared.TypeIs { s1 with heap := h'.push { cls := .type "list", data := .seq #[] } } (.ref (s1.heap.objs.size + 4)) "zip" := ⟨_, ez, rfl⟩
  refine ⟨⟨_, hS, rfl⟩, PySem.F.args_list_init_2 _ _, ?_⟩
  show wpAny _ _ (do let old ← Builtin.List.listItems (.ref h'.objs.size); Builtin.List.listUpdate (.ref h'.objs.size) (fun _ => #[]); letGo old.toList.reverse; Builtin.List.listExtendWith (.ref h'.objs.size) (.ref (s1.heap.objs.size + 4)) .none) _ _ _
  refine wpAny_bind ?_
  unfold Builtin.List.listItems
  refine wpAny_bind (wpAny_seqItems hS rfl (wpAny_pure ?_))
  show wpAny _ _ (updateSeq h'.objs.size (fun _ => #[]) >>= fun _ => letGo (#[] : Array Value).toList.reverse >>= fun _ => Builtin.List.listExtendWith (.ref h'.objs.size) (.ref (s1.heap.objs.size + 4)) .none) _ _ _
  refine wpAny_bind (wpAny_updateSeq hS rfl ?_)
  have J1 := I3.lset (t' := s1.toks) (its := []) (its' := []) (n := 0) (ys := []) (f := fun _ => #[]) upd_same hS rfl .nil (Nat.zero_le _)
  refine wpAny_bind (wpAny_letGo ?_)
  unfold Builtin.List.listExtendWith
  have oth : ∀ (h : Heap) (f : Array Value → Array Value) (b : Addr) (o : Obj), b ≠ h'.objs.size → h.get? b = some o → (h.update h'.objs.size (Obj.mapSeq f)).get? b = some o := fun h f b o hb e => (Heap.get?_update_other _ _ (Ne.symm hb)).trans e
  have nz : s1.heap.objs.size + 4 ≠ h'.objs.size := Nat.ne_of_lt lz
  have ez2 := oth _ (fun _ => #[]) _ _ nz ez
  have hT2 : Shared.TypeIs { s1 with heap := (h'.push { cls := .type "list", data := .seq #[] }).update h'.objs.size (Obj.mapSeq fun _ => #[]) } (.ref (s1.heap.objs.size + 4)) "zip" := ⟨_, ez2, rfl⟩
  refine wpAny_bind (wpAny_typeOf (T := "zip") hT2 ?_)
  have h1 : Builtin.List.listSameRef (.ref h'.objs.size) (.ref (s1.heap.objs.size + 4)) = false := by simp [Builtin.List.listSameRef, nz.symm]
  have h2 : (Value.type "zip" == Value.type "list") = false := by decide
  have h3 : (Value.type "zip" == Value.type "tuple") = false := by decide
  simp only [h1, h2, h3, Bool.or_false, Bool.false_eq_true, if_false]
  refine wpAny_bind (wpAny_pyIter_zip ez2 ?_)
  refine wpAny_bind (wpAny_holding ?_)
  unfold Builtin.List.listLengthHint
  refine wpAny_bind (wpAny_specialOf hT2 zip_no_len ?_)
  show wpAny _ _ (specialOf (Value.ref (s1.heap.objs.size + 4)) (Str.ofString "__length_hint__") >>= _) _ _ _
  refine wpAny_bind (wpAny_specialOf hT2 zip_no_hint ?_)
  refine wpAny_pure ?_
  show wpAny _ _ (rule "list.extend.makes-room" >>= fun _ => Builtin.List.listTouch (.ref h'.objs.size) >>= fun _ =>
    again (.builtin "list.extend.loop" ⟨[.ref h'.objs.size, .ref (s1.heap.objs.size + 4), .none], []⟩)) _ _ _
  refine wpAny_bind (wpAny_rule ?_)
  refine wpAny_bind ?_
  show wpAny _ _ (updateSeq h'.objs.size (·.push .none) >>= fun _ => updateSeq h'.objs.size (·.pop)) _ _ _
  obtain ⟨i1, n1, r1, g1, _⟩ := J1.lst upd_same
  have e1 : i1 = [] := by cases r1; rfl
  subst e1
  refine wpAny_bind (wpAny_updateSeq g1 rfl ?_)
  have J2 := J1.lset (t' := s1.toks) (its := []) (its' := [Value.none]) (ys := [.non]) (f := (·.push Value.none)) upd_same g1 rfl (.cons rfl .nil) (by decide)
  obtain ⟨i2, n2, r2, g2, _⟩ := J2.lst upd_same
  have e2 : i2.length = 1 := r2.length.symm
  refine wpAny_updateSeq g2 rfl ?_ (by rw [List.size_toArray, e2]; decide) (by rw [Array.size_pop, List.size_toArray, e2]; decide)
  have J3 := J2.lset (t' := s1.toks) (its := i2) (its' := []) (ys := []) (f := (·.pop)) upd_same g2 (by obtain ⟨x, rfl⟩ := List.length_eq_one_iff.mp e2; rfl) .nil (Nat.zero_le _)
  rw [upd_upd, upd_upd, upd_upd] at J3
  refine wpAny_pure ⟨plainId_quiet PySem.F.plain_extend_loop _, zq_loop (X := X) (pins := pins) (σ := σ) (H1 := H1) (us := ks) (ws := ws) (by simpa using hh) D nz (Nat.ne_of_lt (hle5 _ (by simp)).2) (Nat.ne_of_lt (hle5 _ (by simp)).2) (Nat.ne_of_lt (hle5 _ (by simp)).2) (Nat.ne_of_lt (hle5 _ (by simp)).2)
    (fun c hc H' hn => I1.fpOk (hle5 c hc).1 hn) (fun c hc => (hle5 c hc).2) hle zk hq1 hq2 hH0 (fun s' H2 ps I' sm hS' hl hP => ⟨rfl, .ref h'.objs.size, H2, I', rfl, q _ ps H2 hH0 sm hS' hl hP⟩) ks.length 0 _ _ [] (by omega) (Nat.zero_le _) (zq.at nz (Nat.ne_of_lt (hle5 _ (by simp)).2) (Nat.ne_of_lt (hle5 _ (by simp)).2) (Nat.ne_of_lt (hle5 _ (by simp)).2) (Nat.ne_of_lt (hle5 _ (by simp)).2) fun c o hc e => oth _ _ c o hc (oth _ _ c o hc (oth _ _ c o hc (Heap.get?_push_of_some _ e)))) J3 (fun c hc => ?_) (same_new hH0) upd_same rfl (fun j p hj => by simp at hj)⟩
  rw [upd_ne (Nat.ne_of_lt (hle5 c hc).2)]
  exact I1.hok.fresh (hle5 c hc).1
end
end L2

/-! MY RULES: list(range(..)), tuple(range(a, b)). -/
set_option linter.all false
set_option maxRecDepth 100000
set_option maxHeartbeats 4000000
namespace L2
open PySem PySem.Spec PyProof.Rows
theorem vals_from : ∀ (its : List Value) (lo : Int), (∀ (j : Nat) (v : Value), its[j]? = some v → ∃ t, v = .int (lo + j) t) → Vals ((List.range its.length).map fun (k : Nat) => V.int (lo + k)) its
  | [], _, _ => .nil
  | v :: r, lo, h => by
    rw [List.length_cons, List.range_succ_eq_map, List.map_cons, List.map_map]
    have t := vals_from r (lo + 1) fun j u hj => by
      obtain ⟨t, e⟩ := h (j + 1) u (by simpa using hj)
      exact ⟨t, by rw [e]; congr 1; omega⟩
    have e : ((fun (k : Nat) => V.int (lo + k)) ∘ Nat.succ) = fun (k : Nat) => V.int (lo + 1 + k) := by
      funext k
      show V.int (lo + ((k + 1 : Nat) : Int)) = V.int (lo + 1 + k)
      congr 1
      omega
    rw [e]
    exact .cons (h 0 v rfl) t
section
variable {prog : Program} {w : World} {A : Around} {E : Value → Shared → Prop} {s : Shared}
theorem collect_rng {Q : List Value → Shared → Prop} {r : Addr} {a b c : Int} {t u v : Tok} {n : Nat} (hh : A.handled = none) (hr : IsRange s.heap r a b c t u v) (hsmall : Builtin.Range.small a b c = true)
    (hn : Builtin.Range.rangeSize a b c = n) (hlen : n ≤ 2 ^ 24) (hQ : ∀ (h' : Heap) (tk : Nat) (acc : Array Value), (∀ b o, s.heap.get? b = some o → h'.get? b = some o) → ItemsOf (fun i v => ∃ t, v = .int (a + i * c) t) acc n → Q acc.toList { s with heap := h', toks := tk }) :
    wpAny (model prog w) A (collect (.ref r)) Q E s := by
  unfold collect
  refine wpAny_bind (wpAny_runValue (codeAny_builtin F.entry_proto_collect ?_))
  rw [Around.under_plainId F.plain_proto_collect _]
  show wpAny _ A.in1 (newList [] >>= fun l => again (.builtin "list.__iadd__" ⟨[l, .ref r], []⟩)) _ _ s
  refine wpAny_bind (wpAny_newObj_type ?_)
  refine wpAny_pure ⟨plainId_quiet F.plain_list_iadd _, codeAny_builtin F.entry_list_iadd ?_⟩
  rw [Around.under_plainId F.plain_list_iadd _]
  show wpAny _ A.in1 (Builtin.List.listExtendWith (.ref s.heap.objs.size) (.ref r) (.ref s.heap.objs.size)) _ _ _
  have hS : (s.heap.push { cls := .type "list", data := .seq ([] : List Value).toArray }).get? s.heap.objs.size = some { cls := .type "list", data := .seq #[] 0 } := Heap.get?_push_size _ rfl
  have fin' : ∀ (h' : Heap) (tk : Nat) (acc' : Array Value) (c' : Nat), (∀ b o, b ≠ s.heap.objs.size → (s.heap.push { cls := .type "list", data := .seq ([] : List Value).toArray }).get? b = some o → h'.get? b = some o) → h'.get? s.heap.objs.size = some { cls := .type "list", dict := none, data := .seq acc' c', slots := #[] } → ItemsOf (fun i v => ∃ t, v = .int (a + i * c) t) acc' n →
      wpAny (model prog w) A (match Value.ref s.heap.objs.size with
      | Value.ref a => do
        match (← load a).data with
          | Data.seq xs _ => pure xs.toList
          | _ => unsupported "internal:collect"
      | _ => unsupported "internal:collect") Q E { s with heap := h', toks := tk } := fun h' tk acc' c' kp hS' hacc => by
    show wpAny _ A (load s.heap.objs.size >>= _) _ _ _
    refine wpAny_bind (wpAny_load hS' ?_)
    exact wpAny_pure (hQ h' tk acc' (fun b o e => kp b o (Nat.ne_of_lt (Heap.lt_size e)) (Heap.get?_push_of_some _ e)) hacc)
  refine wpAny_mono (wpAny_extend_range (A := A) (R := fun r s' => ∃ (h' : Heap) (tk : Nat) (acc' : Array Value) (c' : Nat), r = .ok (.ret (.ref s.heap.objs.size)) ∧ s' = { s with heap := h', toks := tk } ∧ (∀ b o, b ≠ s.heap.objs.size → (s.heap.push { cls := .type "list", data := .seq ([] : List Value).toArray }).get? b = some o → h'.get? b = some o) ∧ h'.get? s.heap.objs.size = some { cls := .type "list", dict := none, data := .seq acc' c', slots := #[] } ∧ ItemsOf (fun i v => ∃ t, v = .int (a + i * c) t) acc' n)
    (s := { s with heap := s.heap.push { cls := .type "list", data := .seq ([] : List Value).toArray } }) hh (Heap.get?_push_of_some _ hr) hsmall hn hlen s.heap.objs.size _ 0 hS fun h' tk acc' c' kp hS' hacc => ⟨h', tk, acc', c', rfl, rfl, kp, hS', hacc⟩) (fun fin s' h => ?_) (fun e s' h => ?_)
  · cases fin with
    | done f =>
      obtain ⟨h', tk, acc', c', e, rfl, kp, hS', hacc⟩ := h
      cases e
      exact fin' h' tk acc' c' kp hS' hacc
    | again c' => exact ⟨h.1, codeAny_mono h.2 fun r s'' hr => by obtain ⟨h', tk, acc', c', rfl, rfl, kp, hS', hacc⟩ := hr; exact fin' h' tk acc' c' kp hS' hacc⟩
  · obtain ⟨_, _, _, _, e, _⟩ := h
    cases e
theorem tuple_new_rng {Q₁ : Value → Shared → Prop} {r : Addr} {a b c : Int} {t u v : Tok} {n : Nat} (hh : A.handled = none) (hr : IsRange s.heap r a b c t u v) (hsmall : Builtin.Range.small a b c = true)
    (hn : Builtin.Range.rangeSize a b c = n) (hlen : n ≤ 2 ^ 24)
    (h : ∀ (h' : Heap) (tk : Nat) (acc : Array Value), (∀ b o, s.heap.get? b = some o → h'.get? b = some o) → ItemsOf (fun i v => ∃ t, v = .int (a + i * c) t) acc n → Q₁ (.ref h'.objs.size) { s with heap := h'.push { cls := .type "tuple", data := .seq acc }, toks := tk }) (hsz : n ≤ sizeLine) :
    codeAny (model prog w) A (.call (.builtin "tuple.__new__") ⟨[.type "tuple", .ref r], []⟩) (wants Q₁ E) s := by
  refine codeAny_of_tree ?_
  show wpAny _ A.in1 (do checkBuiltinCall "tuple.__new__" ⟨[.type "tuple", .ref r], []⟩; again (.builtin "tuple.__new__" ⟨[.type "tuple", .ref r], []⟩)) _ _ s
  refine wpAny_bind (wpAny_of_eq (F.newCall_tuple_1 _) (wpAny_pure ⟨plainId_quiet F.plain_tuple_new _, codeAny_builtin F.entry_tuple_new ?_⟩))
  rw [Around.under_plainId F.plain_tuple_new _]
  have hsub := sub_tuple_self
  have hinit := init_tuple_lookup
  have hmh := madeHere_tuple
  have hTI : s.TypeIs (.ref r) "range" := ⟨_, hr, rfl⟩
  wp_walk using wpAny_typeOf hTI, collect_rng (by first | exact hh | simpa using hh) hr hsmall hn hlen
  intro h' tk acc kp hacc
  show wpAny _ _ (Builtin.Tuple.tupleExact acc.toList.toArray >>= fun v => ret v) _ _ _
  unfold Builtin.Tuple.tupleExact
  refine wpAny_bind (wpAny_newObj_type ?_ (by show acc.toList.toArray.size ≤ sizeLine; simp only [Array.toArray_toList]; rw [hacc.1]; exact hsz))
  refine wpAny_pure ?_
  have e : acc.toList.toArray = acc := by simp
  rw [e]
  exact h h' tk acc kp hacc
theorem call_tuple_rng {Q : Value → Shared → Prop} {r : Addr} {a b c : Int} {t u v : Tok} {n : Nat} (hh : A.handled = none) (hr : IsRange s.heap r a b c t u v) (hsmall : Builtin.Range.small a b c = true)
    (hn : Builtin.Range.rangeSize a b c = n) (hlen : n ≤ 2 ^ 24)
    (hQ : ∀ (h' : Heap) (tk : Nat) (acc : Array Value), (∀ b o, s.heap.get? b = some o → h'.get? b = some o) → ItemsOf (fun i v => ∃ t, v = .int (a + i * c) t) acc n → Q (.ref h'.objs.size) { s with heap := h'.push { cls := .type "tuple", data := .seq acc }, toks := tk }) (hsz : n ≤ sizeLine) :
    wpAny (model prog w) A (call (.type "tuple") [.ref r]) Q E s := by
  refine callType_codes (Q₁ := fun obj s₁ => s₁.TypeIs obj "tuple" ∧ Q obj s₁) F.called_tuple (F.typeCall_tuple_1 _) F.entry_object_init
    (tuple_new_rng (by first | exact hh | simpa using hh) hr hsmall hn hlen (fun h' tk acc kp hacc => ⟨⟨_, Heap.get?_push_size _ rfl, rfl⟩, hQ h' tk acc kp hacc⟩) hsz) fun obj s₁ h₁ => ?_
  exact ⟨h₁.1, F.args_object_init_2 obj _, object_init_meets F.called_tuple.init.lookup F.called_tuple.made (by decide) prog w A.in1 _ s₁ ⟨h₁.1, rfl, h₁.2⟩⟩
end
section
variable {X : Cx}
theorem rsize {lo hi : Int} : Builtin.Range.rangeSize lo hi 1 = (((hi - lo).toNat : Nat) : Int) := by rw [rangeSize_one]; split <;> omega
theorem tuple_rng {pins : List (Addr × Obj)} {σ : St} {H : Hp} {s : Shared} {Q : VK} {lo hi : Int} {t u v : Tok} {tk : Nat} (hh : X.A.handled = none) (I : Inv X pins σ H s) (h1 : -(2 ^ 62) ≤ lo) (h2 : lo < 2 ^ 62) (h3 : -(2 ^ 62) ≤ hi) (h4 : hi < 2 ^ 62) (h5 : hi - lo ≤ 1000000)
    (q : ∀ D, H D = none → Q (.ref D) (upd H D (.tup ((List.range (hi - lo).toNat).map fun (k : Nat) => .int (lo + k))))) : wpAny (model X.prog X.w) X.A (call (.type "tuple") [.ref s.heap.objs.size]) (EP X pins σ Q) X.xe { s with heap := s.heap.push { cls := .type "range", data := .fields #[.int lo t, .int hi u, .int 1 v] }, toks := tk } := by
  have I1 : Inv X pins σ H { s with heap := s.heap.push { cls := .type "range", data := .fields #[.int lo t, .int hi u, .int 1 v] }, toks := tk } := I.kept fun b o e => Heap.get?_push_of_some _ e
  have hz : (hi - lo).toNat ≤ sizeLine := line_le (by omega)
  refine call_tuple_rng hh (IsRange.new ..) (small_one h1 h2 h3 h4) rsize (by omega) (fun h' tk' acc kp hacc => ?_) hz
  have hl : acc.toList.length = (hi - lo).toNat := by rw [Array.length_toList]; exact hacc.1
  have vs := vals_from acc.toList lo fun j v hj => by
    obtain ⟨t, e⟩ := hacc.2 j v (by rw [← Array.getElem?_toList]; exact hj)
    exact ⟨t, by rw [e]; congr 1; omega⟩
  rw [hl] at vs
  have le : (s.heap.push { cls := .type "range", data := .fields #[.int lo t, .int hi u, .int 1 v] }).objs.size ≤ h'.objs.size := by
    have := Heap.lt_size (kp _ _ (Heap.get?_push_size s.heap rfl))
    rw [Heap.size_push]
    exact this
  refine ⟨.ref _, _, I1.laid (t' := tk') (o := .tup ((List.range (hi - lo).toNat).map fun (k : Nat) => .int (lo + k))) (fun b u e => Heap.get?_push_of_some _ (kp _ _ e)) le ⟨?_, acc.toList, vs, ⟨_, Heap.get?_push_size _ rfl, rfl, 0, by simp⟩⟩, rfl, q _ (I1.hok.fresh le)⟩
  rw [List.length_map, List.length_range]
  exact hz
def tTR2 (ta : TA) : TE := fun σ H Q => ta σ H fun vs H1 => ∃ i j : Int, vs = [.int i, .int j] ∧ (-(2 ^ 62) ≤ i ∧ i < 2 ^ 62 ∧ -(2 ^ 62) ≤ j ∧ j < 2 ^ 62 ∧ j - i ≤ 1000000) ∧ ∀ D, H1 D = none → Q (.ref D) (upd H1 D (.tup ((List.range (j - i).toNat).map fun (k : Nat) => .int (i + k))))
theorem pe_tuprange2 {a b : Expr} {ta : TA} {p1 p2 pos1 pos2 : Pos} (hc : X.calm = true) (hgd : Gl X "tuple") (hmd : X.mg "tuple" = none) (hgz : Gl X "range") (hmz : X.mg "range" = none) (ha : PA X [a, b] ta)
    (hs0 : starEach [.Call (.Name "range" p2) [a, b] [] pos2] X.env = (false, eval (.Call (.Name "range" p2) [a, b] [] pos2) X.env) :: starEach [] X.env := by rfl)
    (hs : starEach [a, b] X.env = [(false, eval a X.env), (false, eval b X.env)] := by rfl) (hs2 : starEach [b] X.env = [(false, eval b X.env)] := by rfl) : PE X (.Call (.Name "tuple" p1) [.Call (.Name "range" p2) [a, b] [] pos2] [] pos1) (tTR2 ta) := by
  intro pins s σ H Q I h
  have hh : X.A.handled = none := I.ok.hd hc
  refine wpAny_Call_Name_kw (ld_blt I hgd hmd boot_tuple ?_)
  refine PyProof.Rows.callWith_type1 ?_ hs0 (by rfl)
  rw [hs0]
  show wpAny _ _ (spliced ((false, eval _ X.env) :: backTo pos1 (starEach [] X.env))) _ _ s
  refine Calls.spliced_cons ?_
  refine Call_ (ld_blt I hgz hmz boot_range (PyProof.Rows.callWith_type1 (thn (ha pos2 pins s σ H _ I h) fun us s1 ⟨vs, H1, I1, r1, q1⟩ => ?_) (by rw [hs, hs2]) (by rw [hs2]; rfl)))
  obtain ⟨i, j, e, ⟨q1, q2, q3, q4, q5⟩, q⟩ := q1
  subst e
  cases r1 with
  | cons r rr =>
    cases rr with
    | cons r' rr =>
      cases rr
      obtain ⟨t, rfl⟩ := r
      obtain ⟨t', rfl⟩ := r'
      exact call_range_2 (Calls.spliced_nil (tuple_rng hh I1 q1 q2 q3 q4 q5 q))
end
theorem ext_tup (l : Addr) (items : Array Value) (n : Nat) (b : Addr) (items2 : Array Value) (n2 : Nat) (dd : Option Addr) (sl : Array (Option Value)) (hs0 : ¬(!items.isEmpty && Builtin.List.listTooLong (items.size + items2.size)) = true) (hs1 : items.size ≤ sizeLine) (hs2 : items.size + items2.size ≤ sizeLine + 1) :
    Meets (Builtin.«list.extend» ⟨[.ref l, .ref b], []⟩) (fun _ R s => s.heap.get? l = some { cls := .type "list", dict := none, data := .seq items n, slots := #[] } ∧ s.heap.get? b = some { cls := .type "tuple", dict := dd, data := .seq items2 n2, slots := sl } ∧ R (.ok (.ret Value.none)) { s with heap := s.heap.update l (Obj.mapSeq fun x => x ++ items2), toks := s.toks }) :=
  .of_wp fun prog w A R s h => by
    obtain ⟨hp, g, d, tk, os⟩ := s; obtain ⟨hl, hb, h⟩ := h; have f1 := AutoSeq1.idx_int; have f2 := AutoSeq1.sub_tuple_tuple; have f3 := AutoSeq1.sub_list_list; have f4 := AutoSeq1.sub_tuple_list; have f5 := AutoSeq1.sub_list_tuple
    have hz' : (items ++ items2).size ≤ sizeLine + 1 := by rw [Array.size_append]; exact hs2
    wp_walk using (wpAny_updateSeq hl rfl (hz := hs1) (_hz' := hz')), AutoSeq1.wpAny_loadPart' hl, AutoSeq1.wpAny_loadPart' hb; exact ⟨_, rfl, h⟩
def rExtendT : V → List V → Hp → VK → Prop := fun x vs H Q => ∃ l b xs zs, x = .ref l ∧ vs = [.ref b] ∧ H l = some (.lst xs) ∧ H b = some (.tup zs) ∧ xs.length + zs.length ≤ sizeLine ∧ Q .non (upd H l (.lst (xs ++ zs)))
theorem mt_extendT {X : Cx} : MtM X "list.extend" rExtendT := by
  intro pins s σ H x vs v us Q I rx rv h
  obtain ⟨l, b, xs, zs, rfl, rfl, hH, hB, hz, q⟩ := h
  cases rx
  obtain ⟨u, rfl, ru⟩ := rv.one
  cases ru
  obtain ⟨z, its, n, r, hl, e⟩ := I.lstM hH
  obtain ⟨z2, its2, r2, ⟨o, e2, hc, n2, hd⟩⟩ := I.hok b _ hB
  obtain ⟨oc, od, oda, osl⟩ := o
  have hc : oc = .type "tuple" := hc
  have hd : oda = .seq its2.toArray n2 := hd
  subst hc hd
  have hl2 := r2.length
  have hsz : its.toArray.size + its2.toArray.size ≤ sizeLine := by rw [List.size_toArray, List.size_toArray]; omega
  have hlong : ¬ (!its.toArray.isEmpty && Builtin.List.listTooLong (its.toArray.size + its2.toArray.size)) = true := by
    rw [notLongL hsz, Bool.and_false]
    exact Bool.false_ne_true
  refine call_meets F.slot_list_extend ⟨_, e, rfl⟩ F.entry_list_extend (F.args_list_extend_2 _ _)
    (ext_tup l its.toArray n b its2.toArray n2 od osl hlong (by rw [List.size_toArray]; omega) (by omega)) ⟨e, e2, ?_⟩
  refine ⟨.non, _, I.lset (its' := its ++ its2) hH e (by simp) (r.append r2) ?_, rfl, q⟩
  rw [List.length_append]
  omega
end L2

/-! MY RULES: reversed(tuple), walked by for and by a comprehension. -/
set_option linter.all false
set_option maxRecDepth 100000
set_option maxHeartbeats 2000000
namespace L2
open PySem PySem.Spec PyProof.Rows
theorem called_reversed : TypeCalled "reversed" "reversed.__new__" "object.__init__" :=
  ⟨by decide +kernel, by decide +kernel, ⟨_, _, PySem.F.mro_reversed⟩, PySem.F.made_reversed, by decide +kernel, by rw [isSubtype_type]; kernel_rfl,
   .of (owner := "object") (n := "__init__") (by rw [typeLookup_type, builtinLookup_eq_fast]; kernel_rfl) (by decide +kernel) (by decide +kernel) (by decide +kernel) (by first | exact .inl (by decide +kernel) | exact .inr (by decide +kernel)) (by rw [isSubtype_type]; kernel_rfl)⟩
theorem tup_no_rev : typeLookup (.type "tuple") (Str.ofString "__reversed__") = pure none := by rw [typeLookup_type, builtinLookup_eq_fast]; kernel_rfl
theorem tup_item : typeLookup (.type "tuple") (Str.ofString "__getitem__") = pure (some (.builtin "tuple.__getitem__")) := by rw [typeLookup_type, builtinLookup_eq_fast]; kernel_rfl
theorem tup_no_dict : isSubtype (.type "tuple") (.type "dict") = pure false := by rw [isSubtype_type]; kernel_rfl
theorem owner_rvd : Manifest.owners.lookup (String.ofList ['d', 'e', 's', 'r', 'e', 'v', 'e', 'r'].reverse) = some Manifest.sig_reversed := by kernel_rfl
theorem slot_rvd_next : Slot "reversed" "__next__" "reversed.__next__" :=
  .of (owner := "reversed") (n := "__next__") (by rw [typeLookup_type, builtinLookup_eq_fast]; kernel_rfl) (by decide +kernel) (by decide +kernel) (by decide +kernel)
    (by first | exact .inl (by decide +kernel) | exact .inr (by decide +kernel)) (by rw [isSubtype_type]; kernel_rfl)
theorem entry_rvd_next : entryFor table "reversed.__next__" = some Builtin.«reversed.__next__» := entryFor_of_tree (by kernel_rfl)
theorem args_rvd_next_1 (a : Value) : argsOk "reversed.__next__" ⟨[a], []⟩ := by
  unfold argsOk; rw [signature?_of (id := "reversed.__next__") (n := ['_', '_', 't', 'x', 'e', 'n', '_', '_']) (o := ['d', 'e', 's', 'r', 'e', 'v', 'e', 'r']) (by kernel_rfl) owner_rvd]; kernel_rfl
theorem slot_rvd_iter : Slot "reversed" "__iter__" "reversed.__iter__" :=
  .of (owner := "reversed") (n := "__iter__") (by rw [typeLookup_type, builtinLookup_eq_fast]; kernel_rfl) (by decide +kernel) (by decide +kernel) (by decide +kernel)
    (by first | exact .inl (by decide +kernel) | exact .inr (by decide +kernel)) (by rw [isSubtype_type]; kernel_rfl)
theorem args_rvd_iter_1 (a : Value) : argsOk "reversed.__iter__" ⟨[a], []⟩ := by
  unfold argsOk; rw [signature?_of (id := "reversed.__iter__") (n := ['_', '_', 'r', 'e', 't', 'i', '_', '_']) (o := ['d', 'e', 's', 'r', 'e', 'v', 'e', 'r']) (by kernel_rfl) owner_rvd]; kernel_rfl
theorem entry_rvd_iter : entryFor table "reversed.__iter__" = some Builtin.«dict_keyiterator.__iter__» :=
  entryFor_alias (id' := "dict_keyiterator.__iter__") (by kernel_rfl) (by first | rfl | decide +kernel | (unfold String.splitOn; simp +decide [String.splitOnAux])) (by decide +kernel) (by kernel_rfl)
def rvtObj (t : Addr) (i : Int) : Obj := { cls := .type "reversed", data := .fields #[.ref t, rawInt i] }
def IsRevT (h : Heap) (a t : Addr) (i : Int) : Prop := ∃ o, h.get? a = some o ∧ o.cls = .type "reversed" ∧ o.data = .fields #[.ref t, rawInt i]
theorem IsRevT.typeIs {s : Shared} {a t : Addr} {i : Int} (x : IsRevT s.heap a t i) : s.TypeIs (.ref a) "reversed" := let ⟨o, ho, hc, _⟩ := x; ⟨o, ho, hc⟩
theorem IsRevT.at {h h' : Heap} {a t : Addr} {i : Int} (x : IsRevT h a t i) (e : ∀ o, h.get? a = some o → h'.get? a = some o) : IsRevT h' a t i := let ⟨o, ho, r⟩ := x; ⟨o, e _ ho, r⟩
theorem meets_rev_tup (t : Addr) (items : Array Value) (hfit : (items.size : Int) < 2 ^ 63) : Meets (Builtin.«reversed.__new__» ⟨[.type "reversed", .ref t], []⟩)
    (fun _ R s => IsTup s.heap t items ∧ ∀ tk, R (.ok (.ret (.ref s.heap.objs.size))) { s with heap := s.heap.push (rvtObj t ((items.size : Int) - 1)), toks := tk }) :=
  .of_wp fun prog w A R s h => by
    obtain ⟨ht, h⟩ := h
    have hT : s.TypeIs (.ref t) "tuple" := let ⟨o, e, c, _⟩ := ht; ⟨o, e, c⟩
    unfold Builtin.«reversed.__new__»
    refine wpAny_bind (wpAny_of_eq (newClass_reversed _) ?_)
    try dsimp only
    refine wpAny_bind (wpAny_of_eq (a := ()) (by first | rfl | kernel_rfl) ?_)
    refine wpAny_bind (wpAny_of_eq (a := ()) (by first | rfl | kernel_rfl) ?_)
    try dsimp only
    refine wpAny_bind (wpAny_specialOf hT tup_no_rev ?_)
    try dsimp only
    have f1 := tup_no_dict
    have f2 := tup_item
    have hl2 : ∀ (Q : Value → Shared → Prop) (E : Value → Shared → Prop), Q (Value.int (items.size : Int) (s.toks + 1)) { s with toks := s.toks + 1 + 1 } → wpAny (model prog w) A.in1 (call (.builtin "len") [.ref t]) Q E s := fun Q E h => len_tuple ht hfit h
    wp_walk using wpAny_isInstance (T := "tuple") (b := false) hT tup_no_dict, wpAny_specialOf hT tup_item, hl2 _ _
    exact ⟨_, rfl, h _⟩
section
variable {prog : Program} {w : World} {A : Around} {E : Value → Shared → Prop} {s : Shared}
theorem call_reversed_tup {t : Addr} {items : Array Value} {Q : Value → Shared → Prop} (ht : IsTup s.heap t items) (hfit : (items.size : Int) < 2 ^ 63)
    (h : ∀ tk, Q (.ref s.heap.objs.size) { s with heap := s.heap.push (rvtObj t ((items.size : Int) - 1)), toks := tk }) : wpAny (model prog w) A (call (.type "reversed") [.ref t]) Q E s := by
  refine callType_new called_reversed (by decide) (F.typeCall_reversed_1 _) (F.newCall_reversed_1 _) (fun obj => F.args_object_init_2 obj _) F.entry_reversed_new (meets_rev_tup t items hfit) ⟨ht, fun tk => ⟨⟨_, Heap.get?_push_size _ rfl, rfl⟩, h tk⟩⟩
theorem wpAny_pyNext_rvt_item {it t : Addr} {i : Nat} {items : Array Value} {x : Value} {Q : Option Value → Shared → Prop} (hit : IsRevT s.heap it t (i : Int)) (ht : IsTup s.heap t items) (hfit : (items.size : Int) < 2 ^ 63) (hx : items[i]? = some x)
    (hQ : ∀ h' tk, IsRevT h' it t ((i : Int) - 1) → Heap.SameBut it s.heap h' → Q (some x) { s with heap := h', toks := tk }) : wpAny (model prog w) A (pyNext (.ref it)) Q E s := by
  obtain ⟨o, ho, hc, hd⟩ := id hit
  have hT : s.TypeIs (.ref t) "tuple" := let ⟨o, e, c, _⟩ := ht; ⟨o, e, c⟩
  have hlt : i < items.size := (Array.getElem?_eq_some_iff.mp hx).1
  unfold pyNext
  refine wpAny_bind (wpAny_attempt (wpAny_callSpecial?_slot (name := Str.ofString "__next__") hit.typeIs slot_rvd_next
    (wpAny_call_entry slot_rvd_next hit.typeIs entry_rvd_next ?_ (args_rvd_next_1 _))))
  unfold Builtin.«reversed.__next__»
  refine wpAny_bind (wpAny_of_eq (a := (Value.ref it, [])) rfl ?_)
  try dsimp only
  refine wpAny_bind (wpAny_field ho hd (x := .ref t) rfl ?_)
  refine wpAny_bind (wpAny_field ho hd (x := rawInt (i : Int)) rfl ?_)
  show wpAny _ _ (if (i : Int) < 0 then _ else _) _ _ s
  rw [if_neg (by omega)]
  refine wpAny_bind (wpAny_specialOf hT tup_item ?_)
  show wpAny _ _ (if (some (Value.builtin "tuple.__getitem__")).isNone = true then _ else _) _ _ s
  rw [if_neg (by decide)]
  refine wpAny_bind (wpAny_mkInt ?_)
  refine wpAny_bind (wpAny_attempt ?_)
  have hj : seqIndex? (i : Int) items.size = some i := by
    unfold seqIndex?
    simp
    omega
  refine getItem_tuple (show IsTup _ t items from ht) (by omega) (by omega) hj hx ?_
  show wpAny _ _ (field (.ref it) 1 >>= _) _ _ _
  refine wpAny_bind (wpAny_field ho hd (x := rawInt (i : Int)) rfl ?_)
  show wpAny _ _ (setField (.ref it) 1 (rawInt ((i : Int) - 1)) >>= _) _ _ _
  refine wpAny_bind (wpAny_setField ho hd (by simp) ?_)
  refine wpAny_pure ⟨x, rfl, wpAny_pure (hQ _ _ ?_ (Heap.SameBut.update ..))⟩
  exact ⟨_, Heap.get?_update_self _ ho (Obj.isFreed_of_fields (Obj.data_mapFields hd _)), (Obj.cls_mapFields ..).trans hc, by
    rw [Obj.data_mapFields hd]; simp⟩
theorem wpAny_pyNext_rvt_end {it t : Addr} {Q : Option Value → Shared → Prop} (hh : A.handled = none) (hit : IsRevT s.heap it t (-1))
    (hQ : ∀ h', Heap.ExtBut it s.heap h' → Q none { s with heap := h' }) : wpAny (model prog w) A (pyNext (.ref it)) Q E s := by
  obtain ⟨o, ho, hc, hd⟩ := id hit
  unfold pyNext
  refine wpAny_bind (wpAny_attempt (wpAny_callSpecial?_slot (name := Str.ofString "__next__") hit.typeIs slot_rvd_next
    (wpAny_call_entry slot_rvd_next hit.typeIs entry_rvd_next ?_ (args_rvd_next_1 _))))
  unfold Builtin.«reversed.__next__»
  refine wpAny_bind (wpAny_of_eq (a := (Value.ref it, [])) rfl ?_)
  try dsimp only
  refine wpAny_bind (wpAny_field ho hd (x := .ref t) rfl ?_)
  refine wpAny_bind (wpAny_field ho hd (x := rawInt (-1)) rfl ?_)
  show wpAny _ _ (if (-1 : Int) < 0 then _ else _) _ _ s
  rw [if_pos (by decide)]
  refine wpAny_bind (wpAny_rule ?_)
  refine wpAny_bind ?_
  refine wpAny_bind (wpAny_setField ho hd (by simp) ?_)
  refine wpAny_setField (Heap.get?_update_self _ ho (Obj.isFreed_of_fields (Obj.data_mapFields hd _))) (Obj.data_mapFields hd _) (by simp) ?_
  refine wpAny_bind ?_
  first
  | show wpAny _ _ (newExc (.type "StopIteration") [] >>= _) _ _ _
  | (refine wpAny_bind ?_; show wpAny _ _ (newExc (.type "StopIteration") [] >>= _) _ _ _)
  refine wpAny_bind ?_
  simp only [newExc, newTuple]
  refine wpAny_bind (wpAny_newObj_type ?_ (by size_fits))
  refine wpAny_bind (m := firstArgMember _ _) (wpAny_of_eq (a := Value.none) (by first | rfl | (simp only [firstArgMember]; rfl)) ?_)
  refine wpAny_newObj_type ?_ (by size_fits)
  simp only [raiseNew]
  refine wpAny_bind (wpAny_handled ?_)
  first | rw [show A.in1.handled = none from hh] | rw [hh]
  refine wpAny_bind (wpAny_pure (wpAny_throw ?_))
  refine wpAny_bind (wpAny_isInstance (T := "StopIteration") (b := true) ⟨_, Heap.get?_push_size _ rfl, rfl⟩ isSubtype_stop ?_)
  exact wpAny_pure (hQ _ ((((Heap.SameBut.update ..).extBut.trans (Heap.SameBut.update ..).extBut).push _).push _))
theorem wpAny_pyIter_rvt {it t : Addr} {i : Int} {Q : Value → Shared → Prop} (hit : IsRevT s.heap it t i) (h : Q (.ref it) s) : wpAny (model prog w) A (pyIter (.ref it)) Q E s := by
  refine wpAny_pyIter_slot hit.typeIs slot_rvd_iter (wpAny_call_entry slot_rvd_iter hit.typeIs entry_rvd_iter ?_ (args_rvd_iter_1 _))
  show wpAny _ _ (ret (.ref it)) _ _ s
  exact wpAny_pure ⟨_, rfl, "reversed", _, hit.typeIs, slot_rvd_next.lookup, h⟩
end
def Itw (K : PySem.W.Frag) (a : Addr) (n : Nat) : It :=
  ⟨fun i H => ∃ xs x, SqT K H a xs ∧ xs.length = n ∧ i < n ∧ xs[n - 1 - i]? = some x, fun i H x H' => H' = H ∧ ∀ xs, SqT K H a xs → xs[n - 1 - i]? = some x, fun i _ => i = n⟩
theorem turn_rvt {P : Program} {w : World} {K : PySem.W.Frag} {tg : Expr} (a it : Addr) (n : Nat) : Turn P w K tg (Itw K a n) [it] it (fun i h => IsRevT h it a ((n : Int) - 1 - (i : Int))) where
  mem := by simp
  obj := fun i h st b hb => by
    have e : b = it := by simpa using hb
    subst e
    obtain ⟨o, e, c, d⟩ := st
    exact ⟨o, e, fun v z => by rw [d] at z; cases z⟩
  keep := fun i h h' st k => st.at fun o e => k it (by simp) o e
  item := by
    intro X hP hw hK hc i pins s σ H E I hf st hg
    subst hP hw hK
    obtain ⟨xs, x, hq, hn, hi, hx⟩ := hg
    obtain ⟨its, rv, p, hz⟩ := I.tuple hq
    obtain ⟨u, hu, ru⟩ := rv.get hx
    obtain ⟨f0, f1, f2, f3, f4, f5⟩ := hf it (by simp)
    have e1 : (n : Int) - 1 - (i : Int) = ((n - 1 - i : Nat) : Int) := by omega
    rw [e1] at st
    refine wpAny_pyNext_rvt_item st p (by rw [List.size_toArray, ← rv.length]; have := sizeLine_eq; omega) (x := u) (by simpa using hu) fun h' tk st' sb => ?_
    have I1 : Inv X pins σ H { s with heap := h', toks := tk } := I.turned (t' := tk) (fun b o hb e => (sb.2 b hb).trans e) f0 f1 f3 f4 f5
    have e2 : ((n - 1 - i : Nat) : Int) - 1 = (n : Int) - 1 - ((i + 1 : Nat) : Int) := by omega
    rw [e2] at st'
    obtain ⟨o, e, c, d⟩ := id st'
    exact ⟨u, rfl, go_of (s := { s with heap := h', toks := tk }) e c d (by decide) ⟨x, H, I1, ru, ⟨rfl, fun ys hy => by rw [I.tuple_inj hy hq]; exact hx⟩, st', fun b hb => (hf b hb).1⟩⟩
  done := by
    intro X hP hw hK hc i pins s σ H E I hf st hg
    subst hP hw hK
    have hi : i = n := hg
    subst hi
    obtain ⟨f0, f1, f2, f3, f4, f5⟩ := hf it (by simp)
    have e1 : (i : Int) - 1 - (i : Int) = -1 := by omega
    rw [e1] at st
    exact wpAny_pyNext_rvt_end (I.ok.hd hc) st fun h' eb => ⟨rfl, I.turned (t' := s.toks) (fun b o hb e => eb b o hb e) f0 f1 f3 f4 f5⟩
  self := fun _ _ _ _ _ st h => wpAny_pyIter_rvt st h
def iRevT (K : PySem.W.Frag) (ta : TA) : TI := fun σ H R => ta σ H fun vs H1 => ∃ a xs, vs = [.ref a] ∧ SqT K H1 a xs ∧ R (Itw K a xs.length) H1
theorem pi_rvt {X : Cx} {tg : Expr} {a : Expr} {ta : TA} {p pos : Pos} (hg : Gl X "reversed") (hm : X.mg "reversed" = none) (ha : PA X [a] ta) (hs : starEach [a] X.env = [(false, eval a X.env)] := by rfl) :
    PI X tg (.Call (.Name "reversed" p) [a] [] pos) (iRevT X.K ta) := by
  intro pins s σ H R I h
  refine Call_ (ld_blt I hg hm boot_reversed (PyProof.Rows.callWith_type1 (thn (ha pos pins s σ H _ I h) fun us s1 ⟨vs, H1, I1, r1, q1⟩ => ?_) hs rfl))
  obtain ⟨l, xs, e, hq, q⟩ := q1
  subst e
  obtain ⟨u, rfl, ru⟩ := vals1 r1
  cases ru
  obtain ⟨its, rv, p1, hz⟩ := I1.tuple hq
  have en : (its.toArray.size : Int) - 1 = (xs.length : Int) - 1 - ((0 : Nat) : Int) := by rw [List.size_toArray, ← rv.length]; omega
  refine call_reversed_tup p1 (by rw [List.size_toArray, ← rv.length]; have := sizeLine_eq; omega) fun tk => ?_
  rw [en]
  have st : IsRevT (s1.heap.push (rvtObj l ((xs.length : Int) - 1 - ((0 : Nat) : Int)))) s1.heap.objs.size l ((xs.length : Int) - 1 - ((0 : Nat) : Int)) := ⟨_, Heap.get?_push_size _ rfl, rfl, rfl⟩
  refine wpAny_pyIter_rvt (s := { s1 with heap := s1.heap.push (rvtObj l ((xs.length : Int) - 1 - ((0 : Nat) : Int))), toks := tk }) st ?_
  refine ⟨_, [s1.heap.objs.size], _, _, H1, rfl, I1.kept (t' := tk) fun b o e => Heap.get?_push_of_some _ e, turn_rvt l _ xs.length, st, fun b hb => ?_, q⟩
  have e : b = s1.heap.objs.size := by simpa using hb
  subst e
  exact I1.fpOk (Nat.le_refl _) (I1.hok.fresh (Nat.le_refl _))
theorem for_rvt {K : PySem.W.Frag} {a : Addr} {xs : List V} {g : TG} {tb : TS} {D : Ends} {σ : St} {H : Hp} (Pv : Nat → St → Hp → Prop) (h0 : Pv 0 σ H) (hl : ∀ i σ H, Pv i σ H → SqT K H a xs)
    (hs : ∀ i x σ H, i < xs.length → xs[xs.length - 1 - i]? = some x → Pv i σ H → g x σ H fun σ2 H2 => tb { D with nx := Pv (i + 1), ct := Pv (i + 1), bk := D.nx } σ2 H2) (hd : ∀ σ H, Pv xs.length σ H → D.nx σ H) :
    ∃ W : Nat → Nat → St → Hp → Prop, (∃ m, W 0 m σ H) ∧ ∀ i m σ H, W i m σ H →
      ((Itw K a xs.length).stop i H ∧ D.nx σ H) ∨ ((Itw K a xs.length).go i H ∧ ∃ N : St → Hp → Prop, (∀ σ' H', N σ' H' → ∃ m', m' < m ∧ W (i + 1) m' σ' H') ∧ ∀ x H', (Itw K a xs.length).yld i H x H' → g x σ H' fun σ2 H2 => tb { D with nx := N, ct := N, bk := D.nx } σ2 H2) := by
  refine ⟨fun i m σ H => m = xs.length - i ∧ i ≤ xs.length ∧ Pv i σ H, ⟨xs.length, by simp, Nat.zero_le _, h0⟩, ?_⟩
  rintro i m σ H ⟨rfl, hi, p⟩
  have q := hl i σ H p
  by_cases hlt : i < xs.length
  · refine .inr ⟨⟨xs, xs[xs.length - 1 - i], q, rfl, hlt, List.getElem?_eq_getElem _⟩, Pv (i + 1), fun σ' H' p' => ⟨xs.length - (i + 1), by omega, rfl, hlt, p'⟩, fun x H' y => ?_⟩
    obtain ⟨e, y⟩ := y
    subst e
    exact hs i x σ _ hlt (y xs q) p
  · have e : i = xs.length := by omega
    subst e
    exact .inl ⟨rfl, hd σ H p⟩
end L2

set_option Elab.async false
set_option linter.all false
set_option maxRecDepth 100000
set_option maxHeartbeats 4000000
namespace My
open PySem L2
def top (i : Nat) : Stmt := PySem.Challenge.pw_arrayloom_k42_the_first_nest.main.body.getD i (.Pass ⟨0, 0, 0, 0⟩)
abbrev s_copied : Stmt := top 2
abbrev s_copied_dict : Stmt := top 3
abbrev s_lengths_along : Stmt := top 5
abbrev s_first_nest : Stmt := top 9
abbrev s_nodes_in : Stmt := top 10
abbrev s_nodes_of : Stmt := top 11
abbrev s_numbers_from : Stmt := top 12
abbrev s_looped : Stmt := top 13
abbrev s_Line_init : Stmt := inClass (top 15) 0
abbrev s_Cloth_init : Stmt := inClass (top 16) 0
abbrev s_Number_init : Stmt := inClass (top 19) 0
abbrev s_l_cell_at : Stmt := top 21
abbrev s_l_whole : Stmt := top 22
abbrev s_l_axes_by : Stmt := top 23
abbrev s_l_around : Stmt := top 24
abbrev s_l_rows_by : Stmt := top 25
abbrev s_l_due_of : Stmt := top 26
abbrev s_l_wholes : Stmt := top 27
abbrev s_l_is_node : Stmt := top 28
abbrev s_l_written : Stmt := top 29
abbrev s_law : Stmt := top 30
/-- what isinstance asks of an own class -/
structure TyC (K : PySem.W.Frag) (C : Addr) : Prop where
  ha : PySem.W.findIn K (.ref C) "__class__" = some (some (.builtin "object.__class__"))
  hn : PySem.W.specialIn K (.builtin "object.__class__") "__get__" = some (some (.builtin "getset_descriptor.__get__"))
  htk : PySem.W.takesIn K (.builtin "object.__class__") = some true
  hm : PySem.W.mroIn K C (.type "object") = some true
structure Adr where
  C_Line : Addr
  C_Cloth : Addr
  C_Term : Addr
  C_Number : Addr
  f_copied : Addr
  d_copied : FuncData
  f_copied_dict : Addr
  d_copied_dict : FuncData
  f_lengths_along : Addr
  d_lengths_along : FuncData
  f_first_nest : Addr
  d_first_nest : FuncData
  f_nodes_in : Addr
  d_nodes_in : FuncData
  f_nodes_of : Addr
  d_nodes_of : FuncData
  f_numbers_from : Addr
  d_numbers_from : FuncData
  f_looped : Addr
  d_looped : FuncData
  f_Line_init : Addr
  d_Line_init : FuncData
  f_Cloth_init : Addr
  d_Cloth_init : FuncData
  f_Number_init : Addr
  d_Number_init : FuncData
  f_l_cell_at : Addr
  d_l_cell_at : FuncData
  f_l_whole : Addr
  d_l_whole : FuncData
  f_l_axes_by : Addr
  d_l_axes_by : FuncData
  f_l_around : Addr
  d_l_around : FuncData
  f_l_rows_by : Addr
  d_l_rows_by : FuncData
  f_l_due_of : Addr
  d_l_due_of : FuncData
  f_l_wholes : Addr
  d_l_wholes : FuncData
  f_l_is_node : Addr
  d_l_is_node : FuncData
  f_l_written : Addr
  d_l_written : FuncData
  f_law : Addr
  d_law : FuncData
structure Txt (K : PySem.W.Frag) (mg : Str → Option Value) (t : Adr) : Prop where
  F_copied : Fun K "copied" "copied" s_copied t.f_copied t.d_copied
  m_copied : mg "copied" = some (.ref t.f_copied)
  b_copied : Binds K t.d_copied ["value"] []
  F_copied_dict : Fun K "copied_dict" "copied_dict" s_copied_dict t.f_copied_dict t.d_copied_dict
  m_copied_dict : mg "copied_dict" = some (.ref t.f_copied_dict)
  b_copied_dict : Binds K t.d_copied_dict ["value"] []
  F_lengths_along : Fun K "lengths_along" "lengths_along" s_lengths_along t.f_lengths_along t.d_lengths_along
  m_lengths_along : mg "lengths_along" = some (.ref t.f_lengths_along)
  b_lengths_along : Binds K t.d_lengths_along ["axes", "lengths"] []
  F_first_nest : Fun K "first_nest" "first_nest" s_first_nest t.f_first_nest t.d_first_nest
  m_first_nest : mg "first_nest" = some (.ref t.f_first_nest)
  b_first_nest : Binds K t.d_first_nest ["cloth"] []
  F_nodes_in : Fun K "nodes_in" "nodes_in" s_nodes_in t.f_nodes_in t.d_nodes_in
  m_nodes_in : mg "nodes_in" = some (.ref t.f_nodes_in)
  b_nodes_in : Binds K t.d_nodes_in ["line"] []
  F_nodes_of : Fun K "nodes_of" "nodes_of" s_nodes_of t.f_nodes_of t.d_nodes_of
  m_nodes_of : mg "nodes_of" = some (.ref t.f_nodes_of)
  b_nodes_of : Binds K t.d_nodes_of ["place", "line", "lengths", "fresh"] []
  F_numbers_from : Fun K "numbers_from" "numbers_from" s_numbers_from t.f_numbers_from t.d_numbers_from
  m_numbers_from : mg "numbers_from" = some (.ref t.f_numbers_from)
  b_numbers_from : Binds K t.d_numbers_from ["fresh", "axes"] []
  F_looped : Fun K "looped" "looped" s_looped t.f_looped t.d_looped
  m_looped : mg "looped" = some (.ref t.f_looped)
  b_looped : Binds K t.d_looped ["numbers", "sizes", "inside"] []
  F_Line_init : Fun K "__init__" "Line.__init__" s_Line_init t.f_Line_init t.d_Line_init
  b_Line_init : Binds K t.d_Line_init ["self", "name", "axes", "sums", "term"] []
  F_Cloth_init : Fun K "__init__" "Cloth.__init__" s_Cloth_init t.f_Cloth_init t.d_Cloth_init
  b_Cloth_init : Binds K t.d_Cloth_init ["self", "wheel", "lengths", "arrays", "tables", "lines", "outs"] []
  F_Number_init : Fun K "__init__" "Number.__init__" s_Number_init t.f_Number_init t.d_Number_init
  b_Number_init : Binds K t.d_Number_init ["self", "number"] []
  F_l_cell_at : Fun K "_law_cell_at" "_law_cell_at" s_l_cell_at t.f_l_cell_at t.d_l_cell_at
  m_l_cell_at : mg "_law_cell_at" = some (.ref t.f_l_cell_at)
  b_l_cell_at : Binds K t.d_l_cell_at ["_law_script", "_law_k"] []
  F_l_whole : Fun K "_law_whole" "_law_whole" s_l_whole t.f_l_whole t.d_l_whole
  m_l_whole : mg "_law_whole" = some (.ref t.f_l_whole)
  b_l_whole : Binds K t.d_l_whole ["_law_found"] []
  F_l_axes_by : Fun K "_law_axes_by" "_law_axes_by" s_l_axes_by t.f_l_axes_by t.d_l_axes_by
  m_l_axes_by : mg "_law_axes_by" = some (.ref t.f_l_axes_by)
  b_l_axes_by : Binds K t.d_l_axes_by ["_law_cell"] []
  F_l_around : Fun K "_law_around" "_law_around" s_l_around t.f_l_around t.d_l_around
  m_l_around : mg "_law_around" = some (.ref t.f_l_around)
  b_l_around : Binds K t.d_l_around ["_law_axes", "_law_start", "_law_many"] []
  F_l_rows_by : Fun K "_law_rows_by" "_law_rows_by" s_l_rows_by t.f_l_rows_by t.d_l_rows_by
  m_l_rows_by : mg "_law_rows_by" = some (.ref t.f_l_rows_by)
  b_l_rows_by : Binds K t.d_l_rows_by ["_law_script", "_law_axes", "_law_lengths"] []
  F_l_due_of : Fun K "_law_due_of" "_law_due_of" s_l_due_of t.f_l_due_of t.d_l_due_of
  m_l_due_of : mg "_law_due_of" = some (.ref t.f_l_due_of)
  b_l_due_of : Binds K t.d_l_due_of ["_law_rows", "_law_lengths"] []
  F_l_wholes : Fun K "_law_wholes" "_law_wholes" s_l_wholes t.f_l_wholes t.d_l_wholes
  m_l_wholes : mg "_law_wholes" = some (.ref t.f_l_wholes)
  b_l_wholes : Binds K t.d_l_wholes ["_law_found"] []
  F_l_is_node : Fun K "_law_is_node" "_law_is_node" s_l_is_node t.f_l_is_node t.d_l_is_node
  m_l_is_node : mg "_law_is_node" = some (.ref t.f_l_is_node)
  b_l_is_node : Binds K t.d_l_is_node ["_law_node"] []
  F_l_written : Fun K "_law_written" "_law_written" s_l_written t.f_l_written t.d_l_written
  m_l_written : mg "_law_written" = some (.ref t.f_l_written)
  b_l_written : Binds K t.d_l_written ["_law_found", "_law_most"] []
  F_law : Fun K "law" "law" s_law t.f_law t.d_law
  m_law : mg "law" = some (.ref t.f_law)
  b_law : Binds K t.d_law ["_law_script"] []
  cn_NO_OUTER : ∃ u, mg "NO_OUTER" = some u ∧ RelV (.int (-1)) u
  cn_NO_WIDTH : ∃ u, mg "NO_WIDTH" = some u ∧ RelV (.int (0)) u
  m_Line : mg "Line" = some (.ref t.C_Line)
  m_Cloth : mg "Cloth" = some (.ref t.C_Cloth)
  m_Number : mg "Number" = some (.ref t.C_Number)
  cl_Cloth : Cls K t.C_Cloth
  mk_Cloth : Mk K t.C_Cloth t.f_Cloth_init
  na_Cloth_wheel : NoAttr K t.C_Cloth "wheel"
  na_Cloth_lengths : NoAttr K t.C_Cloth "lengths"
  na_Cloth_arrays : NoAttr K t.C_Cloth "arrays"
  na_Cloth_tables : NoAttr K t.C_Cloth "tables"
  na_Cloth_lines : NoAttr K t.C_Cloth "lines"
  na_Cloth_outs : NoAttr K t.C_Cloth "outs"
  ty_Cloth : TyC K t.C_Cloth
  cl_Line : Cls K t.C_Line
  mk_Line : Mk K t.C_Line t.f_Line_init
  na_Line_name : NoAttr K t.C_Line "name"
  na_Line_axes : NoAttr K t.C_Line "axes"
  na_Line_sums : NoAttr K t.C_Line "sums"
  na_Line_term : NoAttr K t.C_Line "term"
  ty_Line : TyC K t.C_Line
  mb_Line_list : PySem.W.mroIn K t.C_Line (.type "list") = some false
  mb_Line_tuple : PySem.W.mroIn K t.C_Line (.type "tuple") = some false
  mb_Line_dict : PySem.W.mroIn K t.C_Line (.type "dict") = some false
  cl_Number : Cls K t.C_Number
  mk_Number : Mk K t.C_Number t.f_Number_init
  na_Number_number : NoAttr K t.C_Number "number"
  ty_Number : TyC K t.C_Number
  z_isinstance : mg "isinstance" = none
  z_list : mg "list" = none
  z_tuple : mg "tuple" = none
  z_dict : mg "dict" = none
  z_enumerate : mg "enumerate" = none
  z_len : mg "len" = none
  z_range : mg "range" = none
  z_reversed : mg "reversed" = none
  z_zip : mg "zip" = none
  z_bool : mg "bool" = none
  z_int : mg "int" = none
  z_min : mg "min" = none
  z_max : mg "max" = none
  z_str : mg "str" = none
theorem sc_copied : FnScope ["value"] ["value"] (defScope s_copied) := ⟨rfl, rfl, rfl, by decide +kernel, rfl, by decide +kernel, by decide +kernel⟩
theorem sc_copied_dict : FnScope ["value", "fresh", "key", "member"] ["value"] (defScope s_copied_dict) := ⟨rfl, rfl, rfl, by decide +kernel, rfl, by decide +kernel, by decide +kernel⟩
theorem sc_lengths_along : FnScope ["axes", "lengths"] ["axes", "lengths"] (defScope s_lengths_along) := ⟨rfl, rfl, rfl, by decide +kernel, rfl, by decide +kernel, by decide +kernel⟩
theorem sc_first_nest : FnScope ["cloth", "nodes", "fresh", "place", "line"] ["cloth"] (defScope s_first_nest) := ⟨rfl, rfl, rfl, by decide +kernel, rfl, by decide +kernel, by decide +kernel⟩
theorem sc_nodes_in : FnScope ["line"] ["line"] (defScope s_nodes_in) := ⟨rfl, rfl, rfl, by decide +kernel, rfl, by decide +kernel, by decide +kernel⟩
theorem sc_nodes_of : FnScope ["place", "line", "lengths", "fresh", "cell", "first", "inside", "turn", "add", "start"] ["place", "line", "lengths", "fresh"] (defScope s_nodes_of) := ⟨rfl, rfl, rfl, by decide +kernel, rfl, by decide +kernel, by decide +kernel⟩
theorem sc_numbers_from : FnScope ["fresh", "axes"] ["fresh", "axes"] (defScope s_numbers_from) := ⟨rfl, rfl, rfl, by decide +kernel, rfl, by decide +kernel, by decide +kernel⟩
theorem sc_looped : FnScope ["numbers", "sizes", "inside", "body", "number", "size"] ["numbers", "sizes", "inside"] (defScope s_looped) := ⟨rfl, rfl, rfl, by decide +kernel, rfl, by decide +kernel, by decide +kernel⟩
theorem sc_Line_init : FnScope ["self", "name", "axes", "sums", "term"] ["self", "name", "axes", "sums", "term"] (defScope s_Line_init) := ⟨rfl, rfl, rfl, by decide +kernel, rfl, by decide +kernel, by decide +kernel⟩
theorem sc_Cloth_init : FnScope ["self", "wheel", "lengths", "arrays", "tables", "lines", "outs"] ["self", "wheel", "lengths", "arrays", "tables", "lines", "outs"] (defScope s_Cloth_init) := ⟨rfl, rfl, rfl, by decide +kernel, rfl, by decide +kernel, by decide +kernel⟩
theorem sc_Number_init : FnScope ["self", "number"] ["self", "number"] (defScope s_Number_init) := ⟨rfl, rfl, rfl, by decide +kernel, rfl, by decide +kernel, by decide +kernel⟩
theorem sc_l_cell_at : FnScope ["_law_script", "_law_k"] ["_law_script", "_law_k"] (defScope s_l_cell_at) := ⟨rfl, rfl, rfl, by decide +kernel, rfl, by decide +kernel, by decide +kernel⟩
theorem sc_l_whole : FnScope ["_law_found"] ["_law_found"] (defScope s_l_whole) := ⟨rfl, rfl, rfl, by decide +kernel, rfl, by decide +kernel, by decide +kernel⟩
theorem sc_l_axes_by : FnScope ["_law_cell", "_law_made", "_law_k"] ["_law_cell"] (defScope s_l_axes_by) := ⟨rfl, rfl, rfl, by decide +kernel, rfl, by decide +kernel, by decide +kernel⟩
theorem sc_l_around : FnScope ["_law_axes", "_law_start", "_law_many"] ["_law_axes", "_law_start", "_law_many"] (defScope s_l_around) := ⟨rfl, rfl, rfl, by decide +kernel, rfl, by decide +kernel, by decide +kernel⟩
theorem sc_l_rows_by : FnScope ["_law_script", "_law_axes", "_law_lengths", "_law_rows", "_law_left", "_law_k", "_law_one", "_law_other", "_law_own", "_law_many", "_law_start", "_law_names", "_law_worth", "_law_name"] ["_law_script", "_law_axes", "_law_lengths"] (defScope s_l_rows_by) := ⟨rfl, rfl, rfl, by decide +kernel, rfl, by decide +kernel, by decide +kernel⟩
theorem sc_l_due_of : FnScope ["_law_rows", "_law_lengths", "_law_due", "_law_k", "_law_own", "_law_sums", "_law_about", "_law_cell", "_law_name", "_law_word", "_law_turn"] ["_law_rows", "_law_lengths"] (defScope s_l_due_of) := ⟨rfl, rfl, rfl, by decide +kernel, rfl, by decide +kernel, by decide +kernel⟩
theorem sc_l_wholes : FnScope ["_law_found", "_law_number"] ["_law_found"] (defScope s_l_wholes) := ⟨rfl, rfl, rfl, by decide +kernel, rfl, by decide +kernel, by decide +kernel⟩
theorem sc_l_is_node : FnScope ["_law_node"] ["_law_node"] (defScope s_l_is_node) := ⟨rfl, rfl, rfl, by decide +kernel, rfl, by decide +kernel, by decide +kernel⟩
theorem sc_l_written : FnScope ["_law_found", "_law_most", "_law_rows", "_law_node", "_law_waiting", "_law_about", "_law_other"] ["_law_found", "_law_most"] (defScope s_l_written) := ⟨rfl, rfl, rfl, by decide +kernel, rfl, by decide +kernel, by decide +kernel⟩
theorem sc_law : FnScope ["_law_script", "_law_head", "_law_axes", "_law_lengths", "_law_k", "_law_cell", "_law_rows", "_law_tables", "_law_arrays", "_law_name", "_law_lines", "_law_outs", "_law_cloth", "_law_due", "_law_turn", "_law_found"] ["_law_script"] (defScope s_law) := ⟨rfl, rfl, rfl, by decide +kernel, rfl, by decide +kernel, by decide +kernel⟩
theorem nd_comp_0 : (["member"] : List Str).Nodup := by decide +kernel
theorem nd_comp_1 : (["axis", "lengths"] : List Str).Nodup := by decide +kernel
theorem nd_comp_2 : (["_law_k", "_law_axes", "_law_start"] : List Str).Nodup := by decide +kernel
theorem nd_comp_3 : (["_law_node"] : List Str).Nodup := by decide +kernel
theorem nd_comp_4 : (["_law_name"] : List Str).Nodup := by decide +kernel
theorem FnOk.none {P : Program} {w : World} {K : PySem.W.Frag} {mg : Str → Option Value} {base : Heap} {CX : CXT} {k : Nat} {f : Addr} {fd : FuncData} {ps : List Str} {sp : Sp} (h : ∀ vs H Q E, ¬ sp vs H Q E) : FnOk P w K mg base CX k f fd ps sp :=
  ⟨fun vs H Q E q => (h vs H Q E q).elim, fun _ _ _ H _ _ vs Q E _ _ _ _ q => (h vs H Q E q).elim⟩
/-! ### data -/
def encT (e : Str × List Str) : PyData := .tuple [.str e.1, .list (e.2.map PyData.str)]
def encTb (ts : List (Str × List Str)) : PyData := .list (ts.map encT)
def encS (xs : List Str) : PyData := .list (xs.map PyData.str)
def OkS (xs : List Str) : Prop := ∀ x ∈ xs, PyData.strOk x = true
theorem ds_strs : ∀ xs : List Str, PyData.depthAll (xs.map PyData.str) = 0 ∧ cntAll (xs.map PyData.str) = xs.length
  | [] => ⟨rfl, rfl⟩
  | x :: r => by
    obtain ⟨h2, h3⟩ := ds_strs r
    refine ⟨?_, ?_⟩
    · simp [PyData.depthAll, PyData.depth, h2]
    · simp [cntAll, cnt, h3]; omega
theorem lay_strs : ∀ {xs : List Str}, OkS xs → PyData.canLayAll0 (xs.map PyData.str) = true
  | [], _ => rfl
  | x :: r, h => by
    have h1 := lay_strs (xs := r) fun y hy => h y (.tail _ hy)
    simp [PyData.canLayAll0, PyData.canLay0, h1, h x (.head _)]
theorem encS_ok (xs : List Str) : (encS xs).depth ≤ 1 ∧ cnt (encS xs) ≤ 1 + xs.length := by
  obtain ⟨h2, h3⟩ := ds_strs xs
  refine ⟨?_, ?_⟩
  · simp [encS, PyData.depth, h2]
  · simp only [encS, cnt, h3]; omega
theorem encS_lay {xs : List Str} (h : OkS xs) : (encS xs).canLay0 = true := by simp [encS, PyData.canLay0, lay_strs h]
theorem ds_tb {n : Nat} : ∀ ts : List (Str × List Str), (∀ e ∈ ts, e.2.length ≤ n) → PyData.depthAll (ts.map encT) ≤ 2 ∧ cntAll (ts.map encT) ≤ ts.length * (n + 4)
  | [], _ => ⟨by simp [PyData.depthAll], by simp [cntAll]⟩
  | e :: r, h => by
    obtain ⟨h2, h3⟩ := ds_tb r fun x hx => h x (.tail _ hx)
    obtain ⟨g2, g3⟩ := ds_strs e.2
    have hl := h e (.head _)
    refine ⟨?_, ?_⟩
    · simp only [List.map_cons, encT, PyData.depthAll, PyData.depth, g2]
      omega
    · simp only [List.map_cons, encT, cntAll, cnt, g3, List.length_cons, Nat.add_mul, Nat.one_mul]
      omega
theorem encTb_ok {n : Nat} (ts : List (Str × List Str)) (h : ∀ e ∈ ts, e.2.length ≤ n) : (encTb ts).depth ≤ 3 ∧ cnt (encTb ts) ≤ 1 + ts.length * (n + 4) := by
  obtain ⟨h2, h3⟩ := ds_tb ts h
  refine ⟨?_, ?_⟩
  · simp only [encTb, PyData.depth]; omega
  · simp only [encTb, cnt]; omega
theorem lay_tb : ∀ {ts : List (Str × List Str)}, (∀ e ∈ ts, PyData.strOk e.1 = true ∧ OkS e.2) → PyData.canLayAll0 (ts.map encT) = true
  | [], _ => rfl
  | e :: r, h => by
    have h1 := lay_tb (ts := r) fun y hy => h y (.tail _ hy)
    have h2 := h e (.head _)
    simp [encT, PyData.canLayAll0, PyData.canLay0, h1, h2.1, lay_strs h2.2]
theorem encTb_lay {ts : List (Str × List Str)} (h : ∀ e ∈ ts, PyData.strOk e.1 = true ∧ OkS e.2) : (encTb ts).canLay0 = true := by simp [encTb, PyData.canLay0, lay_tb h]
theorem shaped_of {d : PyData} (h : d.canLay0 = true) (hd : d.depth ≤ 60) : SeqAt.shaped d = true := by
  unfold SeqAt.shaped
  rw [h, Bool.true_and]
  exact decide_eq_true (by omega)
theorem reps_strs {H : Hp} : ∀ {ys : List Str} {xs : List V}, Reps H xs (ys.map PyData.str) → xs = ys.map V.str
  | [], _, r => by cases r; rfl
  | y :: ys, _, r => by
    rw [List.map_cons] at r
    cases r with
    | cons a r =>
      cases a
      rw [List.map_cons, reps_strs r]
theorem rep_S {H : Hp} {v : V} {ys : List Str} (h : Rep H v (encS ys)) : ∃ p, v = .ref p ∧ H p = some (.lst (ys.map V.str)) := by
  obtain ⟨p, xs, rfl, e, r⟩ := rep_lst (show Rep H v (.list (ys.map PyData.str)) from h)
  rw [reps_strs r] at e
  exact ⟨p, rfl, e⟩
theorem S_rep {H : Hp} {p : Addr} {ys : List Str} (e : H p = some (.lst (ys.map V.str))) : Rep H (.ref p) (encS ys) := .lst e (Reps.strs ys)
theorem rep_T {H : Hp} {v : V} {e : Str × List Str} (h : Rep H v (encT e)) : ∃ b c, v = .ref b ∧ H b = some (.tup [.str e.1, .ref c]) ∧ H c = some (.lst (e.2.map V.str)) := by
  unfold encT at h
  cases h with
  | @tup b xs _ eb r =>
    cases r with
    | cons a r =>
      cases r with
      | cons a2 r =>
        cases r
        cases a
        obtain ⟨c, rfl, ec⟩ := rep_S a2
        exact ⟨b, c, rfl, eb, ec⟩
theorem T_rep {H : Hp} {b c : Addr} {e : Str × List Str} (eb : H b = some (.tup [.str e.1, .ref c])) (ec : H c = some (.lst (e.2.map V.str))) : Rep H (.ref b) (encT e) := .tup eb (.cons (.str _) (.cons (S_rep ec) .nil))
/-- one of a list of data -/
theorem reps_of {α : Type} {H : Hp} {f : α → PyData} {ts : List α} {xs : List V} (r : Reps H xs (ts.map f)) {i : Nat} {x : V} (hx : xs[i]? = some x) : ∃ e, ts[i]? = some e ∧ Rep H x (f e) := by
  obtain ⟨d, hd, rx⟩ := r.get2 hx
  rw [List.getElem?_map] at hd
  obtain ⟨e, he, rfl⟩ := Option.map_eq_some_iff.mp hd
  exact ⟨e, he, rx⟩
/-! ### objects -/
theorem pget {α β : Type} {F : α → β → Prop} : ∀ {l : List α} {m : List β}, Paired F l m → ∀ {i : Nat} {x : α}, l[i]? = some x → ∃ y, m[i]? = some y ∧ F x y
  | _, _, .nil, i, x, e => by simp at e
  | _, _, .cons r t, 0, x, e => by simp at e; subst e; exact ⟨_, rfl, r⟩
  | _, _, .cons r t, i + 1, x, e => by
    obtain ⟨y, e1, e2⟩ := pget t (i := i) (by simpa using e)
    exact ⟨y, by simpa using e1, e2⟩
theorem papp {α β : Type} {F : α → β → Prop} : ∀ {a c : List α} {b d : List β}, Paired F a b → Paired F c d → Paired F (a ++ c) (b ++ d)
  | _, _, _, _, .nil, h => h
  | _, _, _, _, .cons r t, h => .cons r (papp t h)
theorem get_map {α : Type} {f : α → V} {xs : List α} {i : Nat} {v : V} (h : (xs.map f)[i]? = some v) : ∃ x, xs[i]? = some x ∧ v = f x := by
  rw [List.getElem?_map] at h
  cases e : xs[i]? with
  | none => rw [e] at h; cases h
  | some x => rw [e] at h; exact ⟨x, rfl, (Option.some.inj h).symm⟩
/-- all tuples stay -/
def KT (H H' : Hp) : Prop := ∀ p xs, H p = some (.tup xs) → H' p = some (.tup xs)
theorem KT.same {H H' : Hp} (s : Same H H') : KT H H' := fun p xs e => s _ _ e
theorem KT.at {H : Hp} {l : Addr} {u o : HO} (e : H l = some u) (n : ∀ xs, u ≠ .tup xs) : KT H (upd H l o) := fun p xs z => by rw [upd_ne (ne_of z e (n xs).symm)]; exact z
theorem KT.trans {H H' H2 : Hp} (a : KT H H') (b : KT H' H2) : KT H H2 := fun p xs e => b _ _ (a _ _ e)
structure Rw where
  own : List Str
  sums : List Str
  so : List Int
  ss : List Int
structure RwOk (e : Rw) : Prop where
  lo : e.own.length = e.so.length
  ls : e.sums.length = e.ss.length
  pl : e.own.length + e.sums.length ≤ 8
/-- a line; its lists are not among M -/
def LineAt (A : Adr) (M : List Addr) (H : Hp) (v : V) (e : Rw) : Prop := ∃ (a dx c u : Addr) (n : V) (x : Str), v = .ref a ∧ H a = some (.ins A.C_Line dx [("name", .str x), ("axes", .ref c), ("sums", .ref u), ("term", n)]) ∧ c ∉ M ∧ H c = some (.lst (e.own.map V.str)) ∧ u ∉ M ∧ H u = some (.lst (e.sums.map V.str))
abbrev LinesAt (A : Adr) (M : List Addr) (H : Hp) (xs : List V) (rows : List Rw) : Prop := Paired (LineAt A M H) xs rows
theorem LineAt.imp {A : Adr} {M M' : List Addr} {H H' : Hp} {v : V} {e : Rw} (h : LineAt A M H v e) (f : ∀ a C dx fs, H a = some (.ins C dx fs) → H' a = some (.ins C dx fs)) (g : ∀ c xs, c ∉ M → H c = some (.lst xs) → c ∉ M' ∧ H' c = some (.lst xs)) : LineAt A M' H' v e := by
  obtain ⟨a, dx, c, u, n, x, rfl, e1, m1, e2, m2, e3⟩ := h
  exact ⟨a, dx, c, u, n, x, rfl, f _ _ _ _ e1, (g _ _ m1 e2).1, (g _ _ m1 e2).2, (g _ _ m2 e3).1, (g _ _ m2 e3).2⟩
theorem LineAt.same {A : Adr} {M : List Addr} {H H' : Hp} {v : V} {e : Rw} (h : LineAt A M H v e) (s : Same H H') : LineAt A M H' v e := h.imp (fun _ _ _ _ z => s _ _ z) fun _ _ y z => ⟨y, s _ _ z⟩
/-- the dict tells the sizes -/
abbrev Sz (lk : List (Key × V)) (ys : List Str) (ls : List Int) : Prop := Paired (fun (y : Str) (n : Int) => valV lk (Sum.inr y) = some (.int n)) ys ls
def Tot (lk : List (Key × V)) (rows : List Rw) : Prop := ∀ e ∈ rows, RwOk e ∧ Sz lk e.own e.so ∧ Sz lk e.sums e.ss ∧ OkS e.own ∧ OkS e.sums
end My

set_option Elab.async false
set_option linter.all false
set_option maxRecDepth 100000
set_option maxHeartbeats 4000000
namespace My
open PySem L2
local macro_rules | `(tactic| walk_at "lk") => `(tactic| first | with_reducible exact lk0 | (refine lk1 (by decide +kernel) ?_; walk_at "lk") | rfl)
def sp_init1 (K : PySem.W.Frag) (f : Str) : Sp := fun vs H Q _ => ∃ (p C dx : Addr) (v : V), vs = [.ref p, v] ∧ H p = some (.ins C dx []) ∧ Cls K C ∧ NoAttr K C f ∧ Q .non (upd H p (.ins C dx [(f, v)]))
def sp_cop (n : Nat) : Sp := fun vs H Q _ => ∃ (v : V) (d : PyData), vs = [v] ∧ Rep H v d ∧ PyData.depth d ≤ n ∧ cnt d ≤ 100000 ∧ ∀ (v' : V) (H' : Hp), Same H H' → Rep (restr (fun a => H a = none) H') v' d → Q v' H'
def sp_cpI (A : Adr) : Sp := fun vs H Q _ => ∃ (a dx : Addr) (fs : List (Str × V)), vs = [.ref a] ∧ H a = some (.ins A.C_Line dx fs) ∧ Q (.ref a) H
def sp_cpL (A : Adr) : Sp := fun vs H Q _ => ∃ (p : Addr) (xs : List V), vs = [.ref p] ∧ H p = some (.lst xs) ∧ xs.length ≤ 1000 ∧ (∀ x ∈ xs, ∃ a dx fs, x = .ref a ∧ H a = some (.ins A.C_Line dx fs)) ∧ ∀ (D : Addr) (H' : Hp), H D = none → Same H H' → H' D = some (.lst xs) → Q (.ref D) H'
/-- copied of a dict: ds are the data of its values -/
def sp_cd : Sp := fun vs H Q _ => ∃ (d : Addr) (kvs : List (Key × V)) (ds : List PyData), vs = [.ref d] ∧ H d = some (.dK kvs) ∧ kvs.length ≤ 100000 ∧ Paired (fun (a : Key × V) (x : PyData) => Rep H a.2 x ∧ PyData.depth x ≤ 1 ∧ cnt x ≤ 100000) kvs ds ∧
  ∀ (p : Addr) (kvs' : List (Key × V)) (H' : Hp), H p = none → Same H H' → H' p = some (.dK kvs') → kvs'.map (·.1) = kvs.map (·.1) → Paired (fun (b : Key × V) (x : PyData) => Rep (restr (fun a => H a = none) H') b.2 x) kvs' ds → Q (.ref p) H'
section
variable {P : Program} {w : World} {K : PySem.W.Frag} {mg : Str → Option Value} {base : Heap} {t : Adr}
theorem ok_Number_init (T : Txt K mg t) : FnOk P w K mg base CX0 1 t.f_Number_init t.d_Number_init ["self", "number"] (sp_init1 K "number") := by
  refine T.F_Number_init.ok sc_Number_init (fun vs H Q E h => ?_) (fun cdv A outer s H vs Q E hr h => ?_)
  · obtain ⟨p, C, dx, v, rfl, _⟩ := h
    rfl
  · obtain ⟨p, C, dx, v, rfl, hp, cl, na, k⟩ := h
    exact ⟨_, (pss_one (ps_fld (pv 0) (pv 1) rfl)), _, rfl, _, rfl, p, C, dx, [], rfl, hp, cl, na, (by decide), k⟩
/-! ### copied -/
theorem isi_no_list {T : String} (h : T = "NoneType" ∨ T = "bool" ∨ T = "int" ∨ T = "str" ∨ T = "tuple") : ∀ u, RelV (.ty "list") u → PySem.W.kitOne K (.type T) u = some false := by
  rcases h with rfl | rfl | rfl | rfl | rfl <;> exact isi_by (by decide +kernel) (by decide +kernel) (by decide +kernel)
theorem isi_no_tuple {T : String} (h : T = "NoneType" ∨ T = "bool" ∨ T = "int" ∨ T = "str") : ∀ u, RelV (.ty "tuple") u → PySem.W.kitOne K (.type T) u = some false := by
  rcases h with rfl | rfl | rfl | rfl <;> exact isi_by (by decide +kernel) (by decide +kernel) (by decide +kernel)
theorem isi_no_dict {T : String} (h : T = "NoneType" ∨ T = "bool" ∨ T = "int" ∨ T = "str") : ∀ u, RelV (.ty "dict") u → PySem.W.kitOne K (.type T) u = some false := by
  rcases h with rfl | rfl | rfl | rfl <;> exact isi_by (by decide +kernel) (by decide +kernel) (by decide +kernel)
theorem cop_step (T : Txt K mg t) {m n : Nat} {sp' : Sp} (G_copied : FnOk P w K mg base CX0 m t.f_copied t.d_copied ["value"] sp')
    (hs : ∀ (v : V) (d : PyData) (H : Hp) (Q : VK), Rep H v d → PyData.depth d + 1 ≤ n → cnt d ≤ 100000 → (∀ (v' : V) (H' : Hp), Same H H' → Rep (restr (fun a => H a = none) H') v' d → Q v' H') → sp' [v] H Q E0) :
    FnOk P w K mg base CX0 (m + 1) t.f_copied t.d_copied ["value"] (sp_cop n) := by
  refine T.F_copied.ok sc_copied (fun vs H Q E h => ?_) (fun cdv A outer s H vs Q E hr h => ?_)
  · obtain ⟨v, d, rfl, _⟩ := h
    rfl
  · obtain ⟨v, d, rfl, rp, hd, hc, k⟩ := h
    have G_copied_dict : FnOk P w K mg base CX0 0 t.f_copied_dict t.d_copied_dict ["value"] (fun _ _ _ _ => False) := FnOk.none fun _ _ _ _ h => h
    refine ⟨_, (pss_cons (ps_if (pt_val (pe_callB call_isinst (by rfl) T.z_isinstance PyProof.Rows.boot_isinstance (pa_cons (pv 0) (pa_cons (pe_bltn (v := V.ty "list") rfl T.z_list PyProof.Rows.boot_list rfl) pa_nil))))
        (pss_one (ps_ret (pe_comp (N' := ["member"]) (ix := (List.replicate 1 none)) rfl (clok_none rfl (by decide +kernel) (by decide +kernel)) (ixok_none rfl) (pi_seq (pv 0)) (fun _ _ _ _ => (pg_name (i := 0) nd_comp_0 rfl (Or.inl rfl) (Or.inr rfl))) (fun _ _ _ _ => (pe_call G_copied (hr.mono (by omega)) rfl T.m_copied T.F_copied.kp T.b_copied .nil pass0 (pa_cons (pv 0) pa_nil))))))
        pss_nil)
      (pss_cons (ps_if (pt_val (pe_callB call_isinst (by rfl) T.z_isinstance PyProof.Rows.boot_isinstance (pa_cons (pv 0) (pa_cons (pe_bltn (v := V.ty "tuple") rfl T.z_tuple PyProof.Rows.boot_tuple rfl) pa_nil))))
        (pss_one (ps_ret (pe_callTy call_tuple_of (by rfl) T.z_tuple PyProof.Rows.boot_tuple (pa_cons (pe_comp (N' := ["member"]) (ix := (List.replicate 1 none)) rfl (clok_none rfl (by decide +kernel) (by decide +kernel)) (ixok_none rfl) (pi_seq (pv 0)) (fun _ _ _ _ => (pg_name (i := 0) nd_comp_0 rfl (Or.inl rfl) (Or.inr rfl))) (fun _ _ _ _ => (pe_call G_copied (hr.mono (by omega)) rfl T.m_copied T.F_copied.kp T.b_copied .nil pass0 (pa_cons (pv 0) pa_nil)))) pa_nil))))
        pss_nil)
      (pss_cons (ps_if (pt_val (pe_callB call_isinst (by rfl) T.z_isinstance PyProof.Rows.boot_isinstance (pa_cons (pv 0) (pa_cons (pe_bltn (v := V.ty "dict") rfl T.z_dict PyProof.Rows.boot_dict rfl) pa_nil))))
        (pss_one (ps_ret (pe_call G_copied_dict (hr.mono (by omega)) rfl T.m_copied_dict T.F_copied_dict.kp T.b_copied_dict .nil pass0 (pa_cons (pv 0) pa_nil))))
        pss_nil)
      (pss_one (ps_ret (pv 0)))))), ?_⟩
    cases rp with
    | non =>
      refine ⟨_, rfl, _, _, _, _, rfl, .non, isi_no_list (.inl rfl), false, rfl, iteF ?_⟩
      refine ⟨_, rfl, _, _, _, _, rfl, .non, isi_no_tuple (.inl rfl), false, rfl, iteF ?_⟩
      exact ⟨_, rfl, _, _, _, _, rfl, .non, isi_no_dict (.inl rfl), false, rfl, iteF ⟨_, rfl, k _ _ (Same.refl _) .non⟩⟩
    | bl b =>
      refine ⟨_, rfl, _, _, _, _, rfl, .bl b, isi_no_list (.inr (.inl rfl)), false, rfl, iteF ?_⟩
      refine ⟨_, rfl, _, _, _, _, rfl, .bl b, isi_no_tuple (.inr (.inl rfl)), false, rfl, iteF ?_⟩
      exact ⟨_, rfl, _, _, _, _, rfl, .bl b, isi_no_dict (.inr (.inl rfl)), false, rfl, iteF ⟨_, rfl, k _ _ (Same.refl _) (.bl b)⟩⟩
    | int b =>
      refine ⟨_, rfl, _, _, _, _, rfl, .int b, isi_no_list (.inr (.inr (.inl rfl))), false, rfl, iteF ?_⟩
      refine ⟨_, rfl, _, _, _, _, rfl, .int b, isi_no_tuple (.inr (.inr (.inl rfl))), false, rfl, iteF ?_⟩
      exact ⟨_, rfl, _, _, _, _, rfl, .int b, isi_no_dict (.inr (.inr (.inl rfl))), false, rfl, iteF ⟨_, rfl, k _ _ (Same.refl _) (.int b)⟩⟩
    | str b =>
      refine ⟨_, rfl, _, _, _, _, rfl, .str b, isi_no_list (.inr (.inr (.inr (.inl rfl)))), false, rfl, iteF ?_⟩
      refine ⟨_, rfl, _, _, _, _, rfl, .str b, isi_no_tuple (.inr (.inr (.inr rfl))), false, rfl, iteF ?_⟩
      exact ⟨_, rfl, _, _, _, _, rfl, .str b, isi_no_dict (.inr (.inr (.inr rfl))), false, rfl, iteF ⟨_, rfl, k _ _ (Same.refl _) (.str b)⟩⟩
    | @lst p xs ds e r =>
      have hl1 := r.len
      have hl2 := cnt_len ds
      have hc' : cntAll ds + 1 ≤ 100000 := hc
      have hd' : PyData.depthAll ds + 1 ≤ n := hd
      refine ⟨_, rfl, _, _, _, _, rfl, .lst e, isi_same "list", true, rfl, iteT ?_⟩
      refine .inl ⟨_, rfl, p, rfl, ⟨_, SqL.of e⟩, fun D hD => ?_⟩
      refine comp_listQ (K := K) (a := p) (D := D) (xs := xs) (fun i ys H2 => Same H H2 ∧ H2 D = some (.lst ys) ∧ Reps (restr (fun a => H a = none ∧ a ≠ D) H2) ys (ds.take i) ∧ ys.length = i)
        ⟨same_new hD, upd_same, (by rw [List.take_zero]; exact .nil), rfl⟩ (fun i ys H2 ⟨s2, _⟩ => SqL.of (s2 _ _ e)) ?_ ?_
      · rintro i x ys H2 hx ⟨s2, hD2, rs, hyl⟩
        obtain ⟨d, hdi, rx⟩ := r.get2 hx
        obtain ⟨c1, c2⟩ := cnt_at hdi
        have hi : i < xs.length := (List.getElem?_eq_some_iff.mp hx).1
        refine ⟨True.intro, _, rfl, hs x d H2 _ (rx.same s2) (by omega) (by omega) fun v' H5 s5 rp5 => ?_⟩
        have hnS : ¬ (H D = none ∧ D ≠ D) := fun z => z.2 rfl
        refine ⟨s5 _ _ hD2, line_lt (by omega), same_fresh (s2.trans s5) hD, upd_same, ?_, by simp [hyl]⟩
        rw [List.take_add_one, hdi]
        show Reps _ (ys ++ [v']) (ds.take i ++ [d])
        refine (rs.same (restr_upd (restr_same s5) hnS)).snoc (rp5.same ((restr_imp (Same.refl _) fun a o _ ha => ⟨s2.free ha, fun z => ?_⟩).trans (restr_upd (Same.refl _) hnS)))
        subst z
        rw [hD2] at ha
        cases ha
      · rintro ys H2 ⟨s2, hD2, rs, hyl⟩
        refine k (.ref D) H2 s2 (.lst (restr_mk hD hD2) ?_)
        rw [hl1, List.take_length] at rs
        exact rs.same (restr_imp (Same.refl _) fun a o _ h => h.1)
    | @tup p xs ds e r =>
      have hl1 := r.len
      have hl2 := cnt_len ds
      have hc' : cntAll ds + 1 ≤ 100000 := hc
      have hd' : PyData.depthAll ds + 1 ≤ n := hd
      refine ⟨_, rfl, _, _, _, _, rfl, .tup e, isi_no_list (.inr (.inr (.inr (.inr rfl)))), false, rfl, iteF ?_⟩
      refine ⟨_, rfl, _, _, _, _, rfl, .tup e, isi_same "tuple", true, rfl, iteT ?_⟩
      refine .inr ⟨_, rfl, p, rfl, ⟨_, SqT.of e⟩, fun D hD => ?_⟩
      refine comp_tupQ (K := K) (a := p) (D := D) (xs := xs) (fun i ys H2 => Same H H2 ∧ H2 D = some (.lst ys) ∧ Reps (restr (fun a => H a = none ∧ a ≠ D) H2) ys (ds.take i) ∧ ys.length = i)
        ⟨same_new hD, upd_same, (by rw [List.take_zero]; exact .nil), rfl⟩ (fun i ys H2 ⟨s2, _⟩ => SqT.of (s2 _ _ e)) ?_ ?_
      · rintro i x ys H2 hx ⟨s2, hD2, rs, hyl⟩
        obtain ⟨d, hdi, rx⟩ := r.get2 hx
        obtain ⟨c1, c2⟩ := cnt_at hdi
        have hi : i < xs.length := (List.getElem?_eq_some_iff.mp hx).1
        refine ⟨True.intro, _, rfl, hs x d H2 _ (rx.same s2) (by omega) (by omega) fun v' H5 s5 rp5 => ?_⟩
        have hnS : ¬ (H D = none ∧ D ≠ D) := fun z => z.2 rfl
        refine ⟨s5 _ _ hD2, line_lt (by omega), same_fresh (s2.trans s5) hD, upd_same, ?_, by simp [hyl]⟩
        rw [List.take_add_one, hdi]
        show Reps _ (ys ++ [v']) (ds.take i ++ [d])
        refine (rs.same (restr_upd (restr_same s5) hnS)).snoc (rp5.same ((restr_imp (Same.refl _) fun a o _ ha => ⟨s2.free ha, fun z => ?_⟩).trans (restr_upd (Same.refl _) hnS)))
        subst z
        rw [hD2] at ha
        cases ha
      · rintro ys H2 ⟨s2, hD2, rs, hyl⟩
        refine ⟨D, ys, rfl, .inl ⟨SqL.of hD2, fun l hl => ?_⟩⟩
        refine k (.ref l) _ (s2.trans (same_new hl)) (.tup (restr_mk (s2.free hl) upd_same) ?_)
        rw [hl1, List.take_length] at rs
        exact rs.same ((restr_imp (Same.refl _) fun a o _ h => h.1).trans (restr_same (same_new hl)))
theorem ok_copied (T : Txt K mg t) : ∀ n : Nat, FnOk P w K mg base CX0 (n + 1) t.f_copied t.d_copied ["value"] (sp_cop n)
  | 0 => cop_step T (sp' := fun _ _ _ _ => False) (m := 0) (FnOk.none fun _ _ _ _ h => h) fun v d H Q _ h => absurd h (by omega)
  | n + 1 => cop_step T (ok_copied T n) fun v d H Q rp hd hc k => ⟨v, d, rfl, rp, by omega, hc, k⟩
theorem ok_copI (T : Txt K mg t) : FnOk P w K mg base CX0 1 t.f_copied t.d_copied ["value"] (sp_cpI t) := by
  refine T.F_copied.ok sc_copied (fun vs H Q E h => ?_) (fun cdv A outer s H vs Q E hr h => ?_)
  · obtain ⟨a, dx, fs, rfl, _⟩ := h
    rfl
  · obtain ⟨a, dx, fs, rfl, e, k⟩ := h
    have G_copied : FnOk P w K mg base CX0 0 t.f_copied t.d_copied ["value"] (fun _ _ _ _ => False) := FnOk.none fun _ _ _ _ h => h
    have ty : TyOf K H (.ref a) (.ref t.C_Line) := .ins e T.cl_Line T.ty_Line.ha T.ty_Line.hn T.ty_Line.htk T.ty_Line.hm
    have G_copied_dict : FnOk P w K mg base CX0 0 t.f_copied_dict t.d_copied_dict ["value"] (fun _ _ _ _ => False) := FnOk.none fun _ _ _ _ h => h
    refine ⟨_, (pss_cons (ps_if (pt_val (pe_callB call_isinst (by rfl) T.z_isinstance PyProof.Rows.boot_isinstance (pa_cons (pv 0) (pa_cons (pe_bltn (v := V.ty "list") rfl T.z_list PyProof.Rows.boot_list rfl) pa_nil))))
        (pss_one (ps_ret (pe_comp (N' := ["member"]) (ix := (List.replicate 1 none)) rfl (clok_none rfl (by decide +kernel) (by decide +kernel)) (ixok_none rfl) (pi_seq (pv 0)) (fun _ _ _ _ => (pg_name (i := 0) nd_comp_0 rfl (Or.inl rfl) (Or.inr rfl))) (fun _ _ _ _ => (pe_call G_copied (hr.mono (by omega)) rfl T.m_copied T.F_copied.kp T.b_copied .nil pass0 (pa_cons (pv 0) pa_nil))))))
        pss_nil)
      (pss_cons (ps_if (pt_val (pe_callB call_isinst (by rfl) T.z_isinstance PyProof.Rows.boot_isinstance (pa_cons (pv 0) (pa_cons (pe_bltn (v := V.ty "tuple") rfl T.z_tuple PyProof.Rows.boot_tuple rfl) pa_nil))))
        (pss_one (ps_ret (pe_callTy call_tuple_of (by rfl) T.z_tuple PyProof.Rows.boot_tuple (pa_cons (pe_comp (N' := ["member"]) (ix := (List.replicate 1 none)) rfl (clok_none rfl (by decide +kernel) (by decide +kernel)) (ixok_none rfl) (pi_seq (pv 0)) (fun _ _ _ _ => (pg_name (i := 0) nd_comp_0 rfl (Or.inl rfl) (Or.inr rfl))) (fun _ _ _ _ => (pe_call G_copied (hr.mono (by omega)) rfl T.m_copied T.F_copied.kp T.b_copied .nil pass0 (pa_cons (pv 0) pa_nil)))) pa_nil))))
        pss_nil)
      (pss_cons (ps_if (pt_val (pe_callB call_isinst (by rfl) T.z_isinstance PyProof.Rows.boot_isinstance (pa_cons (pv 0) (pa_cons (pe_bltn (v := V.ty "dict") rfl T.z_dict PyProof.Rows.boot_dict rfl) pa_nil))))
        (pss_one (ps_ret (pe_call G_copied_dict (hr.mono (by omega)) rfl T.m_copied_dict T.F_copied_dict.kp T.b_copied_dict .nil pass0 (pa_cons (pv 0) pa_nil))))
        pss_nil)
      (pss_one (ps_ret (pv 0)))))), ?_⟩
    refine ⟨_, rfl, _, _, _, _, rfl, ty, isi_bt T.mb_Line_list (by decide +kernel), false, rfl, iteF ?_⟩
    refine ⟨_, rfl, _, _, _, _, rfl, ty, isi_bt T.mb_Line_tuple (by decide +kernel), false, rfl, iteF ?_⟩
    exact ⟨_, rfl, _, _, _, _, rfl, ty, isi_bt T.mb_Line_dict (by decide +kernel), false, rfl, iteF ⟨_, rfl, k⟩⟩
theorem ok_copL (T : Txt K mg t) : FnOk P w K mg base CX0 2 t.f_copied t.d_copied ["value"] (sp_cpL t) := by
  have G_copied := ok_copI (P := P) (w := w) (base := base) T
  refine T.F_copied.ok sc_copied (fun vs H Q E h => ?_) (fun cdv A outer s H vs Q E hr h => ?_)
  · obtain ⟨p, xs, rfl, _⟩ := h
    rfl
  · obtain ⟨p, xs, rfl, e, hl, hx, k⟩ := h
    have G_copied_dict : FnOk P w K mg base CX0 0 t.f_copied_dict t.d_copied_dict ["value"] (fun _ _ _ _ => False) := FnOk.none fun _ _ _ _ h => h
    refine ⟨_, (pss_cons (ps_if (pt_val (pe_callB call_isinst (by rfl) T.z_isinstance PyProof.Rows.boot_isinstance (pa_cons (pv 0) (pa_cons (pe_bltn (v := V.ty "list") rfl T.z_list PyProof.Rows.boot_list rfl) pa_nil))))
        (pss_one (ps_ret (pe_comp (N' := ["member"]) (ix := (List.replicate 1 none)) rfl (clok_none rfl (by decide +kernel) (by decide +kernel)) (ixok_none rfl) (pi_seq (pv 0)) (fun _ _ _ _ => (pg_name (i := 0) nd_comp_0 rfl (Or.inl rfl) (Or.inr rfl))) (fun _ _ _ _ => (pe_call G_copied (hr.mono (by omega)) rfl T.m_copied T.F_copied.kp T.b_copied .nil pass0 (pa_cons (pv 0) pa_nil))))))
        pss_nil)
      (pss_cons (ps_if (pt_val (pe_callB call_isinst (by rfl) T.z_isinstance PyProof.Rows.boot_isinstance (pa_cons (pv 0) (pa_cons (pe_bltn (v := V.ty "tuple") rfl T.z_tuple PyProof.Rows.boot_tuple rfl) pa_nil))))
        (pss_one (ps_ret (pe_callTy call_tuple_of (by rfl) T.z_tuple PyProof.Rows.boot_tuple (pa_cons (pe_comp (N' := ["member"]) (ix := (List.replicate 1 none)) rfl (clok_none rfl (by decide +kernel) (by decide +kernel)) (ixok_none rfl) (pi_seq (pv 0)) (fun _ _ _ _ => (pg_name (i := 0) nd_comp_0 rfl (Or.inl rfl) (Or.inr rfl))) (fun _ _ _ _ => (pe_call G_copied (hr.mono (by omega)) rfl T.m_copied T.F_copied.kp T.b_copied .nil pass0 (pa_cons (pv 0) pa_nil)))) pa_nil))))
        pss_nil)
      (pss_cons (ps_if (pt_val (pe_callB call_isinst (by rfl) T.z_isinstance PyProof.Rows.boot_isinstance (pa_cons (pv 0) (pa_cons (pe_bltn (v := V.ty "dict") rfl T.z_dict PyProof.Rows.boot_dict rfl) pa_nil))))
        (pss_one (ps_ret (pe_call G_copied_dict (hr.mono (by omega)) rfl T.m_copied_dict T.F_copied_dict.kp T.b_copied_dict .nil pass0 (pa_cons (pv 0) pa_nil))))
        pss_nil)
      (pss_one (ps_ret (pv 0)))))), ?_⟩
    refine ⟨_, rfl, _, _, _, _, rfl, .lst e, isi_same "list", true, rfl, iteT ?_⟩
    refine .inl ⟨_, rfl, p, rfl, ⟨_, SqL.of e⟩, fun D hD => ?_⟩
    refine comp_listQ (K := K) (a := p) (D := D) (xs := xs) (fun i ys H2 => Same H H2 ∧ H2 D = some (.lst ys) ∧ ys = xs.take i)
      ⟨same_new hD, upd_same, rfl⟩ (fun i ys H2 ⟨s2, _⟩ => SqL.of (s2 _ _ e)) ?_ ?_
    · rintro i x ys H2 hxi ⟨s2, hD2, rfl⟩
      obtain ⟨a, dx, fs, rfl, ea⟩ := hx x (List.mem_of_getElem? hxi)
      have hlt : (xs.take i).length ≤ xs.length := by rw [List.length_take]; omega
      refine ⟨True.intro, _, rfl, a, dx, fs, rfl, s2 _ _ ea, hD2, line_lt (by omega), same_fresh s2 hD, upd_same, ?_⟩
      rw [List.take_add_one, hxi]
      rfl
    · rintro ys H2 ⟨s2, hD2, rfl⟩
      rw [List.take_length] at hD2
      exact k D H2 hD s2 hD2
theorem ok_copied_dict (T : Txt K mg t) : FnOk P w K mg base CX0 3 t.f_copied_dict t.d_copied_dict ["value"] sp_cd := by
  have G_copied := ok_copied (P := P) (w := w) (base := base) T 1
  refine T.F_copied_dict.ok sc_copied_dict (fun vs H Q E h => ?_) (fun cdv A outer s H vs Q E hr h => ?_)
  · obtain ⟨d, kvs, ds, rfl, _⟩ := h
    rfl
  · obtain ⟨d, kvs, ds, rfl, hd, hl, src, k⟩ := h
    have hu := hu_of hr
    refine ⟨_, (pss_know (pss_cons (ps_set (i := 1) sc_copied_dict.nd rfl (Or.inl rfl) pe_dnewK)
      (pss_cons (ps_for PassesOwn.never rfl (pi_items (pe_bm0 PySem.F.plainAttrs_dict PySem.F.slot_dict_items PySem.F.type_dict_items mt_items (pv 0))) (pg_tup (n := 2) rfl (pgs_cons (pg_name (i := 2) sc_copied_dict.nd rfl (Or.inl rfl) (Or.inl rfl)) (pgs_cons (pg_name (i := 3) sc_copied_dict.nd rfl (Or.inl rfl) (Or.inl rfl)) pgs_nil)))
        (pss_one (ps_dput hu (pv 1) (pv 2) (pe_call G_copied (hr.mono (by omega)) rfl T.m_copied T.F_copied.kp T.b_copied .nil pass0 (pa_cons (pv 3) pa_nil)) rfl)))
      (pss_thawD (pss_one (ps_ret (pv 1))))))), ?_⟩
    intro ap
    have nd := ap.1 d kvs hd
    refine fun p hp => ?_
    have dp : d ≠ p := ne_of_none hd hp
    have hd1 : upd H p (.dK []) d = some (.dK kvs) := by rw [upd_ne dp]; exact hd
    refine ⟨_, rfl, .inr (.inr (.inl ⟨rfl, .inl ⟨_, hd1⟩⟩)), d, _, rfl, rfl, hd1, .inl ⟨_, rfl⟩, fun vw hvw => ?_⟩
    have vp : p ≠ vw := ne_of_none upd_same hvw
    have dv : d ≠ vw := ne_of_none hd1 hvw
    refine ⟨vw, d, _, rfl, upd_same, (by rw [upd_ne dv]; exact hd1), .inl ⟨kvs, rfl, fun o => ?_⟩⟩
    have hv0 : H vw = none := by rw [upd_ne vp.symm] at hvw; exact hvw
    have g0 : Same (upd H d (.frz o (.dK kvs))) (upd (upd (upd H p (.dK [])) vw (viewO vw d)) d (.frz o (.dK kvs))) := fun b v e => by
      by_cases hb : b = d
      · subst hb; rw [upd_same] at e ⊢; exact e
      · rw [upd_ne hb] at e ⊢
        rw [upd_ne (ne_of_none e hv0), upd_ne (ne_of_none e hp)]; exact e
    have hpG : upd H d (.frz o (.dK kvs)) p = none := by rw [upd_ne dp.symm]; exact hp
    have nd0 : ∀ b, upd H d (.frz o (.dK kvs)) b = none → H b = none := fun b e => by
      by_cases hb : b = d
      · subst hb; rw [upd_same] at e; cases e
      · rw [upd_ne hb] at e; exact e
    refine for_items (L := kvs.map fun q => (kV q.1, q.2)) (fun i σ H4 => ∃ (o2 o3 : Option V) (ws : List (Key × V)), σ = [some (.ref d), some (.ref p), o2, o3] ∧ Same (upd H d (.frz o (.dK kvs))) H4 ∧ H4 p = some (.dK ws) ∧ ws.map (·.1) = (kvs.take i).map (·.1) ∧ Paired (fun (b : Key × V) (x : PyData) => Rep (restr (fun a => H a = none ∧ a ≠ p) H4) b.2 x) ws (ds.take i))
      ⟨none, none, [], rfl, g0, (by rw [upd_ne dp.symm, upd_ne vp, upd_same]), rfl, .nil⟩ (fun i σ H4 ⟨_, _, _, _, s4, _⟩ => s4 _ _ upd_same) ?_ ?_
    · rintro i kx vx q σ H4 hx hq ⟨o2, o3, ws, rfl, s4, h4, ks, cp⟩
      rw [List.getElem?_map] at hx
      obtain ⟨⟨k', v⟩, hk, e⟩ := Option.map_eq_some_iff.mp hx
      cases e
      obtain ⟨x, hxd, rv, dv1, cv1⟩ := pget src hk
      have sq : Same H4 (upd H4 q (.tup [kV k', v])) := same_new hq
      have rv4 : Rep (upd H4 q (.tup [kV k', v])) v x := (rv.imp2 (fun b ys z => s4 _ _ (by rw [upd_ne (ne_of z hd (by intro w; cases w))]; exact z)) fun b ys z => s4 _ _ (by rw [upd_ne (ne_of z hd (by intro w; cases w))]; exact z)).same sq
      refine ⟨q, _, rfl, SqT.of upd_same, rfl, _, _, rfl, _, _, rfl, rfl, _, rfl, v, x, rfl, rv4, dv1, cv1, fun v' H6 s6 r6 => ?_⟩
      have h6 := s6 _ _ (sq _ _ h4)
      have lw : ws.length = (kvs.take i).length := by have := congrArg List.length ks; simpa using this
      have lt2 : (kvs.take i).length ≤ kvs.length := by rw [List.length_take]; omega
      refine ⟨_, rfl, _, rfl, p, _, rfl, DPut.k (k := k') h6 (line_lt (by omega)), ?_⟩
      have hnS : ¬ (H p = none ∧ p ≠ p) := fun z => z.2 rfl
      refine ⟨_, _, _, rfl, same_fresh (s4.trans (sq.trans s6)) hpG, upd_same, ?_, ?_⟩
      · rw [put_next nd hk ws ks v', List.take_add_one, hk, List.map_append, List.map_append, ks]
        rfl
      · rw [put_next nd hk ws ks v', List.take_add_one, hxd]
        refine papp (Paired.mapP cp fun _ _ z => z.same (restr_upd (restr_same (sq.trans s6)) hnS)) (.cons (r6.same ((restr_imp (Same.refl _) fun a ob ea ha => ⟨?_, fun z => ?_⟩).trans (restr_upd (Same.refl _) hnS))) .nil)
        · exact nd0 a (s4.free (sq.free ha))
        · subst z
          rw [sq _ _ h4] at ha
          cases ha
    · rintro σ H4 ⟨o2, o3, ws, rfl, s4, h4, ks, cp⟩
      have ld := Paired.length src
      rw [List.length_map, List.take_length] at ks
      rw [List.length_map, ld, List.take_length] at cp
      have hd4 : H4 d = some (.frz o (.dK kvs)) := s4 _ _ upd_same
      refine ⟨d, o, _, hd4, .inl ⟨_, rfl⟩, (fun o' u' z => by have z : H d = some (.frz o' u') := z; rw [hd] at z; cases z), _, rfl, ?_⟩
      have hnd : ¬ (H d = none ∧ d ≠ p) := fun z => by rw [hd] at z; cases z.1
      exact k p ws _ hp (same_thaw hd s4) (by rw [upd_ne dp.symm]; exact h4) ks (Paired.mapP cp fun _ _ z => z.same ((restr_upd (Same.refl _) hnd).trans (restr_imp (Same.refl _) fun a ob _ h => h.1)))
theorem ok_copD (T : Txt K mg t) : FnOk P w K mg base CX0 4 t.f_copied t.d_copied ["value"] sp_cd := by
  have G_copied_dict := ok_copied_dict (P := P) (w := w) (base := base) T
  have G_copied : FnOk P w K mg base CX0 0 t.f_copied t.d_copied ["value"] (fun _ _ _ _ => False) := FnOk.none fun _ _ _ _ h => h
  refine T.F_copied.ok sc_copied (fun vs H Q E h => ?_) (fun cdv A outer s H vs Q E hr h => ?_)
  · obtain ⟨d, kvs, ds, rfl, _⟩ := h
    rfl
  · have h0 := h
    obtain ⟨d, kvs, ds, rfl, hd, _⟩ := h
    refine ⟨_, (pss_cons (ps_if (pt_val (pe_callB call_isinst (by rfl) T.z_isinstance PyProof.Rows.boot_isinstance (pa_cons (pv 0) (pa_cons (pe_bltn (v := V.ty "list") rfl T.z_list PyProof.Rows.boot_list rfl) pa_nil))))
        (pss_one (ps_ret (pe_comp (N' := ["member"]) (ix := (List.replicate 1 none)) rfl (clok_none rfl (by decide +kernel) (by decide +kernel)) (ixok_none rfl) (pi_seq (pv 0)) (fun _ _ _ _ => (pg_name (i := 0) nd_comp_0 rfl (Or.inl rfl) (Or.inr rfl))) (fun _ _ _ _ => (pe_call G_copied (hr.mono (by omega)) rfl T.m_copied T.F_copied.kp T.b_copied .nil pass0 (pa_cons (pv 0) pa_nil))))))
        pss_nil)
      (pss_cons (ps_if (pt_val (pe_callB call_isinst (by rfl) T.z_isinstance PyProof.Rows.boot_isinstance (pa_cons (pv 0) (pa_cons (pe_bltn (v := V.ty "tuple") rfl T.z_tuple PyProof.Rows.boot_tuple rfl) pa_nil))))
        (pss_one (ps_ret (pe_callTy call_tuple_of (by rfl) T.z_tuple PyProof.Rows.boot_tuple (pa_cons (pe_comp (N' := ["member"]) (ix := (List.replicate 1 none)) rfl (clok_none rfl (by decide +kernel) (by decide +kernel)) (ixok_none rfl) (pi_seq (pv 0)) (fun _ _ _ _ => (pg_name (i := 0) nd_comp_0 rfl (Or.inl rfl) (Or.inr rfl))) (fun _ _ _ _ => (pe_call G_copied (hr.mono (by omega)) rfl T.m_copied T.F_copied.kp T.b_copied .nil pass0 (pa_cons (pv 0) pa_nil)))) pa_nil))))
        pss_nil)
      (pss_cons (ps_if (pt_val (pe_callB call_isinst (by rfl) T.z_isinstance PyProof.Rows.boot_isinstance (pa_cons (pv 0) (pa_cons (pe_bltn (v := V.ty "dict") rfl T.z_dict PyProof.Rows.boot_dict rfl) pa_nil))))
        (pss_one (ps_ret (pe_call G_copied_dict (hr.mono (by omega)) rfl T.m_copied_dict T.F_copied_dict.kp T.b_copied_dict .nil pass0 (pa_cons (pv 0) pa_nil))))
        pss_nil)
      (pss_one (ps_ret (pv 0)))))), ?_⟩
    refine ⟨_, rfl, _, _, _, _, rfl, .dK hd, isi_by (by decide +kernel) (by decide +kernel) (by decide +kernel), false, rfl, iteF ?_⟩
    refine ⟨_, rfl, _, _, _, _, rfl, .dK hd, isi_by (by decide +kernel) (by decide +kernel) (by decide +kernel), false, rfl, iteF ?_⟩
    exact ⟨_, rfl, _, _, _, _, rfl, .dK hd, isi_same "dict", true, rfl, iteT ⟨_, rfl, h0⟩⟩
/-- copied of data, of a list of lines, of a dict -/
def sp_all (A : Adr) : Sp := fun vs H Q E => (sp_cop 1 vs H Q E ∨ sp_cpL A vs H Q E) ∨ sp_cd vs H Q E
theorem ok_cop (T : Txt K mg t) : FnOk P w K mg base CX0 4 t.f_copied t.d_copied ["value"] (sp_all t) := FnOk.or (FnOk.or ((ok_copied T 1).mono (by omega)) ((ok_copL T).mono (by omega))) (ok_copD T)
end
end My

set_option Elab.async false
set_option linter.all false
set_option maxRecDepth 100000
set_option maxHeartbeats 4000000
namespace My
open PySem L2
local macro_rules | `(tactic| walk_at "lk") => `(tactic| first | with_reducible exact lk0 | (refine lk1 (by decide +kernel) ?_; walk_at "lk") | rfl)
/-- all but p stays -/
def KB (p : Addr) (H H' : Hp) : Prop := ∀ b o, b ≠ p → H b = some o → H' b = some o
theorem KB.upd {p : Addr} {H H' : Hp} {o : HO} (k : KB p H H') : KB p H (upd H' p o) := fun b u hb e => by rw [upd_ne hb]; exact k b u hb e
theorem KB.refl {p : Addr} {H : Hp} : KB p H H := fun _ _ _ e => e
theorem KB.trans {p : Addr} {H H' H2 : Hp} (a : KB p H H') (b : KB p H' H2) : KB p H H2 := fun c o hc e => b c o hc (a c o hc e)
theorem KB.of {p : Addr} {H H' : Hp} (s : Same H H') : KB p H H' := fun b o _ e => s _ _ e
theorem KB.free {p b : Addr} {H H' : Hp} {u : HO} (k : KB p H H') (hp : H' p = some u) (hb : H' b = none) : H b = none := by
  cases e : H b with
  | none => rfl
  | some o =>
    have hne : b ≠ p := fun z => by subst z; rw [hp] at hb; cases hb
    rw [k b o hne e] at hb
    cases hb
theorem KB.same {p : Addr} {H H2 H' : Hp} (s : Same H H2) (k : KB p H2 H') (hp : H p = none) : Same H H' := fun b o e => k b o (ne_of_none e hp) (s _ _ e)
/-- the arrays: each with a list in S -/
abbrev AR (S : Addr → Prop) (H : Hp) (kvs : List (Key × V)) (es : List (Str × List Str)) : Prop := Paired (fun (p : Key × V) (e : Str × List Str) => p.1 = Sum.inr e.1 ∧ ∃ b, p.2 = .ref b ∧ S b ∧ H b = some (.lst (e.2.map V.str))) kvs es
theorem AR.imp {S S' : Addr → Prop} {H H' : Hp} {kvs : List (Key × V)} {es : List (Str × List Str)} (h : AR S H kvs es) (f : ∀ b xs, S b → H b = some (.lst xs) → S' b ∧ H' b = some (.lst xs)) : AR S' H' kvs es :=
  Paired.mapP h fun _ _ ⟨z1, b, z2, z3, z4⟩ => ⟨z1, b, z2, (f b _ z3 z4).1, (f b _ z3 z4).2⟩
theorem AR.same {S : Addr → Prop} {H H' : Hp} {kvs : List (Key × V)} {es : List (Str × List Str)} (h : AR S H kvs es) (s : Same H H') : AR S H' kvs es := h.imp fun b xs z e => ⟨z, s _ _ e⟩
theorem AR.src {S : Addr → Prop} {H : Hp} : ∀ {kvs : List (Key × V)} {es : List (Str × List Str)}, AR S H kvs es → (∀ e ∈ es, e.2.length ≤ 100) → Paired (fun (a : Key × V) (x : PyData) => Rep H a.2 x ∧ PyData.depth x ≤ 1 ∧ cnt x ≤ 100000) kvs (es.map fun e => encS e.2)
  | _, _, .nil, _ => .nil
  | _, _, @Paired.cons _ _ _ p e _ _ ⟨_, b, z2, _, z4⟩ t, h => by
    obtain ⟨c2, c3⟩ := encS_ok e.2
    have := h e (.head _)
    exact .cons ⟨by rw [z2]; exact S_rep z4, c2, (by show cnt (encS e.2) ≤ 100000; omega)⟩ (AR.src t fun x hx => h x (.tail _ hx))
theorem ar_of {S S' : Addr → Prop} {H H' : Hp} : ∀ {kvs kvs' : List (Key × V)} {es : List (Str × List Str)}, AR S H kvs es → kvs'.map (·.1) = kvs.map (·.1) → Paired (fun (b : Key × V) (x : PyData) => Rep (restr S' H') b.2 x) kvs' (es.map fun e => encS e.2) → AR S' H' kvs' es
  | _, [], _, .nil, _, _ => .nil
  | _, _ :: _, _, .nil, ks, _ => by cases ks
  | _, [], _, .cons _ _, ks, _ => by cases ks
  | _, q :: r, _, @Paired.cons _ _ _ p e _ _ ⟨z1, _⟩ t, ks, pr => by
    rw [List.map_cons, List.map_cons] at ks
    injection ks with k1 k2
    rw [List.map_cons] at pr
    cases pr with
    | cons a pr =>
      obtain ⟨b, e1, e2⟩ := rep_S a
      exact .cons ⟨k1.trans z1, b, e1, (restr_some e2).1, (restr_some e2).2⟩ (ar_of t k2 pr)
abbrev Ints' (kvs : List (Key × V)) (is : List Int) : Prop := Paired (fun (p : Key × V) (i : Int) => p.2 = .int i) kvs is
theorem ints_src {H : Hp} : ∀ {kvs : List (Key × V)} {is : List Int}, Ints' kvs is → Paired (fun (a : Key × V) (x : PyData) => Rep H a.2 x ∧ PyData.depth x ≤ 1 ∧ cnt x ≤ 100000) kvs (is.map PyData.int)
  | _, _, .nil => .nil
  | _, _, .cons a t => .cons ⟨by rw [a]; exact .int _, by simp [PyData.depth], by simp [cnt]⟩ (ints_src t)
theorem ints_of {S : Addr → Prop} {H : Hp} : ∀ {kvs kvs' : List (Key × V)} {is : List Int}, Ints' kvs is → kvs'.map (·.1) = kvs.map (·.1) → Paired (fun (b : Key × V) (x : PyData) => Rep (restr S H) b.2 x) kvs' (is.map PyData.int) → kvs' = kvs
  | _, [], _, .nil, _, _ => rfl
  | _, _ :: _, _, .nil, ks, _ => by cases ks
  | _, [], _, .cons _ _, ks, _ => by cases ks
  | _, q :: r, _, @Paired.cons _ _ _ p i _ _ a t, ks, pr => by
    rw [List.map_cons, List.map_cons] at ks
    injection ks with k1 k2
    rw [List.map_cons] at pr
    cases pr with
    | cons b pr =>
      rw [ints_of t k2 pr]
      have hb := rep_int b
      have : q = p := Prod.ext k1 (hb.trans a.symm)
      rw [this]
def sp_initLn (A : Adr) : Sp := fun vs H Q _ => ∃ (p dx l m : Addr) (n : V) (x : Str) (ys zs : List Str), vs = [.ref p, .str x, .ref l, .ref m, n] ∧ H p = some (.ins A.C_Line dx []) ∧ H l = some (.lst (ys.map V.str)) ∧ H m = some (.lst (zs.map V.str)) ∧ ys.length ≤ 1000 ∧ zs.length ≤ 1000 ∧
  ∀ (c u : Addr) (H' : Hp), H c = none → H u = none → H' p = some (.ins A.C_Line dx [("name", .str x), ("axes", .ref c), ("sums", .ref u), ("term", n)]) → H' c = some (.lst (ys.map V.str)) → H' u = some (.lst (zs.map V.str)) → KB p H H' → Q .non H'
/-- the fields of a cloth -/
abbrev clo (A : Adr) (dx : Addr) (wh : Int) (l a tb ln o : Addr) : HO := .ins A.C_Cloth dx [("wheel", .int wh), ("lengths", .ref l), ("arrays", .ref a), ("tables", .ref tb), ("lines", .ref ln), ("outs", .ref o)]
def sp_initC (A : Adr) : Sp := fun vs H Q _ => ∃ (p dx ld ad tl lv ol : Addr) (wh : Int) (lk ak : List (Key × V)) (is : List Int) (es : List (Str × List Str)) (tb os : List Str) (xs : List V) (S : Addr → Prop), vs = [.ref p, .int wh, .ref ld, .ref ad, .ref tl, .ref lv, .ref ol] ∧ H p = some (.ins A.C_Cloth dx []) ∧
  H ld = some (.dK lk) ∧ Ints' lk is ∧ lk.length ≤ 1000 ∧ H ad = some (.dK ak) ∧ AR S H ak es ∧ es.length ≤ 1000 ∧ (∀ e ∈ es, e.2.length ≤ 100) ∧ H tl = some (.lst (tb.map V.str)) ∧ tb.length ≤ 1000 ∧ H lv = some (.lst xs) ∧ xs.length ≤ 1000 ∧ (∀ x ∈ xs, ∃ a dx fs, x = .ref a ∧ a ≠ p ∧ H a = some (.ins A.C_Line dx fs)) ∧ H ol = some (.lst (os.map V.str)) ∧ os.length ≤ 1000 ∧
  ∀ (l' a' t' v' o' : Addr) (ak' : List (Key × V)) (H' : Hp), H' p = some (clo A dx wh l' a' t' v' o') → H l' = none → H' l' = some (.dK lk) → H a' = none → H' a' = some (.dK ak') → AR (fun b => H b = none) H' ak' es → H t' = none → H' t' = some (.lst (tb.map V.str)) → H v' = none → H' v' = some (.lst xs) → H o' = none → H' o' = some (.lst (os.map V.str)) → KB p H H' → Q .non H'
def sp_la : Sp := fun vs H Q _ => ∃ (l d : Addr) (ys : List Str) (lk : List (Key × V)) (ls : List Int), vs = [.ref l, .ref d] ∧ H l = some (.lst (ys.map V.str)) ∧ H d = some (.dK lk) ∧ Sz lk ys ls ∧ ys.length ≤ 1000 ∧ ∀ (q : Addr) (H' : Hp), H q = none → Same H H' → H' q = some (.lst (ls.map V.int)) → Q (.ref q) H'
section
variable {P : Program} {w : World} {K : PySem.W.Frag} {mg : Str → Option Value} {base : Heap} {t : Adr}
theorem ok_Line_init (T : Txt K mg t) : FnOk P w K mg base CX0 5 t.f_Line_init t.d_Line_init ["self", "name", "axes", "sums", "term"] (sp_initLn t) := by
  have G_copied := ok_cop (P := P) (w := w) (base := base) T
  refine T.F_Line_init.ok sc_Line_init (fun vs H Q E h => ?_) (fun cdv A outer s H vs Q E hr h => ?_)
  · obtain ⟨p, dx, l, m, n, x, ys, zs, rfl, _⟩ := h
    rfl
  · obtain ⟨p, dx, l, m, n, x, ys, zs, rfl, hp, hl, hm, ly, lz, k⟩ := h
    obtain ⟨c2, c3⟩ := encS_ok ys
    obtain ⟨d2, d3⟩ := encS_ok zs
    have lp : l ≠ p := ne_of hl hp (by intro z; cases z)
    have mp : m ≠ p := ne_of hm hp (by intro z; cases z)
    have e1 : ∀ v : V, putF "axes" v [("name", .str x)] = ([("name", .str x), ("axes", v)] : List (Str × V)) := fun v => by rw [putF_ne (by decide +kernel), putF_nil]
    have e2 : ∀ u v : V, putF "sums" v [("name", .str x), ("axes", u)] = ([("name", .str x), ("axes", u), ("sums", v)] : List (Str × V)) := fun u v => by rw [putF_ne (by decide +kernel), putF_ne (by decide +kernel), putF_nil]
    have e3 : ∀ u1 u v : V, putF "term" v [("name", .str x), ("axes", u1), ("sums", u)] = ([("name", .str x), ("axes", u1), ("sums", u), ("term", v)] : List (Str × V)) := fun u1 u v => by rw [putF_ne (by decide +kernel), putF_ne (by decide +kernel), putF_ne (by decide +kernel), putF_nil]
    refine ⟨_, (pss_cons (ps_fld (pv 0) (pv 1) rfl)
      (pss_cons (ps_fld (pv 0) (pe_call G_copied (hr.mono (by omega)) rfl T.m_copied T.F_copied.kp T.b_copied .nil pass0 (pa_cons (pv 2) pa_nil)) rfl)
      (pss_cons (ps_fld (pv 0) (pe_call G_copied (hr.mono (by omega)) rfl T.m_copied T.F_copied.kp T.b_copied .nil pass0 (pa_cons (pv 3) pa_nil)) rfl)
      (pss_one (ps_fld (pv 0) (pv 4) rfl))))), _, rfl, _, rfl, p, _, dx, [], rfl, hp, T.cl_Line, T.na_Line_name, (by decide), ?_⟩
    rw [putF_nil]
    have k1 : KB p H (upd H p (.ins t.C_Line dx [("name", .str x)])) := KB.refl.upd
    refine ⟨_, rfl, .inl (.inl ⟨.ref l, encS ys, rfl, S_rep (k1 _ _ lp hl), by omega, by omega, fun v' H2 s2 rp2 => ?_⟩)⟩
    have hp2 := s2 _ _ (upd_same (H := H) (a := p))
    obtain ⟨c, rfl, ec⟩ := rep_S rp2
    obtain ⟨hc1, ec⟩ := restr_some ec
    have hcn : H c = none := k1.free upd_same hc1
    have cp : c ≠ p := fun z => by subst z; rw [hp] at hcn; cases hcn
    refine ⟨_, rfl, p, _, dx, _, rfl, hp2, T.cl_Line, T.na_Line_axes, (by show 1 < 1000; decide), ?_⟩
    rw [e1]
    have k2 : KB p H (upd H2 p (.ins t.C_Line dx [("name", .str x), ("axes", .ref c)])) := (k1.trans (KB.of s2)).upd
    refine ⟨_, rfl, .inl (.inl ⟨.ref m, encS zs, rfl, S_rep (k2 _ _ mp hm), by omega, by omega, fun v'' H3 s3 rp3 => ?_⟩)⟩
    have hp3 := s3 _ _ (upd_same (H := H2) (a := p))
    obtain ⟨u, rfl, eu⟩ := rep_S rp3
    obtain ⟨hu1, eu⟩ := restr_some eu
    have hun : H u = none := k2.free upd_same hu1
    have up : u ≠ p := fun z => by subst z; rw [hp] at hun; cases hun
    refine ⟨_, rfl, p, _, dx, _, rfl, hp3, T.cl_Line, T.na_Line_sums, (by show 2 < 1000; decide), ?_⟩
    rw [e2]
    refine ⟨_, rfl, _, rfl, p, _, dx, _, rfl, upd_same, T.cl_Line, T.na_Line_term, (by show 3 < 1000; decide), ?_⟩
    show Q V.non (upd (upd H3 p _) p _)
    rw [upd_upd, e3]
    exact k c u _ hcn hun upd_same (by rw [upd_ne cp]; exact s3 _ _ (by rw [upd_ne cp]; exact ec)) (by rw [upd_ne up]; exact eu) (k2.trans (KB.of s3)).upd
theorem ok_Cloth_init (T : Txt K mg t) : FnOk P w K mg base CX0 5 t.f_Cloth_init t.d_Cloth_init ["self", "wheel", "lengths", "arrays", "tables", "lines", "outs"] (sp_initC t) := by
  have G_copied := ok_cop (P := P) (w := w) (base := base) T
  refine T.F_Cloth_init.ok sc_Cloth_init (fun vs H Q E h => ?_) (fun cdv A outer s H vs Q E hr h => ?_)
  · obtain ⟨p, dx, ld, ad, tl, lv, ol, wh, lk, ak, is, es, tb, os, xs, S, rfl, _⟩ := h
    rfl
  · obtain ⟨p, dx, ld, ad, tl, lv, ol, wh, lk, ak, is, es, tb, os, xs, S, rfl, hp, hld, il, ll, had, ar, les, les2, htl, ltb, hlv, lxs, hxs, hol, los, k⟩ := h
    have f1 : ∀ v : V, putF "lengths" v [("wheel", .int wh)] = ([("wheel", .int wh), ("lengths", v)] : List (Str × V)) := fun v => by rw [putF_ne (by decide +kernel), putF_nil]
    have f2 : ∀ u v : V, putF "arrays" v [("wheel", .int wh), ("lengths", u)] = ([("wheel", .int wh), ("lengths", u), ("arrays", v)] : List (Str × V)) := fun u v => by rw [putF_ne (by decide +kernel), putF_ne (by decide +kernel), putF_nil]
    have f3 : ∀ u1 u v : V, putF "tables" v [("wheel", .int wh), ("lengths", u1), ("arrays", u)] = ([("wheel", .int wh), ("lengths", u1), ("arrays", u), ("tables", v)] : List (Str × V)) := fun u1 u v => by rw [putF_ne (by decide +kernel), putF_ne (by decide +kernel), putF_ne (by decide +kernel), putF_nil]
    have f4 : ∀ u1 u2 u v : V, putF "lines" v [("wheel", .int wh), ("lengths", u1), ("arrays", u2), ("tables", u)] = ([("wheel", .int wh), ("lengths", u1), ("arrays", u2), ("tables", u), ("lines", v)] : List (Str × V)) := fun u1 u2 u v => by rw [putF_ne (by decide +kernel), putF_ne (by decide +kernel), putF_ne (by decide +kernel), putF_ne (by decide +kernel), putF_nil]
    have f5 : ∀ u1 u2 u3 u v : V, putF "outs" v [("wheel", .int wh), ("lengths", u1), ("arrays", u2), ("tables", u3), ("lines", u)] = ([("wheel", .int wh), ("lengths", u1), ("arrays", u2), ("tables", u3), ("lines", u), ("outs", v)] : List (Str × V)) := fun u1 u2 u3 u v => by rw [putF_ne (by decide +kernel), putF_ne (by decide +kernel), putF_ne (by decide +kernel), putF_ne (by decide +kernel), putF_ne (by decide +kernel), putF_nil]
    have np : ∀ {b : Addr} {u : HO}, H b = some u → (∀ C d fs, u ≠ .ins C d fs) → b ≠ p := fun e n z => by subst z; rw [hp] at e; cases e; exact n _ _ _ rfl
    have nn : ∀ {b : Addr}, H b = none → b ≠ p := fun e z => by subst z; rw [hp] at e; cases e
    refine ⟨_, (pss_cons (ps_fld (pv 0) (pv 1) rfl)
      (pss_cons (ps_fld (pv 0) (pe_call G_copied (hr.mono (by omega)) rfl T.m_copied T.F_copied.kp T.b_copied .nil pass0 (pa_cons (pv 2) pa_nil)) rfl)
      (pss_cons (ps_fld (pv 0) (pe_call G_copied (hr.mono (by omega)) rfl T.m_copied T.F_copied.kp T.b_copied .nil pass0 (pa_cons (pv 3) pa_nil)) rfl)
      (pss_cons (ps_fld (pv 0) (pe_call G_copied (hr.mono (by omega)) rfl T.m_copied T.F_copied.kp T.b_copied .nil pass0 (pa_cons (pv 4) pa_nil)) rfl)
      (pss_cons (ps_fld (pv 0) (pe_call G_copied (hr.mono (by omega)) rfl T.m_copied T.F_copied.kp T.b_copied .nil pass0 (pa_cons (pv 5) pa_nil)) rfl)
      (pss_one (ps_fld (pv 0) (pe_call G_copied (hr.mono (by omega)) rfl T.m_copied T.F_copied.kp T.b_copied .nil pass0 (pa_cons (pv 6) pa_nil)) rfl))))))), _, rfl, _, rfl, p, _, dx, [], rfl, hp, T.cl_Cloth, T.na_Cloth_wheel, (by decide), ?_⟩
    rw [putF_nil]
    obtain ⟨G0, hG0⟩ : ∃ G0, G0 = upd H p (.ins t.C_Cloth dx [("wheel", .int wh)]) := ⟨_, rfl⟩
    rw [← hG0]
    have p0 : G0 p = some (.ins t.C_Cloth dx [("wheel", .int wh)]) := by rw [hG0]; exact upd_same
    have k0 : KB p H G0 := by rw [hG0]; exact KB.refl.upd
    -- lengths
    refine ⟨_, rfl, .inr ⟨ld, lk, is.map PyData.int, rfl, k0 _ _ (np hld (by intros; intro z; cases z)) hld, by omega, ints_src il, fun l' lk' H1 hl' s1 h1 ks cp => ?_⟩⟩
    have ek := ints_of il ks cp
    subst ek
    have nl : H l' = none := k0.free p0 hl'
    refine ⟨_, rfl, p, _, dx, _, rfl, s1 _ _ p0, T.cl_Cloth, T.na_Cloth_lengths, (by show 1 < 1000; decide), ?_⟩
    rw [f1]
    obtain ⟨G1, hG1⟩ : ∃ G1, G1 = upd H1 p (.ins t.C_Cloth dx [("wheel", .int wh), ("lengths", .ref l')]) := ⟨_, rfl⟩
    rw [← hG1]
    have p1 : G1 p = some (.ins t.C_Cloth dx [("wheel", .int wh), ("lengths", .ref l')]) := by rw [hG1]; exact upd_same
    have k1 : KB p H G1 := by rw [hG1]; exact (k0.trans (KB.of s1)).upd
    have gl1 : G1 l' = some (.dK lk') := by rw [hG1, upd_ne (nn nl)]; exact h1
    -- arrays
    have ar1 : AR (fun b => S b) G1 ak es := ar.imp fun b ys z e => ⟨z, k1 _ _ (np e (by intros; intro z; cases z)) e⟩
    refine ⟨_, rfl, .inr ⟨ad, ak, _, rfl, k1 _ _ (np had (by intros; intro z; cases z)) had, by have := Paired.length ar; omega, ar1.src les2, fun a' ak' H2 ha' s2 h2 ks2 cp2 => ?_⟩⟩
    have arc := ar_of ar1 ks2 cp2
    have na : H a' = none := k1.free p1 ha'
    refine ⟨_, rfl, p, _, dx, _, rfl, s2 _ _ p1, T.cl_Cloth, T.na_Cloth_arrays, (by show 2 < 1000; decide), ?_⟩
    rw [f2]
    obtain ⟨G2, hG2⟩ : ∃ G2, G2 = upd H2 p (.ins t.C_Cloth dx [("wheel", .int wh), ("lengths", .ref l'), ("arrays", .ref a')]) := ⟨_, rfl⟩
    rw [← hG2]
    have p2 : G2 p = some (.ins t.C_Cloth dx [("wheel", .int wh), ("lengths", .ref l'), ("arrays", .ref a')]) := by rw [hG2]; exact upd_same
    have j2 : KB p G1 G2 := by rw [hG2]; exact (KB.of s2).upd
    have k2 := k1.trans j2
    have ga2 : G2 a' = some (.dK ak') := by rw [hG2, upd_ne (nn na)]; exact h2
    have ar2 : AR (fun b => H b = none) G2 ak' es := arc.imp fun b ys z e => ⟨k1.free p1 z, by rw [hG2, upd_ne (nn (k1.free p1 z))]; exact e⟩
    -- tables
    obtain ⟨c2, c3⟩ := encS_ok tb
    refine ⟨_, rfl, .inl (.inl ⟨.ref tl, encS tb, rfl, S_rep (k2 _ _ (np htl (by intros; intro z; cases z)) htl), by omega, by omega, fun vt H3 s3 rp3 => ?_⟩)⟩
    obtain ⟨t', rfl, et⟩ := rep_S rp3
    obtain ⟨ht1, et⟩ := restr_some et
    have nt : H t' = none := k2.free p2 ht1
    refine ⟨_, rfl, p, _, dx, _, rfl, s3 _ _ p2, T.cl_Cloth, T.na_Cloth_tables, (by show 3 < 1000; decide), ?_⟩
    rw [f3]
    obtain ⟨G3, hG3⟩ : ∃ G3, G3 = upd H3 p (.ins t.C_Cloth dx [("wheel", .int wh), ("lengths", .ref l'), ("arrays", .ref a'), ("tables", .ref t')]) := ⟨_, rfl⟩
    rw [← hG3]
    have p3 : G3 p = some (.ins t.C_Cloth dx [("wheel", .int wh), ("lengths", .ref l'), ("arrays", .ref a'), ("tables", .ref t')]) := by rw [hG3]; exact upd_same
    have j3 : KB p G2 G3 := by rw [hG3]; exact (KB.of s3).upd
    have k3 := k2.trans j3
    have gt3 : G3 t' = some (.lst (tb.map V.str)) := by rw [hG3, upd_ne (nn nt)]; exact et
    -- lines
    refine ⟨_, rfl, .inl (.inr ⟨lv, xs, rfl, k3 _ _ (np hlv (by intros; intro z; cases z)) hlv, lxs, fun x hx => ?_, fun v' H4 hv' s4 hv4 => ?_⟩)⟩
    · obtain ⟨b, db, fs, rfl, nb, eb⟩ := hxs x hx
      exact ⟨b, db, fs, rfl, k3 _ _ nb eb⟩
    have nv : H v' = none := k3.free p3 hv'
    refine ⟨_, rfl, p, _, dx, _, rfl, s4 _ _ p3, T.cl_Cloth, T.na_Cloth_lines, (by show 4 < 1000; decide), ?_⟩
    rw [f4]
    obtain ⟨G4, hG4⟩ : ∃ G4, G4 = upd H4 p (.ins t.C_Cloth dx [("wheel", .int wh), ("lengths", .ref l'), ("arrays", .ref a'), ("tables", .ref t'), ("lines", .ref v')]) := ⟨_, rfl⟩
    rw [← hG4]
    have p4 : G4 p = some (.ins t.C_Cloth dx [("wheel", .int wh), ("lengths", .ref l'), ("arrays", .ref a'), ("tables", .ref t'), ("lines", .ref v')]) := by rw [hG4]; exact upd_same
    have j4 : KB p G3 G4 := by rw [hG4]; exact (KB.of s4).upd
    have k4 := k3.trans j4
    have gv4 : G4 v' = some (.lst xs) := by rw [hG4, upd_ne (nn nv)]; exact hv4
    -- outs
    obtain ⟨o2, o3⟩ := encS_ok os
    refine ⟨_, rfl, .inl (.inl ⟨.ref ol, encS os, rfl, S_rep (k4 _ _ (np hol (by intros; intro z; cases z)) hol), by omega, by omega, fun vo H5 s5 rp5 => ?_⟩)⟩
    obtain ⟨o', rfl, eo⟩ := rep_S rp5
    obtain ⟨ho1, eo⟩ := restr_some eo
    have no : H o' = none := k4.free p4 ho1
    refine ⟨_, rfl, p, _, dx, _, rfl, s5 _ _ p4, T.cl_Cloth, T.na_Cloth_outs, (by show 5 < 1000; decide), ?_⟩
    show Q V.non (upd H5 p _)
    rw [f5]
    have j5 : KB p G4 (upd H5 p (clo t dx wh l' a' t' v' o')) := (KB.of s5).upd
    have up := fun {b : Addr} (hb : H b = none) {u : HO} (e : G4 b = some u) => j5 _ _ (nn hb) e
    exact k l' a' t' v' o' ak' _ upd_same nl (up nl (j4 _ _ (nn nl) (j3 _ _ (nn nl) (j2 _ _ (nn nl) gl1)))) na (up na (j4 _ _ (nn na) (j3 _ _ (nn na) ga2))) (ar2.imp fun b ys z e => ⟨z, up z (j4 _ _ (nn z) (j3 _ _ (nn z) e))⟩) nt (up nt (j4 _ _ (nn nt) gt3)) nv (up nv gv4) no (by rw [upd_ne (nn no)]; exact eo) (k4.trans j5)
theorem ok_lengths_along (T : Txt K mg t) : FnOk P w K mg base CX0 1 t.f_lengths_along t.d_lengths_along ["axes", "lengths"] sp_la := by
  refine T.F_lengths_along.ok sc_lengths_along (fun vs H Q E h => ?_) (fun cdv A outer s H vs Q E hr h => ?_)
  · obtain ⟨l, d, ys, lk, ls, rfl, _⟩ := h
    rfl
  · obtain ⟨l, d, ys, lk, ls, rfl, hl, hd, sz, ly, k⟩ := h
    have hu := hu_of hr
    have le := Paired.length sz
    refine ⟨_, (pss_one (ps_ret (pe_comp (N' := ["axis", "lengths"]) (ix := (List.replicate 1 none ++ [some 1])) rfl (clok_one (x := "lengths") rfl rfl rfl (by decide +kernel) (by decide +kernel)) (ixok_last (N0 := ["axis"]) rfl (Or.inl rfl) (by first | exact Or.inl rfl | exact Or.inr rfl | (simp [relabel]; rfl) | (with_unfolding_all exact Or.inl rfl) | (with_unfolding_all exact Or.inr rfl) | (with_unfolding_all decide))) (pi_list (pv 0)) (fun _ _ _ _ => (pg_name (i := 0) nd_comp_1 rfl (Or.inl rfl) (Or.inr rfl))) (fun _ _ _ _ => (pe_dget hu (pv 1) (pv 0) (fun _ _ => rfl)))))), ?_⟩
    refine ⟨_, rfl, l, rfl, ⟨_, SqL.of hl⟩, fun D hD => ?_⟩
    refine comp_listQ (K := K) (a := l) (D := D) (xs := ys.map V.str) (fun i zs H2 => Same H H2 ∧ H2 D = some (.lst zs) ∧ zs = (ls.take i).map V.int) ⟨same_new hD, upd_same, rfl⟩ (fun i zs H2 ⟨s2, _⟩ => SqL.of (s2 _ _ hl)) ?_ ?_
    · rintro i x zs H2 hx ⟨s2, hD2, rfl⟩
      obtain ⟨y, hy, rfl⟩ := get_map hx
      obtain ⟨n, hn, ev⟩ := pget sz hy
      have g := DGet.k (H := H2) (a := d) (k := Sum.inr y) (s2 _ _ hd)
      rw [ev] at g
      refine ⟨⟨rfl, True.intro⟩, _, rfl, _, rfl, d, _, rfl, g, hD2, line_lt (by simp; omega), same_fresh s2 hD, upd_same, ?_⟩
      rw [List.take_add_one, hn, Option.toList_some, List.map_append]
      rfl
    · rintro zs H2 ⟨s2, hD2, rfl⟩
      rw [List.length_map, le, List.take_length] at hD2
      exact k D H2 hD s2 hD2
end
end My

set_option Elab.async false
set_option linter.all false
set_option maxRecDepth 100000
set_option maxHeartbeats 4000000
namespace My
open PySem L2
local macro_rules | `(tactic| walk_at "lk") => `(tactic| first | with_reducible exact lk0 | (refine lk1 (by decide +kernel) ?_; walk_at "lk") | rfl)
/-! ### tuples alone -/
def TH (H : Hp) : Hp := fun a => match H a with | some (.tup xs) => some (.tup xs) | _ => none
theorem th_of {H : Hp} {p : Addr} {xs : List V} (e : H p = some (.tup xs)) : TH H p = some (.tup xs) := by unfold TH; rw [e]
theorem th_some {H : Hp} {p : Addr} {o : HO} (e : TH H p = some o) : ∃ xs, o = .tup xs ∧ H p = some (.tup xs) := by
  unfold TH at e
  split at e
  · rename_i xs h
    exact ⟨xs, (Option.some.inj e).symm, h⟩
  · cases e
theorem th_kt {H H' : Hp} (k : KT H H') : Same (TH H) (TH H') := fun b o e => by
  obtain ⟨xs, rfl, h⟩ := th_some e
  exact th_of (k _ _ h)
theorem th_same (H : Hp) : Same (TH H) H := fun b o e => by
  obtain ⟨xs, rfl, h⟩ := th_some e
  exact h
theorem th_sm {H H' : Hp} (s : Same H H') : Same (TH H) (TH H') := th_kt (KT.same s)
/-! ### nodes and rows as data -/
def encC (c : List Int) : PyData := .tuple (c.map PyData.int)
def loopD (n z : Int) (ds : List PyData) : PyData := .tuple [.str "loop", .int n, .int z, .int 0, .int (-1), .tuple ds]
def deedD (n k : Int) (w : Str) (c u : List Int) : PyData := .tuple [.str "deed", .int n, .int k, .str w, encC c, encC u]
def rowL (a n z : Int) : PyData := .tuple [.int a, .str "loop", .int n, .int z, .int 0, .int (-1)]
def rowD (a n k : Int) (w : Str) (c u : List Int) : PyData := .tuple [.int a, .str "deed", .int n, .int k, .str w, encC c, encC u]
mutual
inductive Wr : Int → PyData → List PyData → Prop
  | deed (a n k : Int) (w : Str) (c u : List Int) : Wr a (deedD n k w c u) [rowD a n k w c u]
  | loop (a n z : Int) (ds rs : List PyData) : WrL n ds rs → Wr a (loopD n z ds) (rowL a n z :: rs)
inductive WrL : Int → List PyData → List PyData → Prop
  | nil (n : Int) : WrL n [] []
  | cons (n : Int) (d : PyData) (ds r rs : List PyData) : Wr n d r → WrL n ds rs → WrL n (d :: ds) (r ++ rs)
end
theorem wrl_one {n : Int} {d : PyData} {r : List PyData} (h : Wr n d r) : WrL n [d] r := by
  have := WrL.cons n d [] r [] h (.nil n)
  rwa [List.append_nil] at this
theorem wrl_app {n : Int} : ∀ {ds es rs ss : List PyData}, WrL n ds rs → WrL n es ss → WrL n (ds ++ es) (rs ++ ss)
  | [], es, _, ss, h, g => by cases h; exact g
  | d :: ds, es, _, ss, h, g => by
    cases h with
    | cons _ _ _ r rs h1 h2 =>
      rw [List.append_assoc]
      exact .cons n d (ds ++ es) r (rs ++ ss) h1 (wrl_app h2 g)
theorem wrl_to {n : Int} : ∀ {ds rs : List PyData}, WrL n ds rs → ∃ RS, Paired (Wr n) ds RS ∧ RS.flatten = rs
  | [], _, h => by cases h; exact ⟨[], .nil, rfl⟩
  | d :: ds, _, h => by
    cases h with
    | cons _ _ _ r rs h1 h2 =>
      obtain ⟨RS, p, e⟩ := wrl_to h2
      exact ⟨r :: RS, .cons h1 p, by rw [List.flatten_cons, e]⟩
def lastD : Int → List Int → Int
  | a, [] => a
  | _, n :: r => lastD n r
theorem lastD_snoc (n : Int) : ∀ (ns : List Int) (a : Int), lastD a (ns ++ [n]) = n
  | [], a => rfl
  | m :: r, a => lastD_snoc n r m
theorem lastD_take {ns : List Int} {j : Nat} {n : Int} (a : Int) (h : ns[j]? = some n) : lastD a (ns.take (j + 1)) = n := by
  rw [List.take_add_one, h]
  exact lastD_snoc n _ a
def loopsR : Int → List Int → List Int → List PyData
  | a, n :: ns, z :: zs => rowL a n z :: loopsR n ns zs
  | _, _, _ => []
theorem loopsR_len : ∀ {ns zs : List Int} {a : Int}, ns.length = zs.length → (loopsR a ns zs).length = ns.length
  | [], [], _, _ => rfl
  | [], _ :: _, _, h => by cases h
  | _ :: _, [], _, h => by cases h
  | n :: ns, z :: zs, a, h => by
    show (loopsR n ns zs).length + 1 = ns.length + 1
    rw [loopsR_len (by simpa using h)]
theorem loopsR_snoc {n z : Int} : ∀ {ns zs : List Int} {a : Int}, ns.length = zs.length → loopsR a (ns ++ [n]) (zs ++ [z]) = loopsR a ns zs ++ [rowL (lastD a ns) n z]
  | [], [], _, _ => rfl
  | [], _ :: _, _, h => by cases h
  | _ :: _, [], _, h => by cases h
  | m :: ns, y :: zs, a, h => by
    show rowL a m y :: loopsR m (ns ++ [n]) (zs ++ [z]) = _
    rw [loopsR_snoc (by simpa using h)]
    rfl
theorem drop_cons {α : Type} {ns : List α} {j : Nat} {n : α} (h1 : ns[j]? = some n) : ns.drop j = n :: ns.drop (j + 1) := by
  obtain ⟨hl, he⟩ := List.getElem?_eq_some_iff.mp h1
  rw [List.drop_eq_getElem_cons hl, he]
/-- numbers from the fresh one on -/
def nums (fr : Int) (m : Nat) : List Int := (List.range m).map fun (j : Nat) => fr + j
theorem nums_len (fr : Int) (m : Nat) : (nums fr m).length = m := by simp [nums]
theorem nums_succ (fr : Int) (m : Nat) : nums fr (m + 1) = nums fr m ++ [fr + m] := by simp [nums, List.range_succ]
def insideR (k : Int) (e : Rw) (fr L : Int) : List PyData :=
  if e.ss = [] then [rowD L (fr + e.so.length) k "set" (nums fr e.so.length) []]
  else rowD L (fr + e.so.length) k "start" (nums fr e.so.length) [] :: (loopsR L (nums (fr + e.so.length + 1) e.ss.length) e.ss ++ [rowD (lastD L (nums (fr + e.so.length + 1) e.ss.length)) (fr + e.so.length + 1 + e.ss.length) k "add" (nums fr e.so.length) (nums (fr + e.so.length + 1) e.ss.length)])
def lineR (k : Int) (e : Rw) (fr : Int) : List PyData := loopsR (-1) (nums fr e.so.length) e.so ++ insideR k e fr (lastD (-1) (nums fr e.so.length))
def dueM (rows : List Rw) : Nat → List PyData
  | 0 => []
  | i + 1 => dueM rows i ++ (match rows[i]? with | some e => lineR i e (dueM rows i).length | none => [])
theorem dueM_succ {rows : List Rw} {i : Nat} {e : Rw} (h : rows[i]? = some e) : dueM rows (i + 1) = dueM rows i ++ lineR i e (dueM rows i).length := by
  show dueM rows i ++ (match rows[i]? with | some e => lineR i e (dueM rows i).length | none => []) = _
  rw [h]
theorem line_len (k : Int) (e : Rw) (fr : Int) : (lineR k e fr).length = e.so.length + 1 + (if e.ss = [] then 0 else e.ss.length + 1) := by
  unfold lineR insideR
  rw [List.length_append, loopsR_len (nums_len _ _), nums_len]
  by_cases h : e.ss = []
  · rw [if_pos h, if_pos h]; rfl
  · rw [if_neg h, if_neg h, List.length_cons, List.length_append, loopsR_len (nums_len _ _), nums_len, List.length_singleton]
    omega
theorem due_len {rows : List Rw} (h : ∀ e ∈ rows, RwOk e) : ∀ i : Nat, (dueM rows i).length ≤ i * 18
  | 0 => by simp [dueM]
  | i + 1 => by
    have ih := due_len h i
    cases e : rows[i]? with
    | none =>
      show (dueM rows i ++ (match rows[i]? with | some e => lineR i e (dueM rows i).length | none => [])).length ≤ _
      rw [e]
      simp
      omega
    | some r =>
      have ok := h r (List.mem_of_getElem? e)
      have l1 := ok.lo
      have l2 := ok.ls
      have l3 := ok.pl
      rw [dueM_succ e, List.length_append, line_len]
      split <;> omega
/-! ### shapes -/
def NsOk (m : Nat) (ds : List PyData) : Prop := PyData.canLayAll0 ds = true ∧ PyData.depthAll ds ≤ m
theorem ints_all : ∀ xs : List Int, PyData.canLayAll0 (xs.map PyData.int) = true ∧ PyData.depthAll (xs.map PyData.int) = 0
  | [] => ⟨rfl, rfl⟩
  | x :: r => by
    obtain ⟨h1, h2⟩ := ints_all r
    refine ⟨?_, ?_⟩
    · simp [PyData.canLayAll0, PyData.canLay0, h1]
    · simp [PyData.depthAll, PyData.depth, h2]
theorem NsOk.nil (m : Nat) : NsOk m [] := ⟨rfl, by simp [PyData.depthAll]⟩
theorem NsOk.le {m m' : Nat} {ds : List PyData} (h : NsOk m ds) (l : m ≤ m') : NsOk m' ds := ⟨h.1, by have := h.2; omega⟩
theorem NsOk.app {m : Nat} : ∀ {ds es : List PyData}, NsOk m ds → NsOk m es → NsOk m (ds ++ es)
  | [], es, _, g => g
  | d :: ds, es, h, g => by
    obtain ⟨h1, h2⟩ := h
    simp only [PyData.canLayAll0, Bool.and_eq_true] at h1
    simp only [PyData.depthAll] at h2
    have ih := NsOk.app (m := m) (ds := ds) (es := es) ⟨h1.2, by omega⟩ g
    refine ⟨?_, ?_⟩
    · show PyData.canLayAll0 (d :: (ds ++ es)) = true
      simp only [PyData.canLayAll0, h1.1, ih.1, Bool.and_self]
    · show PyData.depthAll (d :: (ds ++ es)) ≤ m
      have := ih.2
      simp only [PyData.depthAll]
      omega
theorem NsOk.cons {m : Nat} {d : PyData} {ds : List PyData} (h : NsOk m [d]) (g : NsOk m ds) : NsOk m (d :: ds) := NsOk.app h g
theorem NsOk.hd {m : Nat} {d : PyData} {ds : List PyData} (h : NsOk m (d :: ds)) : NsOk m [d] := by
  obtain ⟨h1, h2⟩ := h
  simp only [PyData.canLayAll0, Bool.and_eq_true] at h1
  simp only [PyData.depthAll] at h2
  refine ⟨?_, ?_⟩
  · simp [PyData.canLayAll0, h1.1]
  · simp only [PyData.depthAll]; omega
theorem NsOk.tl {m : Nat} {d : PyData} {ds : List PyData} (h : NsOk m (d :: ds)) : NsOk m ds := by
  obtain ⟨h1, h2⟩ := h
  simp only [PyData.canLayAll0, Bool.and_eq_true] at h1
  simp only [PyData.depthAll] at h2
  exact ⟨h1.2, by omega⟩
theorem nsok_loop {m : Nat} {n z : Int} {ds : List PyData} (h : NsOk m ds) : NsOk (m + 2) [loopD n z ds] := by
  obtain ⟨h1, h2⟩ := h
  refine ⟨?_, ?_⟩
  · simp only [loopD, PyData.canLayAll0, PyData.canLay0, h1, Bool.and_self, Bool.and_true]
    decide +kernel
  · simp only [loopD, PyData.depthAll, PyData.depth]; omega
theorem nsok_in {m : Nat} {n z : Int} {ds : List PyData} (h : NsOk m [loopD n z ds]) : NsOk m ds := by
  obtain ⟨h1, h2⟩ := h
  simp only [loopD, PyData.canLayAll0, PyData.canLay0, Bool.and_eq_true] at h1
  simp only [loopD, PyData.depthAll, PyData.depth] at h2
  exact ⟨h1.1.2.2.2.2.2.1, by omega⟩
theorem nsok_deed {n k : Int} {w : Str} {c u : List Int} (hw : PyData.strOk w = true) : NsOk 2 [deedD n k w c u] := by
  obtain ⟨a1, a2⟩ := ints_all c
  obtain ⟨b1, b2⟩ := ints_all u
  refine ⟨?_, ?_⟩
  · simp only [deedD, encC, PyData.canLayAll0, PyData.canLay0, hw, a1, b1, Bool.and_self, Bool.and_true]
    decide +kernel
  · simp only [deedD, encC, PyData.depthAll, PyData.depth, a2, b2]; omega
theorem nsok_rowL (a n z : Int) : NsOk 2 [rowL a n z] := by
  refine ⟨?_, ?_⟩
  · simp only [rowL, PyData.canLayAll0, PyData.canLay0, Bool.and_self, Bool.and_true]
    decide +kernel
  · simp only [rowL, PyData.depthAll, PyData.depth]; omega
theorem nsok_rowD {a n k : Int} {w : Str} {c u : List Int} (hw : PyData.strOk w = true) : NsOk 2 [rowD a n k w c u] := by
  obtain ⟨a1, a2⟩ := ints_all c
  obtain ⟨b1, b2⟩ := ints_all u
  refine ⟨?_, ?_⟩
  · simp only [rowD, encC, PyData.canLayAll0, PyData.canLay0, hw, a1, b1, Bool.and_self, Bool.and_true]
    decide +kernel
  · simp only [rowD, encC, PyData.depthAll, PyData.depth, a2, b2]; omega
theorem nsok_loops : ∀ (ns zs : List Int) (a : Int), NsOk 2 (loopsR a ns zs)
  | n :: ns, z :: zs, a => (nsok_rowL a n z).cons (nsok_loops ns zs n)
  | [], _, _ => by unfold loopsR; exact NsOk.nil 2
  | _ :: _, [], _ => by unfold loopsR; exact NsOk.nil 2
theorem nsok_line (k : Int) (e : Rw) (fr : Int) : NsOk 2 (lineR k e fr) := by
  unfold lineR insideR
  refine (nsok_loops _ _ _).app ?_
  split
  · exact nsok_rowD (by decide +kernel)
  · exact (nsok_rowD (by decide +kernel)).cons ((nsok_loops _ _ _).app (nsok_rowD (by decide +kernel)))
theorem nsok_due (rows : List Rw) : ∀ i : Nat, NsOk 2 (dueM rows i)
  | 0 => NsOk.nil 2
  | i + 1 => (nsok_due rows i).app (by
    split
    · exact nsok_line _ _ _
    · exact NsOk.nil 2)
/-! ### what is promised -/
def sp_numf : Sp := fun vs H Q _ => ∃ (fr : Int) (a : Addr) (xs : List V), vs = [.int fr, .ref a] ∧ H a = some (.lst xs) ∧ 0 ≤ fr ∧ fr ≤ 100000 ∧ xs.length ≤ 1000 ∧ ∀ q, H q = none → Q (.ref q) (upd H q (.tup ((nums fr xs.length).map V.int)))
def sp_looped : Sp := fun vs H Q _ => ∃ (nt szl ins : Addr) (ns ls : List Int) (a : Int) (m : Nat) (xs : List V) (ds rs : List PyData), vs = [.ref nt, .ref szl, .ref ins] ∧ H nt = some (.tup (ns.map V.int)) ∧ H szl = some (.lst (ls.map V.int)) ∧ ns.length = ls.length ∧ H ins = some (.tup xs) ∧ xs ≠ [] ∧ Reps (TH H) xs ds ∧ WrL (lastD a ns) ds rs ∧ NsOk m ds ∧
  ∀ (p : Addr) (xs' : List V) (ds' : List PyData) (H' : Hp), Same H H' → H' p = some (.tup xs') → xs' ≠ [] → xs'.length ≤ xs.length → Reps (TH H') xs' ds' → WrL a ds' (loopsR a ns ls ++ rs) → NsOk (m + 2 * ns.length) ds' → Q (.ref p) H'
def sp_nin (A : Adr) : Sp := fun vs H Q _ => ∃ (v : V) (M : List Addr) (e : Rw), vs = [v] ∧ LineAt A M H v e ∧ RwOk e ∧ Q (.int ((lineR 0 e 0).length : Nat)) H
def sp_nodes (A : Adr) : Sp := fun vs H Q _ => ∃ (k fr : Int) (v : V) (l : Addr) (M : List Addr) (e : Rw) (lk : List (Key × V)), vs = [.int k, v, .ref l, .int fr] ∧ LineAt A M H v e ∧ RwOk e ∧ Sz lk e.own e.so ∧ Sz lk e.sums e.ss ∧ H l = some (.dK lk) ∧ 0 ≤ fr ∧ fr ≤ 10000 ∧
  ∀ (p : Addr) (xs : List V) (ds : List PyData) (H' : Hp), Same H H' → H' p = some (.tup xs) → xs.length ≤ 2 → Reps (TH H') xs ds → WrL (-1) ds (lineR k e fr) → NsOk 40 ds → Q (.ref p) H'
def sp_fn (A : Adr) : Sp := fun vs H Q _ => ∃ (p dx l a tb ln o : Addr) (wh : Int) (lk : List (Key × V)) (xs : List V) (M : List Addr) (rows : List Rw), vs = [.ref p] ∧ H p = some (clo A dx wh l a tb ln o) ∧ H l = some (.dK lk) ∧ H ln = some (.lst xs) ∧ LinesAt A M H xs rows ∧ Tot lk rows ∧ rows.length ≤ 60 ∧
  ∀ (q tp : Addr) (ns : List V) (ds : List PyData) (H' : Hp), Same H H' → H' q = some (.tup [.int ((dueM rows rows.length).length : Nat), .ref tp]) → H' tp = some (.tup ns) → Reps (TH H') ns ds → WrL (-1) ds (dueM rows rows.length) → NsOk 40 ds → ns.length ≤ 1000 → Q (.ref q) H'
theorem Reps.ints {H : Hp} : ∀ xs : List Int, Reps H (xs.map V.int) (xs.map PyData.int)
  | [] => .nil
  | x :: r => .cons (.int x) (Reps.ints r)
theorem rt_ints {H : Hp} {p : Addr} {c : List Int} (e : H p = some (.tup (c.map V.int))) : Rep (TH H) (.ref p) (encC c) := .tup (th_of e) (Reps.ints c)
theorem rt_deed {H : Hp} {q p r : Addr} {n k : Int} {w : Str} {c u : List Int} (e : H q = some (.tup [.str "deed", .int n, .int k, .str w, .ref p, .ref r])) (h1 : H p = some (.tup (c.map V.int))) (h2 : H r = some (.tup (u.map V.int))) : Rep (TH H) (.ref q) (deedD n k w c u) :=
  .tup (th_of e) (.cons (.str _) (.cons (.int _) (.cons (.int _) (.cons (.str _) (.cons (rt_ints h1) (.cons (rt_ints h2) .nil))))))
section
variable {P : Program} {w : World} {K : PySem.W.Frag} {mg : Str → Option Value} {base : Heap} {t : Adr}
theorem ok_numbers_from (T : Txt K mg t) : FnOk P w K mg base CX0 1 t.f_numbers_from t.d_numbers_from ["fresh", "axes"] sp_numf := by
  refine T.F_numbers_from.ok sc_numbers_from (fun vs H Q E h => ?_) (fun cdv A outer s H vs Q E hr h => ?_)
  · obtain ⟨fr, a, xs, rfl, _⟩ := h
    rfl
  · obtain ⟨fr, a, xs, rfl, ha, f0, f1, lx, k⟩ := h
    refine ⟨_, (pss_one (ps_ret (pe_tuprange2 rfl (by rfl) T.z_tuple (by rfl) T.z_range (pa_cons (pv 0) (pa_cons (pe_op op_add (pv 0) (pe_callB call_len_seq (by rfl) T.z_len PySem.boot_len (pa_cons (pv 1) pa_nil))) pa_nil))))), ?_⟩
    refine ⟨_, rfl, _, rfl, _, rfl, a, _, rfl, .inl (SqL.of ha), _, _, rfl, rfl, fr, fr + (xs.length : Int), rfl, ⟨by omega, by omega, by omega, by omega, by omega⟩, fun D hD => ?_⟩
    have e : ((List.range (fr + (xs.length : Int) - fr).toNat).map fun (k : Nat) => V.int (fr + k)) = (nums fr xs.length).map V.int := by
      rw [show (fr + (xs.length : Int) - fr).toNat = xs.length by omega]
      unfold nums
      rw [List.map_map]
      rfl
    have := k D hD
    rw [← e] at this
    exact this
theorem ok_looped (T : Txt K mg t) : FnOk P w K mg base CX0 1 t.f_looped t.d_looped ["numbers", "sizes", "inside"] sp_looped := by
  refine T.F_looped.ok sc_looped (fun vs H Q E h => ?_) (fun cdv A outer s H vs Q E hr h => ?_)
  · obtain ⟨nt, szl, ins, ns, ls, a, m, xs, ds, rs, rfl, _⟩ := h
    rfl
  · obtain ⟨nt, szl, ins, ns, ls, a, m, xs, ds, rs, rfl, hn, hs, hl, hi, xne, nds, wr, nok, k⟩ := h
    refine ⟨_, (pss_cons (ps_set (i := 3) sc_looped.nd rfl (Or.inl rfl) (pv 2))
      (pss_cons (ps_for PassesOwn.never rfl (pi_rev rfl T.z_reversed (pa_cons (pe_listzip rfl (by rfl) T.z_list (by rfl) T.z_zip (pa_cons (pv 0) (pa_cons (pv 1) pa_nil))) pa_nil)) (pg_tup (n := 2) rfl (pgs_cons (pg_name (i := 4) sc_looped.nd rfl (Or.inl rfl) (Or.inl rfl)) (pgs_cons (pg_name (i := 5) sc_looped.nd rfl (Or.inl rfl) (Or.inl rfl)) pgs_nil)))
        (pss_one (ps_set (i := 3) sc_looped.nd rfl (Or.inl rfl) (pe_tup (pa_cons (pe_tup (pa_cons pe_str (pa_cons (pv 4) (pa_cons (pv 5) (pa_cons (pe_globE T.cn_NO_WIDTH rfl) (pa_cons (pe_globE T.cn_NO_OUTER rfl) (pa_cons (pv 3) pa_nil))))))) pa_nil)))))
      (pss_one (ps_ret (pv 3))))), ?_⟩
    refine ⟨_, rfl, _, rfl, _, rfl, nt, szl, _, _, rfl, SqT.of hn, SqL.of hs, by rw [List.length_map, List.length_map]; exact hl, fun D ps G hD s1 hD1 lps pat => ⟨D, _, rfl, SqL.of hD1, ?_⟩⟩
    rw [List.length_map] at lps
    refine for_rev (K := K) (a := D) (xs := ps.map V.ref) (fun i σ G2 => ∃ (o4 o5 : Option V) (p : Addr) (xs' : List V) (ds' : List PyData), σ = [some (.ref nt), some (.ref szl), some (.ref ins), some (.ref p), o4, o5] ∧ Same G G2 ∧ G2 p = some (.tup xs') ∧ xs' ≠ [] ∧ xs'.length ≤ xs.length ∧ Reps (TH G2) xs' ds' ∧ WrL (lastD a (ns.take (ns.length - i))) ds' (loopsR (lastD a (ns.take (ns.length - i))) (ns.drop (ns.length - i)) (ls.drop (ns.length - i)) ++ rs) ∧ NsOk (m + 2 * i) ds')
      ⟨none, none, ins, xs, ds, rfl, Same.refl _, s1 _ _ hi, xne, Nat.le_refl _, nds.same (th_sm s1), ?_, nok⟩ (fun i σ G2 ⟨_, _, _, _, _, _, s2, _⟩ => SqL.of (s2 _ _ hD1)) ?_ ?_
    · rw [Nat.sub_zero, List.take_length, List.drop_length]
      exact wr
    · rintro i x σ G2 hlt hx ⟨o4, o5, p, xs', ds', rfl, s2, hp, ne', le', nd', wr', nok'⟩
      rw [List.length_map, lps] at hlt
      rw [List.length_map, lps] at hx
      obtain ⟨q, hq, rfl⟩ := get_map hx
      obtain ⟨u, w, hu, hw, eq⟩ := pat _ _ hq
      obtain ⟨n, hn', rfl⟩ := get_map hu
      obtain ⟨z, hz', rfl⟩ := get_map hw
      have e1 : ns.length - i = ns.length - 1 - i + 1 := by omega
      have e2 : ns.length - (i + 1) = ns.length - 1 - i := by omega
      refine ⟨q, _, rfl, SqT.of (s2 _ _ eq), rfl, _, _, rfl, _, _, rfl, rfl, ?_⟩
      refine ⟨_, rfl, _, rfl, _, rfl, line_le (by simp), fun q1 hq1 => ⟨line_le (by simp), fun q2 hq2 => ?_⟩⟩
      have t1 : Same G2 (upd G2 q1 (.tup [.str "loop", .int n, .int z, .int 0, .int (-1), .ref p])) := same_new hq1
      have t2 : Same (upd G2 q1 (.tup [.str "loop", .int n, .int z, .int 0, .int (-1), .ref p])) (upd (upd G2 q1 (.tup [.str "loop", .int n, .int z, .int 0, .int (-1), .ref p])) q2 (.tup [.ref q1])) := same_new hq2
      have t12 := t1.trans t2
      refine ⟨_, _, q2, [.ref q1], [loopD n z ds'], rfl, s2.trans t12, upd_same, by simp, ?_, ?_, ?_, ?_⟩
      · show 1 ≤ xs.length
        rcases xs with _ | _
        · exact absurd rfl xne
        · simp
      · exact .cons (.tup (th_of (t2 _ _ upd_same)) (.cons (.str _) (.cons (.int _) (.cons (.int _) (.cons (.int _) (.cons (.int _) (.cons (.tup (th_of (t12 _ _ hp)) (nd'.same (th_sm t12))) .nil))))))) .nil
      · rw [e1, lastD_take a hn'] at wr'
        rw [e2, drop_cons hn', drop_cons hz']
        exact wrl_one (.loop _ n z ds' _ wr')
      · exact nsok_loop nok'
    · rintro σ G2 ⟨o4, o5, p, xs', ds', rfl, s2, hp, ne', le', nd', wr', nok'⟩
      rw [List.length_map, lps] at wr' nok'
      rw [Nat.sub_self, List.take_zero, List.drop_zero, List.drop_zero] at wr'
      exact ⟨_, rfl, k p xs' ds' G2 (s1.trans s2) hp ne' le' nd' wr' nok'⟩
theorem ok_nodes_in (T : Txt K mg t) : FnOk P w K mg base CX0 1 t.f_nodes_in t.d_nodes_in ["line"] (sp_nin t) := by
  refine T.F_nodes_in.ok sc_nodes_in (fun vs H Q E h => ?_) (fun cdv A outer s H vs Q E hr h => ?_)
  · obtain ⟨v, M, e, rfl, _⟩ := h
    rfl
  · obtain ⟨v, M, e, rfl, li, ok, k⟩ := h
    obtain ⟨al, da, ca, cu, n, nm, rfl, eal, _, eca, _, ecu⟩ := li
    have l1 := ok.lo
    have l2 := ok.ls
    rw [line_len] at k
    refine ⟨_, (pss_cons (ps_if (pt_cmpR op_eq (pe_callB call_len_seq (by rfl) T.z_len PySem.boot_len (pa_cons (pe_fld (pv 0) rfl) pa_nil)) pe_int (nomark _))
        (pss_one (ps_ret (pe_op op_add (pe_callB call_len_seq (by rfl) T.z_len PySem.boot_len (pa_cons (pe_fld (pv 0) rfl) pa_nil)) pe_int)))
        pss_nil)
      (pss_one (ps_ret (pe_op op_add (pe_op op_add (pe_op op_add (pe_callB call_len_seq (by rfl) T.z_len PySem.boot_len (pa_cons (pe_fld (pv 0) rfl) pa_nil)) pe_int) (pe_callB call_len_seq (by rfl) T.z_len PySem.boot_len (pa_cons (pe_fld (pv 0) rfl) pa_nil))) pe_int)))), ?_⟩
    refine ⟨_, rfl, al, _, da, _, _, rfl, eal, T.cl_Line, T.na_Line_sums, (by walk_at "lk"), cu, _, rfl, .inl (SqL.of ecu), rfl, _, rfl, iteD (fun h0 => ?_) (fun h0 => ?_)⟩
    · have hss : e.ss = [] := List.length_eq_zero_iff.mp (by
        have : ((e.sums.map V.str).length : Int) = 0 := by injection h0
        rw [List.length_map] at this
        omega)
      refine ⟨_, rfl, al, _, da, _, _, rfl, eal, T.cl_Line, T.na_Line_axes, (by walk_at "lk"), ca, _, rfl, .inl (SqL.of eca), _, _, rfl, rfl, ?_⟩
      rw [if_pos hss] at k
      show Q (.int (((e.own.map V.str).length : Int) + 1)) H
      rw [List.length_map, l1]
      exact k
    · have hss : e.ss ≠ [] := fun z => h0 (by rw [show (e.sums.map V.str).length = 0 by rw [List.length_map, l2, z]; rfl]; rfl)
      refine ⟨_, rfl, al, _, da, _, _, rfl, eal, T.cl_Line, T.na_Line_axes, (by walk_at "lk"), ca, _, rfl, .inl (SqL.of eca), _, _, rfl, rfl, _, rfl, al, _, da, _, _, rfl, eal, T.cl_Line, T.na_Line_sums, (by walk_at "lk"), cu, _, rfl, .inl (SqL.of ecu), _, _, rfl, rfl, _, _, rfl, rfl, ?_⟩
      rw [if_neg hss] at k
      show Q (.int (((e.own.map V.str).length : Int) + 1 + ((e.sums.map V.str).length : Int) + 1)) H
      rw [List.length_map, List.length_map, l1, l2]
      have e2 : (e.so.length : Int) + 1 + (e.ss.length : Int) + 1 = ((e.so.length + 1 + (e.ss.length + 1) : Nat) : Int) := by omega
      rw [e2]
      exact k
theorem ok_nodes_of (T : Txt K mg t) : FnOk P w K mg base CX0 2 t.f_nodes_of t.d_nodes_of ["place", "line", "lengths", "fresh"] (sp_nodes t) := by
  have G_lengths_along := ok_lengths_along (P := P) (w := w) (base := base) T
  have G_looped := ok_looped (P := P) (w := w) (base := base) T
  have G_numbers_from := ok_numbers_from (P := P) (w := w) (base := base) T
  refine T.F_nodes_of.ok sc_nodes_of (fun vs H Q E h => ?_) (fun cdv A outer s H vs Q E hr h => ?_)
  · obtain ⟨k, fr, v, l, M, e, lk, rfl, _⟩ := h
    rfl
  · obtain ⟨k, fr, v, l, M, e, lk, rfl, li, ok, szo, szs, hl, f0, f1, q⟩ := h
    obtain ⟨al, da, ca, cu, n, nm, rfl, eal, _, eca, _, ecu⟩ := li
    have l1 := ok.lo
    have l2 := ok.ls
    have l3 := ok.pl
    have lo : (e.own.map V.str).length = e.so.length := by rw [List.length_map]; exact l1
    have lsu : (e.sums.map V.str).length = e.ss.length := by rw [List.length_map]; exact l2
    refine ⟨_, (pss_cons (ps_set (i := 4) sc_nodes_of.nd rfl (Or.inl rfl) (pe_call G_numbers_from (hr.mono (by omega)) rfl T.m_numbers_from T.F_numbers_from.kp T.b_numbers_from .nil pass0 (pa_cons (pv 3) (pa_cons (pe_fld (pv 1) rfl) pa_nil))))
      (pss_cons (ps_set (i := 5) sc_nodes_of.nd rfl (Or.inl rfl) (pe_op op_add (pv 3) (pe_callB call_len_seq (by rfl) T.z_len PySem.boot_len (pa_cons (pv 4) pa_nil))))
      (pss_cut (ps_if (pt_cmpR op_eq (pe_callB call_len_seq (by rfl) T.z_len PySem.boot_len (pa_cons (pe_fld (pv 1) rfl) pa_nil)) pe_int (nomark _))
        (pss_one (ps_set (i := 6) sc_nodes_of.nd rfl (Or.inl rfl) (pe_tup (pa_cons (pe_tup (pa_cons pe_str (pa_cons (pv 5) (pa_cons (pv 0) (pa_cons pe_str (pa_cons (pv 4) (pa_cons (pe_tup pa_nil) pa_nil))))))) pa_nil))))
        (pss_cons (ps_set (i := 7) sc_nodes_of.nd rfl (Or.inl rfl) (pe_call G_numbers_from (hr.mono (by omega)) rfl T.m_numbers_from T.F_numbers_from.kp T.b_numbers_from .nil pass0 (pa_cons (pe_op op_add (pv 5) pe_int) (pa_cons (pe_fld (pv 1) rfl) pa_nil))))
        (pss_cons (ps_set (i := 8) sc_nodes_of.nd rfl (Or.inl rfl) (pe_tup (pa_cons pe_str (pa_cons (pe_op op_add (pe_op op_add (pv 5) pe_int) (pe_callB call_len_seq (by rfl) T.z_len PySem.boot_len (pa_cons (pv 7) pa_nil))) (pa_cons (pv 0) (pa_cons pe_str (pa_cons (pv 4) (pa_cons (pv 7) pa_nil))))))))
        (pss_cons (ps_set (i := 9) sc_nodes_of.nd rfl (Or.inl rfl) (pe_tup (pa_cons pe_str (pa_cons (pv 5) (pa_cons (pv 0) (pa_cons pe_str (pa_cons (pv 4) (pa_cons (pe_tup pa_nil) pa_nil))))))))
        (pss_one (ps_set (i := 6) sc_nodes_of.nd rfl (Or.inl rfl) (pe_op op_catT2 (pe_tup (pa_cons (pv 9) pa_nil)) (pe_call G_looped (hr.mono (by omega)) rfl T.m_looped T.F_looped.kp T.b_looped .nil pass0 (pa_cons (pv 7) (pa_cons (pe_call G_lengths_along (hr.mono (by omega)) rfl T.m_lengths_along T.F_lengths_along.kp T.b_lengths_along .nil pass0 (pa_cons (pe_fld (pv 1) rfl) (pa_cons (pv 2) pa_nil))) (pa_cons (pe_tup (pa_cons (pv 8) pa_nil)) pa_nil)))))))))))
      (pss_one (ps_ret (pe_call G_looped (hr.mono (by omega)) rfl T.m_looped T.F_looped.kp T.b_looped .nil pass0 (pa_cons (pv 4) (pa_cons (pe_call G_lengths_along (hr.mono (by omega)) rfl T.m_lengths_along T.F_lengths_along.kp T.b_lengths_along .nil pass0 (pa_cons (pe_fld (pv 1) rfl) (pa_cons (pv 2) pa_nil))) (pa_cons (pv 6) pa_nil))))))))), ?_⟩
    refine ⟨_, rfl, _, rfl, al, _, da, _, _, rfl, eal, T.cl_Line, T.na_Line_axes, (by walk_at "lk"), fr, ca, _, rfl, eca, f0, by omega, by omega, fun ct hct => ?_⟩
    rw [lo]
    have s1 : Same H (upd H ct (.tup ((nums fr e.so.length).map V.int))) := same_new hct
    have hc1 : upd H ct (.tup ((nums fr e.so.length).map V.int)) ct = some (.tup ((nums fr e.so.length).map V.int)) := upd_same
    generalize upd H ct (.tup ((nums fr e.so.length).map V.int)) = H1 at s1 hc1 ⊢
    refine ⟨_, rfl, _, rfl, ct, _, rfl, .inr (SqT.of hc1), fr, (e.so.length : Int), rfl, (by rw [List.length_map, nums_len]), ?_⟩
    refine ⟨fun σ' G => ∃ (ins : Addr) (xs : List V) (ds : List PyData) (o7 o8 o9 : Option V), σ' = [some (.int k), some (.ref al), some (.ref l), some (.int fr), some (.ref ct), some (.int (fr + e.so.length)), some (.ref ins), o7, o8, o9] ∧ Same H1 G ∧ G ins = some (.tup xs) ∧ xs ≠ [] ∧ xs.length ≤ 2 ∧ Reps (TH G) xs ds ∧ WrL (lastD (-1) (nums fr e.so.length)) ds (insideR k e fr (lastD (-1) (nums fr e.so.length))) ∧ NsOk 20 ds, ?_, ?_⟩
    · refine ⟨_, rfl, al, _, da, _, _, rfl, s1 _ _ eal, T.cl_Line, T.na_Line_sums, (by walk_at "lk"), cu, _, rfl, .inl (SqL.of (s1 _ _ ecu)), rfl, _, rfl, iteD (fun h0 => ?_) (fun h0 => ?_)⟩
      · have hss : e.ss = [] := List.length_eq_zero_iff.mp (by
          have : ((e.sums.map V.str).length : Int) = 0 := by injection h0
          omega)
        refine ⟨_, rfl, _, rfl, _, rfl, line_le (by simp), fun q0 hq0 => ⟨line_le (by simp), fun q1 hq1 => ⟨line_le (by simp), fun q2 hq2 => ?_⟩⟩⟩
        have t0 : Same H1 (upd H1 q0 (.tup [])) := same_new hq0
        have t1 : Same (upd H1 q0 (.tup [])) (upd (upd H1 q0 (.tup [])) q1 (.tup [.str "deed", .int (fr + e.so.length), .int k, .str "set", .ref ct, .ref q0])) := same_new hq1
        have t2 := same_new (o := .tup [.ref q1]) hq2
        have t12 := t1.trans t2
        refine ⟨q2, [.ref q1], [deedD (fr + e.so.length) k "set" (nums fr e.so.length) []], _, _, _, rfl, t0.trans t12, upd_same, by simp, by simp, ?_, ?_, (nsok_deed (by decide +kernel)).le (by omega)⟩
        · exact .cons (rt_deed (t2 _ _ upd_same) (t12 _ _ (t0 _ _ hc1)) (t12 _ _ upd_same)) .nil
        · unfold insideR
          rw [if_pos hss]
          exact wrl_one (.deed _ _ _ _ _ _)
      · have hss : e.ss ≠ [] := fun z => h0 (by rw [show (e.sums.map V.str).length = 0 by rw [lsu, z]; rfl]; rfl)
        refine ⟨_, rfl, _, _, rfl, rfl, _, rfl, al, _, da, _, _, rfl, s1 _ _ eal, T.cl_Line, T.na_Line_sums, (by walk_at "lk"), fr + e.so.length + 1, cu, _, rfl, s1 _ _ ecu, by omega, by omega, by omega, fun tt htt => ?_⟩
        rw [lsu]
        have t1 : Same H1 (upd H1 tt (.tup ((nums (fr + e.so.length + 1) e.ss.length).map V.int))) := same_new htt
        have ht1 : upd H1 tt (.tup ((nums (fr + e.so.length + 1) e.ss.length).map V.int)) tt = some (.tup ((nums (fr + e.so.length + 1) e.ss.length).map V.int)) := upd_same
        generalize upd H1 tt (.tup ((nums (fr + e.so.length + 1) e.ss.length).map V.int)) = H2 at t1 ht1 ⊢
        have lnt : (((nums (fr + e.so.length + 1) e.ss.length).map V.int).length : Int) = (e.ss.length : Int) := by rw [List.length_map, nums_len]
        refine ⟨_, rfl, _, _, rfl, rfl, _, rfl, tt, _, rfl, .inr (SqT.of ht1), _, _, rfl, rfl, _, rfl, _, rfl, _, rfl, line_le (by simp), fun qa hqa => ?_⟩
        rw [lnt]
        have t2 : Same H2 (upd H2 qa (.tup [.str "deed", .int (fr + e.so.length + 1 + (e.ss.length : Int)), .int k, .str "add", .ref ct, .ref tt])) := same_new hqa
        have ha2 : upd H2 qa (.tup [.str "deed", .int (fr + e.so.length + 1 + (e.ss.length : Int)), .int k, .str "add", .ref ct, .ref tt]) qa = some (.tup [.str "deed", .int (fr + e.so.length + 1 + (e.ss.length : Int)), .int k, .str "add", .ref ct, .ref tt]) := upd_same
        generalize upd H2 qa (.tup [.str "deed", .int (fr + e.so.length + 1 + (e.ss.length : Int)), .int k, .str "add", .ref ct, .ref tt]) = H3 at t2 ha2 ⊢
        refine ⟨_, rfl, _, rfl, _, rfl, line_le (by simp), fun q0 hq0 => ⟨line_le (by simp), fun qs hqs => ?_⟩⟩
        have t3 : Same H3 (upd H3 q0 (.tup [])) := same_new hq0
        have t4 : Same (upd H3 q0 (.tup [])) (upd (upd H3 q0 (.tup [])) qs (.tup [.str "deed", .int (fr + e.so.length), .int k, .str "start", .ref ct, .ref q0])) := same_new hqs
        have h04 := t4 _ _ (upd_same (H := H3) (a := q0) (o := .tup []))
        have hs4 : upd (upd H3 q0 (.tup [])) qs (.tup [.str "deed", .int (fr + e.so.length), .int k, .str "start", .ref ct, .ref q0]) qs = some (.tup [.str "deed", .int (fr + e.so.length), .int k, .str "start", .ref ct, .ref q0]) := upd_same
        have t34 := t3.trans t4
        generalize upd (upd H3 q0 (.tup [])) qs (.tup [.str "deed", .int (fr + e.so.length), .int k, .str "start", .ref ct, .ref q0]) = H4 at t34 h04 hs4 ⊢
        clear t3 t4
        refine ⟨_, rfl, line_le (by simp), fun qt hqt => ?_⟩
        have t5 : Same H4 (upd H4 qt (.tup [.ref qs])) := same_new hqt
        have ht5 : upd H4 qt (.tup [.ref qs]) qt = some (.tup [.ref qs]) := upd_same
        generalize upd H4 qt (.tup [.ref qs]) = H5 at t5 ht5 ⊢
        have u25 := t2.trans (t34.trans t5)
        have u15 := t1.trans u25
        have u05 := s1.trans u15
        refine ⟨_, rfl, _, rfl, al, _, da, _, _, rfl, u05 _ _ eal, T.cl_Line, T.na_Line_sums, (by walk_at "lk"), _, rfl, cu, l, e.sums, lk, e.ss, rfl, u05 _ _ ecu, u05 _ _ hl, szs, by omega, fun sl H6 hsl s6 hs6 => ⟨_, rfl, line_le (by simp), fun qi hqi => ?_⟩⟩
        have t7 : Same H6 (upd H6 qi (.tup [.ref qa])) := same_new hqi
        have hi7 : upd H6 qi (.tup [.ref qa]) qi = some (.tup [.ref qa]) := upd_same
        generalize upd H6 qi (.tup [.ref qa]) = H7 at t7 hi7 ⊢
        have u57 := s6.trans t7
        have u27 := u25.trans u57
        have u17 := t1.trans u27
        have ha7 := (t34.trans (t5.trans u57)) _ _ ha2
        refine ⟨tt, sl, qi, nums (fr + e.so.length + 1) e.ss.length, e.ss, lastD (-1) (nums fr e.so.length), 2, [.ref qa], [deedD (fr + e.so.length + 1 + e.ss.length) k "add" (nums fr e.so.length) (nums (fr + e.so.length + 1) e.ss.length)], _, rfl, u27 _ _ ht1, t7 _ _ hs6, nums_len _ _, hi7, by simp, .cons (rt_deed ha7 (u17 _ _ hc1) (u27 _ _ ht1)) .nil, wrl_one (.deed _ _ _ _ _ _), nsok_deed (by decide +kernel), fun p xs' ds' H8 s8 hp8 ne8 le8 nd8 wr8 ok8 => ?_⟩
        have u78 := u57.trans s8
        have le8 : xs'.length ≤ 1 := le8
        rw [nums_len] at ok8
        refine ⟨qt, p, _, _, rfl, rfl, SqT.of (u78 _ _ ht5), SqT.of hp8, ne8, line_le (by simp; omega), (fun z => by cases z), fun _ r hr0 => ?_⟩
        have t9 : Same H8 (upd H8 r (.tup ([.ref qs] ++ xs'))) := same_new hr0
        have u49 := t5.trans (u78.trans t9)
        refine ⟨r, _, deedD (fr + e.so.length) k "start" (nums fr e.so.length) [] :: ds', _, _, _, rfl, u17.trans (s8.trans t9), upd_same, by simp, by simp; omega, ?_, ?_, ((nsok_deed (by decide +kernel)).le (by omega)).cons (ok8.le (by omega))⟩
        · exact .cons (rt_deed (u49 _ _ hs4) ((u17.trans (s8.trans t9)) _ _ hc1) (u49 _ _ h04)) (nd8.same (th_sm t9))
        · unfold insideR
          rw [if_neg hss]
          exact WrL.cons _ _ _ [_] _ (.deed _ _ _ _ _ _) wr8
    rintro σ' G ⟨ins, xs, ds, o7, o8, o9, rfl, s2, hi, xne, x2, nds, wr, nok⟩
    have s02 := s1.trans s2
    refine ⟨_, rfl, _, rfl, al, _, da, _, _, rfl, s02 _ _ eal, T.cl_Line, T.na_Line_axes, (by walk_at "lk"), _, rfl, ca, l, e.own, lk, e.so, rfl, s02 _ _ eca, s02 _ _ hl, szo, by omega, fun sl G2 hsl s3 hs3 => ?_⟩
    refine ⟨_, rfl, ct, sl, ins, nums fr e.so.length, e.so, -1, 20, xs, ds, _, rfl, s3 _ _ (s2 _ _ hc1), hs3, nums_len _ _, s3 _ _ hi, xne, nds.same (th_sm s3), wr, nok, fun p xs' ds' H' s4 hp ne' le' nd' wr' ok' => ?_⟩
    rw [nums_len] at ok'
    exact q p xs' ds' H' (s02.trans (s3.trans s4)) hp (by omega) nd' wr' (ok'.le (by omega))
theorem ok_first_nest (T : Txt K mg t) : FnOk P w K mg base CX0 3 t.f_first_nest t.d_first_nest ["cloth"] (sp_fn t) := by
  have G_nodes_in := ok_nodes_in (P := P) (w := w) (base := base) T
  have G_nodes_of := ok_nodes_of (P := P) (w := w) (base := base) T
  refine T.F_first_nest.ok sc_first_nest (fun vs H Q E h => ?_) (fun cdv A outer s H vs Q E hr h => ?_)
  · obtain ⟨p, dx, l, a, tb, ln, o, wh, lk, xs, M, rows, rfl, _⟩ := h
    rfl
  · obtain ⟨p, dx, l, a, tb, ln, o, wh, lk, xs, M, rows, rfl, hp, hl, hln, lis, tot, few, k⟩ := h
    have lxs := Paired.length lis
    have dl := due_len fun e he => (tot e he).1
    refine ⟨_, (pss_cons (ps_set (i := 1) sc_first_nest.nd rfl (Or.inl rfl) (pe_lst pa_nil))
      (pss_cons (ps_set (i := 2) sc_first_nest.nd rfl (Or.inl rfl) pe_int)
      (pss_cons (ps_for PassesOwn.never rfl (pi_enum rfl T.z_enumerate (pa_cons (pe_fld (pv 0) rfl) pa_nil)) (pg_tup (n := 2) rfl (pgs_cons (pg_name (i := 3) sc_first_nest.nd rfl (Or.inl rfl) (Or.inl rfl)) (pgs_cons (pg_name (i := 4) sc_first_nest.nd rfl (Or.inl rfl) (Or.inl rfl)) pgs_nil)))
        (pss_cons (ps_expr (pe_bm PySem.F.plainAttrs_list PySem.F.slot_list_extend PySem.F.type_list_extend mt_extendT (pv 1) (pa_cons (pe_call G_nodes_of (hr.mono (by omega)) rfl T.m_nodes_of T.F_nodes_of.kp T.b_nodes_of .nil pass0 (pa_cons (pv 3) (pa_cons (pv 4) (pa_cons (pe_fld (pv 0) rfl) (pa_cons (pv 2) pa_nil))))) pa_nil)))
        (pss_one (ps_set (i := 2) sc_first_nest.nd rfl (Or.inl rfl) (pe_op op_add (pv 2) (pe_call G_nodes_in (hr.mono (by omega)) rfl T.m_nodes_in T.F_nodes_in.kp T.b_nodes_in .nil pass0 (pa_cons (pv 4) pa_nil)))))))
      (pss_one (ps_ret (pe_tup (pa_cons (pv 2) (pa_cons (pe_callTy call_tuple_of (by rfl) T.z_tuple PyProof.Rows.boot_tuple (pa_cons (pv 1) pa_nil)) pa_nil)))))))), ?_⟩
    refine ⟨line_le (by simp), fun L hL => ?_⟩
    have s0 : Same H (upd H L (.lst [])) := same_new hL
    refine ⟨_, rfl, p, _, dx, _, _, rfl, s0 _ _ hp, T.cl_Cloth, T.na_Cloth_lines, (by walk_at "lk"), ln, xs, rfl, SqL.of (s0 _ _ hln), ?_⟩
    refine for_enum (K := K) (a := ln) (xs := xs) (fun i σ H2 => ∃ (o3 o4 : Option V) (nv : List V) (ds : List PyData), σ = [some (.ref p), some (.ref L), some (.int ((dueM rows i).length : Nat)), o3, o4] ∧ Same H H2 ∧ H2 L = some (.lst nv) ∧ nv.length ≤ 2 * i ∧ Reps (TH H2) nv ds ∧ WrL (-1) ds (dueM rows i) ∧ NsOk 40 ds)
      ⟨none, none, [], [], rfl, s0, upd_same, by simp, .nil, .nil _, NsOk.nil _⟩ (fun i σ H2 ⟨_, _, _, _, _, s2, _⟩ => SqL.of (s2 _ _ hln)) ?_ ?_
    · rintro i x σ H2 z hx ⟨o3, o4, nv, ds, rfl, s2, hL2, lnv, nds, wr, nok⟩ hz
      obtain ⟨e, he, li⟩ := pget lis hx
      obtain ⟨ok, szo, szs, _, _⟩ := tot e (List.mem_of_getElem? he)
      have hi : i < rows.length := (List.getElem?_eq_some_iff.mp he).1
      have dli := dl i
      have sz3 : Same H2 (upd H2 z (.tup [.int (i : Nat), x])) := same_new hz
      have hz3 : upd H2 z (.tup [.int (i : Nat), x]) z = some (.tup [.int (i : Nat), x]) := upd_same
      generalize upd H2 z (.tup [.int (i : Nat), x]) = H3 at sz3 hz3 ⊢
      have s3 := s2.trans sz3
      refine ⟨z, _, rfl, SqT.of hz3, rfl, _, _, rfl, _, _, rfl, rfl, ?_⟩
      refine ⟨_, rfl, .inl ⟨rfl, _, SqL.of (sz3 _ _ hL2)⟩, _, rfl, _, rfl, _, rfl, p, _, dx, _, _, rfl, s3 _ _ hp, T.cl_Cloth, T.na_Cloth_lengths, (by walk_at "lk"), _, rfl, (i : Int), ((dueM rows i).length : Int), x, l, M, e, lk, rfl, li.same s3, ok, szo, szs, s3 _ _ hl, by omega, by omega, fun q xs' ds' H4 s4 hq le' nd' wr' ok' => ?_⟩
      have hL4 := s4 _ _ (sz3 _ _ hL2)
      refine ⟨L, q, _, _, rfl, rfl, hL4, hq, line_le (by omega), ?_⟩
      have kL : KT H4 (upd H4 L (.lst (nv ++ xs'))) := KT.at hL4 (by intro xs z; cases z)
      have kb : KB L H4 (upd H4 L (.lst (nv ++ xs'))) := KB.refl.upd
      have hL5 : upd H4 L (.lst (nv ++ xs')) L = some (.lst (nv ++ xs')) := upd_same
      generalize upd H4 L (.lst (nv ++ xs')) = H5 at kL kb hL5 ⊢
      have s5 : Same H H5 := KB.same (s3.trans s4) kb hL
      refine ⟨_, rfl, _, rfl, x, M, e, rfl, li.same s5, ok, ?_⟩
      have en : ((dueM rows i).length : Int) + ((lineR 0 e 0).length : Nat) = ((dueM rows (i + 1)).length : Nat) := by
        rw [dueM_succ he, List.length_append, line_len, line_len]
        omega
      refine ⟨_, _, rfl, rfl, ?_⟩
      refine ⟨some (.int (i : Nat)), some x, nv ++ xs', ds ++ ds', ?_, s5, hL5, by rw [List.length_append]; omega, ?_, ?_, nok.app ok'⟩
      · rw [← en]
        rfl
      · exact Reps.append (nds.same ((th_sm (sz3.trans s4)).trans (th_kt kL))) (nd'.same (th_kt kL))
      · rw [dueM_succ he]
        exact wrl_app wr wr'
    · rintro σ H2 ⟨o3, o4, nv, ds, rfl, s2, hL2, lnv, nds, wr, nok⟩
      rw [lxs] at wr
      refine ⟨_, rfl, _, rfl, L, _, rfl, .inl ⟨SqL.of hL2, fun tp htp => ⟨line_le (by simp), fun q hq => ?_⟩⟩⟩
      have t1 : Same H2 (upd H2 tp (.tup nv)) := same_new htp
      have t2 := same_new (o := .tup [.int ((dueM rows xs.length).length : Nat), .ref tp]) hq
      have hq2 := upd_same (H := upd H2 tp (.tup nv)) (a := q) (o := .tup [.int ((dueM rows xs.length).length : Nat), .ref tp])
      refine k q tp nv ds _ (s2.trans (t1.trans t2)) ?_ (t2 _ _ upd_same) (nds.same (th_sm (t1.trans t2))) wr nok (by omega)
      rw [← lxs]
      exact hq2
end
end My

set_option Elab.async false
set_option linter.all false
set_option maxRecDepth 100000
set_option maxHeartbeats 4000000
namespace My
open PySem L2
local macro_rules | `(tactic| walk_at "lk") => `(tactic| first | with_reducible exact lk0 | (refine lk1 (by decide +kernel) ?_; walk_at "lk") | rfl)
theorem eqv_nil (xs : List Str) : PyData.eqv (encS xs) (encS []) = decide (xs = []) := by
  cases xs with
  | nil => rfl
  | cons x r => rfl
def DkOk (lk : List (Key × V)) (nm : List Str) : Prop := ∀ y ∈ nm, ∃ n : Int, valV lk (Sum.inr y) = some (.int n) ∧ 1 ≤ n ∧ n ≤ 60
theorem sz_ex {lk : List (Key × V)} {nm : List Str} (dk : DkOk lk nm) : ∀ {ys : List Str}, (∀ y ∈ ys, y ∈ nm) → ∃ ls, Sz lk ys ls
  | [], _ => ⟨[], .nil⟩
  | y :: r, h => by
    obtain ⟨n, e, _⟩ := dk y (h y (.head _))
    obtain ⟨ls, sz⟩ := sz_ex dk (ys := r) fun z hz => h z (.tail _ hz)
    exact ⟨n :: ls, .cons e sz⟩
/-- a row of the law: a pair of lists of names, not among M -/
def RowAt (M : List Addr) (H : Hp) (v : V) (e : Rw) : Prop := ∃ b O S, v = .ref b ∧ H b = some (.tup [.ref O, .ref S]) ∧ O ∉ M ∧ H O = some (.lst (e.own.map V.str)) ∧ S ∉ M ∧ H S = some (.lst (e.sums.map V.str))
theorem RowAt.imp {M M' : List Addr} {H H' : Hp} {v : V} {e : Rw} (h : RowAt M H v e) (f : KT H H') (g : ∀ c xs, c ∉ M → H c = some (.lst xs) → c ∉ M' ∧ H' c = some (.lst xs)) : RowAt M' H' v e := by
  obtain ⟨b, O, S, rfl, e1, m1, e2, m2, e3⟩ := h
  exact ⟨b, O, S, rfl, f _ _ e1, (g _ _ m1 e2).1, (g _ _ m1 e2).2, (g _ _ m2 e3).1, (g _ _ m2 e3).2⟩
theorem RowAt.same {M : List Addr} {H H' : Hp} {v : V} {e : Rw} (h : RowAt M H v e) (s : Same H H') : RowAt M H' v e := h.imp (KT.same s) fun _ _ m z => ⟨m, s _ _ z⟩
abbrev RowsAt (M : List Addr) (H : Hp) (xs : List V) (rows : List Rw) : Prop := Paired (RowAt M H) xs rows
def sp_l_cell_at (K : PySem.W.Frag) : Sp := fun vs H Q _ => ∃ (a : Addr) (ns : List Int) (k : Int), vs = [.ref a, .int k] ∧ SqL K H a (ns.map V.int) ∧ 0 ≤ k ∧ ∀ z : Int, Q (.int z) H
def sp_l_whole : Sp := fun vs H Q _ => ∃ z : Int, vs = [.int z] ∧ Q (.bl true) H
def sp_l_wholes : Sp := fun vs H Q _ => ∃ (p : Addr) (c : List Int), vs = [.ref p] ∧ H p = some (.tup (c.map V.int)) ∧ Q (.bl true) H
def sp_l_axes_by : Sp := fun vs H Q _ => ∃ c : Int, vs = [.int c] ∧ ∀ (q : Addr) (nm : List Str) (H' : Hp), H q = none → Same H H' → H' q = some (.lst (nm.map V.str)) → nm.length ≤ 8 → OkS nm → Q (.ref q) H'
def sp_l_around : Sp := fun vs H Q _ => ∃ (al : Addr) (nm : List Str) (st m : Int), vs = [.ref al, .int st, .int m] ∧ H al = some (.lst (nm.map V.str)) ∧ 0 ≤ m ∧ m ≤ nm.length ∧ nm.length ≤ 8 ∧ ∀ (q : Addr) (zs : List Str) (H' : Hp), H q = none → Same H H' → H' q = some (.lst (zs.map V.str)) → (zs.length : Int) = m → (∀ y ∈ zs, y ∈ nm) → Q (.ref q) H'
def sp_l_rows_by (K : PySem.W.Frag) : Sp := fun vs H Q _ => ∃ (a al ld : Addr) (ns : List Int) (nm : List Str) (lk : List (Key × V)), vs = [.ref a, .ref al, .ref ld] ∧ SqL K H a (ns.map V.int) ∧ H al = some (.lst (nm.map V.str)) ∧ nm.length ≤ 8 ∧ OkS nm ∧ H ld = some (.dK lk) ∧ DkOk lk nm ∧
  ∀ (q : Addr) (xs : List V) (rows : List Rw) (H' : Hp), H q = none → Same H H' → H' q = some (.lst xs) → RowsAt [q] H' xs rows → Tot lk rows → rows.length ≤ 26 → Q (.ref q) H'
def sp_l_is_node : Sp := fun vs H Q _ => ∃ (v : V) (d : PyData) (a : Int) (rs : List PyData), vs = [v] ∧ Rep (TH H) v d ∧ Wr a d rs ∧ ∀ H', Same H H' → Q (.bl true) H'
theorem abc8 : ∀ k : Fin 8, (match atI ("abcdefgh" : Str).cps.toList (k.val : Int) with | some c => PyData.strOk ⟨#[c]⟩ | none => false) = true := by decide +kernel
theorem xxx_ok : ∀ k : Fin 8, PyData.strOk (Txt.slice ("xxxxxxxx" : Str) none (some ((k.val : Int) + 1))) = true := by decide +kernel
theorem abc_at {k : Nat} (h : k < 8) : ∃ c, atI ("abcdefgh" : Str).cps.toList (k : Int) = some c ∧ PyData.strOk ⟨#[c]⟩ = true := by
  have := abc8 ⟨k, h⟩
  dsimp only at this
  cases e : atI ("abcdefgh" : Str).cps.toList (k : Int) with
  | none => rw [e] at this; cases this
  | some c => rw [e] at this; exact ⟨c, rfl, this⟩
/-- what a node is on the heap -/
theorem rt_loop {H : Hp} {v : V} {n z : Int} {ds : List PyData} (h : Rep (TH H) v (loopD n z ds)) : ∃ b p xs, v = .ref b ∧ H b = some (.tup [.str "loop", .int n, .int z, .int 0, .int (-1), .ref p]) ∧ H p = some (.tup xs) ∧ Reps (TH H) xs ds := by
  unfold loopD at h
  cases h with
  | @tup b xs _ eb r =>
    cases r with
    | cons a1 r =>
      cases r with
      | cons a2 r =>
        cases r with
        | cons a3 r =>
          cases r with
          | cons a4 r =>
            cases r with
            | cons a5 r =>
              cases r with
              | cons a6 r =>
                cases r
                cases a1
                cases a2
                cases a3
                cases a4
                cases a5
                cases a6 with
                | @tup p ys _ ep rs => exact ⟨b, p, ys, rfl, th_same _ _ _ eb, th_same _ _ _ ep, rs⟩
theorem reps_ints {H : Hp} : ∀ {c : List Int} {xs : List V}, Reps H xs (c.map PyData.int) → xs = c.map V.int
  | [], _, r => by cases r; rfl
  | y :: ys, _, r => by
    rw [List.map_cons] at r
    cases r with
    | cons a r =>
      cases a
      rw [List.map_cons, reps_ints r]
theorem rt_C {H : Hp} {v : V} {c : List Int} (h : Rep (TH H) v (encC c)) : ∃ p, v = .ref p ∧ H p = some (.tup (c.map V.int)) := by
  unfold encC at h
  cases h with
  | @tup p xs _ e r =>
    rw [reps_ints r] at e
    exact ⟨p, rfl, th_same _ _ _ e⟩
theorem rt_deed' {H : Hp} {v : V} {n k : Int} {w : Str} {c u : List Int} (h : Rep (TH H) v (deedD n k w c u)) : ∃ b p r, v = .ref b ∧ H b = some (.tup [.str "deed", .int n, .int k, .str w, .ref p, .ref r]) ∧ H p = some (.tup (c.map V.int)) ∧ H r = some (.tup (u.map V.int)) := by
  unfold deedD at h
  cases h with
  | @tup b xs _ eb r =>
    cases r with
    | cons a1 r =>
      cases r with
      | cons a2 r =>
        cases r with
        | cons a3 r =>
          cases r with
          | cons a4 r =>
            cases r with
            | cons a5 r =>
              cases r with
              | cons a6 r =>
                cases r
                cases a1
                cases a2
                cases a3
                cases a4
                obtain ⟨p, rfl, ep⟩ := rt_C a5
                obtain ⟨q, rfl, eq⟩ := rt_C a6
                exact ⟨b, p, q, rfl, th_same _ _ _ eb, ep, eq⟩
theorem cut_lo {α : Type} (f : α → V) (zs : List α) {o : Int} (h : 0 ≤ o) : cutV (zs.map f) none (some o) = (zs.take o.toNat).map f := by
  unfold cutV HT.sIx
  dsimp only
  rw [if_neg (by omega), List.length_map, Nat.sub_zero, List.drop_zero, List.map_take]
  by_cases hle : o.toNat ≤ zs.length
  · rw [Nat.min_eq_left hle]
  · rw [Nat.min_eq_right (by omega), List.take_of_length_le (by rw [List.length_map]; omega), List.take_of_length_le (by rw [List.length_map]; omega)]
theorem cut_hi {α : Type} (f : α → V) (zs : List α) {o : Int} (h : 0 ≤ o) : cutV (zs.map f) (some o) none = (zs.drop o.toNat).map f := by
  unfold cutV HT.sIx
  dsimp only
  rw [if_neg (by omega), List.length_map, List.map_drop]
  by_cases hle : o.toNat ≤ zs.length
  · rw [Nat.min_eq_left hle, List.take_of_length_le (by rw [List.length_drop, List.length_map]; omega)]
  · rw [Nat.min_eq_right (by omega), List.drop_of_length_le (by rw [List.length_map]; omega), List.drop_of_length_le (by rw [List.length_map]; omega), List.take_nil]
section
variable {P : Program} {w : World} {K : PySem.W.Frag} {mg : Str → Option Value} {base : Heap} {t : Adr}
theorem ok_l_cell_at (T : Txt K mg t) : FnOk P w K mg base CX0 1 t.f_l_cell_at t.d_l_cell_at ["_law_script", "_law_k"] (sp_l_cell_at K) := by
  refine T.F_l_cell_at.ok sc_l_cell_at (fun vs H Q E h => ?_) (fun cdv A outer s H vs Q E hr h => ?_)
  · obtain ⟨a, ns, k, rfl, _⟩ := h
    rfl
  · obtain ⟨a, ns, k, rfl, hS, k0, q⟩ := h
    refine ⟨_, (pss_cons (ps_if (pt_cmpR op_lt (pv 1) (pe_callB call_len_seq (by rfl) T.z_len PySem.boot_len (pa_cons (pv 0) pa_nil)) (nomark _))
        (pss_one (ps_ret (pe_ix ix_list (pv 0) (pv 1) (fun _ _ => rfl))))
        pss_nil)
      (pss_one (ps_ret pe_int))), ?_⟩
    refine ⟨_, rfl, _, rfl, a, _, rfl, .inl hS, _, _, rfl, rfl, _, rfl, ?_⟩
    refine iteD (fun hk => ?_) (fun _ => q 0)
    obtain ⟨z, _, e⟩ := at_mapV (f := V.int) (xs := ns) k0 (by simpa using hk)
    exact ⟨_, rfl, _, rfl, a, _, _, _, rfl, rfl, hS, e, q _⟩
theorem ok_l_whole (T : Txt K mg t) : FnOk P w K mg base CX0 1 t.f_l_whole t.d_l_whole ["_law_found"] sp_l_whole := by
  refine T.F_l_whole.ok sc_l_whole (fun vs H Q E h => ?_) (fun cdv A outer s H vs Q E hr h => ?_)
  · obtain ⟨z, rfl, _⟩ := h
    rfl
  · obtain ⟨z, rfl, q⟩ := h
    refine ⟨_, (pss_one (ps_ret (pe_and (pe_callB call_isinst (by rfl) T.z_isinstance PyProof.Rows.boot_isinstance (pa_cons (pv 0) (pa_cons (pe_bltn (v := V.ty "int") rfl T.z_int PyProof.Rows.boot_int rfl) pa_nil))) (pe_one (pe_not (pe_callB call_isinst (by rfl) T.z_isinstance PyProof.Rows.boot_isinstance (pa_cons (pv 0) (pa_cons (pe_bltn (v := V.ty "bool") rfl T.z_bool PyProof.Rows.boot_bool rfl) pa_nil)))))))), ?_⟩
    refine ⟨_, rfl, _, _, _, _, rfl, TyOf.int z, isi_same "int", true, rfl, iteT ?_⟩
    exact ⟨_, rfl, _, _, _, _, rfl, TyOf.int z, isi_by (by decide +kernel) (by decide +kernel) (by decide +kernel), false, rfl, q⟩
theorem ok_l_wholes (T : Txt K mg t) : FnOk P w K mg base CX0 2 t.f_l_wholes t.d_l_wholes ["_law_found"] sp_l_wholes := by
  have G_l_whole := ok_l_whole (P := P) (w := w) (base := base) T
  refine T.F_l_wholes.ok sc_l_wholes (fun vs H Q E h => ?_) (fun cdv A outer s H vs Q E hr h => ?_)
  · obtain ⟨p, c, rfl, _⟩ := h
    rfl
  · obtain ⟨p, c, rfl, hp, q⟩ := h
    refine ⟨_, (pss_cons (ps_if (pt_not (pt_val (pe_callB call_isinst (by rfl) T.z_isinstance PyProof.Rows.boot_isinstance (pa_cons (pv 0) (pa_cons (pe_bltn (v := V.ty "tuple") rfl T.z_tuple PyProof.Rows.boot_tuple rfl) pa_nil)))))
        (pss_one (ps_ret pe_bl))
        pss_nil)
      (pss_cons (ps_for PassesOwn.never rfl (pi_tup (pv 0)) (pg_name (i := 1) sc_l_wholes.nd rfl (Or.inl rfl) (Or.inl rfl))
        (pss_one (ps_if (pt_not (pt_val (pe_call G_l_whole (hr.mono (by omega)) rfl T.m_l_whole T.F_l_whole.kp T.b_l_whole .nil pass0 (pa_cons (pv 1) pa_nil))))
          (pss_one (ps_ret pe_bl))
          pss_nil)))
      (pss_one (ps_ret pe_bl)))), ?_⟩
    refine ⟨_, rfl, _, _, _, _, rfl, .tup hp, isi_same "tuple", true, rfl, iteF ?_⟩
    refine ⟨_, rfl, p, rfl, ⟨_, SqT.of hp⟩, ?_⟩
    refine for_tup (K := K) (a := p) (xs := c.map V.int) (fun i σ H2 => ∃ o1 : Option V, σ = [some (.ref p), o1] ∧ H2 = H) ⟨none, rfl, rfl⟩ (fun i σ H2 _ ⟨_, _, e⟩ => by subst e; exact SqT.of hp) ?_ ?_
    · rintro i x σ H2 hx ⟨o1, rfl, rfl⟩
      obtain ⟨z, _, rfl⟩ := get_map hx
      exact ⟨_, rfl, z, rfl, true, rfl, iteF ⟨_, rfl, rfl⟩⟩
    · rintro σ H2 ⟨o1, rfl, rfl⟩
      exact q
theorem ok_l_axes_by (T : Txt K mg t) : FnOk P w K mg base CX0 1 t.f_l_axes_by t.d_l_axes_by ["_law_cell"] sp_l_axes_by := by
  refine T.F_l_axes_by.ok sc_l_axes_by (fun vs H Q E h => ?_) (fun cdv A outer s H vs Q E hr h => ?_)
  · obtain ⟨c, rfl, _⟩ := h
    rfl
  · obtain ⟨c, rfl, k⟩ := h
    refine ⟨_, (pss_cons (ps_set (i := 1) sc_l_axes_by.nd rfl (Or.inl rfl) (pe_lst pa_nil))
      (pss_cons (ps_for PassesOwn.never rfl (pi_range1 rfl T.z_range (pa_cons (pe_op op_mod (pv 0) pe_int) pa_nil)) (pg_name (i := 2) sc_l_axes_by.nd rfl (Or.inl rfl) (Or.inl rfl))
        (pss_one (ps_if (pt_cmpR op_eq (pe_op op_mod (pe_op op_fdiv (pv 0) pe_int) pe_int) pe_int (nomark _))
          (pss_one (ps_expr (pe_bm PySem.F.plainAttrs_list PySem.F.slot_list_append PySem.F.type_list_append mt_append (pv 1) (pa_cons (pe_ix ix_str pe_str (pv 2) (fun _ _ => rfl)) pa_nil))))
          (pss_one (ps_expr (pe_bm PySem.F.plainAttrs_list PySem.F.slot_list_append PySem.F.type_list_append mt_append (pv 1) (pa_cons (pe_slice sl_str pe_str po_none (po_some (pe_op op_add (pv 2) pe_int))) pa_nil)))))))
      (pss_one (ps_ret (pv 1))))), ?_⟩
    refine ⟨line_le (by simp), fun q hq => ?_⟩
    refine ⟨_, rfl, _, _, rfl, rfl, (by show (0 : Int) < 9; decide), _, rfl, by omega, by omega, ?_⟩
    refine for_range (n := (c % 9).toNat) (fun i σ H2 => ∃ (o2 : Option V) (nm : List Str), σ = [some (.int c), some (.ref q), o2] ∧ Same H H2 ∧ H2 q = some (.lst (nm.map V.str)) ∧ nm.length = i ∧ OkS nm)
      ⟨none, [], rfl, same_new hq, upd_same, rfl, by intro x hx; cases hx⟩ ?_ ?_
    · rintro i σ H2 hi ⟨o2, nm, rfl, s2, h2, ln, okn⟩
      rw [Int.zero_add]
      have hi8 : i < 8 := by omega
      have fin : ∀ x : Str, PyData.strOk x = true → ∃ (o2 : Option V) (nm' : List Str), [some (V.int c), some (.ref q), some (.int (i : Int))] = [some (.int c), some (.ref q), o2] ∧ Same H (upd H2 q (.lst (nm.map V.str ++ [.str x]))) ∧ upd H2 q (.lst (nm.map V.str ++ [.str x])) q = some (.lst (nm'.map V.str)) ∧ nm'.length = i + 1 ∧ OkS nm' := fun x hx =>
        ⟨_, nm ++ [x], rfl, same_fresh s2 hq, by rw [upd_same, List.map_append]; rfl, by simp [ln], fun y hy => by
          rcases List.mem_append.mp hy with hy | hy
          · exact okn y hy
          · rw [List.mem_singleton.mp hy]; exact hx⟩
      refine ⟨_, rfl, _, _, rfl, rfl, ⟨by decide, by decide⟩, _, _, rfl, rfl, (by show (0 : Int) < 2; decide), rfl, _, rfl, iteD (fun _ => ?_) (fun _ => ?_)⟩
      · obtain ⟨c', e, hc⟩ := abc_at hi8
        refine ⟨_, rfl, .inl ⟨rfl, _, SqL.of h2⟩, _, rfl, _, _, _, rfl, rfl, line_le (by decide +kernel), e, q, _, _, rfl, rfl, h2, line_lt (by rw [List.length_map]; omega), fin _ hc⟩
      · refine ⟨_, rfl, .inl ⟨rfl, _, SqL.of h2⟩, _, rfl, _, _, rfl, rfl, _, rfl, _, rfl, line_le (by decide +kernel), q, _, _, rfl, rfl, h2, line_lt (by rw [List.length_map]; omega), fin _ (xxx_ok ⟨i, hi8⟩)⟩
    · rintro σ H2 ⟨o2, nm, rfl, s2, h2, ln, okn⟩
      exact ⟨_, rfl, k q nm H2 hq s2 h2 (by omega) okn⟩
theorem ok_l_around (T : Txt K mg t) : FnOk P w K mg base CX0 1 t.f_l_around t.d_l_around ["_law_axes", "_law_start", "_law_many"] sp_l_around := by
  refine T.F_l_around.ok sc_l_around (fun vs H Q E h => ?_) (fun cdv A outer s H vs Q E hr h => ?_)
  · obtain ⟨al, nm, st, m, rfl, _⟩ := h
    rfl
  · obtain ⟨al, nm, st, m, rfl, hal, m0, mn, l8, k⟩ := h
    refine ⟨_, (pss_one (ps_ret (pe_comp (N' := ["_law_k", "_law_axes", "_law_start"]) (ix := (List.replicate 1 none ++ [some 0, some 1])) rfl (clok_many (cl := [("_law_start", _), ("_law_axes", _)]) (xs := ["_law_start", "_law_axes"]) rfl ⟨rfl, rfl, trivial⟩ rfl rfl (by decide +kernel) (by decide +kernel)) (ixok_many (N0 := ["_law_k"]) (xs := ["_law_axes", "_law_start"]) (js := [0, 1]) ⟨⟨rfl, Or.inl rfl, (by first | exact Or.inl rfl | exact Or.inr rfl | (simp [relabel]; rfl) | (with_unfolding_all exact Or.inl rfl) | (with_unfolding_all exact Or.inr rfl) | (with_unfolding_all decide))⟩, ⟨rfl, Or.inl rfl, (by first | exact Or.inl rfl | exact Or.inr rfl | (simp [relabel]; rfl) | (with_unfolding_all exact Or.inl rfl) | (with_unfolding_all exact Or.inr rfl) | (with_unfolding_all decide))⟩, trivial⟩) (pi_range1 rfl T.z_range (pa_cons (pv 2) pa_nil)) (fun _ _ _ _ => (pg_name (i := 0) nd_comp_2 rfl (Or.inl rfl) (Or.inr rfl))) (fun _ _ _ _ => (pe_ix (ix_listK (K := K) rfl) (pv 1) (pe_op op_mod (pe_op op_add (pv 2) (pv 0)) (pe_callB (call_len_seqK (K := K) rfl) (by rfl) T.z_len PySem.boot_len (pa_cons (pv 1) pa_nil))) (fun _ _ => rfl)))))), ?_⟩
    refine ⟨_, rfl, _, rfl, by omega, by omega, fun D hD => ?_⟩
    refine comp_genQ (D := D) m.toNat (fun i ys H3 => Same H H3 ∧ H3 D = some (.lst ys) ∧ ∃ zs : List Str, ys = zs.map V.str ∧ zs.length = i ∧ ∀ y ∈ zs, y ∈ nm) ⟨same_new hD, upd_same, [], rfl, rfl, by intro x hx; cases hx⟩ (fun i ys H3 hi _ => hi) (fun ys H3 _ => Nat.le_refl _) ?_ ?_
    · rintro i ys H3 hi ⟨s3, h3, zs, rfl, hz, oz⟩ x H4 ⟨rfl, rfl⟩
      obtain ⟨x, xm, e⟩ := at_mapV (f := V.str) (xs := nm) (i := (st + (0 + (i : Int))) % ((nm.map V.str).length : Int)) (Int.emod_nonneg _ (by rw [List.length_map]; omega)) (by rw [List.length_map]; exact Int.emod_lt_of_pos _ (by omega))
      refine ⟨⟨rfl, rfl, True.intro⟩, _, rfl, _, rfl, _, rfl, _, _, rfl, rfl, _, rfl, al, _, rfl, .inl (SqL.of (s3 _ _ hal)), _, _, rfl, rfl, (by show (0 : Int) < ((nm.map V.str).length : Int); rw [List.length_map]; omega), al, _, _, _, rfl, rfl, SqL.of (s3 _ _ hal), e, ?_⟩
      refine ⟨h3, line_lt (by simp; omega), same_fresh s3 hD, upd_same, zs ++ [x], by simp, by simp [hz], fun y hy => ?_⟩
      rcases List.mem_append.mp hy with hy | hy
      · exact oz y hy
      · rw [List.mem_singleton.mp hy]; exact List.mem_of_getElem? xm
    · rintro ys H3 ⟨s3, h3, zs, rfl, hz, oz⟩
      exact k D zs H3 hD s3 h3 (by omega) oz
theorem ok_l_rows_by (T : Txt K mg t) : FnOk P w K mg base CX0 2 t.f_l_rows_by t.d_l_rows_by ["_law_script", "_law_axes", "_law_lengths"] (sp_l_rows_by K) := by
  have G_l_around := ok_l_around (P := P) (w := w) (base := base) T
  refine T.F_l_rows_by.ok sc_l_rows_by (fun vs H Q E h => ?_) (fun cdv A outer s H vs Q E hr h => ?_)
  · obtain ⟨a, al, ld, ns, nm, lk, rfl, _⟩ := h
    rfl
  · obtain ⟨a, al, ld, ns, nm, lk, rfl, hS, hal, l8, oka, hld, dk, k⟩ := h
    have hu := hu_of hr
    refine ⟨_, (pss_cons (ps_set (i := 3) sc_l_rows_by.nd rfl (Or.inl rfl) (pe_lst pa_nil))
      (pss_cons (ps_set (i := 4) sc_l_rows_by.nd rfl (Or.inl rfl) pe_int)
      (pss_cons (ps_for PassesOwn.never rfl (pi_range1 rfl T.z_range (pa_cons (pe_op op_fdiv (pe_op op_sub (pe_callB (call_min2 rfl) (by rfl) T.z_min PyProof.Rows.boot_min (pa_cons (pe_callB call_len_seq (by rfl) T.z_len PySem.boot_len (pa_cons (pv 0) pa_nil)) (pa_cons pe_int pa_nil))) pe_int) pe_int) pa_nil)) (pg_name (i := 5) sc_l_rows_by.nd rfl (Or.inl rfl) (Or.inl rfl))
        (pss_cons (ps_set (i := 6) sc_l_rows_by.nd rfl (Or.inl rfl) (pe_ix ix_list (pv 0) (pe_op op_add pe_int (pe_op op_mul pe_int (pv 5))) (fun _ _ => rfl)))
        (pss_cons (ps_set (i := 7) sc_l_rows_by.nd rfl (Or.inl rfl) (pe_ix ix_list (pv 0) (pe_op op_add pe_int (pe_op op_mul pe_int (pv 5))) (fun _ _ => rfl)))
        (pss_cons (ps_set (i := 8) sc_l_rows_by.nd rfl (Or.inl rfl) (pe_op op_mod (pv 6) (pe_op op_add (pe_callB call_len_seq (by rfl) T.z_len PySem.boot_len (pa_cons (pv 1) pa_nil)) pe_int)))
        (pss_cons (ps_set (i := 9) sc_l_rows_by.nd rfl (Or.inl rfl) (pe_op op_mod (pv 7) (pe_op op_add (pe_op op_sub (pe_callB call_len_seq (by rfl) T.z_len PySem.boot_len (pa_cons (pv 1) pa_nil)) (pv 8)) pe_int)))
        (pss_cons (ps_set (i := 10) sc_l_rows_by.nd rfl (Or.inl rfl) (pe_op op_mod (pe_op op_fdiv (pv 6) pe_int) (pe_callB (call_max2 rfl) (by rfl) T.z_max PyProof.Rows.boot_max (pa_cons pe_int (pa_cons (pe_callB call_len_seq (by rfl) T.z_len PySem.boot_len (pa_cons (pv 1) pa_nil)) pa_nil)))))
        (pss_cons (ps_set (i := 11) sc_l_rows_by.nd rfl (Or.inl rfl) (pe_call G_l_around (hr.mono (by omega)) rfl T.m_l_around T.F_l_around.kp T.b_l_around .nil pass0 (pa_cons (pv 1) (pa_cons (pv 10) (pa_cons (pe_op op_add (pv 8) (pv 9)) pa_nil)))))
        (pss_cons (ps_set (i := 12) sc_l_rows_by.nd rfl (Or.inl rfl) pe_int)
        (pss_cons (ps_for PassesOwn.never rfl (pi_list (pv 11)) (pg_name (i := 13) sc_l_rows_by.nd rfl (Or.inl rfl) (Or.inl rfl))
          (pss_one (ps_set (i := 12) sc_l_rows_by.nd rfl (Or.inl rfl) (pe_op op_mul (pv 12) (pe_dget hu (pv 2) (pv 13) (fun _ _ => rfl))))))
        (pss_one (ps_if (pt_cmpR op_le (pe_op op_mul pe_int (pv 12)) (pv 4) (nomark _))
          (pss_cons (ps_set (i := 4) sc_l_rows_by.nd rfl (Or.inl rfl) (pe_op op_sub (pv 4) (pe_op op_mul pe_int (pv 12))))
          (pss_one (ps_expr (pe_bm PySem.F.plainAttrs_list PySem.F.slot_list_append PySem.F.type_list_append mt_append (pv 3) (pa_cons (pe_tup (pa_cons (pe_slice sl_list (pv 11) po_none (po_some (pv 8))) (pa_cons (pe_slice sl_list (pv 11) (po_some (pv 8)) po_none) pa_nil))) pa_nil)))))
          pss_nil)))))))))))
      (pss_one (ps_ret (pv 3)))))), ?_⟩
    refine ⟨line_le (by simp), fun q hq => ?_⟩
    have s0 : Same H (upd H q (.lst [])) := same_new hq
    refine ⟨_, rfl, a, _, rfl, .inl (s0.seq hS), _, _, rfl, _, _, rfl, rfl, _, _, rfl, rfl, ⟨by decide, by decide⟩, ?_⟩
    generalize hmn : (if (61 : Int) < ((ns.map V.int).length : Int) then (61 : Int) else ((ns.map V.int).length : Int)) = mn
    have mn1 : mn ≤ 61 := by rw [← hmn]; split <;> omega
    have mn2 : mn ≤ ns.length := by rw [← hmn, List.length_map]; split <;> omega
    have mn0 : 0 ≤ mn := by rw [← hmn]; split <;> omega
    refine ⟨_, rfl, by omega, by omega, ?_⟩
    refine for_range (n := ((mn - 9) / 2).toNat) (fun i σ H2 => ∃ (lf : Int) (o5 o6 o7 o8 o9 o10 o11 o12 o13 : Option V) (xs : List V) (rows : List Rw), σ = [some (.ref a), some (.ref al), some (.ref ld), some (.ref q), some (.int lf), o5, o6, o7, o8, o9, o10, o11, o12, o13] ∧ Same H H2 ∧ H2 q = some (.lst xs) ∧ RowsAt [q] H2 xs rows ∧ Tot lk rows ∧ rows.length ≤ i)
      ⟨4000, none, none, none, none, none, none, none, none, none, [], [], rfl, s0, upd_same, .nil, (by intro e he; cases he), Nat.le_refl _⟩ ?_ ?_
    · rintro i σ H2 hi ⟨lf, o5, o6, o7, o8, o9, o10, o11, o12, o13, xs, rows, rfl, s2, hq2, rw2, tot, lr⟩
      obtain ⟨z1, _, e1⟩ := at_mapV (f := V.int) (xs := ns) (i := 9 + 2 * (0 + (i : Int))) (by omega) (by omega)
      obtain ⟨z2, _, e2⟩ := at_mapV (f := V.int) (xs := ns) (i := 10 + 2 * (0 + (i : Int))) (by omega) (by omega)
      have lm : ((nm.map V.str).length : Int) = (nm.length : Int) := by rw [List.length_map]
      refine ⟨_, rfl, _, rfl, _, _, rfl, rfl, .inl ⟨by decide, by decide⟩, _, _, rfl, rfl, a, _, _, _, rfl, rfl, s2.seq hS, e1, ?_⟩
      refine ⟨_, rfl, _, rfl, _, _, rfl, rfl, .inl ⟨by decide, by decide⟩, _, _, rfl, rfl, a, _, _, _, rfl, rfl, s2.seq hS, e2, ?_⟩
      have ow0 := Int.emod_nonneg z1 (show (((nm.map V.str).length : Int) + 1) ≠ 0 by omega)
      have ow1 := Int.emod_lt_of_pos z1 (show (0 : Int) < ((nm.map V.str).length : Int) + 1 by omega)
      refine ⟨_, rfl, _, rfl, al, _, rfl, .inl (SqL.of (s2 _ _ hal)), _, _, rfl, rfl, _, _, rfl, rfl, (by show (0 : Int) < ((nm.map V.str).length : Int) + 1; omega), ?_⟩
      have ma0 := Int.emod_nonneg z2 (show (((nm.map V.str).length : Int) - (z1 % (((nm.map V.str).length : Int) + 1)) + 1) ≠ 0 by omega)
      have ma1 := Int.emod_lt_of_pos z2 (show (0 : Int) < ((nm.map V.str).length : Int) - (z1 % (((nm.map V.str).length : Int) + 1)) + 1 by omega)
      refine ⟨_, rfl, _, rfl, al, _, rfl, .inl (SqL.of (s2 _ _ hal)), _, rfl, _, _, rfl, rfl, _, _, rfl, rfl, _, _, rfl, rfl, (by show (0 : Int) < ((nm.map V.str).length : Int) - (z1 % (((nm.map V.str).length : Int) + 1)) + 1; omega), ?_⟩
      refine ⟨_, rfl, _, _, rfl, rfl, ⟨by decide, by decide⟩, _, rfl, al, _, rfl, .inl (SqL.of (s2 _ _ hal)), _, _, rfl, _, _, rfl, rfl, (by show (0 : Int) < if ((nm.map V.str).length : Int) > 1 then ((nm.map V.str).length : Int) else 1; split <;> omega), ?_⟩
      refine ⟨_, rfl, _, rfl, _, rfl, _, rfl, _, _, rfl, rfl, al, nm, _, (z1 % (((nm.map V.str).length : Int) + 1)) + (z2 % (((nm.map V.str).length : Int) - (z1 % (((nm.map V.str).length : Int) + 1)) + 1)), rfl, s2 _ _ hal, by omega, by omega, l8, fun D zs H3 hD s3 hD3 lz mz => ?_⟩
      have s03 := s2.trans s3
      refine ⟨_, rfl, D, rfl, ⟨_, SqL.of hD3⟩, ?_⟩
      refine for_list (K := K) (a := D) (xs := zs.map V.str) (fun j σ G => ∃ (wo : Int) (o13 : Option V), σ = [some (.ref a), some (.ref al), some (.ref ld), some (.ref q), some (.int lf), some (.int (0 + (i : Int))), some (.int z1), some (.int z2), some (.int (z1 % (((nm.map V.str).length : Int) + 1))), some (.int (z2 % (((nm.map V.str).length : Int) - (z1 % (((nm.map V.str).length : Int) + 1)) + 1))), some (.int (z1 / 9 % if ((nm.map V.str).length : Int) > 1 then ((nm.map V.str).length : Int) else 1)), some (.ref D), some (.int wo), o13] ∧ G = H3)
        ⟨1, _, rfl, rfl⟩ (fun j σ G _ ⟨_, _, _, e⟩ => by rw [e]; exact SqL.of hD3) ?_ ?_
      · rintro j x σ G hx ⟨wo, o13', rfl, rfl⟩
        obtain ⟨y, hy, rfl⟩ := get_map hx
        obtain ⟨n, ev, n1, n60⟩ := dk y (mz y (List.mem_of_getElem? hy))
        have g := DGet.k (H := G) (a := ld) (k := Sum.inr y) (s03 _ _ hld)
        rw [ev] at g
        exact ⟨_, rfl, _, rfl, _, rfl, ld, _, rfl, g, _, _, rfl, rfl, .inr ⟨by omega, by omega⟩, _, _, rfl, rfl⟩
      rintro σ G ⟨wo, o13', rfl, rfl⟩
      have rw3 : RowsAt [q] G xs rows := Paired.mapP rw2 fun _ _ z => z.same s3
      refine ⟨_, rfl, _, _, rfl, rfl, .inl ⟨by decide, by decide⟩, _, rfl, _, _, rfl, rfl, _, rfl, iteD (fun _ => ?_) (fun _ => ⟨lf, _, _, _, _, _, _, _, _, _, xs, rows, rfl, s03, s3 _ _ hq2, rw3, tot, by omega⟩)⟩
      refine ⟨_, rfl, _, rfl, _, _, rfl, rfl, .inl ⟨by decide, by decide⟩, _, _, rfl, rfl, ?_⟩
      refine ⟨_, rfl, .inl ⟨rfl, _, SqL.of (s3 _ _ hq2)⟩, _, rfl, _, rfl, _, rfl, D, zs.map V.str, rfl, SqL.of hD3, fun O hO => ?_⟩
      rw [cut_lo V.str zs ow0]
      have t1 : Same G (upd G O (.lst ((zs.take (z1 % (((nm.map V.str).length : Int) + 1)).toNat).map V.str))) := same_new hO
      have hO1 : upd G O (.lst ((zs.take (z1 % (((nm.map V.str).length : Int) + 1)).toNat).map V.str)) O = some (.lst ((zs.take (z1 % (((nm.map V.str).length : Int) + 1)).toNat).map V.str)) := upd_same
      generalize upd G O (.lst ((zs.take (z1 % (((nm.map V.str).length : Int) + 1)).toNat).map V.str)) = G1 at t1 hO1 ⊢
      refine ⟨_, rfl, _, rfl, _, rfl, D, zs.map V.str, rfl, SqL.of (t1 _ _ hD3), fun S hS' => ?_⟩
      rw [cut_hi V.str zs ow0]
      have t2 : Same G1 (upd G1 S (.lst ((zs.drop (z1 % (((nm.map V.str).length : Int) + 1)).toNat).map V.str))) := same_new hS'
      have hS1 : upd G1 S (.lst ((zs.drop (z1 % (((nm.map V.str).length : Int) + 1)).toNat).map V.str)) S = some (.lst ((zs.drop (z1 % (((nm.map V.str).length : Int) + 1)).toNat).map V.str)) := upd_same
      generalize upd G1 S (.lst ((zs.drop (z1 % (((nm.map V.str).length : Int) + 1)).toNat).map V.str)) = G2 at t2 hS1 ⊢
      refine ⟨line_le (by simp), fun b hb => ?_⟩
      have t3 : Same G2 (upd G2 b (.tup [.ref O, .ref S])) := same_new hb
      have hb1 : upd G2 b (.tup [.ref O, .ref S]) b = some (.tup [.ref O, .ref S]) := upd_same
      generalize upd G2 b (.tup [.ref O, .ref S]) = G3 at t3 hb1 ⊢
      have t13 := t1.trans (t2.trans t3)
      have hq3 := t13 _ _ (s3 _ _ hq2)
      have Oq : O ≠ q := fun z => by rw [z, s3 _ _ hq2] at hO; cases hO
      have Sq : S ≠ q := fun z => by rw [z, t1 _ _ (s3 _ _ hq2)] at hS'; cases hS'
      have lxs := Paired.length rw2
      refine ⟨q, _, _, rfl, rfl, hq3, line_lt (by omega), ?_⟩
      have kb : KB q G3 (upd G3 q (.lst (xs ++ [.ref b]))) := KB.refl.upd
      have kt : KT G3 (upd G3 q (.lst (xs ++ [.ref b]))) := KT.at hq3 (by intro xs z; cases z)
      have nq : ∀ {c : Addr}, c ∉ [q] → c ≠ q := fun m z => m (by rw [z]; exact .head _)
      have mq : ∀ {c : Addr}, c ≠ q → c ∉ [q] := fun n m => n (List.mem_singleton.mp m)
      obtain ⟨so, szo⟩ := sz_ex dk (ys := zs.take (z1 % (((nm.map V.str).length : Int) + 1)).toNat) fun y hy => mz y (List.mem_of_mem_take hy)
      obtain ⟨ss, szs⟩ := sz_ex dk (ys := zs.drop (z1 % (((nm.map V.str).length : Int) + 1)).toNat) fun y hy => mz y (List.mem_of_mem_drop hy)
      refine ⟨_, _, _, _, _, _, _, _, _, _, xs ++ [.ref b], rows ++ [⟨zs.take (z1 % (((nm.map V.str).length : Int) + 1)).toNat, zs.drop (z1 % (((nm.map V.str).length : Int) + 1)).toNat, so, ss⟩], rfl, KB.same (s03.trans t13) kb hq, upd_same, ?_, fun e he => ?_, by rw [List.length_append, List.length_singleton]; omega⟩
      · refine papp (Paired.mapP rw3 fun _ _ z => (z.same t13).imp kt fun c ys m e => ⟨m, kb _ _ (nq m) e⟩) (.cons ⟨b, O, S, rfl, kt _ _ hb1, mq Oq, kb _ _ Oq ((t2.trans t3) _ _ hO1), mq Sq, kb _ _ Sq (t3 _ _ hS1)⟩ .nil)
      · rcases List.mem_append.mp he with he | he
        · exact tot e he
        · rw [List.mem_singleton.mp he]
          refine ⟨⟨Paired.length szo, Paired.length szs, ?_⟩, szo, szs, fun y hy => oka y (mz y (List.mem_of_mem_take hy)), fun y hy => oka y (mz y (List.mem_of_mem_drop hy))⟩
          show (zs.take (z1 % (((nm.map V.str).length : Int) + 1)).toNat).length + (zs.drop (z1 % (((nm.map V.str).length : Int) + 1)).toNat).length ≤ 8
          rw [List.length_take, List.length_drop]
          omega
    · rintro σ H2 ⟨lf, o5, o6, o7, o8, o9, o10, o11, o12, o13, xs, rows, rfl, s2, hq2, rw2, tot, lr⟩
      exact ⟨_, rfl, k q xs rows H2 hq s2 hq2 rw2 tot (by omega)⟩
theorem ok_l_is_node (T : Txt K mg t) : FnOk P w K mg base CX0 3 t.f_l_is_node t.d_l_is_node ["_law_node"] sp_l_is_node := by
  have G_l_wholes := ok_l_wholes (P := P) (w := w) (base := base) T
  refine T.F_l_is_node.ok sc_l_is_node (fun vs H Q E h => ?_) (fun cdv A outer s H vs Q E hr h => ?_)
  · obtain ⟨v, d, a, rs, rfl, _⟩ := h
    rfl
  · obtain ⟨v, d, a, rs, rfl, rp, wr, k⟩ := h
    refine ⟨_, (pss_cons (ps_if (PW.pt (pw_or (pt_not (pt_val (pe_callB call_isinst (by rfl) T.z_isinstance PyProof.Rows.boot_isinstance (pa_cons (pv 0) (pa_cons (pe_bltn (v := V.ty "tuple") rfl T.z_tuple PyProof.Rows.boot_tuple rfl) pa_nil))))) (pw_or (pt_cmpR op_ne (pe_callB call_len_seq (by rfl) T.z_len PySem.boot_len (pa_cons (pv 0) pa_nil)) pe_int (nomark _)) (pw_or1 (pt_not (pt_val (pe_callB call_isinst (by rfl) T.z_isinstance PyProof.Rows.boot_isinstance (pa_cons (pe_ix ix_tup (pv 0) pe_int (fun _ _ => rfl)) (pa_cons (pe_bltn (v := V.ty "str") rfl T.z_str PyProof.Rows.boot_str rfl) pa_nil)))))))))
        (pss_one (ps_ret pe_bl))
        pss_nil)
      (pss_cons (ps_if (pt_cmpR op_eq (pe_ix ix_tup (pv 0) pe_int (fun _ _ => rfl)) pe_str (nomark _))
        (pss_one (ps_ret (pe_and (pe_call G_l_wholes (hr.mono (by omega)) rfl T.m_l_wholes T.F_l_wholes.kp T.b_l_wholes .nil pass0 (pa_cons (pe_slice sl_tup (pv 0) (po_some pe_int) (po_some pe_int)) pa_nil)) (pe_one (pe_callB call_isinst (by rfl) T.z_isinstance PyProof.Rows.boot_isinstance (pa_cons (pe_ix ix_tup (pv 0) pe_int (fun _ _ => rfl)) (pa_cons (pe_bltn (v := V.ty "tuple") rfl T.z_tuple PyProof.Rows.boot_tuple rfl) pa_nil)))))))
        pss_nil)
      (pss_cons (ps_if (PW.pt (pw_or (pt_not (pt_val (pe_call G_l_wholes (hr.mono (by omega)) rfl T.m_l_wholes T.F_l_wholes.kp T.b_l_wholes .nil pass0 (pa_cons (pe_slice sl_tup (pv 0) (po_some pe_int) (po_some pe_int)) pa_nil)))) (pw_or1 (pt_not (pt_val (pe_callB call_isinst (by rfl) T.z_isinstance PyProof.Rows.boot_isinstance (pa_cons (pe_ix ix_tup (pv 0) pe_int (fun _ _ => rfl)) (pa_cons (pe_bltn (v := V.ty "str") rfl T.z_str PyProof.Rows.boot_str rfl) pa_nil))))))))
        (pss_one (ps_ret pe_bl))
        pss_nil)
      (pss_one (ps_ret (pe_and (pe_call G_l_wholes (hr.mono (by omega)) rfl T.m_l_wholes T.F_l_wholes.kp T.b_l_wholes .nil pass0 (pa_cons (pe_ix ix_tup (pv 0) pe_int (fun _ _ => rfl)) pa_nil)) (pe_one (pe_call G_l_wholes (hr.mono (by omega)) rfl T.m_l_wholes T.F_l_wholes.kp T.b_l_wholes .nil pass0 (pa_cons (pe_ix ix_tup (pv 0) pe_int (fun _ _ => rfl)) pa_nil))))))))), ?_⟩
    cases wr with
    | deed a n kk w' c u =>
      obtain ⟨b, p, r, rfl, hb, hp, hr'⟩ := rt_deed' rp
      refine ⟨_, rfl, _, _, _, _, rfl, .tup hb, isi_same "tuple", true, rfl, iteF ?_⟩
      refine ⟨_, rfl, b, _, rfl, .inr (SqT.of hb), rfl, _, rfl, iteNS rfl ?_⟩
      refine ⟨_, rfl, b, _, _, _, rfl, rfl, SqT.of hb, atI_nat (j := 0) rfl, _, _, _, _, rfl, .str _, isi_same "str", true, rfl, iteF ?_⟩
      refine ⟨_, rfl, b, _, _, _, rfl, rfl, SqT.of hb, atI_nat (j := 0) rfl, rfl, _, rfl, ?_⟩
      refine iteD (fun z => absurd z (by decide +kernel)) fun _ => ?_
      refine ⟨_, rfl, _, rfl, _, rfl, b, _, rfl, SqT.of hb, (by show ¬ (HT.sIx 6 0 (some 1) = 0 ∧ HT.sIx 6 6 (some 3) = 6); decide), fun q hq => ?_⟩
      have s1 : Same H (upd H q (.tup (cutV [.str "deed", .int n, .int kk, .str w', .ref p, .ref r] (some 1) (some 3)))) := same_new hq
      have hq1 : upd H q (.tup (cutV [.str "deed", .int n, .int kk, .str w', .ref p, .ref r] (some 1) (some 3))) q = some (.tup (([n, kk] : List Int).map V.int)) := upd_same
      generalize upd H q (.tup (cutV [.str "deed", .int n, .int kk, .str w', .ref p, .ref r] (some 1) (some 3))) = H1 at s1 hq1 ⊢
      refine ⟨q, _, rfl, hq1, true, rfl, iteF ?_⟩
      refine ⟨_, rfl, b, _, _, _, rfl, rfl, SqT.of (s1 _ _ hb), atI_nat (j := 3) rfl, _, _, _, _, rfl, .str _, isi_same "str", true, rfl, iteF ?_⟩
      refine ⟨_, rfl, b, _, _, _, rfl, rfl, SqT.of (s1 _ _ hb), atI_nat (j := 4) rfl, p, _, rfl, s1 _ _ hp, true, rfl, iteT ?_⟩
      exact ⟨_, rfl, b, _, _, _, rfl, rfl, SqT.of (s1 _ _ hb), atI_nat (j := 5) rfl, r, _, rfl, s1 _ _ hr', k _ s1⟩
    | loop a n z ds rs' wl =>
      obtain ⟨b, p, xs, rfl, hb, hp, _⟩ := rt_loop rp
      refine ⟨_, rfl, _, _, _, _, rfl, .tup hb, isi_same "tuple", true, rfl, iteF ?_⟩
      refine ⟨_, rfl, b, _, rfl, .inr (SqT.of hb), rfl, _, rfl, iteNS rfl ?_⟩
      refine ⟨_, rfl, b, _, _, _, rfl, rfl, SqT.of hb, atI_nat (j := 0) rfl, _, _, _, _, rfl, .str _, isi_same "str", true, rfl, iteF ?_⟩
      refine ⟨_, rfl, b, _, _, _, rfl, rfl, SqT.of hb, atI_nat (j := 0) rfl, rfl, _, rfl, ?_⟩
      refine iteD (fun _ => ?_) fun z => absurd rfl z
      refine ⟨_, rfl, _, rfl, _, rfl, b, _, rfl, SqT.of hb, (by show ¬ (HT.sIx 6 0 (some 1) = 0 ∧ HT.sIx 6 6 (some 5) = 6); decide), fun q hq => ?_⟩
      have s1 : Same H (upd H q (.tup (cutV [.str "loop", .int n, .int z, .int 0, .int (-1), .ref p] (some 1) (some 5)))) := same_new hq
      have hq1 : upd H q (.tup (cutV [.str "loop", .int n, .int z, .int 0, .int (-1), .ref p] (some 1) (some 5))) q = some (.tup (([n, z, 0, -1] : List Int).map V.int)) := upd_same
      generalize upd H q (.tup (cutV [.str "loop", .int n, .int z, .int 0, .int (-1), .ref p] (some 1) (some 5))) = H1 at s1 hq1 ⊢
      refine ⟨q, _, rfl, hq1, true, rfl, iteT ?_⟩
      exact ⟨_, rfl, b, _, _, _, rfl, rfl, SqT.of (s1 _ _ hb), atI_nat (j := 5) rfl, _, _, _, _, rfl, .tup (s1 _ _ hp), isi_same "tuple", k _ s1⟩
end
end My

set_option Elab.async false
set_option linter.all false
set_option maxRecDepth 100000
set_option maxHeartbeats 4000000
namespace My
open PySem L2
local macro_rules | `(tactic| walk_at "lk") => `(tactic| first | with_reducible exact lk0 | (refine lk1 (by decide +kernel) ?_; walk_at "lk") | rfl)
theorem pr_snoc {α β : Type} {F : α → β → Prop} : ∀ {l : List α} {x : α} {m : List β}, Paired F (l ++ [x]) m → ∃ m0 y, m = m0 ++ [y] ∧ Paired F l m0 ∧ F x y
  | [], x, _, .cons r .nil => ⟨[], _, rfl, .nil, r⟩
  | a :: l, x, _, .cons r t => by
    obtain ⟨m0, y, e, p, f⟩ := pr_snoc t
    exact ⟨_ :: m0, y, by rw [e]; rfl, .cons r p, f⟩
theorem pr_rev {α β : Type} {F : α → β → Prop} : ∀ {l : List α} {m : List β}, Paired F l m → Paired F l.reverse m.reverse
  | _, _, .nil => .nil
  | _, _, .cons r t => by
    rw [List.reverse_cons, List.reverse_cons]
    exact papp (pr_rev t) (.cons r .nil)
theorem pr_map {α β γ : Type} {F : α → β → Prop} {G : γ → β → Prop} {f : α → γ} (h : ∀ x y, F x y → G (f x) y) : ∀ {l : List α} {m : List β}, Paired F l m → Paired G (l.map f) m
  | _, _, .nil => .nil
  | _, _, .cons r t => .cons (h _ _ r) (pr_map h t)
theorem reps_snoc {H : Hp} : ∀ {ds : List PyData} {d : PyData} {vs : List V}, Reps H vs (ds ++ [d]) → ∃ vs0 v, vs = vs0 ++ [v] ∧ Reps H vs0 ds ∧ Rep H v d
  | [], d, _, .cons r .nil => ⟨[], _, rfl, .nil, r⟩
  | a :: l, d, _, .cons r t => by
    obtain ⟨m0, y, e, p, f⟩ := reps_snoc t
    exact ⟨_ :: m0, y, by rw [e]; rfl, .cons r p, f⟩
theorem NsOk.inv {m : Nat} : ∀ {ds es : List PyData}, NsOk m (ds ++ es) → NsOk m ds ∧ NsOk m es
  | [], es, h => ⟨NsOk.nil m, h⟩
  | d :: ds, es, h => by
    have h : NsOk m (d :: (ds ++ es)) := h
    obtain ⟨a, b⟩ := NsOk.inv h.tl
    exact ⟨h.hd.cons a, b⟩
theorem NsOk.rev {m : Nat} : ∀ {ds : List PyData}, NsOk m ds → NsOk m ds.reverse
  | [], h => h
  | d :: ds, h => by
    rw [List.reverse_cons]
    exact (NsOk.rev h.tl).app h.hd
/-- what waits -/
def stkP (p : Int × PyData) : PyData := .tuple [.int p.1, p.2]
theorem stk_ok {m : Nat} : ∀ {ws : List (Int × PyData)}, NsOk m (ws.map (·.2)) → NsOk (m + 1) (ws.map stkP)
  | [], _ => NsOk.nil _
  | p :: r, h => by
    have h : NsOk m (p.2 :: r.map (·.2)) := h
    have h1 := h.hd
    refine NsOk.cons ⟨?_, ?_⟩ (stk_ok h.tl)
    · have := h1.1
      simp only [PyData.canLayAll0, Bool.and_true] at this
      simp only [stkP, PyData.canLayAll0, PyData.canLay0, this, Bool.and_self, Bool.and_true]
    · have := h1.2
      simp only [PyData.depthAll] at this
      simp only [stkP, PyData.depthAll, PyData.depth]
      omega
theorem ns_shaped {m : Nat} {ds : List PyData} (h : NsOk m ds) (l : m ≤ 50) : SeqAt.shaped (.list ds) = true :=
  shaped_of (by simp only [PyData.canLay0]; exact h.1) (by have := h.2; simp only [PyData.depth]; omega)
theorem eqv_end (l : List PyData) (x : PyData) : PyData.eqv (.list (l ++ [x])) (.list []) = false := by
  cases l with
  | nil => rfl
  | cons y r => rfl
theorem wr_ne {a : Int} {d : PyData} {r : List PyData} (h : Wr a d r) : 1 ≤ r.length := by
  cases h with
  | deed => simp
  | loop => simp
theorem flat_le {α : Type} {F : α → List PyData → Prop} (hF : ∀ x r, F x r → 1 ≤ r.length) : ∀ {l : List α} {RS : List (List PyData)}, Paired F l RS → l.length ≤ RS.flatten.length
  | _, _, .nil => by simp
  | _, _, .cons r t => by
    have := flat_le hF t
    have := hF _ _ r
    rw [List.flatten_cons, List.length_append, List.length_cons]
    omega
def sp_l_written : Sp := fun vs H Q _ => ∃ (q tp : Addr) (n : Int) (ns : List V) (ds rs : List PyData), vs = [.ref q, .int (rs.length : Nat)] ∧ H q = some (.tup [.int n, .ref tp]) ∧ H tp = some (.tup ns) ∧ Reps (TH H) ns ds ∧ WrL (-1) ds rs ∧ NsOk 40 ds ∧ ns.length ≤ 1000 ∧ rs.length ≤ 1000 ∧
  ∀ (D : Addr) (ys : List V) (H' : Hp), H D = none → Same H H' → H' D = some (.lst ys) → Reps (TH H') ys rs → Q (.ref D) H'
/-- where the walk is -/
structure WI (H G : Hp) (D W : Addr) (rs : List PyData) (ys wv : List V) (ws : List (Int × PyData)) (RS : List (List PyData)) (dn : List PyData) : Prop where
  sm : Same H G
  hD : G D = some (.lst ys)
  rD : Reps (TH G) ys dn
  hW : G W = some (.lst wv)
  rW : Reps (TH G) wv (ws.map stkP)
  wr : Paired (fun (p : Int × PyData) r => Wr p.1 p.2 r) ws RS
  ok : NsOk 40 (ws.map (·.2))
  eq : dn ++ RS.reverse.flatten = rs
section
variable {P : Program} {w : World} {K : PySem.W.Frag} {mg : Str → Option Value} {base : Heap} {t : Adr}
theorem ok_l_written (T : Txt K mg t) : FnOk P w K mg base CX0 4 t.f_l_written t.d_l_written ["_law_found", "_law_most"] sp_l_written := by
  have G_l_whole := ok_l_whole (P := P) (w := w) (base := base) T
  have G_l_is_node := ok_l_is_node (P := P) (w := w) (base := base) T
  refine T.F_l_written.ok sc_l_written (fun vs H Q E h => ?_) (fun cdv A outer s H vs Q E hr h => ?_)
  · obtain ⟨q, tp, n, ns, ds, rs, rfl, _⟩ := h
    rfl
  · obtain ⟨q, tp, n, ns, ds, rs, rfl, hq, htp, rn, wl, nok, lns, lrs, k⟩ := h
    obtain ⟨RS0, pr0, er0⟩ := wrl_to wl
    have lds := rn.len
    refine ⟨_, (pss_cons (ps_if (PW.pt (pw_or (pt_not (pt_val (pe_callB call_isinst (by rfl) T.z_isinstance PyProof.Rows.boot_isinstance (pa_cons (pv 0) (pa_cons (pe_bltn (v := V.ty "tuple") rfl T.z_tuple PyProof.Rows.boot_tuple rfl) pa_nil))))) (pw_or1 (pt_cmpR op_ne (pe_callB call_len_seq (by rfl) T.z_len PySem.boot_len (pa_cons (pv 0) pa_nil)) pe_int (nomark _)))))
        (pss_one (ps_ret pe_non))
        pss_nil)
      (pss_cons (ps_if (PW.pt (pw_or (pt_not (pt_val (pe_call G_l_whole (hr.mono (by omega)) rfl T.m_l_whole T.F_l_whole.kp T.b_l_whole .nil pass0 (pa_cons (pe_ix ix_tup (pv 0) pe_int (fun _ _ => rfl)) pa_nil)))) (pw_or1 (pt_not (pt_val (pe_callB call_isinst (by rfl) T.z_isinstance PyProof.Rows.boot_isinstance (pa_cons (pe_ix ix_tup (pv 0) pe_int (fun _ _ => rfl)) (pa_cons (pe_bltn (v := V.ty "tuple") rfl T.z_tuple PyProof.Rows.boot_tuple rfl) pa_nil))))))))
        (pss_one (ps_ret pe_non))
        pss_nil)
      (pss_cons (ps_set (i := 2) sc_l_written.nd rfl (Or.inl rfl) (pe_lst pa_nil))
      (pss_cons (ps_setC (i₀ := 4) (N' := ["_law_node"]) (ix := (List.replicate 1 none)) sc_l_written.nd rfl (Or.inl rfl) rfl (clok_none rfl (by decide +kernel) (by decide +kernel)) (ixok_none rfl) (pi_rvt rfl T.z_reversed (pa_cons (pe_ix ix_tup (pv 0) pe_int (fun _ _ => rfl)) pa_nil)) (fun _ _ _ _ => (pg_name (i := 0) nd_comp_3 rfl (Or.inl rfl) (Or.inr rfl))) (fun _ _ _ _ => (pe_tup (pa_cons (pe_un un_neg pe_int) (pa_cons (pv 0) pa_nil)))))
      (pss_cons (ps_while PassesOwn.never (pt_cmpR (op_neD hr.units) (pv 4) (pe_lst pa_nil) (nomark _))
        (pss_cons (ps_asg (pe_bm0 PySem.F.plainAttrs_list PySem.F.slot_list_pop PySem.F.type_list_pop mt_pop (pv 4)) (pg_tup (n := 2) rfl (pgs_cons (pg_name (i := 5) sc_l_written.nd rfl (Or.inl rfl) (Or.inl rfl)) (pgs_cons (pg_name (i := 3) sc_l_written.nd rfl (Or.inl rfl) (Or.inl rfl)) pgs_nil))))
        (pss_cons (ps_if (PW.pt (pw_or (pt_not (pt_val (pe_call G_l_is_node (hr.mono (by omega)) rfl T.m_l_is_node T.F_l_is_node.kp T.b_l_is_node .nil pass0 (pa_cons (pv 3) pa_nil)))) (pw_or1 (pt_cmpR op_ge (pe_callB call_len_seq (by rfl) T.z_len PySem.boot_len (pa_cons (pv 2) pa_nil)) (pv 1) (nomark _)))))
          (pss_one (ps_ret pe_non))
          pss_nil)
        (pss_one (ps_if (pt_cmpR op_eq (pe_ix ix_tup (pv 3) pe_int (fun _ _ => rfl)) pe_str (nomark _))
          (pss_cons (ps_expr (pe_bm PySem.F.plainAttrs_list PySem.F.slot_list_append PySem.F.type_list_append mt_append (pv 2) (pa_cons (pe_op op_catT2 (pe_tup (pa_cons (pv 5) pa_nil)) (pe_slice sl_tup (pv 3) po_none (po_some pe_int))) pa_nil)))
          (pss_one (ps_for PassesOwn.never rfl (pi_rvt rfl T.z_reversed (pa_cons (pe_ix ix_tup (pv 3) pe_int (fun _ _ => rfl)) pa_nil)) (pg_name (i := 6) sc_l_written.nd rfl (Or.inl rfl) (Or.inl rfl))
            (pss_one (ps_expr (pe_bm PySem.F.plainAttrs_list PySem.F.slot_list_append PySem.F.type_list_append mt_append (pv 4) (pa_cons (pe_tup (pa_cons (pe_ix ix_tup (pv 3) pe_int (fun _ _ => rfl)) (pa_cons (pv 6) pa_nil))) pa_nil)))))))
          (pss_one (ps_expr (pe_bm PySem.F.plainAttrs_list PySem.F.slot_list_append PySem.F.type_list_append mt_append (pv 2) (pa_cons (pe_op op_catT2 (pe_tup (pa_cons (pv 5) pa_nil)) (pv 3)) pa_nil)))))))))
      (pss_one (ps_ret (pv 2)))))))), ?_⟩
    refine ⟨_, rfl, _, _, _, _, rfl, .tup hq, isi_same "tuple", true, rfl, iteF ?_⟩
    refine ⟨_, rfl, q, _, rfl, .inr (SqT.of hq), rfl, _, rfl, iteNS rfl ?_⟩
    refine ⟨_, rfl, q, _, _, _, rfl, rfl, SqT.of hq, atI_nat (j := 0) rfl, _, rfl, true, rfl, iteF ?_⟩
    refine ⟨_, rfl, q, _, _, _, rfl, rfl, SqT.of hq, atI_nat (j := 1) rfl, _, _, _, _, rfl, .tup htp, isi_same "tuple", true, rfl, iteF ?_⟩
    refine ⟨line_le (by simp), fun D hD => ?_⟩
    have s0 : Same H (upd H D (.lst [])) := same_new hD
    have hD0 : upd H D (.lst []) D = some (.lst []) := upd_same
    generalize upd H D (.lst []) = H0 at s0 hD0 ⊢
    refine ⟨_, rfl, q, _, _, _, rfl, rfl, SqT.of (s0 _ _ hq), atI_nat (j := 1) rfl, tp, ns, rfl, SqT.of (s0 _ _ htp), fun W hW => ?_⟩
    have W0 : H W = none := s0.free hW
    have DW : D ≠ W := ne_of_none hD0 hW
    refine comp_genQ (J := Itw K tp ns.length) (D := W) ns.length (fun i ys Hx => Same H0 Hx ∧ Hx W = some (.lst ys) ∧ Reps (TH Hx) ys ((ds.reverse.take i).map fun d => stkP (-1, d)))
      ⟨same_new hW, upd_same, .nil⟩ (fun i ys Hx hi ⟨s1, _⟩ => ⟨ns, ns[ns.length - 1 - i]'(by omega), SqT.of (s1 _ _ (s0 _ _ htp)), rfl, hi, List.getElem?_eq_getElem _⟩) (fun ys Hx _ => rfl) ?_ ?_
    · rintro i ys Hx hi ⟨s1, h1, r1⟩ x Hy ⟨rfl, hx⟩
      have hx := hx ns (SqT.of (s1 _ _ (s0 _ _ htp)))
      obtain ⟨d, hd, rx⟩ := rn.get2 hx
      have hd' : ds.reverse[i]? = some d := by rw [List.getElem?_reverse (by omega), ← lds]; exact hd
      have ly := r1.len
      rw [List.length_map, List.length_take, List.length_reverse] at ly
      refine ⟨True.intro, _, rfl, _, rfl, line_le (by simp), fun p hp => ?_⟩
      have t1 : Same Hy (upd Hy p (.tup [.int (-1), x])) := same_new hp
      have hp1 : upd Hy p (.tup [.int (-1), x]) p = some (.tup [.int (-1), x]) := upd_same
      refine ⟨t1 _ _ h1, line_lt (by omega), same_fresh (s1.trans t1) hW, upd_same, ?_⟩
      have kt : KT (upd Hy p (.tup [.int (-1), x])) (upd (upd Hy p (.tup [.int (-1), x])) W (.lst (ys ++ [.ref p]))) := KT.at (t1 _ _ h1) (by intro xs z; cases z)
      rw [List.take_add_one, hd', Option.toList_some, List.map_append]
      refine (r1.same ((th_sm t1).trans (th_kt kt))).snoc ?_
      exact .tup (th_of (kt _ _ hp1)) (.cons (.int _) (.cons (rx.same ((th_sm (s0.trans s1)).trans ((th_sm t1).trans (th_kt kt)))) .nil))
    rintro wv0 H1 ⟨s1, h1, r1⟩
    rw [lds, ← List.length_reverse, List.take_length] at r1
    have e0 : (ds.reverse.map fun d => stkP (-1, d)) = (ds.reverse.map fun d => ((-1 : Int), d)).map stkP := by rw [List.map_map]; rfl
    rw [e0] at r1
    refine ⟨fun m σ G => ∃ (o3 o5 o6 : Option V) (ys wv : List V) (ws : List (Int × PyData)) (RS : List (List PyData)) (dn : List PyData), σ = [some (.ref q), some (.int (rs.length : Nat)), some (.ref D), o3, some (.ref W), o5, o6] ∧ WI H G D W rs ys wv ws RS dn ∧ m = RS.flatten.length,
      ⟨_, none, none, none, [], wv0, ds.reverse.map fun d => ((-1 : Int), d), RS0.reverse, [], rfl, ⟨s0.trans s1, s1 _ _ hD0, .nil, h1, r1, pr_map (G := fun (p : Int × PyData) r => Wr p.1 p.2 r) (f := fun d => ((-1 : Int), d)) (fun _ _ z => z) (pr_rev pr0), ?_, ?_⟩, rfl⟩, ?_⟩
    · rw [List.map_map]
      have : ((fun (p : Int × PyData) => p.2) ∘ fun d => ((-1 : Int), d)) = id := rfl
      rw [this, List.map_id]
      exact nok.rev
    · rw [List.reverse_reverse, List.nil_append]
      exact er0
    rintro m σ G ⟨o3, o5, o6, ys, wv, ws, RS, dn, rfl, I, rfl⟩
    refine ⟨_, rfl, line_le (by simp), fun z hz => ?_⟩
    have t1 : Same G (upd G z (.lst [])) := same_new hz
    have hz1 : upd G z (.lst []) z = some (.lst []) := upd_same
    generalize upd G z (.lst []) = G1 at t1 hz1 ⊢
    have shp := ns_shaped (stk_ok I.ok) (by omega)
    refine ⟨.list (ws.map stkP), .list [], .lst (t1 _ _ I.hW) ((I.rW.same (th_sm t1)).same (th_same _)), .lst hz1 .nil, shp, rfl, _, rfl, ?_⟩
    have lys := I.rD.len
    have lwv := I.rW.len
    rw [List.length_map] at lwv
    have lfl := flat_le (fun _ _ h => wr_ne h) I.wr
    have leq := congrArg List.length I.eq
    rw [List.length_append] at leq
    have lrv : RS.reverse.flatten.length = RS.flatten.length := by
      rw [List.length_flatten, List.length_flatten, List.map_reverse, List.sum_reverse]
    rcases List.eq_nil_or_concat ws with e | ⟨ws0, p, e⟩
    · subst e
      have := I.wr
      cases this
      have ed : dn = rs := by have := I.eq; simpa using this
      refine iteF ⟨_, rfl, k D ys G1 hD (I.sm.trans t1) (t1 _ _ I.hD) ?_⟩
      rw [← ed]
      exact I.rD.same (th_sm t1)
    rw [List.concat_eq_append] at e
    subst e
    obtain ⟨a, d⟩ := p
    obtain ⟨RSa, r, rfl, pw, wr⟩ := pr_snoc I.wr
    have rW := I.rW
    rw [List.map_append] at rW
    obtain ⟨wv0', v, rfl, rW0, rv⟩ := reps_snoc (d := stkP (a, d)) rW
    have okw := I.ok
    rw [List.map_append] at okw
    obtain ⟨ok0, ok1⟩ := NsOk.inv okw
    have ok1 : NsOk 40 [d] := ok1
    have ev : PyData.eqv (.list ((ws0 ++ [(a, d)]).map stkP)) (.list []) = false := by rw [List.map_append]; exact eqv_end _ _
    rw [ev]
    refine iteT ⟨fun σ' G' => ∃ m', m' < (RSa ++ [r]).flatten.length ∧ ∃ (o3 o5 o6 : Option V) (ys wv : List V) (ws : List (Int × PyData)) (RS : List (List PyData)) (dn : List PyData), σ' = [some (.ref q), some (.int (rs.length : Nat)), some (.ref D), o3, some (.ref W), o5, o6] ∧ WI H G' D W rs ys wv ws RS dn ∧ m' = RS.flatten.length, fun σ' G' h => h, ?_⟩
    have lr := wr_ne wr
    have fl : (RSa ++ [r]).flatten.length = RSa.flatten.length + r.length := by rw [List.flatten_append, List.length_append]; simp
    -- pop
    obtain ⟨b, eb, x, hb, rd⟩ : ∃ b, v = .ref b ∧ ∃ x, G b = some (.tup [.int a, x]) ∧ Rep (TH G) x d := by
      unfold stkP at rv
      cases rv with
      | @tup b xs _ eb r =>
        cases r with
        | cons a1 r =>
          cases r with
          | cons a2 r =>
            cases r
            cases a1
            exact ⟨b, rfl, _, th_same _ _ _ eb, a2⟩
    subst eb
    refine ⟨_, rfl, .inl ⟨rfl, _, SqL.of (t1 _ _ I.hW)⟩, W, _, .ref b, rfl, rfl, t1 _ _ I.hW, (by rw [List.length_append, List.length_singleton, Nat.add_sub_cancel, List.getElem?_append_right (Nat.le_refl _), Nat.sub_self]; rfl), ?_⟩
    rw [List.dropLast_concat]
    have k1 : KB W G1 (upd G1 W (.lst wv0')) := KB.refl.upd
    have kt1 : KT G1 (upd G1 W (.lst wv0')) := KT.at (t1 _ _ I.hW) (by intro xs z; cases z)
    have hW2 : upd G1 W (.lst wv0') W = some (.lst wv0') := upd_same
    have sm2 : Same H (upd G1 W (.lst wv0')) := same_fresh (I.sm.trans t1) W0
    generalize upd G1 W (.lst wv0') = G2 at k1 kt1 hW2 sm2 ⊢
    have th2 : Same (TH G) (TH G2) := (th_sm t1).trans (th_kt kt1)
    have hD2 := k1 _ _ DW (t1 _ _ I.hD)
    have hb2 := kt1 _ _ (t1 _ _ hb)
    have rd2 := rd.same th2
    refine ⟨b, _, rfl, SqT.of hb2, rfl, _, _, rfl, _, _, rfl, rfl, ?_⟩
    refine ⟨_, rfl, x, d, a, r, rfl, rd2, wr, fun G3 s3 => ⟨true, rfl, iteF ?_⟩⟩
    have th3 : Same (TH G) (TH G3) := th2.trans (th_sm s3)
    have hD3 := s3 _ _ hD2
    have hW3 := s3 _ _ hW2
    have sm3 := sm2.trans s3
    have rd3 := rd.same th3
    refine ⟨_, rfl, D, _, rfl, .inl (SqL.of hD3), _, rfl, _, _, rfl, rfl, _, rfl, iteD (fun h => ?_) (fun _ => ?_)⟩
    · have h : (rs.length : Int) ≤ (ys.length : Int) := h
      omega
    have eq0 : dn ++ r ++ RSa.reverse.flatten = rs := by
      have := I.eq
      rw [List.reverse_append, List.reverse_singleton, List.flatten_append] at this
      rw [List.append_assoc]
      simpa using this
    have ly : ys.length < 1000 := by omega
    have lw0 : wv0'.length = ws0.length := by simpa using lwv
    have lfl' : ws0.length + 1 ≤ RSa.flatten.length + r.length := by rw [List.length_append, List.length_singleton, fl] at lfl; exact lfl
    have leq' : dn.length + (RSa.flatten.length + r.length) = rs.length := by rw [lrv, fl] at leq; exact leq
    cases wr with
    | deed _ n' kk w' c u =>
      obtain ⟨b', p', r', rfl, hb', hp', hr'⟩ := rt_deed' rd3
      refine ⟨_, rfl, b', _, _, _, rfl, rfl, SqT.of hb', atI_nat (j := 0) rfl, rfl, _, rfl, ?_⟩
      refine iteD (fun z => absurd z (by decide +kernel)) fun _ => ?_
      refine ⟨_, rfl, .inl ⟨rfl, _, SqL.of hD3⟩, _, rfl, line_le (by simp), fun u1 hu1 => ?_⟩
      have t4 : Same G3 (upd G3 u1 (.tup [.int a])) := same_new hu1
      have hu4 : upd G3 u1 (.tup [.int a]) u1 = some (.tup [.int a]) := upd_same
      generalize upd G3 u1 (.tup [.int a]) = G4 at t4 hu4 ⊢
      refine ⟨_, rfl, u1, b', _, _, rfl, rfl, SqT.of hu4, SqT.of (t4 _ _ hb'), by simp, line_le (by simp), (fun z => by cases z), fun _ p1 hp1 => ?_⟩
      have t5 : Same G4 (upd G4 p1 (.tup ([.int a] ++ [.str "deed", .int n', .int kk, .str w', .ref p', .ref r']))) := same_new hp1
      have hp5 : upd G4 p1 (.tup ([.int a] ++ [.str "deed", .int n', .int kk, .str w', .ref p', .ref r'])) p1 = some (.tup [.int a, .str "deed", .int n', .int kk, .str w', .ref p', .ref r']) := upd_same
      generalize upd G4 p1 (.tup ([.int a] ++ [.str "deed", .int n', .int kk, .str w', .ref p', .ref r'])) = G5 at t5 hp5 ⊢
      have t35 := t4.trans t5
      have hD5 := t35 _ _ hD3
      refine ⟨D, _, _, rfl, rfl, hD5, line_lt (by omega), ?_⟩
      have k6 : KB D G5 (upd G5 D (.lst (ys ++ [.ref p1]))) := KB.refl.upd
      have kt6 : KT G5 (upd G5 D (.lst (ys ++ [.ref p1]))) := KT.at hD5 (by intro xs z; cases z)
      have hD6 : upd G5 D (.lst (ys ++ [.ref p1])) D = some (.lst (ys ++ [.ref p1])) := upd_same
      have sm6 : Same H (upd G5 D (.lst (ys ++ [.ref p1]))) := same_fresh (sm3.trans t35) hD
      generalize upd G5 D (.lst (ys ++ [.ref p1])) = G6 at k6 kt6 hD6 sm6 ⊢
      have th6 : Same (TH G3) (TH G6) := (th_sm t35).trans (th_kt kt6)
      refine ⟨_, ?_, _, _, _, ys ++ [.ref p1], wv0', ws0, RSa, dn ++ [rowD a n' kk w' c u], rfl, ⟨sm6, hD6, ?_, k6 _ _ DW.symm (t35 _ _ hW3), rW0.same (th3.trans th6), pw, ok0, eq0⟩, rfl⟩
      · rw [fl]; omega
      · refine ((I.rD.same (th3.trans th6))).snoc ?_
        exact .tup (th_of (kt6 _ _ hp5)) (.cons (.int _) (.cons (.str _) (.cons (.int _) (.cons (.int _) (.cons (.str _) (.cons ((rt_ints hp').same th6) (.cons ((rt_ints hr').same th6) .nil)))))))
    | loop _ n' z' ds5 rs5 wl5 =>
      obtain ⟨b', p', xs5, rfl, hb', hp', rx5⟩ := rt_loop rd3
      obtain ⟨RS5, pr5, er5⟩ := wrl_to wl5
      have l5 := rx5.len
      have lf5 := flat_le (fun _ _ h => wr_ne h) pr5
      rw [er5] at lf5
      have lr5 : (rowL a n' z' :: rs5).length = rs5.length + 1 := rfl
      simp only [List.length_cons] at lfl' leq'
      refine ⟨_, rfl, b', _, _, _, rfl, rfl, SqT.of hb', atI_nat (j := 0) rfl, rfl, _, rfl, ?_⟩
      refine iteD (fun _ => ?_) fun z => absurd rfl z
      refine ⟨_, rfl, .inl ⟨rfl, _, SqL.of hD3⟩, _, rfl, line_le (by simp), fun u1 hu1 => ?_⟩
      have t4 : Same G3 (upd G3 u1 (.tup [.int a])) := same_new hu1
      have hu4 : upd G3 u1 (.tup [.int a]) u1 = some (.tup [.int a]) := upd_same
      generalize upd G3 u1 (.tup [.int a]) = G4 at t4 hu4 ⊢
      refine ⟨_, rfl, _, rfl, b', _, rfl, SqT.of (t4 _ _ hb'), (by show ¬ (HT.sIx 6 0 none = 0 ∧ HT.sIx 6 6 (some 5) = 6); decide), fun q5 hq5 => ?_⟩
      have t45 : Same G4 (upd G4 q5 (.tup (cutV [.str "loop", .int n', .int z', .int 0, .int (-1), .ref p'] none (some 5)))) := same_new hq5
      have hq5' : upd G4 q5 (.tup (cutV [.str "loop", .int n', .int z', .int 0, .int (-1), .ref p'] none (some 5))) q5 = some (.tup [.str "loop", .int n', .int z', .int 0, .int (-1)]) := upd_same
      generalize upd G4 q5 (.tup (cutV [.str "loop", .int n', .int z', .int 0, .int (-1), .ref p'] none (some 5))) = G4' at t45 hq5' ⊢
      refine ⟨u1, q5, _, _, rfl, rfl, SqT.of (t45 _ _ hu4), SqT.of hq5', by simp, line_le (by simp), (fun z => by cases z), fun _ p1 hp1 => ?_⟩
      have t5 : Same G4' (upd G4' p1 (.tup ([.int a] ++ [.str "loop", .int n', .int z', .int 0, .int (-1)]))) := same_new hp1
      have hp5 : upd G4' p1 (.tup ([.int a] ++ [.str "loop", .int n', .int z', .int 0, .int (-1)])) p1 = some (.tup [.int a, .str "loop", .int n', .int z', .int 0, .int (-1)]) := upd_same
      generalize upd G4' p1 (.tup ([.int a] ++ [.str "loop", .int n', .int z', .int 0, .int (-1)])) = G5 at t5 hp5 ⊢
      have t35 := t4.trans (t45.trans t5)
      have hD5 := t35 _ _ hD3
      refine ⟨D, _, _, rfl, rfl, hD5, line_lt (by omega), ?_⟩
      have k6 : KB D G5 (upd G5 D (.lst (ys ++ [.ref p1]))) := KB.refl.upd
      have kt6 : KT G5 (upd G5 D (.lst (ys ++ [.ref p1]))) := KT.at hD5 (by intro xs z; cases z)
      have hD6 : upd G5 D (.lst (ys ++ [.ref p1])) D = some (.lst (ys ++ [.ref p1])) := upd_same
      have sm6 : Same H (upd G5 D (.lst (ys ++ [.ref p1]))) := same_fresh (sm3.trans t35) hD
      generalize upd G5 D (.lst (ys ++ [.ref p1])) = G6 at k6 kt6 hD6 sm6 ⊢
      have kt36 : KT G3 G6 := (KT.same t35).trans kt6
      have th6 : Same (TH G3) (TH G6) := th_kt kt36
      have hW6 := k6 _ _ DW.symm (t35 _ _ hW3)
      have hb6 := kt36 _ _ hb'
      have hx6 := kt36 _ _ hp'
      have rD6 : Reps (TH G6) (ys ++ [.ref p1]) (dn ++ [rowL a n' z']) := ((I.rD.same (th3.trans th6))).snoc (.tup (th_of (kt6 _ _ hp5)) (.cons (.int _) (.cons (.str _) (.cons (.int _) (.cons (.int _) (.cons (.int _) (.cons (.int _) .nil)))))))
      refine ⟨_, rfl, b', _, _, _, rfl, rfl, SqT.of hb6, atI_nat (j := 5) rfl, p', xs5, rfl, SqT.of hx6, ?_⟩
      refine for_rvt (K := K) (a := p') (xs := xs5) (fun i σ X => ∃ (o6 : Option V) (wv : List V), σ = [some (.ref q), some (.int (rs.length : Nat)), some (.ref D), some (.ref b'), some (.ref W), some (.int a), o6] ∧ Same H X ∧ KT G6 X ∧ X D = some (.lst (ys ++ [.ref p1])) ∧ X W = some (.lst wv) ∧ wv.length = wv0'.length + i ∧ Reps (TH X) wv ((ws0 ++ (ds5.reverse.take i).map fun d => (n', d)).map stkP))
        ⟨_, wv0', rfl, sm6, fun _ _ e => e, hD6, hW6, rfl, (by rw [List.take_zero, List.map_nil, List.append_nil]; exact rW0.same (th3.trans th6))⟩ (fun i σ X ⟨_, _, _, _, kx, _⟩ => SqT.of (kx _ _ hx6)) ?_ ?_
      · rintro i y σ X hi hy ⟨o6', wv, rfl, sx, kx, hDx, hWx, lw, rx⟩
        obtain ⟨d5, hd5, ry⟩ := rx5.get2 hy
        have hd5' : ds5.reverse[i]? = some d5 := by rw [List.getElem?_reverse (by omega), ← l5]; exact hd5
        refine ⟨_, rfl, .inl ⟨rfl, _, SqL.of hWx⟩, _, rfl, b', _, _, _, rfl, rfl, SqT.of (kx _ _ hb6), atI_nat (j := 1) rfl, _, rfl, line_le (by simp), fun u2 hu2 => ?_⟩
        have v1 : Same X (upd X u2 (.tup [.int n', y])) := same_new hu2
        have hu3 : upd X u2 (.tup [.int n', y]) u2 = some (.tup [.int n', y]) := upd_same
        generalize upd X u2 (.tup [.int n', y]) = X1 at v1 hu3 ⊢
        refine ⟨W, _, _, rfl, rfl, v1 _ _ hWx, line_lt (by omega), ?_⟩
        have kt7 : KT X1 (upd X1 W (.lst (wv ++ [.ref u2]))) := KT.at (v1 _ _ hWx) (by intro xs z; cases z)
        have thx : Same (TH X) (TH (upd X1 W (.lst (wv ++ [.ref u2])))) := (th_sm v1).trans (th_kt kt7)
        refine ⟨_, wv ++ [.ref u2], rfl, same_fresh (sx.trans v1) W0, (kx.trans (KT.same v1)).trans kt7, by rw [upd_ne DW]; exact v1 _ _ hDx, upd_same, by rw [List.length_append, List.length_singleton]; omega, ?_⟩
        have e6 : (ws0 ++ (ds5.reverse.take (i + 1)).map fun d => (n', d)).map stkP = ((ws0 ++ (ds5.reverse.take i).map fun d => (n', d)).map stkP) ++ [stkP (n', d5)] := by
          rw [List.take_add_one, hd5']
          simp
        rw [e6]
        refine (rx.same thx).snoc ?_
        exact .tup (th_of (kt7 _ _ hu3)) (.cons (.int _) (.cons (ry.same ((th6.trans (th_kt kx)).trans thx)) .nil))
      · rintro σ X ⟨o6', wv, rfl, sx, kx, hDx, hWx, lw, rx⟩
        rw [l5, ← List.length_reverse, List.take_length] at rx
        refine ⟨_, ?_, _, _, _, ys ++ [.ref p1], wv, ws0 ++ ds5.reverse.map fun d => (n', d), RSa ++ RS5.reverse, dn ++ [rowL a n' z'], rfl, ⟨sx, hDx, rD6.same (th_kt kx), hWx, rx, papp pw (pr_map (G := fun (p : Int × PyData) r => Wr p.1 p.2 r) (f := fun d => (n', d)) (fun _ _ z => z) (pr_rev pr5)), ?_, ?_⟩, rfl⟩
        · have e5 : RS5.reverse.flatten.length = RS5.flatten.length := by
            rw [List.length_flatten, List.length_flatten, List.map_reverse, List.sum_reverse]
          rw [fl, List.flatten_append, List.length_append, e5, er5, lr5]
          omega
        · rw [List.map_append, List.map_map]
          have : ((fun (p : Int × PyData) => p.2) ∘ fun d => (n', d)) = id := rfl
          rw [this, List.map_id]
          exact ok0.app (nsok_in ok1).rev
        · rw [List.reverse_append, List.reverse_reverse, List.flatten_append, er5, ← eq0]
          simp
end
end My

set_option Elab.async false
set_option linter.all false
set_option maxRecDepth 100000
set_option maxHeartbeats 4000000
namespace My
open PySem L2
local macro_rules | `(tactic| walk_at "lk") => `(tactic| first | with_reducible exact lk0 | (refine lk1 (by decide +kernel) ?_; walk_at "lk") | rfl)
def sp_l_due_of : Sp := fun vs H Q _ => ∃ (rl ld : Addr) (xs : List V) (rows : List Rw) (lk : List (Key × V)) (M : List Addr), vs = [.ref rl, .ref ld] ∧ H rl = some (.lst xs) ∧ RowsAt M H xs rows ∧ Tot lk rows ∧ rows.length ≤ 26 ∧ H ld = some (.dK lk) ∧
  ∀ (D : Addr) (ys : List V) (H' : Hp), H D = none → Same H H' → H' D = some (.lst ys) → Reps (TH H') ys (dueM rows rows.length) → Q (.ref D) H'
/-- loops laid so far: D what is due, C the numbers -/
structure LP (H G : Hp) (D C : Addr) (ys : List V) (base : List PyData) (a fr : Int) (zs : List Int) (j : Nat) : Prop where
  sm : Same H G
  hD : G D = some (.lst ys)
  rD : Reps (TH G) ys (base ++ loopsR a (nums fr j) (zs.take j))
  hC : G C = some (.lst ((nums fr j).map V.int))
theorem LP.len {H G : Hp} {D C : Addr} {ys : List V} {base : List PyData} {a fr : Int} {zs : List Int} {j : Nat} (h : LP H G D C ys base a fr zs j) (hj : j ≤ zs.length) : ys.length = base.length + j := by
  have := h.rD.len
  rw [List.length_append, loopsR_len (by rw [nums_len, List.length_take]; omega), nums_len] at this
  exact this
theorem LP.step {H G G1 G2 G3 : Hp} {D C p : Addr} {ys : List V} {base : List PyData} {a fr z : Int} {zs : List Int} {j : Nat} (h : LP H G D C ys base a fr zs j) (hD0 : H D = none) (hC0 : H C = none) (hDC : D ≠ C) (hz : zs[j]? = some z) (hfr : (base.length : Int) = fr) (hp : G p = none)
    (e1 : G1 = upd G p (.tup [.int (lastD a (nums fr j)), .str "loop", .int (ys.length : Nat), .int z, .int 0, .int (-1)])) (e2 : G2 = upd G1 D (.lst (ys ++ [.ref p]))) (e3 : G3 = upd G2 C (.lst ((nums fr j).map V.int ++ [.int (((ys ++ [V.ref p]).length : Nat) - 1)]))) :
    LP H G3 D C (ys ++ [.ref p]) base a fr zs (j + 1) ∧ lastD a (nums fr (j + 1)) = (((ys ++ [V.ref p]).length : Nat) : Int) - 1 := by
  have hj : j < zs.length := (List.getElem?_eq_some_iff.mp hz).1
  have ly := h.len (by omega)
  have en : (((ys ++ [V.ref p]).length : Nat) : Int) - 1 = fr + j := by rw [List.length_append, List.length_singleton]; omega
  have t1 : Same G G1 := by rw [e1]; exact same_new hp
  have hp1 : G1 p = some (.tup [.int (lastD a (nums fr j)), .str "loop", .int (ys.length : Nat), .int z, .int 0, .int (-1)]) := by rw [e1]; exact upd_same
  have hD1 := t1 _ _ h.hD
  have hC1 := t1 _ _ h.hC
  have kt2 : KT G1 G2 := by rw [e2]; exact KT.at hD1 (by intro xs z; cases z)
  have hC2 : G2 C = some (.lst ((nums fr j).map V.int)) := by rw [e2, upd_ne hDC.symm]; exact hC1
  have kt3 : KT G2 G3 := by rw [e3]; exact KT.at hC2 (by intro xs z; cases z)
  have s2 : Same H G2 := by rw [e2]; exact same_fresh (h.sm.trans t1) hD0
  have s3 : Same H G3 := by rw [e3]; exact same_fresh s2 hC0
  refine ⟨⟨s3, ?_, ?_, ?_⟩, ?_⟩
  · rw [e3, upd_ne hDC, e2, upd_same]
  · rw [nums_succ, List.take_add_one, hz, Option.toList_some, loopsR_snoc (by rw [nums_len, List.length_take]; omega), ← List.append_assoc]
    refine (h.rD.same ((th_sm t1).trans ((th_kt kt2).trans (th_kt kt3)))).snoc ?_
    have e : fr + (j : Int) = (ys.length : Nat) := by omega
    rw [e]
    exact .tup (th_of (kt3 _ _ (kt2 _ _ hp1))) (.cons (.int _) (.cons (.str _) (.cons (.int _) (.cons (.int _) (.cons (.int _) (.cons (.int _) .nil))))))
  · rw [e3, upd_same, nums_succ, List.map_append, en]
    rfl
  · rw [nums_succ, lastD_snoc, en]
section
variable {P : Program} {w : World} {K : PySem.W.Frag} {mg : Str → Option Value} {base : Heap} {t : Adr}
theorem ok_l_due_of (T : Txt K mg t) : FnOk P w K mg base CX0 1 t.f_l_due_of t.d_l_due_of ["_law_rows", "_law_lengths"] sp_l_due_of := by
  refine T.F_l_due_of.ok sc_l_due_of (fun vs H Q E h => ?_) (fun cdv A outer s H vs Q E hr h => ?_)
  · obtain ⟨rl, ld, xs, rows, lk, M, rfl, _⟩ := h
    rfl
  · obtain ⟨rl, ld, xs, rows, lk, M, rfl, hrl, rw0, tot, few, hld, k⟩ := h
    have hu := hu_of hr
    have lxs := Paired.length rw0
    have dl := due_len fun e he => (tot e he).1
    refine ⟨_, (pss_cons (ps_set (i := 2) sc_l_due_of.nd rfl (Or.inl rfl) (pe_lst pa_nil))
      (pss_cons (ps_for PassesOwn.never rfl (pi_range1 rfl T.z_range (pa_cons (pe_callB call_len_seq (by rfl) T.z_len PySem.boot_len (pa_cons (pv 0) pa_nil)) pa_nil)) (pg_name (i := 3) sc_l_due_of.nd rfl (Or.inl rfl) (Or.inl rfl))
        (pss_cons (ps_asg (pe_ix ix_list (pv 0) (pv 3) (fun _ _ => rfl)) (pg_tup (n := 2) rfl (pgs_cons (pg_name (i := 4) sc_l_due_of.nd rfl (Or.inl rfl) (Or.inl rfl)) (pgs_cons (pg_name (i := 5) sc_l_due_of.nd rfl (Or.inl rfl) (Or.inl rfl)) pgs_nil))))
        (pss_cons (ps_set (i := 6) sc_l_due_of.nd rfl (Or.inl rfl) (pe_un un_neg pe_int))
        (pss_cons (ps_set (i := 7) sc_l_due_of.nd rfl (Or.inl rfl) (pe_lst pa_nil))
        (pss_cons (ps_for PassesOwn.never rfl (pi_list (pv 4)) (pg_name (i := 8) sc_l_due_of.nd rfl (Or.inl rfl) (Or.inl rfl))
          (pss_cons (ps_expr (pe_bm PySem.F.plainAttrs_list PySem.F.slot_list_append PySem.F.type_list_append mt_append (pv 2) (pa_cons (pe_tup (pa_cons (pv 6) (pa_cons pe_str (pa_cons (pe_callB call_len_seq (by rfl) T.z_len PySem.boot_len (pa_cons (pv 2) pa_nil)) (pa_cons (pe_dget hu (pv 1) (pv 8) (fun _ _ => rfl)) (pa_cons pe_int (pa_cons (pe_un un_neg pe_int) pa_nil))))))) pa_nil)))
          (pss_cons (ps_set (i := 6) sc_l_due_of.nd rfl (Or.inl rfl) (pe_op op_sub (pe_callB call_len_seq (by rfl) T.z_len PySem.boot_len (pa_cons (pv 2) pa_nil)) pe_int))
          (pss_one (ps_expr (pe_bm PySem.F.plainAttrs_list PySem.F.slot_list_append PySem.F.type_list_append mt_append (pv 7) (pa_cons (pv 6) pa_nil)))))))
        (pss_cons (ps_set (i := 9) sc_l_due_of.nd rfl (Or.inl rfl) pe_str)
        (pss_cut (ps_if (pt_cmpR (op_neD hr.units) (pv 5) (pe_lst pa_nil) (nomark _))
          (pss_one (ps_set (i := 9) sc_l_due_of.nd rfl (Or.inl rfl) pe_str))
          pss_nil)
        (pss_cons (ps_expr (pe_bm PySem.F.plainAttrs_list PySem.F.slot_list_append PySem.F.type_list_append mt_append (pv 2) (pa_cons (pe_tup (pa_cons (pv 6) (pa_cons pe_str (pa_cons (pe_callB call_len_seq (by rfl) T.z_len PySem.boot_len (pa_cons (pv 2) pa_nil)) (pa_cons (pv 3) (pa_cons (pv 9) (pa_cons (pe_callTy call_tuple_of (by rfl) T.z_tuple PyProof.Rows.boot_tuple (pa_cons (pv 7) pa_nil)) (pa_cons (pe_tup pa_nil) pa_nil)))))))) pa_nil)))
        (pss_cons (ps_set (i := 10) sc_l_due_of.nd rfl (Or.inl rfl) (pe_lst pa_nil))
        (pss_cons (ps_for PassesOwn.never rfl (pi_list (pv 5)) (pg_name (i := 8) sc_l_due_of.nd rfl (Or.inl rfl) (Or.inl rfl))
          (pss_cons (ps_expr (pe_bm PySem.F.plainAttrs_list PySem.F.slot_list_append PySem.F.type_list_append mt_append (pv 2) (pa_cons (pe_tup (pa_cons (pv 6) (pa_cons pe_str (pa_cons (pe_callB call_len_seq (by rfl) T.z_len PySem.boot_len (pa_cons (pv 2) pa_nil)) (pa_cons (pe_dget hu (pv 1) (pv 8) (fun _ _ => rfl)) (pa_cons pe_int (pa_cons (pe_un un_neg pe_int) pa_nil))))))) pa_nil)))
          (pss_cons (ps_set (i := 6) sc_l_due_of.nd rfl (Or.inl rfl) (pe_op op_sub (pe_callB call_len_seq (by rfl) T.z_len PySem.boot_len (pa_cons (pv 2) pa_nil)) pe_int))
          (pss_one (ps_expr (pe_bm PySem.F.plainAttrs_list PySem.F.slot_list_append PySem.F.type_list_append mt_append (pv 10) (pa_cons (pv 6) pa_nil)))))))
        (pss_one (ps_if (pt_cmpR (op_neD hr.units) (pv 5) (pe_lst pa_nil) (nomark _))
          (pss_one (ps_expr (pe_bm PySem.F.plainAttrs_list PySem.F.slot_list_append PySem.F.type_list_append mt_append (pv 2) (pa_cons (pe_tup (pa_cons (pv 6) (pa_cons pe_str (pa_cons (pe_callB call_len_seq (by rfl) T.z_len PySem.boot_len (pa_cons (pv 2) pa_nil)) (pa_cons (pv 3) (pa_cons pe_str (pa_cons (pe_callTy call_tuple_of (by rfl) T.z_tuple PyProof.Rows.boot_tuple (pa_cons (pv 7) pa_nil)) (pa_cons (pe_callTy call_tuple_of (by rfl) T.z_tuple PyProof.Rows.boot_tuple (pa_cons (pv 10) pa_nil)) pa_nil)))))))) pa_nil))))
          pss_nil))))))))))))
      (pss_one (ps_ret (pv 2))))), ?_⟩
    refine ⟨line_le (by simp), fun D hD => ?_⟩
    have s0 : Same H (upd H D (.lst [])) := same_new hD
    refine ⟨_, rfl, rl, _, rfl, .inl (SqL.of (s0 _ _ hrl)), _, rfl, by omega, by omega, ?_⟩
    refine for_range (n := xs.length) (fun i σ G => ∃ (o3 o4 o5 o6 o7 o8 o9 o10 : Option V) (ys : List V), σ = [some (.ref rl), some (.ref ld), some (.ref D), o3, o4, o5, o6, o7, o8, o9, o10] ∧ Same H G ∧ G D = some (.lst ys) ∧ Reps (TH G) ys (dueM rows i))
      ⟨none, none, none, none, none, none, none, none, [], rfl, s0, upd_same, .nil⟩ ?_ ?_
    · rintro i σ G hi ⟨o3, o4, o5, o6, o7, o8, o9, o10, ys, rfl, s1, hD1, r1⟩
      have hxi : xs[i]? = some xs[i] := List.getElem?_eq_getElem hi
      obtain ⟨e, he, b, O, S, eb, hb, _, hO, _, hS⟩ := pget rw0 hxi
      obtain ⟨ok, szo, szs, oko, oks⟩ := tot e (List.mem_of_getElem? he)
      have l1 := ok.lo
      have l2 := ok.ls
      have l3 := ok.pl
      have dli := dl i
      have lys := r1.len
      have ei : atI xs (0 + (i : Int)) = some (.ref b) := by rw [Int.zero_add]; exact atI_nat (by rw [hxi, eb])
      refine ⟨_, rfl, _, rfl, rl, _, _, _, rfl, rfl, SqL.of (s1 _ _ hrl), ei, b, _, rfl, SqT.of (s1 _ _ hb), rfl, _, _, rfl, _, _, rfl, rfl, ?_⟩
      refine ⟨_, rfl, line_le (by simp), fun C hC => ?_⟩
      have t1 : Same G (upd G C (.lst [])) := same_new hC
      have hC1 : upd G C (.lst []) C = some (.lst []) := upd_same
      have C0 : H C = none := s1.free hC
      have DC : D ≠ C := ne_of_none hD1 hC
      generalize upd G C (.lst []) = G1 at t1 hC1 ⊢
      have s2 := s1.trans t1
      have fr0 : ((dueM rows i).length : Int) = ((dueM rows i).length : Int) := rfl
      refine ⟨_, rfl, O, rfl, ⟨_, SqL.of (s2 _ _ hO)⟩, ?_⟩
      refine for_list (K := K) (a := O) (xs := e.own.map V.str) (fun j σ X => ∃ (o8 : Option V) (ys : List V), σ = [some (.ref rl), some (.ref ld), some (.ref D), some (.int (0 + (i : Int))), some (.ref O), some (.ref S), some (.int (lastD (-1) (nums (dueM rows i).length j))), some (.ref C), o8, o9, o10] ∧ LP H X D C ys (dueM rows i) (-1) (dueM rows i).length e.so j)
        ⟨_, ys, rfl, ⟨s2, t1 _ _ hD1, (by
          show Reps (TH G1) ys (dueM rows i ++ loopsR (-1) [] (e.so.take 0))
          rw [List.take_zero]
          show Reps (TH G1) ys (dueM rows i ++ [])
          rw [List.append_nil]
          exact r1.same (th_sm t1)), hC1⟩⟩ (fun j σ X _ ⟨_, _, _, I⟩ => SqL.of (I.sm _ _ hO)) ?_ ?_
      · rintro j x σ X hx ⟨o8', ys', rfl, I⟩
        obtain ⟨y, hy, rfl⟩ := get_map hx
        obtain ⟨z, hz, ev⟩ := pget szo hy
        have hj : j < e.so.length := (List.getElem?_eq_some_iff.mp hz).1
        have ly := I.len (by omega)
        have g := DGet.k (H := X) (a := ld) (k := Sum.inr y) (I.sm _ _ hld)
        rw [ev] at g
        refine ⟨_, rfl, .inl ⟨rfl, _, SqL.of I.hD⟩, _, rfl, _, rfl, D, _, rfl, .inl (SqL.of I.hD), _, rfl, _, rfl, ld, _, rfl, g, _, rfl, line_le (by simp), fun p hp => ?_⟩
        have t2 := same_new (o := .tup [.int (lastD (-1) (nums (dueM rows i).length j)), .str "loop", .int (ys'.length : Nat), .int z, .int 0, .int (-1)]) hp
        refine ⟨D, _, _, rfl, rfl, t2 _ _ I.hD, line_lt (by omega), ?_⟩
        refine ⟨_, rfl, D, _, rfl, .inl (SqL.of upd_same), _, _, rfl, rfl, ?_⟩
        refine ⟨_, rfl, .inl ⟨rfl, _, SqL.of (by rw [upd_ne DC.symm]; exact t2 _ _ I.hC)⟩, _, rfl, C, _, _, rfl, rfl, (by rw [upd_ne DC.symm]; exact t2 _ _ I.hC), line_lt (by rw [List.length_map, nums_len]; omega), ?_⟩
        obtain ⟨I2, el⟩ := I.step hD C0 DC hz rfl hp rfl rfl rfl
        refine ⟨some (.str y), ys' ++ [.ref p], ?_, I2⟩
        rw [el]
        rfl
      rintro σ X ⟨o8', ys', rfl, I⟩
      rw [List.length_map, l1] at I
      rw [List.length_map, l1]
      have ly := I.len (Nat.le_refl _)
      have rD := I.rD
      rw [List.take_length] at rD
      -- the word
      refine ⟨fun σ' Y => ∃ (wd : Str), σ' = [some (.ref rl), some (.ref ld), some (.ref D), some (.int (0 + (i : Int))), some (.ref O), some (.ref S), some (.int (lastD (-1) (nums (dueM rows i).length e.so.length))), some (.ref C), o8', some (.str wd), o10] ∧ wd = (if e.ss = [] then ("set" : Str) else "start") ∧ Same X Y, ?_, ?_⟩
      · refine ⟨_, rfl, line_le (by simp), fun z hz => ?_⟩
        have u1 : Same X (upd X z (.lst [])) := same_new hz
        have hz1 : upd X z (.lst []) z = some (.lst (([] : List Str).map V.str)) := upd_same
        generalize upd X z (.lst []) = X1 at u1 hz1 ⊢
        refine ⟨encS e.sums, encS [], S_rep (u1 _ _ (I.sm _ _ hS)), S_rep hz1, shaped_of (encS_lay oks) (by have := (encS_ok e.sums).1; omega), rfl, _, rfl, ?_⟩
        rw [eqv_nil]
        refine iteND (fun hne => ?_) (fun hs => ?_)
        · have hss : e.ss ≠ [] := fun z => hne (List.length_eq_zero_iff.mp (by rw [l2, z]; rfl))
          exact ⟨_, rfl, by rw [if_neg hss], u1⟩
        · have hss : e.ss = [] := List.length_eq_zero_iff.mp (by rw [← l2, hs]; rfl)
          exact ⟨_, rfl, by rw [if_pos hss], u1⟩
      rintro σ' Y ⟨wd, rfl, ewd, u1⟩
      have hDY := u1 _ _ I.hD
      have hCY := u1 _ _ I.hC
      have smY := I.sm.trans u1
      -- the first deed
      refine ⟨_, rfl, .inl ⟨rfl, _, SqL.of hDY⟩, _, rfl, _, rfl, D, _, rfl, .inl (SqL.of hDY), _, rfl, _, rfl, _, rfl, C, _, rfl, .inl ⟨SqL.of hCY, fun ct hct => ⟨line_le (by simp), fun q0 hq0 => ⟨line_le (by simp), fun p hp => ?_⟩⟩⟩⟩
      have v1 : Same Y (upd Y ct (.tup ((nums (dueM rows i).length e.so.length).map V.int))) := same_new hct
      have hct1 : upd Y ct (.tup ((nums (dueM rows i).length e.so.length).map V.int)) ct = some (.tup ((nums (dueM rows i).length e.so.length).map V.int)) := upd_same
      generalize upd Y ct (.tup ((nums (dueM rows i).length e.so.length).map V.int)) = Y1 at v1 hct1 hq0 hp ⊢
      have v2 : Same Y1 (upd Y1 q0 (.tup [])) := same_new hq0
      have hq1 : upd Y1 q0 (.tup []) q0 = some (.tup (([] : List Int).map V.int)) := upd_same
      generalize upd Y1 q0 (.tup []) = Y2 at v2 hq1 hp ⊢
      have v3 : Same Y2 (upd Y2 p (.tup [.int (lastD (-1) (nums (dueM rows i).length e.so.length)), .str "deed", .int (ys'.length : Nat), .int (0 + (i : Int)), .str wd, .ref ct, .ref q0])) := same_new hp
      have hp1 : upd Y2 p (.tup [.int (lastD (-1) (nums (dueM rows i).length e.so.length)), .str "deed", .int (ys'.length : Nat), .int (0 + (i : Int)), .str wd, .ref ct, .ref q0]) p = some (.tup [.int (lastD (-1) (nums (dueM rows i).length e.so.length)), .str "deed", .int (ys'.length : Nat), .int (0 + (i : Int)), .str wd, .ref ct, .ref q0]) := upd_same
      generalize upd Y2 p (.tup [.int (lastD (-1) (nums (dueM rows i).length e.so.length)), .str "deed", .int (ys'.length : Nat), .int (0 + (i : Int)), .str wd, .ref ct, .ref q0]) = Y3 at v3 hp1 ⊢
      have v13 := v1.trans (v2.trans v3)
      have hD3 := v13 _ _ hDY
      refine ⟨D, _, _, rfl, rfl, hD3, line_lt (by omega), ?_⟩
      have k4 : KB D Y3 (upd Y3 D (.lst (ys' ++ [.ref p]))) := KB.refl.upd
      have kt4 : KT Y3 (upd Y3 D (.lst (ys' ++ [.ref p]))) := KT.at hD3 (by intro xs z; cases z)
      have hD4 : upd Y3 D (.lst (ys' ++ [.ref p])) D = some (.lst (ys' ++ [.ref p])) := upd_same
      have sm4 : Same H (upd Y3 D (.lst (ys' ++ [.ref p]))) := same_fresh (smY.trans v13) hD
      generalize upd Y3 D (.lst (ys' ++ [.ref p])) = Y4 at k4 kt4 hD4 sm4 ⊢
      have hC4 := k4 _ _ DC.symm (v13 _ _ hCY)
      have ktX : KT X Y4 := (KT.same (u1.trans v13)).trans kt4
      have r4 : Reps (TH Y4) (ys' ++ [.ref p]) (dueM rows i ++ loopsR (-1) (nums (dueM rows i).length e.so.length) e.so ++ [rowD (lastD (-1) (nums (dueM rows i).length e.so.length)) ((dueM rows i).length + e.so.length) i wd (nums (dueM rows i).length e.so.length) []]) := by
        refine (rD.same (th_kt ktX)).snoc ?_
        have e1 : ((dueM rows i).length : Int) + e.so.length = (ys'.length : Nat) := by omega
        rw [e1, Int.zero_add] at *
        exact .tup (th_of (kt4 _ _ hp1)) (.cons (.int _) (.cons (.str _) (.cons (.int _) (.cons (.int _) (.cons (.str _) (.cons ((rt_ints ((v2.trans v3) _ _ hct1)).same (th_kt kt4)) (.cons ((rt_ints (c := []) (v3 _ _ hq1)).same (th_kt kt4)) .nil)))))))
      obtain ⟨L, eL⟩ : ∃ L, L = lastD (-1) (nums (dueM rows i).length e.so.length) := ⟨_, rfl⟩
      rw [← eL] at r4 ⊢
      obtain ⟨B2, eB⟩ : ∃ B2, B2 = dueM rows i ++ loopsR (-1) (nums (dueM rows i).length e.so.length) e.so ++ [rowD L ((dueM rows i).length + e.so.length) i wd (nums (dueM rows i).length e.so.length) []] := ⟨_, rfl⟩
      rw [← eB] at r4
      have lB : (B2.length : Int) = ((dueM rows i).length : Int) + e.so.length + 1 := by
        rw [eB, List.length_append, List.length_append, loopsR_len (nums_len _ _), nums_len, List.length_singleton]
        omega
      obtain ⟨f2, ef2⟩ : ∃ f2, f2 = ((dueM rows i).length : Int) + e.so.length + 1 := ⟨_, rfl⟩
      rw [← ef2] at lB
      -- the turns
      refine ⟨line_le (by simp), fun U hU => ?_⟩
      have v5 : Same Y4 (upd Y4 U (.lst [])) := same_new hU
      have hU5 : upd Y4 U (.lst []) U = some (.lst []) := upd_same
      have U0 : H U = none := sm4.free hU
      have DU : D ≠ U := ne_of_none hD4 hU
      have CU : C ≠ U := ne_of_none hC4 hU
      generalize upd Y4 U (.lst []) = Y5 at v5 hU5 ⊢
      refine ⟨_, rfl, S, rfl, ⟨_, SqL.of ((sm4.trans v5) _ _ hS)⟩, ?_⟩
      refine for_list (K := K) (a := S) (xs := e.sums.map V.str) (fun j σ X => ∃ (o8 : Option V) (ys : List V), σ = [some (.ref rl), some (.ref ld), some (.ref D), some (.int (0 + (i : Int))), some (.ref O), some (.ref S), some (.int (lastD L (nums f2 j))), some (.ref C), o8, some (.str wd), some (.ref U)] ∧ LP H X D U ys B2 L f2 e.ss j ∧ X C = some (.lst ((nums (dueM rows i).length e.so.length).map V.int)))
        ⟨_, ys' ++ [.ref p], rfl, ⟨sm4.trans v5, v5 _ _ hD4, (by
          show Reps (TH Y5) _ (B2 ++ loopsR L [] (e.ss.take 0))
          rw [List.take_zero]
          show Reps (TH Y5) _ (B2 ++ [])
          rw [List.append_nil]
          exact r4.same (th_sm v5)), hU5⟩, v5 _ _ hC4⟩ (fun j σ X _ ⟨_, _, _, I, _⟩ => SqL.of (I.sm _ _ hS)) ?_ ?_
      · rintro j x σ X hx ⟨o8'', ys2, rfl, I, hCX⟩
        obtain ⟨y, hy, rfl⟩ := get_map hx
        obtain ⟨z, hz, ev⟩ := pget szs hy
        have hj : j < e.ss.length := (List.getElem?_eq_some_iff.mp hz).1
        have ly := I.len (by omega)
        have g := DGet.k (H := X) (a := ld) (k := Sum.inr y) (I.sm _ _ hld)
        rw [ev] at g
        refine ⟨_, rfl, .inl ⟨rfl, _, SqL.of I.hD⟩, _, rfl, _, rfl, D, _, rfl, .inl (SqL.of I.hD), _, rfl, _, rfl, ld, _, rfl, g, _, rfl, line_le (by simp), fun p hp => ?_⟩
        have t2 := same_new (o := .tup [.int (lastD L (nums f2 j)), .str "loop", .int (ys2.length : Nat), .int z, .int 0, .int (-1)]) hp
        refine ⟨D, _, _, rfl, rfl, t2 _ _ I.hD, line_lt (by omega), ?_⟩
        refine ⟨_, rfl, D, _, rfl, .inl (SqL.of upd_same), _, _, rfl, rfl, ?_⟩
        refine ⟨_, rfl, .inl ⟨rfl, _, SqL.of (by rw [upd_ne DU.symm]; exact t2 _ _ I.hC)⟩, _, rfl, U, _, _, rfl, rfl, (by rw [upd_ne DU.symm]; exact t2 _ _ I.hC), line_lt (by rw [List.length_map, nums_len]; omega), ?_⟩
        obtain ⟨I2, el⟩ := I.step hD U0 DU hz lB hp rfl rfl rfl
        refine ⟨some (.str y), ys2 ++ [.ref p], ?_, I2, ?_⟩
        · rw [el]
          rfl
        · rw [upd_ne CU, upd_ne DC.symm]
          exact t2 _ _ hCX
      rintro σ Z ⟨o8'', ys2, rfl, J, hCZ⟩
      rw [List.length_map, l2] at J
      rw [List.length_map, l2]
      have ly2 := J.len (Nat.le_refl _)
      have rZ := J.rD
      rw [List.take_length] at rZ
      refine ⟨_, rfl, line_le (by simp), fun z hz => ?_⟩
      have u2 : Same Z (upd Z z (.lst [])) := same_new hz
      have hz2 : upd Z z (.lst []) z = some (.lst (([] : List Str).map V.str)) := upd_same
      generalize upd Z z (.lst []) = Z1 at u2 hz2 ⊢
      refine ⟨encS e.sums, encS [], S_rep (u2 _ _ (J.sm _ _ hS)), S_rep hz2, shaped_of (encS_lay oks) (by have := (encS_ok e.sums).1; omega), rfl, _, rfl, ?_⟩
      rw [eqv_nil]
      have smZ := J.sm.trans u2
      have hDZ := u2 _ _ J.hD
      refine iteND (fun hne => ?_) (fun hs => ?_)
      · have hss : e.ss ≠ [] := fun z => hne (List.length_eq_zero_iff.mp (by rw [l2, z]; rfl))
        rw [if_neg hss] at ewd
        refine ⟨_, rfl, .inl ⟨rfl, _, SqL.of hDZ⟩, _, rfl, _, rfl, D, _, rfl, .inl (SqL.of hDZ), _, rfl, _, rfl, C, _, rfl, .inl ⟨SqL.of (u2 _ _ hCZ), fun ct' hct' => ?_⟩⟩
        have w1 : Same Z1 (upd Z1 ct' (.tup ((nums (dueM rows i).length e.so.length).map V.int))) := same_new hct'
        have hct2 : upd Z1 ct' (.tup ((nums (dueM rows i).length e.so.length).map V.int)) ct' = some (.tup ((nums (dueM rows i).length e.so.length).map V.int)) := upd_same
        generalize upd Z1 ct' (.tup ((nums (dueM rows i).length e.so.length).map V.int)) = Z2 at w1 hct2 ⊢
        refine ⟨_, rfl, U, _, rfl, .inl ⟨SqL.of (w1 _ _ (u2 _ _ J.hC)), fun tt htt => ⟨line_le (by simp), fun pa hpa => ?_⟩⟩⟩
        have w2 : Same Z2 (upd Z2 tt (.tup ((nums f2 e.ss.length).map V.int))) := same_new htt
        have htt2 : upd Z2 tt (.tup ((nums f2 e.ss.length).map V.int)) tt = some (.tup ((nums f2 e.ss.length).map V.int)) := upd_same
        generalize upd Z2 tt (.tup ((nums f2 e.ss.length).map V.int)) = Z3 at w2 htt2 hpa ⊢
        have w3 : Same Z3 (upd Z3 pa (.tup [.int (lastD L (nums f2 e.ss.length)), .str "deed", .int (ys2.length : Nat), .int (0 + (i : Int)), .str "add", .ref ct', .ref tt])) := same_new hpa
        have hpa2 : upd Z3 pa (.tup [.int (lastD L (nums f2 e.ss.length)), .str "deed", .int (ys2.length : Nat), .int (0 + (i : Int)), .str "add", .ref ct', .ref tt]) pa = some (.tup [.int (lastD L (nums f2 e.ss.length)), .str "deed", .int (ys2.length : Nat), .int (0 + (i : Int)), .str "add", .ref ct', .ref tt]) := upd_same
        generalize upd Z3 pa (.tup [.int (lastD L (nums f2 e.ss.length)), .str "deed", .int (ys2.length : Nat), .int (0 + (i : Int)), .str "add", .ref ct', .ref tt]) = Z4 at w3 hpa2 ⊢
        have w13 := w1.trans (w2.trans w3)
        have hD6 := w13 _ _ hDZ
        refine ⟨D, _, _, rfl, rfl, hD6, line_lt (by omega), ?_⟩
        have kt7 : KT Z4 (upd Z4 D (.lst (ys2 ++ [.ref pa]))) := KT.at hD6 (by intro xs z; cases z)
        refine ⟨_, _, _, _, _, _, _, _, ys2 ++ [.ref pa], rfl, same_fresh (smZ.trans w13) hD, upd_same, ?_⟩
        have e6 : dueM rows (i + 1) = (B2 ++ loopsR L (nums f2 e.ss.length) e.ss) ++ [rowD (lastD L (nums f2 e.ss.length)) (f2 + e.ss.length) i "add" (nums (dueM rows i).length e.so.length) (nums f2 e.ss.length)] := by
          rw [dueM_succ he, eB, ewd]
          unfold lineR insideR
          rw [if_neg hss, ← eL, ← ef2]
          simp [List.append_assoc]
        rw [e6]
        refine (rZ.same ((th_sm (u2.trans w13)).trans (th_kt kt7))).snoc ?_
        have e1 : f2 + e.ss.length = ((ys2.length : Nat) : Int) := by omega
        rw [e1, Int.zero_add] at *
        exact .tup (th_of (kt7 _ _ hpa2)) (.cons (.int _) (.cons (.str _) (.cons (.int _) (.cons (.int _) (.cons (.str _) (.cons ((rt_ints ((w2.trans w3) _ _ hct2)).same (th_kt kt7)) (.cons ((rt_ints (w3 _ _ htt2)).same (th_kt kt7)) .nil)))))))
      · have hss : e.ss = [] := List.length_eq_zero_iff.mp (by rw [← l2, hs]; rfl)
        rw [if_pos hss] at ewd
        refine ⟨_, _, _, _, _, _, _, _, ys2, rfl, smZ, hDZ, ?_⟩
        have e6 : dueM rows (i + 1) = B2 ++ loopsR L (nums f2 e.ss.length) e.ss := by
          rw [dueM_succ he, eB, ewd]
          unfold lineR insideR
          rw [if_pos hss, ← eL, hss]
          show _ = _ ++ []
          simp [List.append_assoc]
        rw [e6]
        exact rZ.same (th_sm u2)
    · rintro σ G ⟨o3, o4, o5, o6, o7, o8, o9, o10, ys, rfl, s1, hD1, r1⟩
      rw [lxs] at r1
      exact ⟨_, rfl, k D ys G hD s1 hD1 r1⟩
end
end My

set_option Elab.async false
set_option linter.all false
set_option maxRecDepth 100000
set_option maxHeartbeats 4000000
namespace My
open PySem L2
local macro_rules | `(tactic| walk_at "lk") => `(tactic| first | with_reducible exact lk0 | (refine lk1 (by decide +kernel) ?_; walk_at "lk") | rfl)
def spLaw (K : PySem.W.Frag) : Sp := fun vs H Q _ => ∃ (a : Addr) (ns : List Int), vs = [.ref a] ∧ SqL K H a (ns.map V.int) ∧ ns.length ≤ 63 ∧ ∀ H', Q (.bl true) H'
theorem cut_map {α : Type} (f : α → V) (nm : List α) (lo hi : Option Int) : ∃ zs : List α, cutV (nm.map f) lo hi = zs.map f ∧ zs.length ≤ nm.length ∧ ∀ x ∈ zs, x ∈ nm := by
  refine ⟨(nm.drop (HT.sIx nm.length 0 lo)).take (HT.sIx nm.length nm.length hi - HT.sIx nm.length 0 lo), ?_, ?_, fun x hx => ?_⟩
  · unfold cutV
    rw [List.length_map, ← List.map_drop, ← List.map_take]
  · rw [List.length_take, List.length_drop]; omega
  · exact List.mem_of_mem_drop (List.mem_of_mem_take hx)
theorem valV_mem {kvs : List (Key × V)} {k : Key} {v : V} (h : valV kvs k = some v) : ∃ p ∈ kvs, p.1 = k ∧ p.2 = v := by
  unfold valV at h
  obtain ⟨p, hp, e⟩ := Option.map_eq_some_iff.mp h
  have := List.find?_some hp
  exact ⟨p, List.mem_of_find?_eq_some hp, of_decide_eq_true this, e⟩
theorem ints_ex {lk : List (Key × V)} (h : ∀ p ∈ lk, ∃ n : Int, p.2 = .int n) : ∃ is, Ints' lk is := by
  induction lk with
  | nil => exact ⟨[], .nil⟩
  | cons p r ih =>
    obtain ⟨n, hn⟩ := h p (.head _)
    obtain ⟨is, hi⟩ := ih fun q hq => h q (.tail _ hq)
    exact ⟨n :: is, .cons hn hi⟩
theorem ar_map {S : Addr → Prop} {H : Hp} {x : Str} {l : Addr} {ys : List Str} (hs : S l) (hl : H l = some (.lst (ys.map V.str))) : ∀ {kvs : List (Key × V)} {es : List (Str × List Str)}, AR S H kvs es →
    ∃ es', AR S H (kvs.map fun kv => if kv.1 = Sum.inr x then (kv.1, V.ref l) else kv) es' ∧ (∀ e ∈ es', e ∈ es ∨ e = (x, ys)) ∧ es'.length = es.length
  | _, _, .nil => ⟨[], .nil, by simp, rfl⟩
  | _, _, @Paired.cons _ _ _ p e _ _ r t => by
    obtain ⟨es', h1, h2, h3⟩ := ar_map hs hl t
    by_cases hk : p.1 = Sum.inr x
    · refine ⟨(x, ys) :: es', ?_, fun f hf => ?_, by simp [h3]⟩
      · rw [List.map_cons, if_pos hk]
        exact .cons ⟨hk, l, rfl, hs, hl⟩ h1
      · rcases List.mem_cons.mp hf with rfl | hf
        · exact .inr rfl
        · exact (h2 f hf).imp (fun h => .tail _ h) id
    · refine ⟨e :: es', ?_, fun f hf => ?_, by simp [h3]⟩
      · rw [List.map_cons, if_neg hk]
        exact .cons r h1
      · rcases List.mem_cons.mp hf with rfl | hf
        · exact .inl (.head _)
        · exact (h2 f hf).imp (fun h => .tail _ h) id
theorem ar_put {S : Addr → Prop} {H : Hp} {x : Str} {l : Addr} {ys : List Str} {kvs : List (Key × V)} {es : List (Str × List Str)} (hs : S l) (hl : H l = some (.lst (ys.map V.str))) (h : AR S H kvs es) :
    ∃ es', AR S H (putK kvs (Sum.inr x) (.ref l)) es' ∧ (∀ e ∈ es', e ∈ es ∨ e = (x, ys)) ∧ es'.length ≤ es.length + 1 ∧ es' ≠ [] := by
  unfold putK
  split
  · rename_i ha
    obtain ⟨es', h1, h2, h3⟩ := ar_map (x := x) hs hl h
    refine ⟨es', h1, h2, by omega, fun z => ?_⟩
    subst z
    have hl0 := Paired.length h
    have : kvs = [] := List.length_eq_zero_iff.mp (by rw [hl0, ← h3]; rfl)
    subst this
    simp at ha
  · refine ⟨es ++ [(x, ys)], Paired.snoc ⟨rfl, l, rfl, hs, hl⟩ h, fun e he => ?_, by simp, by simp⟩
    rcases List.mem_append.mp he with he | he
    · exact .inl he
    · exact .inr (List.mem_singleton.mp he)

theorem iteB {b : Bool} {A B : Prop} (h1 : A) (h2 : B) : if b = true then A else B := by
  cases b with
  | false => exact iteF h2
  | true => exact iteT h1
theorem let26 : ∀ k : Fin 26, (match atI ("abcdefghijklmnopqrstuvwxyz" : Str).cps.toList (k.val : Int) with | some _ => true | none => false) = true := by decide +kernel
theorem let_at {k : Nat} (h : k < 26) : ∃ c, atI ("abcdefghijklmnopqrstuvwxyz" : Str).cps.toList (k : Int) = some c := by
  have := let26 ⟨k, h⟩
  dsimp only at this
  cases e : atI ("abcdefghijklmnopqrstuvwxyz" : Str).cps.toList (k : Int) with
  | none => rw [e] at this; cases this
  | some c => exact ⟨c, rfl⟩
/-- the rows of the law as data -/
def encRw (e : Rw) : PyData := .tuple [encS e.own, encS e.sums]
theorem rows_rep {M : List Addr} {H : Hp} : ∀ {xs : List V} {rows : List Rw}, RowsAt M H xs rows → Reps H xs (rows.map encRw)
  | _, _, .nil => .nil
  | _, _, .cons ⟨b, O, S, e, h1, _, h2, _, h3⟩ t => by
    subst e
    exact .cons (.tup h1 (.cons (S_rep h2) (.cons (S_rep h3) .nil))) (rows_rep t)
theorem rows_lay : ∀ {rows : List Rw}, (∀ e ∈ rows, OkS e.own ∧ OkS e.sums) → NsOk 2 (rows.map encRw)
  | [], _ => NsOk.nil _
  | e :: r, h => by
    refine NsOk.cons ⟨?_, ?_⟩ (rows_lay fun x hx => h x (.tail _ hx))
    · have h1 := encS_lay (h e (.head _)).1
      have h2 := encS_lay (h e (.head _)).2
      simp only [encRw, PyData.canLayAll0, PyData.canLay0, h1, h2, Bool.and_self]
    · have h1 := (encS_ok e.own).1
      have h2 := (encS_ok e.sums).1
      simp only [encRw, PyData.depthAll, PyData.depth]
      omega
section
variable {P : Program} {w : World} {K : PySem.W.Frag} {mg : Str → Option Value} {base : Heap} {t : Adr}
theorem ok_law (T : Txt K mg t) : FnOk P w K mg base CX0 7 t.f_law t.d_law ["_law_script"] (spLaw K) := by
  have G_Cloth_init := ok_Cloth_init (P := P) (w := w) (base := base) T
  have G_Line_init := ok_Line_init (P := P) (w := w) (base := base) T
  have G_Number_init := ok_Number_init (P := P) (w := w) (base := base) T
  have G_l_axes_by := ok_l_axes_by (P := P) (w := w) (base := base) T
  have G_l_cell_at := ok_l_cell_at (P := P) (w := w) (base := base) T
  have G_l_due_of := ok_l_due_of (P := P) (w := w) (base := base) T
  have G_l_rows_by := ok_l_rows_by (P := P) (w := w) (base := base) T
  have G_l_written := ok_l_written (P := P) (w := w) (base := base) T
  have G_first_nest := ok_first_nest (P := P) (w := w) (base := base) T
  refine T.F_law.ok sc_law (fun vs H Q E h => ?_) (fun cdv A outer s H vs Q E hr h => ?_)
  · obtain ⟨a, ns, rfl, _⟩ := h
    rfl
  · obtain ⟨a, ns, rfl, hS, l63, k⟩ := h
    have hu := hu_of hr
    refine ⟨_, (pss_cons (ps_set (i := 1) sc_law.nd rfl (Or.inl rfl) (pe_call G_l_cell_at (hr.mono (by omega)) rfl T.m_l_cell_at T.F_l_cell_at.kp T.b_l_cell_at .nil pass0 (pa_cons (pv 0) (pa_cons pe_int pa_nil))))
      (pss_cons (ps_set (i := 2) sc_law.nd rfl (Or.inl rfl) (pe_call G_l_axes_by (hr.mono (by omega)) rfl T.m_l_axes_by T.F_l_axes_by.kp T.b_l_axes_by .nil pass0 (pa_cons (pv 1) pa_nil)))
      (pss_cons (ps_set (i := 3) sc_law.nd rfl (Or.inl rfl) pe_dnewK)
      (pss_cons (ps_for PassesOwn.never rfl (pi_range1 rfl T.z_range (pa_cons (pe_callB call_len_seq (by rfl) T.z_len PySem.boot_len (pa_cons (pv 2) pa_nil)) pa_nil)) (pg_name (i := 4) sc_law.nd rfl (Or.inl rfl) (Or.inl rfl))
        (pss_cons (ps_set (i := 5) sc_law.nd rfl (Or.inl rfl) (pe_call G_l_cell_at (hr.mono (by omega)) rfl T.m_l_cell_at T.F_l_cell_at.kp T.b_l_cell_at .nil pass0 (pa_cons (pv 0) (pa_cons (pe_op op_add pe_int (pv 4)) pa_nil))))
        (pss_cons (ps_dput hu (pv 3) (pe_ix ix_list (pv 2) (pv 4) (fun _ _ => rfl)) (pe_op op_add pe_int (pe_op op_mod (pe_op op_fdiv (pv 5) pe_int) pe_int)) rfl)
        (pss_one (ps_if (pt_cmpR op_eq (pe_op op_mod (pv 5) pe_int) pe_int (nomark _))
          (pss_one (ps_dput hu (pv 3) (pe_ix ix_list (pv 2) (pv 4) (fun _ _ => rfl)) (pe_op op_add pe_int (pe_op op_mod (pe_op op_fdiv (pv 5) pe_int) pe_int)) rfl))
          pss_nil)))))
      (pss_cons (ps_set (i := 6) sc_law.nd rfl (Or.inl rfl) (pe_call G_l_rows_by (hr.mono (by omega)) rfl T.m_l_rows_by T.F_l_rows_by.kp T.b_l_rows_by .nil pass0 (pa_cons (pv 0) (pa_cons (pv 2) (pa_cons (pv 3) pa_nil)))))
      (pss_cons (ps_set (i := 7) sc_law.nd rfl (Or.inl rfl) (pe_lst pa_nil))
      (pss_cut (ps_if (PW.pt (pw_or (pt_cmpR op_eq (pe_op op_mod (pe_op op_fdiv (pv 1) pe_int) pe_int) pe_int (nomark _)) (pw_or1 (pt_cmpR (op_eqD hr.units) (pv 6) (pe_lst pa_nil) (nomark _)))))
        (pss_one (ps_set (i := 7) sc_law.nd rfl (Or.inl rfl) (pe_lst (pa_cons pe_str pa_nil))))
        pss_nil)
      (pss_cons (ps_set (i := 8) sc_law.nd rfl (Or.inl rfl) pe_dnewK)
      (pss_cons (ps_for PassesOwn.never rfl (pi_list (pv 7)) (pg_name (i := 9) sc_law.nd rfl (Or.inl rfl) (Or.inl rfl))
        (pss_one (ps_dput hu (pv 8) (pv 9) (pe_lst pa_nil) rfl)))
      (pss_cons (ps_set (i := 10) sc_law.nd rfl (Or.inl rfl) (pe_lst pa_nil))
      (pss_cons (ps_for PassesOwn.never rfl (pi_range1 rfl T.z_range (pa_cons (pe_callB call_len_seq (by rfl) T.z_len PySem.boot_len (pa_cons (pv 6) pa_nil)) pa_nil)) (pg_name (i := 4) sc_law.nd rfl (Or.inl rfl) (Or.inl rfl))
        (pss_cons (ps_set (i := 9) sc_law.nd rfl (Or.inl rfl) (pe_op op_add_str pe_str (pe_ix ix_str pe_str (pv 4) (fun _ _ => rfl))))
        (pss_cons (ps_dput hu (pv 8) (pv 9) (pe_callTy call_list_of (by rfl) T.z_list PyProof.Rows.boot_list (pa_cons (pe_ix ix_tup (pe_ix ix_list (pv 6) (pv 4) (fun _ _ => rfl)) pe_int (fun _ _ => rfl)) pa_nil)) rfl)
        (pss_one (ps_expr (pe_bm PySem.F.plainAttrs_list PySem.F.slot_list_append PySem.F.type_list_append mt_append (pv 10) (pa_cons (pe_make T.mk_Line G_Line_init (hr.mono (by omega)) rfl T.m_Line T.b_Line_init .nil pass0 (pa_cons (pv 9) (pa_cons (pe_callTy call_list_of (by rfl) T.z_list PyProof.Rows.boot_list (pa_cons (pe_ix ix_tup (pe_ix ix_list (pv 6) (pv 4) (fun _ _ => rfl)) pe_int (fun _ _ => rfl)) pa_nil)) (pa_cons (pe_callTy call_list_of (by rfl) T.z_list PyProof.Rows.boot_list (pa_cons (pe_ix ix_tup (pe_ix ix_list (pv 6) (pv 4) (fun _ _ => rfl)) pe_int (fun _ _ => rfl)) pa_nil)) (pa_cons (pe_make T.mk_Number G_Number_init (hr.mono (by omega)) rfl T.m_Number T.b_Number_init .nil pass0 (pa_cons pe_int pa_nil)) pa_nil))))) pa_nil)))))))
      (pss_cons (ps_set (i := 11) sc_law.nd rfl (Or.inl rfl) (pe_slice sl_list (pe_thawV (pe_comp (N' := ["_law_name"]) (ix := (List.replicate 1 none)) rfl (clok_none rfl (by decide +kernel) (by decide +kernel)) (ixok_none rfl) (pi_dict (pv 8)) (fun _ _ _ _ => (pg_name (i := 0) nd_comp_4 rfl (Or.inl rfl) (Or.inr rfl))) (fun _ _ _ _ => (pv 0)))) po_none (po_some pe_int)))
      (pss_cons (ps_set (i := 12) sc_law.nd rfl (Or.inl rfl) (pe_make T.mk_Cloth G_Cloth_init (hr.mono (by omega)) rfl T.m_Cloth T.b_Cloth_init .nil pass0 (pa_cons (pe_op op_pow pe_int pe_int) (pa_cons (pv 3) (pa_cons (pv 8) (pa_cons (pv 7) (pa_cons (pv 10) (pa_cons (pv 11) pa_nil))))))))
      (pss_cons (ps_set (i := 13) sc_law.nd rfl (Or.inl rfl) (pe_call G_l_due_of (hr.mono (by omega)) rfl T.m_l_due_of T.F_l_due_of.kp T.b_l_due_of .nil pass0 (pa_cons (pv 6) (pa_cons (pv 3) pa_nil))))
      (pss_cons (ps_for PassesOwn.never rfl (pi_range1 rfl T.z_range (pa_cons pe_int pa_nil)) (pg_name (i := 14) sc_law.nd rfl (Or.inl rfl) (Or.inl rfl))
        (pss_cons (ps_set (i := 15) sc_law.nd rfl (Or.inl rfl) (pe_call G_first_nest (hr.mono (by omega)) rfl T.m_first_nest T.F_first_nest.kp T.b_first_nest .nil pass0 (pa_cons (pv 12) pa_nil)))
        (pss_one (ps_if (PW.pt (pw_or (pt_cmpR (op_neD hr.units) (pe_call G_l_written (hr.mono (by omega)) rfl T.m_l_written T.F_l_written.kp T.b_l_written .nil pass0 (pa_cons (pv 15) (pa_cons (pe_callB call_len_seq (by rfl) T.z_len PySem.boot_len (pa_cons (pv 13) pa_nil)) pa_nil))) (pv 13) (nomark _)) (pw_or1 (pt_cmpR op_ne (pe_ix ix_tup (pv 15) pe_int (fun _ _ => rfl)) (pe_callB call_len_seq (by rfl) T.z_len PySem.boot_len (pa_cons (pv 13) pa_nil)) (nomark _)))))
          (pss_one (ps_ret pe_bl))
          pss_nil))))
      (pss_one (ps_ret pe_bl))))))))))))))))), ?_⟩
    refine ⟨_, rfl, a, ns, 0, rfl, hS, by decide, fun hh => ?_⟩
    refine ⟨_, rfl, hh, rfl, fun ax nm H1 hax s1 hax1 l8 oka => ?_⟩
    -- the lengths
    refine fun ld hld => ?_
    have s3 : Same H1 (upd H1 ld (.dK [])) := same_new hld
    refine ⟨_, rfl, ax, _, rfl, .inl (SqL.of (s3 _ _ hax1)), _, rfl, by omega, by simp; omega, ?_⟩
    refine for_range (n := (nm.map V.str).length) (fun i σ H3 => ∃ (o4 o5 : Option V) (lk : List (Key × V)), σ = [some (.ref a), some (.int hh), some (.ref ax), some (.ref ld), o4, o5, none, none, none, none, none, none, none, none, none, none] ∧ Same H1 H3 ∧ H3 ld = some (.dK lk) ∧ lk.length ≤ 2 * i ∧ (∀ p ∈ lk, ∃ n : Int, p.2 = .int n ∧ 1 ≤ n ∧ n ≤ 60) ∧ ∀ y ∈ nm.take i, (valV lk (Sum.inr y)).isSome = true)
      ⟨none, none, [], rfl, s3, upd_same, Nat.le_refl _, (by intro p hp; cases hp), by simp⟩ ?_ ?_
    · rintro i σ H3 hi ⟨o4, o5, lk, rfl, s3', h3, llk, vlk, klk⟩
      rw [List.length_map] at hi
      have hyi : nm[i]? = some nm[i] := List.getElem?_eq_getElem hi
      have ey : atI (nm.map V.str) (0 + (i : Int)) = some (.str nm[i]) := by rw [Int.zero_add]; exact atI_nat (by rw [List.getElem?_map, hyi]; rfl)
      have vput : ∀ (l : List (Key × V)) (n : Int), (∀ p ∈ l, ∃ n : Int, p.2 = .int n ∧ 1 ≤ n ∧ n ≤ 60) → 1 ≤ n → n ≤ 60 → ∀ p ∈ putK l (Sum.inr nm[i]) (V.int n), ∃ n : Int, p.2 = .int n ∧ 1 ≤ n ∧ n ≤ 60 := fun l n hl n1 n2 p hp => by
        rcases putK_mem hp with hp | hp
        · exact hl p hp
        · rw [hp]; exact ⟨n, rfl, n1, n2⟩
      have kput : ∀ (l : List (Key × V)) (n : Int), (∀ y ∈ nm.take i, (valV l (Sum.inr y)).isSome = true) → ∀ y ∈ nm.take (i + 1), (valV (putK l (Sum.inr nm[i]) (V.int n)) (Sum.inr y)).isSome = true := fun l n hl y hy => by
        rw [valV_put]
        split
        · rfl
        · rename_i hne
          rw [List.take_add_one, hyi] at hy
          rcases List.mem_append.mp hy with hy | hy
          · exact hl y hy
          · exact absurd (by rw [show y = nm[i] by simpa using hy]) hne
      refine ⟨_, rfl, _, rfl, _, _, rfl, rfl, a, ns, _, rfl, (s1.trans s3').seq hS, by omega, fun z => ?_⟩
      have lput := length_putK lk (Sum.inr nm[i]) (V.int (1 + z / 4 % 3))
      refine ⟨_, rfl, _, _, rfl, rfl, ⟨by decide, by decide⟩, _, _, rfl, rfl, (by show (0 : Int) < 3; decide), _, _, rfl, rfl, _, rfl, _, rfl, _, rfl, ax, _, _, _, rfl, rfl, SqL.of (s3' _ _ hax1), ey, ld, _, rfl, DPut.k (k := Sum.inr nm[i]) h3 (line_lt (by omega)), ?_⟩
      have s4 : Same H1 (upd H3 ld (.dK (putK lk (Sum.inr nm[i]) (V.int (1 + z / 4 % 3))))) := same_fresh s3' hld
      have h4 : upd H3 ld (.dK (putK lk (Sum.inr nm[i]) (V.int (1 + z / 4 % 3)))) ld = some (.dK (putK lk (Sum.inr nm[i]) (V.int (1 + z / 4 % 3)))) := upd_same
      have v4 := vput lk (1 + z / 4 % 3) vlk (by omega) (by omega)
      have k4 := kput lk (1 + z / 4 % 3) klk
      refine ⟨_, rfl, _, _, rfl, rfl, (by show (0 : Int) < 4; decide), rfl, _, rfl, iteD (fun _ => ?_) (fun _ => ⟨_, _, _, rfl, s4, h4, Nat.le_trans lput (by omega), v4, k4⟩)⟩
      have lput2 := length_putK (putK lk (Sum.inr nm[i]) (V.int (1 + z / 4 % 3))) (Sum.inr nm[i]) (V.int (1 + z / 4 % 60))
      refine ⟨_, rfl, _, _, rfl, rfl, ⟨by decide, by decide⟩, _, _, rfl, rfl, (by show (0 : Int) < 60; decide), _, _, rfl, rfl, _, rfl, _, rfl, _, rfl, ax, _, _, _, rfl, rfl, SqL.of (s4 _ _ hax1), ey, ld, _, rfl, DPut.k (k := Sum.inr nm[i]) h4 (line_lt (Nat.le_trans lput (by omega))), ?_⟩
      exact ⟨_, _, _, rfl, same_fresh s4 hld, upd_same, Nat.le_trans lput2 (Nat.le_trans (Nat.add_le_add_right lput 1) (by omega)), vput _ _ v4 (by omega) (by omega), fun y hy => by
        rw [valV_put]
        split
        · rfl
        · exact k4 y hy⟩
    rintro σ H4 ⟨o4, o5, lk, rfl, s4, hld4, llk, vlk, klk⟩
    rw [List.length_map] at llk klk
    rw [List.take_length] at klk
    obtain ⟨is, il⟩ := ints_ex fun p hp => let ⟨n, e, _⟩ := vlk p hp; ⟨n, e⟩
    have dk : DkOk lk nm := fun y hy => by
      obtain ⟨v, hv⟩ := Option.isSome_iff_exists.mp (klk y hy)
      obtain ⟨p, hp, _, e⟩ := valV_mem hv
      obtain ⟨n, en, n1, n60⟩ := vlk p hp
      exact ⟨n, by rw [hv, ← e, en], n1, n60⟩
    have s04 := s1.trans s4
    -- the rows
    refine ⟨_, rfl, _, rfl, _, rfl, a, ax, ld, ns, nm, lk, rfl, s04.seq hS, s4 _ _ hax1, l8, oka, hld4, dk, fun rl xr rows H5 hrl s5 hrl5 rw5 tot few => ?_⟩
    have lxr := Paired.length rw5
    -- the tables
    refine ⟨line_le (by simp), fun t0 ht0 => ?_⟩
    have s6 : Same H5 (upd H5 t0 (.lst [])) := same_new ht0
    have ht6 : upd H5 t0 (.lst []) t0 = some (.lst (([] : List Str).map V.str)) := upd_same
    generalize upd H5 t0 (.lst []) = H6 at s6 ht6 ⊢
    refine ⟨fun σ G => ∃ (tl : Addr) (tb : List Str), σ = [some (.ref a), some (.int hh), some (.ref ax), some (.ref ld), o4, o5, some (.ref rl), some (.ref tl), none, none, none, none, none, none, none, none] ∧ Same H5 G ∧ G tl = some (.lst (tb.map V.str)) ∧ tb.length ≤ 1, ?_, ?_⟩
    · have fin : ∀ (G : Hp), Same H5 G → ∀ z, G z = none → ∃ (tl : Addr) (tb : List Str), [some (V.ref a), some (.int hh), some (.ref ax), some (.ref ld), o4, o5, some (.ref rl), some (.ref z), none, none, none, none, none, none, none, none] = [some (.ref a), some (.int hh), some (.ref ax), some (.ref ld), o4, o5, some (.ref rl), some (.ref tl), none, none, none, none, none, none, none, none] ∧ Same H5 (upd G z (.lst [.str "zz"])) ∧ upd G z (.lst [.str "zz"]) tl = some (.lst (tb.map V.str)) ∧ tb.length ≤ 1 := fun G sG z hz =>
        ⟨z, ["zz"], rfl, sG.trans (same_new hz), upd_same, by simp⟩
      refine ⟨_, rfl, _, _, rfl, rfl, ⟨by decide, by decide⟩, _, _, rfl, rfl, (by show (0 : Int) < 2; decide), rfl, _, rfl, iteD (fun _ => ⟨line_le (by simp), fun z hz => fin H6 s6 z hz⟩) (fun _ => ?_)⟩
      refine ⟨_, rfl, line_le (by simp), fun z hz => ?_⟩
      have u1 : Same H6 (upd H6 z (.lst [])) := same_new hz
      have hz1 : upd H6 z (.lst []) z = some (.lst []) := upd_same
      generalize upd H6 z (.lst []) = Hz at u1 hz1 ⊢
      have s5z := s6.trans u1
      have shr := ns_shaped (rows_lay (rows := rows) fun e he => ⟨(tot e he).2.2.2.1, (tot e he).2.2.2.2⟩) (by omega)
      refine ⟨.list (rows.map encRw), .list [], .lst (s5z _ _ hrl5) (rows_rep (Paired.mapP rw5 fun _ _ z => z.same s5z)), .lst hz1 .nil, shr, rfl, _, rfl, iteB ⟨line_le (by simp), fun z2 hz2 => fin Hz s5z z2 hz2⟩ ⟨t0, [], rfl, s5z, u1 _ _ ht6, by simp⟩⟩
    rintro σ H7 ⟨tl, tb, rfl, s57, htl, ltb⟩
    have s07 := s04.trans (s5.trans s57)
    have hld7 := (s5.trans s57) _ _ hld4
    have hrl7 := s57 _ _ hrl5
    have rw7 : RowsAt [rl] H7 xr rows := Paired.mapP rw5 fun _ _ z => z.same s57
    -- the arrays
    refine fun ad had => ?_
    have adH : H ad = none := s07.free had
    refine ⟨_, rfl, tl, rfl, ⟨_, SqL.of ((same_new had) _ _ htl)⟩, ?_⟩
    refine for_list (K := K) (a := tl) (xs := tb.map V.str) (fun i σ G => ∃ (o9 : Option V) (ak : List (Key × V)) (es : List (Str × List Str)), σ = [some (.ref a), some (.int hh), some (.ref ax), some (.ref ld), o4, o5, some (.ref rl), some (.ref tl), some (.ref ad), o9, none, none, none, none, none, none] ∧ Same H7 G ∧ G ad = some (.dK ak) ∧ AR (fun _ => True) G ak es ∧ es.length ≤ i ∧ ∀ e ∈ es, e.2.length ≤ 8)
      ⟨none, [], [], rfl, same_new had, upd_same, .nil, Nat.le_refl _, by intro e he; cases he⟩ (fun i σ G _ ⟨_, _, _, _, s, _⟩ => SqL.of (s _ _ htl)) ?_ ?_
    · rintro i y σ G hi ⟨o9, ak, es, rfl, sg, hg, ar, le, l8'⟩
      obtain ⟨x, hx, rfl⟩ := get_map hi
      have hi' : i < tb.length := (List.getElem?_eq_some_iff.mp hx).1
      have lak := Paired.length ar
      refine ⟨line_le (by simp), fun l hl => ?_⟩
      have t1 : Same G (upd G l (.lst [])) := same_new hl
      refine ⟨_, rfl, _, rfl, ad, _, rfl, DPut.k (k := Sum.inr x) (t1 _ _ hg) (line_lt (by omega)), ?_⟩
      have kb : KB ad (upd G l (.lst [])) (upd (upd G l (.lst [])) ad (.dK (putK ak (Sum.inr x) (.ref l)))) := KB.refl.upd
      obtain ⟨es', ar', m', le', _⟩ := ar_put (x := x) (l := l) (ys := []) True.intro (upd_same (H := G)) (ar.same t1)
      refine ⟨_, _, es', rfl, same_fresh (sg.trans t1) had, upd_same, ar'.imp fun b xs _ e => ⟨True.intro, kb _ _ (ne_of e (t1 _ _ hg) (by intro z; cases z)) e⟩, by omega, fun e he => ?_⟩
      rcases m' e he with he | he
      · exact l8' e he
      · rw [he]; simp
    rintro σ G0 ⟨o9, ak0, es0, rfl, sg0, had0, ar0, le0, l80⟩
    rw [List.length_map] at le0
    -- the lines
    refine ⟨line_le (by simp), fun lv hlv0 => ?_⟩
    have lv7 : H7 lv = none := sg0.free hlv0
    have adlv : ad ≠ lv := ne_of_none had0 hlv0
    have t1 : Same G0 (upd G0 lv (.lst [])) := same_new hlv0
    have hlv1 : upd G0 lv (.lst []) lv = some (.lst []) := upd_same
    have ar1 : AR (fun b => b ≠ lv) (upd G0 lv (.lst [])) ak0 es0 := ar0.imp fun b xs _ e => ⟨ne_of_none e hlv0, t1 _ _ e⟩
    generalize upd G0 lv (.lst []) = G1 at t1 hlv1 ar1 ⊢
    refine ⟨_, rfl, rl, _, rfl, .inl (SqL.of ((sg0.trans t1) _ _ hrl7)), _, rfl, by omega, by omega, ?_⟩
    refine for_range (n := xr.length) (fun i σ G => ∃ (o4 o9 : Option V) (ak : List (Key × V)) (es : List (Str × List Str)) (xs : List V), σ = [some (.ref a), some (.int hh), some (.ref ax), some (.ref ld), o4, o5, some (.ref rl), some (.ref tl), some (.ref ad), o9, some (.ref lv), none, none, none, none, none] ∧ Same H7 G ∧ G ad = some (.dK ak) ∧ G lv = some (.lst xs) ∧ AR (fun b => b ≠ lv) G ak es ∧ es.length ≤ 1 + i ∧ (∀ e ∈ es, e.2.length ≤ 8) ∧ LinesAt t [lv] G xs (rows.take i))
      ⟨_, _, ak0, es0, [], rfl, sg0.trans t1, t1 _ _ had0, hlv1, ar1, by omega, l80, .nil⟩ ?_ ?_
    · rintro i σ G hi ⟨o4', o9', ak, es, xs, rfl, sg, hadg, hlvg, ar, les, l8g, lis⟩
      have hxi : xr[i]? = some xr[i] := List.getElem?_eq_getElem hi
      obtain ⟨e, he, b, O, S, eb, hb, _, hO, _, hSs⟩ := pget rw7 hxi
      obtain ⟨ok, szo, szs, oko, oks⟩ := tot e (List.mem_of_getElem? he)
      have l3 := ok.pl
      have ei : atI xr (0 + (i : Int)) = some (.ref b) := by rw [Int.zero_add]; exact atI_nat (by rw [hxi, eb])
      obtain ⟨c, ec⟩ := let_at (k := i) (by omega)
      have ec : atI ("abcdefghijklmnopqrstuvwxyz" : Str).cps.toList (0 + (i : Int)) = some c := by rw [Int.zero_add]; exact ec
      refine ⟨_, rfl, _, _, _, rfl, rfl, line_le (by decide +kernel), ec, _, _, rfl, rfl, line_le (by show ("y" : Str).length + 1 ≤ 1000000; decide +kernel), ?_⟩
      generalize (("y" : Str) ++ (⟨#[c]⟩ : Str)) = nmx
      -- its array
      refine ⟨_, rfl, _, rfl, rl, _, _, _, rfl, rfl, SqL.of (sg _ _ hrl7), ei, b, _, _, _, rfl, rfl, SqT.of (sg _ _ hb), atI_nat (j := 0) rfl, O, _, rfl, .inl (SqL.of (sg _ _ hO)), fun a3 ha3 => ?_⟩
      have t5 : Same G (upd G a3 (.lst (e.own.map V.str))) := same_new ha3
      have a3lv : a3 ≠ lv := fun z => by rw [z, hlvg] at ha3; cases ha3
      have lak := Paired.length ar
      refine ⟨_, rfl, _, rfl, ad, _, rfl, DPut.k (k := Sum.inr nmx) (t5 _ _ hadg) (line_lt (by omega)), ?_⟩
      obtain ⟨es', ar5', m5, le5, _⟩ := ar_put (x := nmx) (l := a3) (ys := e.own) a3lv (upd_same (H := G)) (ar.same t5)
      have k5 : KB ad G (upd (upd G a3 (.lst (e.own.map V.str))) ad (.dK (putK ak (Sum.inr nmx) (.ref a3)))) := (KB.of t5).upd
      have had5 : upd (upd G a3 (.lst (e.own.map V.str))) ad (.dK (putK ak (Sum.inr nmx) (.ref a3))) ad = some (.dK (putK ak (Sum.inr nmx) (.ref a3))) := upd_same
      have ar5 : AR (fun b => b ≠ lv) (upd (upd G a3 (.lst (e.own.map V.str))) ad (.dK (putK ak (Sum.inr nmx) (.ref a3)))) (putK ak (Sum.inr nmx) (.ref a3)) es' := ar5'.imp fun b zs n e => ⟨n, by rw [upd_ne (ne_of e (t5 _ _ hadg) (by intro z; cases z))]; exact e⟩
      have sm5 : Same H7 (upd (upd G a3 (.lst (e.own.map V.str))) ad (.dK (putK ak (Sum.inr nmx) (.ref a3)))) := same_fresh (sg.trans t5) had
      generalize upd (upd G a3 (.lst (e.own.map V.str))) ad (.dK (putK ak (Sum.inr nmx) (.ref a3))) = G5 at k5 had5 ar5 sm5 ⊢
      have hlv5 := k5 _ _ adlv.symm hlvg
      -- the line
      refine ⟨_, rfl, .inl ⟨rfl, _, SqL.of hlv5⟩, _, rfl, _, rfl, _, rfl, rl, _, _, _, rfl, rfl, SqL.of (sm5 _ _ hrl7), ei, b, _, _, _, rfl, rfl, SqT.of (sm5 _ _ hb), atI_nat (j := 0) rfl, O, _, rfl, .inl (SqL.of (sm5 _ _ hO)), fun O1 hO1 => ?_⟩
      have u1 : Same G5 (upd G5 O1 (.lst (e.own.map V.str))) := same_new hO1
      have hO1' : upd G5 O1 (.lst (e.own.map V.str)) O1 = some (.lst (e.own.map V.str)) := upd_same
      generalize upd G5 O1 (.lst (e.own.map V.str)) = G6 at u1 hO1' ⊢
      have sm6 := sm5.trans u1
      refine ⟨_, rfl, _, rfl, rl, _, _, _, rfl, rfl, SqL.of (sm6 _ _ hrl7), ei, b, _, _, _, rfl, rfl, SqT.of (sm6 _ _ hb), atI_nat (j := 1) rfl, S, _, rfl, .inl (SqL.of (sm6 _ _ hSs)), fun S1 hS1 => ?_⟩
      have u2 : Same G6 (upd G6 S1 (.lst (e.sums.map V.str))) := same_new hS1
      have hS1' : upd G6 S1 (.lst (e.sums.map V.str)) S1 = some (.lst (e.sums.map V.str)) := upd_same
      generalize upd G6 S1 (.lst (e.sums.map V.str)) = G7 at u2 hS1' ⊢
      refine fun nx ndx hnx hndx hne1 => ⟨nx, _, ndx, _, rfl, upd_same, T.cl_Number, T.na_Number_number, rfl, ?_⟩
      have u3 : Same G7 (upd (upd (upd G7 ndx (.own nx)) nx (.ins t.C_Number ndx [])) nx (.ins t.C_Number ndx [("number", .int 0)])) := same_made hnx hndx
      generalize upd (upd (upd G7 ndx (.own nx)) nx (.ins t.C_Number ndx [])) nx (.ins t.C_Number ndx [("number", .int 0)]) = G8 at u3 ⊢
      refine fun x dx hx hdx hne2 => ?_
      have u4 : Same G8 (upd (upd G8 dx (.own x)) x (.ins t.C_Line dx [])) := same_fresh (same_new hdx) hx
      have g9x : upd (upd G8 dx (.own x)) x (.ins t.C_Line dx []) x = some (.ins t.C_Line dx []) := upd_same
      generalize upd (upd G8 dx (.own x)) x (.ins t.C_Line dx []) = G9 at u4 g9x ⊢
      refine ⟨x, dx, O1, S1, .ref nx, nmx, e.own, e.sums, rfl, g9x, (u2.trans (u3.trans u4)) _ _ hO1', (u3.trans u4) _ _ hS1', by omega, by omega, fun cc cu Ga hc0 hu0 hx' hcc hcu kba => ⟨rfl, ?_⟩⟩
      have u59 := u1.trans (u2.trans (u3.trans u4))
      have u5a : Same G5 Ga := (u1.trans (u2.trans u3)).trans (KB.same u4 kba hx)
      have hlva := u5a _ _ hlv5
      have lxs := Paired.length lis
      rw [List.length_take] at lxs
      refine ⟨lv, _, _, rfl, rfl, hlva, line_lt (by omega), ?_⟩
      have k9 : KB lv Ga (upd Ga lv (.lst (xs ++ [.ref x]))) := KB.refl.upd
      have hlvb : upd Ga lv (.lst (xs ++ [.ref x])) lv = some (.lst (xs ++ [.ref x])) := upd_same
      have smb : Same H7 (upd Ga lv (.lst (xs ++ [.ref x]))) := same_fresh (sm5.trans u5a) lv7
      generalize upd Ga lv (.lst (xs ++ [.ref x])) = Gb at k9 hlvb smb ⊢
      have nlv : ∀ {b : Addr}, G9 b = none → b ∉ [lv] := fun e m => by rw [List.mem_singleton.mp m, u59 _ _ hlv5] at e; cases e
      have nin : ∀ {b : Addr}, b ∉ [lv] → b ≠ lv := fun m z => m (by rw [z]; exact .head _)
      refine ⟨_, _, _, es', xs ++ [.ref x], rfl, smb, k9 _ _ adlv (u5a _ _ had5), hlvb, ar5.imp fun b zs n e => ⟨n, k9 _ _ n (u5a _ _ e)⟩, by omega, fun e' he' => ?_, ?_⟩
      · rcases m5 e' he' with he' | he'
        · exact l8g e' he'
        · rw [he']; show e.own.length ≤ 8; omega
      · rw [List.take_add_one, he, Option.toList_some]
        refine papp (Paired.mapP lis fun _ _ z => z.imp (fun b C d fs ee => k9 _ _ (ne_of ee hlvg (by intro z; cases z)) (u5a _ _ (k5 _ _ (ne_of ee hadg (by intro z; cases z)) ee))) fun b zs n ee => ⟨n, k9 _ _ (nin n) (u5a _ _ (k5 _ _ (ne_of ee hadg (by intro z; cases z)) ee))⟩) (.cons ⟨x, dx, cc, cu, .ref nx, nmx, rfl, k9 _ _ (ne_of hx' hlva (by intro z; cases z)) hx', nlv hc0, k9 _ _ (nin (nlv hc0)) hcc, nlv hu0, k9 _ _ (nin (nlv hu0)) hcu⟩ .nil)
    rintro σ G ⟨o4', o9', ak, es, xs, rfl, sg, hadg, hlvg, ar, les, l8g, lis⟩
    rw [lxr, List.take_length] at lis
    have lxs := Paired.length lis
    have lak := Paired.length ar
    -- the outs
    refine ⟨_, rfl, ad, ak, rfl, hadg, fun o D hD => ?_⟩
    have Da : D ≠ ad := fun z => by subst z; rw [upd_same] at hD; cases hD
    refine comp_genQ (J := Itd ad o ak) (D := D) ak.length (fun i ys Hx => Same (upd G ad (.frz o (.dK ak))) Hx ∧ Hx D = some (.lst ys) ∧ ys = ((es.take i).map (·.1)).map V.str) ⟨same_new hD, upd_same, rfl⟩ (fun i ys Hx hi ⟨s2, _⟩ => ⟨s2 _ _ upd_same, hi⟩) (fun ys Hx ⟨s2, _⟩ => ⟨s2 _ _ upd_same, rfl⟩) ?_ ?_
    · rintro i ys Hx hi ⟨sx, hDx, rfl⟩ x Hy ⟨rfl, k', v, hkv, rfl⟩
      obtain ⟨e, he, ek, _⟩ := pget ar hkv
      have ek : k' = Sum.inr e.1 := ek
      subst ek
      refine ⟨True.intro, _, rfl, hDx, line_lt (by simp; omega), same_fresh sx hD, upd_same, ?_⟩
      rw [List.take_add_one, he, Option.toList_some, List.map_append, List.map_append]
      rfl
    rintro ys Hx ⟨sx, hDx, rfl⟩
    rw [lak, List.take_length] at hDx
    refine ⟨ad, o, _, sx _ _ upd_same, (fun o' u' z => by have z : H ad = some (.frz o' u') := z; rw [adH] at z; cases z), ?_⟩
    have st : Same G (upd Hx ad (.dK ak)) := same_thaw hadg sx
    have hDt : upd Hx ad (.dK ak) D = some (.lst ((es.map (·.1)).map V.str)) := by rw [upd_ne Da]; exact hDx
    generalize upd Hx ad (.dK ak) = Gt at st hDt
    refine ⟨_, rfl, D, _, rfl, SqL.of hDt, fun ol hol => ?_⟩
    obtain ⟨os, eo, lo, mo⟩ := cut_map V.str (es.map (·.1)) none (some 1)
    rw [List.length_map] at lo
    rw [eo]
    have sGa : Same G (upd Gt ol (.lst (os.map V.str))) := st.trans (same_new hol)
    have holA : upd Gt ol (.lst (os.map V.str)) ol = some (.lst (os.map V.str)) := upd_same
    generalize upd Gt ol (.lst (os.map V.str)) = Ga at sGa holA
    -- the cloth
    refine ⟨_, _, rfl, rfl, ⟨by decide, by decide, by decide⟩, _, rfl, _, rfl, _, rfl, _, rfl, _, rfl, fun p dx hp hdx hne => ?_⟩
    have v2 : Same Ga (upd (upd Ga dx (.own p)) p (.ins t.C_Cloth dx [])) := same_fresh (same_new hdx) hp
    have hcp : upd (upd Ga dx (.own p)) p (.ins t.C_Cloth dx []) p = some (.ins t.C_Cloth dx []) := upd_same
    generalize upd (upd Ga dx (.own p)) p (.ins t.C_Cloth dx []) = Gb at v2 hcp ⊢
    have v12 := sGa.trans v2
    have s7b := sg.trans v12
    refine ⟨p, dx, ld, ad, tl, lv, ol, 10 ^ (9 : Int).toNat, lk, ak, is, es, tb, os, xs, _, rfl, hcp, s7b _ _ hld7, il, by omega, v12 _ _ hadg, ar.same v12, by omega, (fun e he => by have := l8g e he; omega), s7b _ _ htl, by omega, v12 _ _ hlvg, by omega, fun x hx => ?_, v2 _ _ holA, by omega, fun l' a' t' v' o' ak' Gc hp9 nl' hl9 na' ha9 ar9 nt' ht9 nv' hv9 no' ho9 kb9 => ⟨rfl, ?_⟩⟩
    · obtain ⟨j, hj⟩ := List.getElem?_of_mem hx
      obtain ⟨e, _, x0, d0, _, _, _, _, rfl, e0, _⟩ := pget lis hj
      exact ⟨x0, d0, _, rfl, (fun z => by rw [z] at e0; rw [sGa _ _ e0] at hp; cases hp), v12 _ _ e0⟩
    have v3 : Same Ga Gc := KB.same v2 kb9 hp
    have v0c := sGa.trans v3
    have s7c := sg.trans v0c
    have lisc : LinesAt t [lv] Gc xs rows := Paired.mapP lis fun _ _ z => z.same v0c
    -- what is due
    refine ⟨_, rfl, _, rfl, rl, ld, xr, rows, lk, [rl], rfl, s7c _ _ hrl7, Paired.mapP rw7 (fun _ _ z => z.same s7c), tot, few, s7c _ _ hld7, fun dl ys Gd hdl v4 hdl4 rd => ?_⟩
    have lys := rd.len
    have dle := due_len (fun e he => (tot e he).1) rows.length
    have nsd := nsok_due rows rows.length
    have clay : (PyData.list (dueM rows rows.length)).canLay0 = true := by simp only [PyData.canLay0]; exact nsd.1
    have shp := ns_shaped nsd (by omega)
    -- twice
    refine ⟨_, rfl, by omega, by omega, ?_⟩
    refine for_range (n := 2) (fun i σ X => ∃ (o14 o15 : Option V), σ = [some (.ref a), some (.int hh), some (.ref ax), some (.ref ld), o4', o5, some (.ref rl), some (.ref tl), some (.ref ad), o9', some (.ref lv), some (.ref ol), some (.ref p), some (.ref dl), o14, o15] ∧ Same Gd X)
      ⟨none, none, rfl, Same.refl _⟩ ?_ ?_
    · rintro i σ X hi ⟨o14, o15, rfl, sx⟩
      have sX := v4.trans sx
      refine ⟨_, rfl, p, dx, l', a', t', v', o', _, lk, xs, _, rows, rfl, sX _ _ hp9, sX _ _ hl9, sX _ _ hv9, Paired.mapP lisc (fun _ _ z => z.same sX), tot, by omega, fun q tp nv ds Ge v5 hq htp rn wl nok lnv => ?_⟩
      have sE := sx.trans v5
      have hdlE := sE _ _ hdl4
      refine ⟨_, rfl, _, rfl, dl, _, rfl, .inl (SqL.of hdlE), q, tp, _, nv, ds, dueM rows rows.length, (by rw [← lys]; rfl), hq, htp, rn, wl, nok, lnv, by omega, fun W wy Gf hW v6 hW6 rw6 => ?_⟩
      have sF := sE.trans v6
      refine ⟨_, rfl, .list (dueM rows rows.length), .list (dueM rows rows.length), .lst hW6 (rw6.same (th_same _)), .lst (sF _ _ hdl4) ((rd.same (th_sm sF)).same (th_same _)), shp, shp, _, rfl, ?_⟩
      rw [SeqAt.eqv_refl _ clay]
      refine iteF ?_
      refine ⟨_, rfl, q, _, _, _, rfl, rfl, SqT.of (v6 _ _ hq), atI_nat (j := 0) rfl, _, rfl, dl, _, rfl, .inl (SqL.of (sF _ _ hdl4)), rfl, _, rfl, iteNS (by rw [lys]) ?_⟩
      exact ⟨_, _, rfl, sF⟩
    · rintro σ X ⟨o14, o15, rfl, sx⟩
      exact k _
end
end My

set_option Elab.async false
set_option linter.all false
set_option maxRecDepth 100000
set_option maxHeartbeats 4000000
/-! The head lays a twin of each constant that it meets, and of the largest ones its equation is quadratic in the constants within (some 30 MB). A constant that bears the twin's name already keeps it from laying that one. -/
def PySem.W.Fast.tw2798241352816600573 : Unit := ()
def PySem.W.Fast.tw162687035069065433 : Unit := ()
def PySem.W.Fast.tw10239437332743561307 : Unit := ()
def PySem.W.Fast.tw12839176627556727640 : Unit := ()
def PySem.W.Fast.tw6139488761817299894 : Unit := ()
def PySem.W.Fast.tw4987023513035579803 : Unit := ()
def PySem.W.Fast.tw4831475215966456901 : Unit := ()
def PySem.W.Fast.tw2672140224084587452 : Unit := ()
def PySem.W.Fast.tw8335027251304391970 : Unit := ()
def PySem.W.Fast.tw10668279349232864109 : Unit := ()
def PySem.W.Fast.tw5967504835892927749 : Unit := ()
def PySem.W.Fast.tw17684892738410273516 : Unit := ()
def PySem.W.Fast.tw12023953799180197546 : Unit := ()
def PySem.W.Fast.tw18389403470862897894 : Unit := ()
def PySem.W.Fast.tw2193827932218147743 : Unit := ()
def PySem.W.Fast.tw13726811651430937445 : Unit := ()
def PySem.W.Fast.tw1134262976194412551 : Unit := ()
def PySem.W.Fast.tw1791704906093772592 : Unit := ()
namespace My
open PySem L2
theorem all_mk {l : PySem.W.OpenLaw} {w : World} {K : PySem.W.Frag} {h : Heap} {mg : Str → Option Value} {fa : Addr} (X : K.In h) (G : h.Ns mainGlobals mg) (hfa : mg "law" = some (.ref fa))
    {C_Line C_Cloth C_Term C_Number : Addr}
    (aC_Line : PySem.W.nsIn K mainGlobals "Line" = some (some (.ref C_Line)))
    (aC_Cloth : PySem.W.nsIn K mainGlobals "Cloth" = some (some (.ref C_Cloth)))
    (aC_Term : PySem.W.nsIn K mainGlobals "Term" = some (some (.ref C_Term)))
    (aC_Number : PySem.W.nsIn K mainGlobals "Number" = some (some (.ref C_Number)))
    {f0 : Addr} {od0 an0 : Option Addr} {sl0 : Array (Option Value)} {oc0 kV0 dc0 pm0 cd0 ct0 : Value}
    (a0 : PySem.W.nsIn K mainGlobals "copied" = some (some (.ref f0)))
    (l0 : K.lookup f0 = some ⟨oc0, od0, .func (PySem.W.fnOf "copied" "copied" (defArgs s_copied) (defBody s_copied) (defScope s_copied) .none kV0 dc0 pm0 an0 cd0 ct0), sl0⟩)
    (c0 : PySem.W.codeIn K cd0 "copied" = true)
    (k0 : PySem.W.keepIn K (.ref f0) = true)
    {f1 : Addr} {od1 an1 : Option Addr} {sl1 : Array (Option Value)} {oc1 kV1 dc1 pm1 cd1 ct1 : Value}
    (a1 : PySem.W.nsIn K mainGlobals "copied_dict" = some (some (.ref f1)))
    (l1 : K.lookup f1 = some ⟨oc1, od1, .func (PySem.W.fnOf "copied_dict" "copied_dict" (defArgs s_copied_dict) (defBody s_copied_dict) (defScope s_copied_dict) .none kV1 dc1 pm1 an1 cd1 ct1), sl1⟩)
    (c1 : PySem.W.codeIn K cd1 "copied_dict" = true)
    (k1 : PySem.W.keepIn K (.ref f1) = true)
    {f2 : Addr} {od2 an2 : Option Addr} {sl2 : Array (Option Value)} {oc2 kV2 dc2 pm2 cd2 ct2 : Value}
    (a2 : PySem.W.nsIn K mainGlobals "lengths_along" = some (some (.ref f2)))
    (l2 : K.lookup f2 = some ⟨oc2, od2, .func (PySem.W.fnOf "lengths_along" "lengths_along" (defArgs s_lengths_along) (defBody s_lengths_along) (defScope s_lengths_along) .none kV2 dc2 pm2 an2 cd2 ct2), sl2⟩)
    (c2 : PySem.W.codeIn K cd2 "lengths_along" = true)
    (k2 : PySem.W.keepIn K (.ref f2) = true)
    {f3 : Addr} {od3 an3 : Option Addr} {sl3 : Array (Option Value)} {oc3 kV3 dc3 pm3 cd3 ct3 : Value}
    (a3 : PySem.W.nsIn K mainGlobals "first_nest" = some (some (.ref f3)))
    (l3 : K.lookup f3 = some ⟨oc3, od3, .func (PySem.W.fnOf "first_nest" "first_nest" (defArgs s_first_nest) (defBody s_first_nest) (defScope s_first_nest) .none kV3 dc3 pm3 an3 cd3 ct3), sl3⟩)
    (c3 : PySem.W.codeIn K cd3 "first_nest" = true)
    (k3 : PySem.W.keepIn K (.ref f3) = true)
    {f4 : Addr} {od4 an4 : Option Addr} {sl4 : Array (Option Value)} {oc4 kV4 dc4 pm4 cd4 ct4 : Value}
    (a4 : PySem.W.nsIn K mainGlobals "nodes_in" = some (some (.ref f4)))
    (l4 : K.lookup f4 = some ⟨oc4, od4, .func (PySem.W.fnOf "nodes_in" "nodes_in" (defArgs s_nodes_in) (defBody s_nodes_in) (defScope s_nodes_in) .none kV4 dc4 pm4 an4 cd4 ct4), sl4⟩)
    (c4 : PySem.W.codeIn K cd4 "nodes_in" = true)
    (k4 : PySem.W.keepIn K (.ref f4) = true)
    {f5 : Addr} {od5 an5 : Option Addr} {sl5 : Array (Option Value)} {oc5 kV5 dc5 pm5 cd5 ct5 : Value}
    (a5 : PySem.W.nsIn K mainGlobals "nodes_of" = some (some (.ref f5)))
    (l5 : K.lookup f5 = some ⟨oc5, od5, .func (PySem.W.fnOf "nodes_of" "nodes_of" (defArgs s_nodes_of) (defBody s_nodes_of) (defScope s_nodes_of) .none kV5 dc5 pm5 an5 cd5 ct5), sl5⟩)
    (c5 : PySem.W.codeIn K cd5 "nodes_of" = true)
    (k5 : PySem.W.keepIn K (.ref f5) = true)
    {f6 : Addr} {od6 an6 : Option Addr} {sl6 : Array (Option Value)} {oc6 kV6 dc6 pm6 cd6 ct6 : Value}
    (a6 : PySem.W.nsIn K mainGlobals "numbers_from" = some (some (.ref f6)))
    (l6 : K.lookup f6 = some ⟨oc6, od6, .func (PySem.W.fnOf "numbers_from" "numbers_from" (defArgs s_numbers_from) (defBody s_numbers_from) (defScope s_numbers_from) .none kV6 dc6 pm6 an6 cd6 ct6), sl6⟩)
    (c6 : PySem.W.codeIn K cd6 "numbers_from" = true)
    (k6 : PySem.W.keepIn K (.ref f6) = true)
    {f7 : Addr} {od7 an7 : Option Addr} {sl7 : Array (Option Value)} {oc7 kV7 dc7 pm7 cd7 ct7 : Value}
    (a7 : PySem.W.nsIn K mainGlobals "looped" = some (some (.ref f7)))
    (l7 : K.lookup f7 = some ⟨oc7, od7, .func (PySem.W.fnOf "looped" "looped" (defArgs s_looped) (defBody s_looped) (defScope s_looped) .none kV7 dc7 pm7 an7 cd7 ct7), sl7⟩)
    (c7 : PySem.W.codeIn K cd7 "looped" = true)
    (k7 : PySem.W.keepIn K (.ref f7) = true)
    {f8 : Addr} {od8 an8 : Option Addr} {sl8 : Array (Option Value)} {oc8 kV8 dc8 pm8 cd8 ct8 : Value}
    (a8 : PySem.W.findIn K (.ref C_Line) "__init__" = some (some (.ref f8)))
    (l8 : K.lookup f8 = some ⟨oc8, od8, .func (PySem.W.fnOf "__init__" "Line.__init__" (defArgs s_Line_init) (defBody s_Line_init) (defScope s_Line_init) .none kV8 dc8 pm8 an8 cd8 ct8), sl8⟩)
    (c8 : PySem.W.codeIn K cd8 "Line.__init__" = true)
    (k8 : PySem.W.keepIn K (.ref f8) = true)
    (i8 : PySem.W.isFn K (.ref f8) = true)
    {f9 : Addr} {od9 an9 : Option Addr} {sl9 : Array (Option Value)} {oc9 kV9 dc9 pm9 cd9 ct9 : Value}
    (a9 : PySem.W.findIn K (.ref C_Cloth) "__init__" = some (some (.ref f9)))
    (l9 : K.lookup f9 = some ⟨oc9, od9, .func (PySem.W.fnOf "__init__" "Cloth.__init__" (defArgs s_Cloth_init) (defBody s_Cloth_init) (defScope s_Cloth_init) .none kV9 dc9 pm9 an9 cd9 ct9), sl9⟩)
    (c9 : PySem.W.codeIn K cd9 "Cloth.__init__" = true)
    (k9 : PySem.W.keepIn K (.ref f9) = true)
    (i9 : PySem.W.isFn K (.ref f9) = true)
    {f10 : Addr} {od10 an10 : Option Addr} {sl10 : Array (Option Value)} {oc10 kV10 dc10 pm10 cd10 ct10 : Value}
    (a10 : PySem.W.findIn K (.ref C_Number) "__init__" = some (some (.ref f10)))
    (l10 : K.lookup f10 = some ⟨oc10, od10, .func (PySem.W.fnOf "__init__" "Number.__init__" (defArgs s_Number_init) (defBody s_Number_init) (defScope s_Number_init) .none kV10 dc10 pm10 an10 cd10 ct10), sl10⟩)
    (c10 : PySem.W.codeIn K cd10 "Number.__init__" = true)
    (k10 : PySem.W.keepIn K (.ref f10) = true)
    (i10 : PySem.W.isFn K (.ref f10) = true)
    {f11 : Addr} {od11 an11 : Option Addr} {sl11 : Array (Option Value)} {oc11 kV11 dc11 pm11 cd11 ct11 : Value}
    (a11 : PySem.W.nsIn K mainGlobals "_law_cell_at" = some (some (.ref f11)))
    (l11 : K.lookup f11 = some ⟨oc11, od11, .func (PySem.W.fnOf "_law_cell_at" "_law_cell_at" (defArgs s_l_cell_at) (defBody s_l_cell_at) (defScope s_l_cell_at) .none kV11 dc11 pm11 an11 cd11 ct11), sl11⟩)
    (c11 : PySem.W.codeIn K cd11 "_law_cell_at" = true)
    (k11 : PySem.W.keepIn K (.ref f11) = true)
    {f12 : Addr} {od12 an12 : Option Addr} {sl12 : Array (Option Value)} {oc12 kV12 dc12 pm12 cd12 ct12 : Value}
    (a12 : PySem.W.nsIn K mainGlobals "_law_whole" = some (some (.ref f12)))
    (l12 : K.lookup f12 = some ⟨oc12, od12, .func (PySem.W.fnOf "_law_whole" "_law_whole" (defArgs s_l_whole) (defBody s_l_whole) (defScope s_l_whole) .none kV12 dc12 pm12 an12 cd12 ct12), sl12⟩)
    (c12 : PySem.W.codeIn K cd12 "_law_whole" = true)
    (k12 : PySem.W.keepIn K (.ref f12) = true)
    {f13 : Addr} {od13 an13 : Option Addr} {sl13 : Array (Option Value)} {oc13 kV13 dc13 pm13 cd13 ct13 : Value}
    (a13 : PySem.W.nsIn K mainGlobals "_law_axes_by" = some (some (.ref f13)))
    (l13 : K.lookup f13 = some ⟨oc13, od13, .func (PySem.W.fnOf "_law_axes_by" "_law_axes_by" (defArgs s_l_axes_by) (defBody s_l_axes_by) (defScope s_l_axes_by) .none kV13 dc13 pm13 an13 cd13 ct13), sl13⟩)
    (c13 : PySem.W.codeIn K cd13 "_law_axes_by" = true)
    (k13 : PySem.W.keepIn K (.ref f13) = true)
    {f14 : Addr} {od14 an14 : Option Addr} {sl14 : Array (Option Value)} {oc14 kV14 dc14 pm14 cd14 ct14 : Value}
    (a14 : PySem.W.nsIn K mainGlobals "_law_around" = some (some (.ref f14)))
    (l14 : K.lookup f14 = some ⟨oc14, od14, .func (PySem.W.fnOf "_law_around" "_law_around" (defArgs s_l_around) (defBody s_l_around) (defScope s_l_around) .none kV14 dc14 pm14 an14 cd14 ct14), sl14⟩)
    (c14 : PySem.W.codeIn K cd14 "_law_around" = true)
    (k14 : PySem.W.keepIn K (.ref f14) = true)
    {f15 : Addr} {od15 an15 : Option Addr} {sl15 : Array (Option Value)} {oc15 kV15 dc15 pm15 cd15 ct15 : Value}
    (a15 : PySem.W.nsIn K mainGlobals "_law_rows_by" = some (some (.ref f15)))
    (l15 : K.lookup f15 = some ⟨oc15, od15, .func (PySem.W.fnOf "_law_rows_by" "_law_rows_by" (defArgs s_l_rows_by) (defBody s_l_rows_by) (defScope s_l_rows_by) .none kV15 dc15 pm15 an15 cd15 ct15), sl15⟩)
    (c15 : PySem.W.codeIn K cd15 "_law_rows_by" = true)
    (k15 : PySem.W.keepIn K (.ref f15) = true)
    {f16 : Addr} {od16 an16 : Option Addr} {sl16 : Array (Option Value)} {oc16 kV16 dc16 pm16 cd16 ct16 : Value}
    (a16 : PySem.W.nsIn K mainGlobals "_law_due_of" = some (some (.ref f16)))
    (l16 : K.lookup f16 = some ⟨oc16, od16, .func (PySem.W.fnOf "_law_due_of" "_law_due_of" (defArgs s_l_due_of) (defBody s_l_due_of) (defScope s_l_due_of) .none kV16 dc16 pm16 an16 cd16 ct16), sl16⟩)
    (c16 : PySem.W.codeIn K cd16 "_law_due_of" = true)
    (k16 : PySem.W.keepIn K (.ref f16) = true)
    {f17 : Addr} {od17 an17 : Option Addr} {sl17 : Array (Option Value)} {oc17 kV17 dc17 pm17 cd17 ct17 : Value}
    (a17 : PySem.W.nsIn K mainGlobals "_law_wholes" = some (some (.ref f17)))
    (l17 : K.lookup f17 = some ⟨oc17, od17, .func (PySem.W.fnOf "_law_wholes" "_law_wholes" (defArgs s_l_wholes) (defBody s_l_wholes) (defScope s_l_wholes) .none kV17 dc17 pm17 an17 cd17 ct17), sl17⟩)
    (c17 : PySem.W.codeIn K cd17 "_law_wholes" = true)
    (k17 : PySem.W.keepIn K (.ref f17) = true)
    {f18 : Addr} {od18 an18 : Option Addr} {sl18 : Array (Option Value)} {oc18 kV18 dc18 pm18 cd18 ct18 : Value}
    (a18 : PySem.W.nsIn K mainGlobals "_law_is_node" = some (some (.ref f18)))
    (l18 : K.lookup f18 = some ⟨oc18, od18, .func (PySem.W.fnOf "_law_is_node" "_law_is_node" (defArgs s_l_is_node) (defBody s_l_is_node) (defScope s_l_is_node) .none kV18 dc18 pm18 an18 cd18 ct18), sl18⟩)
    (c18 : PySem.W.codeIn K cd18 "_law_is_node" = true)
    (k18 : PySem.W.keepIn K (.ref f18) = true)
    {f19 : Addr} {od19 an19 : Option Addr} {sl19 : Array (Option Value)} {oc19 kV19 dc19 pm19 cd19 ct19 : Value}
    (a19 : PySem.W.nsIn K mainGlobals "_law_written" = some (some (.ref f19)))
    (l19 : K.lookup f19 = some ⟨oc19, od19, .func (PySem.W.fnOf "_law_written" "_law_written" (defArgs s_l_written) (defBody s_l_written) (defScope s_l_written) .none kV19 dc19 pm19 an19 cd19 ct19), sl19⟩)
    (c19 : PySem.W.codeIn K cd19 "_law_written" = true)
    (k19 : PySem.W.keepIn K (.ref f19) = true)
    {f20 : Addr} {od20 an20 : Option Addr} {sl20 : Array (Option Value)} {oc20 kV20 dc20 pm20 cd20 ct20 : Value}
    (a20 : PySem.W.nsIn K mainGlobals "law" = some (some (.ref f20)))
    (l20 : K.lookup f20 = some ⟨oc20, od20, .func (PySem.W.fnOf "law" "law" (defArgs s_law) (defBody s_law) (defScope s_law) .none kV20 dc20 pm20 an20 cd20 ct20), sl20⟩)
    (c20 : PySem.W.codeIn K cd20 "law" = true)
    (k20 : PySem.W.keepIn K (.ref f20) = true)
    {pt_NO_OUTER : Tok}
    (aP_NO_OUTER : PySem.W.nsIn K mainGlobals "NO_OUTER" = some (some (.int (-1) pt_NO_OUTER)))
    {pt_NO_WIDTH : Tok}
    (aP_NO_WIDTH : PySem.W.nsIn K mainGlobals "NO_WIDTH" = some (some (.int (0) pt_NO_WIDTH)))
    (pg_Cloth : PySem.W.plainGet K C_Cloth Str.empty = true)
    (hd_Cloth : PySem.W.hasDictIn K C_Cloth = true)
    (po_Cloth : PySem.W.plainOver K C_Cloth = true)
    (sa_Cloth : PySem.W.findIn K (.ref C_Cloth) "__setattr__" = some (some (.builtin "object.__setattr__")))
    (mk_Cloth : PySem.W.makesIn K C_Cloth = true)
    (kc_Cloth : PySem.W.keepIn K (.ref C_Cloth) = true)
    (in_Cloth : PySem.W.findIn K (.ref C_Cloth) "__init__" = some (some (.ref f9)))
    (na_Cloth_wheel : PySem.W.findIn K (.ref C_Cloth) "wheel" = some none)
    (na_Cloth_lengths : PySem.W.findIn K (.ref C_Cloth) "lengths" = some none)
    (na_Cloth_arrays : PySem.W.findIn K (.ref C_Cloth) "arrays" = some none)
    (na_Cloth_tables : PySem.W.findIn K (.ref C_Cloth) "tables" = some none)
    (na_Cloth_lines : PySem.W.findIn K (.ref C_Cloth) "lines" = some none)
    (na_Cloth_outs : PySem.W.findIn K (.ref C_Cloth) "outs" = some none)
    (t1_Cloth : PySem.W.findIn K (.ref C_Cloth) "__class__" = some (some (.builtin "object.__class__")))
    (t2_Cloth : PySem.W.specialIn K (.builtin "object.__class__") "__get__" = some (some (.builtin "getset_descriptor.__get__")))
    (t3_Cloth : PySem.W.takesIn K (.builtin "object.__class__") = some true)
    (t4_Cloth : PySem.W.mroIn K C_Cloth (.type "object") = some true)
    (pg_Line : PySem.W.plainGet K C_Line Str.empty = true)
    (hd_Line : PySem.W.hasDictIn K C_Line = true)
    (po_Line : PySem.W.plainOver K C_Line = true)
    (sa_Line : PySem.W.findIn K (.ref C_Line) "__setattr__" = some (some (.builtin "object.__setattr__")))
    (mk_Line : PySem.W.makesIn K C_Line = true)
    (kc_Line : PySem.W.keepIn K (.ref C_Line) = true)
    (in_Line : PySem.W.findIn K (.ref C_Line) "__init__" = some (some (.ref f8)))
    (na_Line_name : PySem.W.findIn K (.ref C_Line) "name" = some none)
    (na_Line_axes : PySem.W.findIn K (.ref C_Line) "axes" = some none)
    (na_Line_sums : PySem.W.findIn K (.ref C_Line) "sums" = some none)
    (na_Line_term : PySem.W.findIn K (.ref C_Line) "term" = some none)
    (t1_Line : PySem.W.findIn K (.ref C_Line) "__class__" = some (some (.builtin "object.__class__")))
    (t2_Line : PySem.W.specialIn K (.builtin "object.__class__") "__get__" = some (some (.builtin "getset_descriptor.__get__")))
    (t3_Line : PySem.W.takesIn K (.builtin "object.__class__") = some true)
    (t4_Line : PySem.W.mroIn K C_Line (.type "object") = some true)
    (mb_Line_list : PySem.W.mroIn K C_Line (.type "list") = some false)
    (mb_Line_tuple : PySem.W.mroIn K C_Line (.type "tuple") = some false)
    (mb_Line_dict : PySem.W.mroIn K C_Line (.type "dict") = some false)
    (pg_Number : PySem.W.plainGet K C_Number Str.empty = true)
    (hd_Number : PySem.W.hasDictIn K C_Number = true)
    (po_Number : PySem.W.plainOver K C_Number = true)
    (sa_Number : PySem.W.findIn K (.ref C_Number) "__setattr__" = some (some (.builtin "object.__setattr__")))
    (mk_Number : PySem.W.makesIn K C_Number = true)
    (kc_Number : PySem.W.keepIn K (.ref C_Number) = true)
    (in_Number : PySem.W.findIn K (.ref C_Number) "__init__" = some (some (.ref f10)))
    (na_Number_number : PySem.W.findIn K (.ref C_Number) "number" = some none)
    (t1_Number : PySem.W.findIn K (.ref C_Number) "__class__" = some (some (.builtin "object.__class__")))
    (t2_Number : PySem.W.specialIn K (.builtin "object.__class__") "__get__" = some (some (.builtin "getset_descriptor.__get__")))
    (t3_Number : PySem.W.takesIn K (.builtin "object.__class__") = some true)
    (t4_Number : PySem.W.mroIn K C_Number (.type "object") = some true)
    (z_isinstance : PySem.W.nsIn K mainGlobals "isinstance" = some none)
    (z_list : PySem.W.nsIn K mainGlobals "list" = some none)
    (z_tuple : PySem.W.nsIn K mainGlobals "tuple" = some none)
    (z_dict : PySem.W.nsIn K mainGlobals "dict" = some none)
    (z_enumerate : PySem.W.nsIn K mainGlobals "enumerate" = some none)
    (z_len : PySem.W.nsIn K mainGlobals "len" = some none)
    (z_range : PySem.W.nsIn K mainGlobals "range" = some none)
    (z_reversed : PySem.W.nsIn K mainGlobals "reversed" = some none)
    (z_zip : PySem.W.nsIn K mainGlobals "zip" = some none)
    (z_bool : PySem.W.nsIn K mainGlobals "bool" = some none)
    (z_int : PySem.W.nsIn K mainGlobals "int" = some none)
    (z_min : PySem.W.nsIn K mainGlobals "min" = some none)
    (z_max : PySem.W.nsIn K mainGlobals "max" = some none)
    (z_str : PySem.W.nsIn K mainGlobals "str" = some none)
    : ∃ fd : FuncData, (∀ (s : Shared) (v : Value), BindsTo s fd ⟨[v], []⟩ [("_law_script", v)]) ∧ ∀ base : Heap, K.In base → base.Ns mainGlobals mg → FnOk l.prog w K mg base CX0 7 fa fd ["_law_script"] (spLaw K) := by
  have e := hfa.symm.trans (PySem.W.mg_of X G a20)
  cases e
  have F0 := fun_mk (st := s_copied) l0 c0 k0
  have b0 := F0.binds (ps := ["value"]) fun _ _ _ _ _ _ us hl => match us, hl with | [_], _ => rfl
  have F1 := fun_mk (st := s_copied_dict) l1 c1 k1
  have b1 := F1.binds (ps := ["value"]) fun _ _ _ _ _ _ us hl => match us, hl with | [_], _ => rfl
  have F2 := fun_mk (st := s_lengths_along) l2 c2 k2
  have b2 := F2.binds (ps := ["axes", "lengths"]) fun _ _ _ _ _ _ us hl => match us, hl with | [_, _], _ => rfl
  have F3 := fun_mk (st := s_first_nest) l3 c3 k3
  have b3 := F3.binds (ps := ["cloth"]) fun _ _ _ _ _ _ us hl => match us, hl with | [_], _ => rfl
  have F4 := fun_mk (st := s_nodes_in) l4 c4 k4
  have b4 := F4.binds (ps := ["line"]) fun _ _ _ _ _ _ us hl => match us, hl with | [_], _ => rfl
  have F5 := fun_mk (st := s_nodes_of) l5 c5 k5
  have b5 := F5.binds (ps := ["place", "line", "lengths", "fresh"]) fun _ _ _ _ _ _ us hl => match us, hl with | [_, _, _, _], _ => rfl
  have F6 := fun_mk (st := s_numbers_from) l6 c6 k6
  have b6 := F6.binds (ps := ["fresh", "axes"]) fun _ _ _ _ _ _ us hl => match us, hl with | [_, _], _ => rfl
  have F7 := fun_mk (st := s_looped) l7 c7 k7
  have b7 := F7.binds (ps := ["numbers", "sizes", "inside"]) fun _ _ _ _ _ _ us hl => match us, hl with | [_, _, _], _ => rfl
  have F8 := fun_mk (st := s_Line_init) l8 c8 k8
  have b8 := F8.binds (ps := ["self", "name", "axes", "sums", "term"]) fun _ _ _ _ _ _ us hl => match us, hl with | [_, _, _, _, _], _ => rfl
  have F9 := fun_mk (st := s_Cloth_init) l9 c9 k9
  have b9 := F9.binds (ps := ["self", "wheel", "lengths", "arrays", "tables", "lines", "outs"]) fun _ _ _ _ _ _ us hl => match us, hl with | [_, _, _, _, _, _, _], _ => rfl
  have F10 := fun_mk (st := s_Number_init) l10 c10 k10
  have b10 := F10.binds (ps := ["self", "number"]) fun _ _ _ _ _ _ us hl => match us, hl with | [_, _], _ => rfl
  have F11 := fun_mk (st := s_l_cell_at) l11 c11 k11
  have b11 := F11.binds (ps := ["_law_script", "_law_k"]) fun _ _ _ _ _ _ us hl => match us, hl with | [_, _], _ => rfl
  have F12 := fun_mk (st := s_l_whole) l12 c12 k12
  have b12 := F12.binds (ps := ["_law_found"]) fun _ _ _ _ _ _ us hl => match us, hl with | [_], _ => rfl
  have F13 := fun_mk (st := s_l_axes_by) l13 c13 k13
  have b13 := F13.binds (ps := ["_law_cell"]) fun _ _ _ _ _ _ us hl => match us, hl with | [_], _ => rfl
  have F14 := fun_mk (st := s_l_around) l14 c14 k14
  have b14 := F14.binds (ps := ["_law_axes", "_law_start", "_law_many"]) fun _ _ _ _ _ _ us hl => match us, hl with | [_, _, _], _ => rfl
  have F15 := fun_mk (st := s_l_rows_by) l15 c15 k15
  have b15 := F15.binds (ps := ["_law_script", "_law_axes", "_law_lengths"]) fun _ _ _ _ _ _ us hl => match us, hl with | [_, _, _], _ => rfl
  have F16 := fun_mk (st := s_l_due_of) l16 c16 k16
  have b16 := F16.binds (ps := ["_law_rows", "_law_lengths"]) fun _ _ _ _ _ _ us hl => match us, hl with | [_, _], _ => rfl
  have F17 := fun_mk (st := s_l_wholes) l17 c17 k17
  have b17 := F17.binds (ps := ["_law_found"]) fun _ _ _ _ _ _ us hl => match us, hl with | [_], _ => rfl
  have F18 := fun_mk (st := s_l_is_node) l18 c18 k18
  have b18 := F18.binds (ps := ["_law_node"]) fun _ _ _ _ _ _ us hl => match us, hl with | [_], _ => rfl
  have F19 := fun_mk (st := s_l_written) l19 c19 k19
  have b19 := F19.binds (ps := ["_law_found", "_law_most"]) fun _ _ _ _ _ _ us hl => match us, hl with | [_, _], _ => rfl
  have F20 := fun_mk (st := s_law) l20 c20 k20
  have b20 := F20.binds (ps := ["_law_script"]) fun _ _ _ _ _ _ us hl => match us, hl with | [_], _ => rfl
  exact ⟨_, fun s v => .of_eq rfl, fun base _ _ => ok_law (t := ⟨C_Line, C_Cloth, C_Term, C_Number, f0, _, f1, _, f2, _, f3, _, f4, _, f5, _, f6, _, f7, _, f8, _, f9, _, f10, _, f11, _, f12, _, f13, _, f14, _, f15, _, f16, _, f17, _, f18, _, f19, _, fa, _⟩) ⟨F0, PySem.W.mg_of X G a0, b0, F1, PySem.W.mg_of X G a1, b1, F2, PySem.W.mg_of X G a2, b2, F3, PySem.W.mg_of X G a3, b3, F4, PySem.W.mg_of X G a4, b4, F5, PySem.W.mg_of X G a5, b5, F6, PySem.W.mg_of X G a6, b6, F7, PySem.W.mg_of X G a7, b7, F8, b8, F9, b9, F10, b10, F11, PySem.W.mg_of X G a11, b11, F12, PySem.W.mg_of X G a12, b12, F13, PySem.W.mg_of X G a13, b13, F14, PySem.W.mg_of X G a14, b14, F15, PySem.W.mg_of X G a15, b15, F16, PySem.W.mg_of X G a16, b16, F17, PySem.W.mg_of X G a17, b17, F18, PySem.W.mg_of X G a18, b18, F19, PySem.W.mg_of X G a19, b19, F20, PySem.W.mg_of X G a20, b20, ⟨_, PySem.W.mg_of X G aP_NO_OUTER, ⟨_, rfl⟩⟩, ⟨_, PySem.W.mg_of X G aP_NO_WIDTH, ⟨_, rfl⟩⟩, PySem.W.mg_of X G aC_Line, PySem.W.mg_of X G aC_Cloth, PySem.W.mg_of X G aC_Number, ⟨pg_Cloth, hd_Cloth, po_Cloth, sa_Cloth⟩, ⟨mk_Cloth, in_Cloth, i9, kc_Cloth⟩, na_Cloth_wheel, na_Cloth_lengths, na_Cloth_arrays, na_Cloth_tables, na_Cloth_lines, na_Cloth_outs, ⟨t1_Cloth, t2_Cloth, t3_Cloth, t4_Cloth⟩, ⟨pg_Line, hd_Line, po_Line, sa_Line⟩, ⟨mk_Line, in_Line, i8, kc_Line⟩, na_Line_name, na_Line_axes, na_Line_sums, na_Line_term, ⟨t1_Line, t2_Line, t3_Line, t4_Line⟩, mb_Line_list, mb_Line_tuple, mb_Line_dict, ⟨pg_Number, hd_Number, po_Number, sa_Number⟩, ⟨mk_Number, in_Number, i10, kc_Number⟩, na_Number_number, ⟨t1_Number, t2_Number, t3_Number, t4_Number⟩, PySem.W.mg_none_of X G z_isinstance, PySem.W.mg_none_of X G z_list, PySem.W.mg_none_of X G z_tuple, PySem.W.mg_none_of X G z_dict, PySem.W.mg_none_of X G z_enumerate, PySem.W.mg_none_of X G z_len, PySem.W.mg_none_of X G z_range, PySem.W.mg_none_of X G z_reversed, PySem.W.mg_none_of X G z_zip, PySem.W.mg_none_of X G z_bool, PySem.W.mg_none_of X G z_int, PySem.W.mg_none_of X G z_min, PySem.W.mg_none_of X G z_max, PySem.W.mg_none_of X G z_str⟩⟩
theorem walk {l : PySem.W.OpenLaw} {q : Program} {loose : List Str} {XP : (Str → Option Value) → Heap → Prop} {YP : World → Heap → Prop} {d : DefRec} {K : Params → PySem.W.Frag} (hn : l.most = some 63) (hdf : d.params.defaults = [])
    (hY : ∀ (w : World) (h : Heap), YP w h → (K w.params).In h)
    (F : ∀ (w : World) (mg : Str → Option Value) (fa : Addr) (h : Heap), (K w.params).In h → h.Ns mainGlobals mg → mg d.name = some (.ref fa) →
      ∃ fd : FuncData, (∀ (s : Shared) (u : Value), BindsTo s fd ⟨[u], []⟩ [("_law_script", u)]) ∧ ∀ base : Heap, (K w.params).In base → base.Ns mainGlobals mg → FnOk l.prog w (K w.params) mg base CX0 7 fa fd ["_law_script"] (spLaw (K w.params))) :
    PySem.W.WalkO q loose XP YP l.row.toRowW d [] (fun f vs => PySem.call f vs) :=
  L2.walk_of (n := 63) (k := 7) (x := "_law_script") (CX := fun _ => CX0) (sp := fun w => spLaw (K w.params)) hn (by decide) hdf ⟨rfl, by decide, by decide⟩ hY F (fun _ _ a ns hl _ hS => ⟨a, ns, rfl, hS, hl, fun _ => rfl⟩) fun _ _ _ _ _ z => z
end My
open PySem PySem.W PyProof.Rows
set_option maxRecDepth 100000 in
set_option maxHeartbeats 0 in
theorem PySem.Challenge.cw_arrayloom_k42_the_first_nest_holds : PySem.Challenge.rw_arrayloom_k42_the_first_nest.Holds := by
  w_on; o_law; k_head; (case hw => w_witness2)
  k_fill
  refine My.walk (l := PySem.Challenge.rw_arrayloom_k42_the_first_nest) rfl rfl (fun w h Y => PySem.W.kIn_of Y) ?F
  case F =>
    intro w mg fa h KX G hmg
    refine' My.all_mk KX G hmg ?aC_Line ?aC_Cloth ?aC_Term ?aC_Number ?a0 ?l0 ?c0 ?k0 ?a1 ?l1 ?c1 ?k1 ?a2 ?l2 ?c2 ?k2 ?a3 ?l3 ?c3 ?k3 ?a4 ?l4 ?c4 ?k4 ?a5 ?l5 ?c5 ?k5 ?a6 ?l6 ?c6 ?k6 ?a7 ?l7 ?c7 ?k7 ?a8 ?l8 ?c8 ?k8 ?i8 ?a9 ?l9 ?c9 ?k9 ?i9 ?a10 ?l10 ?c10 ?k10 ?i10 ?a11 ?l11 ?c11 ?k11 ?a12 ?l12 ?c12 ?k12 ?a13 ?l13 ?c13 ?k13 ?a14 ?l14 ?c14 ?k14 ?a15 ?l15 ?c15 ?k15 ?a16 ?l16 ?c16 ?k16 ?a17 ?l17 ?c17 ?k17 ?a18 ?l18 ?c18 ?k18 ?a19 ?l19 ?c19 ?k19 ?a20 ?l20 ?c20 ?k20 ?aP_NO_OUTER ?aP_NO_WIDTH ?pg_Cloth ?hd_Cloth ?po_Cloth ?sa_Cloth ?mk_Cloth ?kc_Cloth ?in_Cloth ?na_Cloth_wheel ?na_Cloth_lengths ?na_Cloth_arrays ?na_Cloth_tables ?na_Cloth_lines ?na_Cloth_outs ?t1_Cloth ?t2_Cloth ?t3_Cloth ?t4_Cloth ?pg_Line ?hd_Line ?po_Line ?sa_Line ?mk_Line ?kc_Line ?in_Line ?na_Line_name ?na_Line_axes ?na_Line_sums ?na_Line_term ?t1_Line ?t2_Line ?t3_Line ?t4_Line ?mb_Line_list ?mb_Line_tuple ?mb_Line_dict ?pg_Number ?hd_Number ?po_Number ?sa_Number ?mk_Number ?kc_Number ?in_Number ?na_Number_number ?t1_Number ?t2_Number ?t3_Number ?t4_Number ?z_isinstance ?z_list ?z_tuple ?z_dict ?z_enumerate ?z_len ?z_range ?z_reversed ?z_zip ?z_bool ?z_int ?z_min ?z_max ?z_str
    (case aC_Line => k_is)
    (case aC_Cloth => k_is)
    (case aC_Term => k_is)
    (case aC_Number => k_is)
    (case a0 => k_is)
    (case l0 => k_is)
    (case c0 => k_is)
    (case k0 => k_is)
    (case a1 => k_is)
    (case l1 => k_is)
    (case c1 => k_is)
    (case k1 => k_is)
    (case a2 => k_is)
    (case l2 => k_is)
    (case c2 => k_is)
    (case k2 => k_is)
    (case a3 => k_is)
    (case l3 => k_is)
    (case c3 => k_is)
    (case k3 => k_is)
    (case a4 => k_is)
    (case l4 => k_is)
    (case c4 => k_is)
    (case k4 => k_is)
    (case a5 => k_is)
    (case l5 => k_is)
    (case c5 => k_is)
    (case k5 => k_is)
    (case a6 => k_is)
    (case l6 => k_is)
    (case c6 => k_is)
    (case k6 => k_is)
    (case a7 => k_is)
    (case l7 => k_is)
    (case c7 => k_is)
    (case k7 => k_is)
    (case a8 => k_is)
    (case l8 => k_is)
    (case c8 => k_is)
    (case k8 => k_is)
    (case i8 => k_is)
    (case a9 => k_is)
    (case l9 => k_is)
    (case c9 => k_is)
    (case k9 => k_is)
    (case i9 => k_is)
    (case a10 => k_is)
    (case l10 => k_is)
    (case c10 => k_is)
    (case k10 => k_is)
    (case i10 => k_is)
    (case a11 => k_is)
    (case l11 => k_is)
    (case c11 => k_is)
    (case k11 => k_is)
    (case a12 => k_is)
    (case l12 => k_is)
    (case c12 => k_is)
    (case k12 => k_is)
    (case a13 => k_is)
    (case l13 => k_is)
    (case c13 => k_is)
    (case k13 => k_is)
    (case a14 => k_is)
    (case l14 => k_is)
    (case c14 => k_is)
    (case k14 => k_is)
    (case a15 => k_is)
    (case l15 => k_is)
    (case c15 => k_is)
    (case k15 => k_is)
    (case a16 => k_is)
    (case l16 => k_is)
    (case c16 => k_is)
    (case k16 => k_is)
    (case a17 => k_is)
    (case l17 => k_is)
    (case c17 => k_is)
    (case k17 => k_is)
    (case a18 => k_is)
    (case l18 => k_is)
    (case c18 => k_is)
    (case k18 => k_is)
    (case a19 => k_is)
    (case l19 => k_is)
    (case c19 => k_is)
    (case k19 => k_is)
    (case a20 => k_is)
    (case l20 => k_is)
    (case c20 => k_is)
    (case k20 => k_is)
    (case aP_NO_OUTER => k_is)
    (case aP_NO_WIDTH => k_is)
    (case pg_Cloth => k_is)
    (case hd_Cloth => k_is)
    (case po_Cloth => k_is)
    (case sa_Cloth => k_is)
    (case mk_Cloth => k_is)
    (case kc_Cloth => k_is)
    (case in_Cloth => k_is)
    (case na_Cloth_wheel => k_is)
    (case na_Cloth_lengths => k_is)
    (case na_Cloth_arrays => k_is)
    (case na_Cloth_tables => k_is)
    (case na_Cloth_lines => k_is)
    (case na_Cloth_outs => k_is)
    (case t1_Cloth => k_is)
    (case t2_Cloth => k_is)
    (case t3_Cloth => k_is)
    (case t4_Cloth => k_is)
    (case pg_Line => k_is)
    (case hd_Line => k_is)
    (case po_Line => k_is)
    (case sa_Line => k_is)
    (case mk_Line => k_is)
    (case kc_Line => k_is)
    (case in_Line => k_is)
    (case na_Line_name => k_is)
    (case na_Line_axes => k_is)
    (case na_Line_sums => k_is)
    (case na_Line_term => k_is)
    (case t1_Line => k_is)
    (case t2_Line => k_is)
    (case t3_Line => k_is)
    (case t4_Line => k_is)
    (case mb_Line_list => k_is)
    (case mb_Line_tuple => k_is)
    (case mb_Line_dict => k_is)
    (case pg_Number => k_is)
    (case hd_Number => k_is)
    (case po_Number => k_is)
    (case sa_Number => k_is)
    (case mk_Number => k_is)
    (case kc_Number => k_is)
    (case in_Number => k_is)
    (case na_Number_number => k_is)
    (case t1_Number => k_is)
    (case t2_Number => k_is)
    (case t3_Number => k_is)
    (case t4_Number => k_is)
    (case z_isinstance => k_is)
    (case z_list => k_is)
    (case z_tuple => k_is)
    (case z_dict => k_is)
    (case z_enumerate => k_is)
    (case z_len => k_is)
    (case z_range => k_is)
    (case z_reversed => k_is)
    (case z_zip => k_is)
    (case z_bool => k_is)
    (case z_int => k_is)
    (case z_min => k_is)
    (case z_max => k_is)
    (case z_str => k_is)
