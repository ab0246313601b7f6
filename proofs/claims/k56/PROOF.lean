import PyProof.Rows.All
import Wide.All
import OpenK.AllK
import Wide.FinOn
import Lean
import PyProof.EqAt
import PyProof.EqKinds
import PyProof.TupleCall
import KE.KDictLaws
import KE.KDictList
import KE.KDictOf
import KE.KEqDict
import KE.KTryMore
import PyProof.AttrMissHeap
import PyProof.CompUse
import PyProof.ConsumeWalk
import PyProof.Conv_int_bool
import PyProof.DictItems
import PyProof.DictValues
import PyProof.DictWalks
import PyProof.EnumFor
import PyProof.EnumMake
import PyProof.EnumStmt
import PyProof.FString5
import PyProof.FactsAll.set
import PyProof.FactsAll.subtypes_5
import PyProof.FactsAll.zip
import PyProof.NeKinds
import PyProof.P3Eq
import PyProof.Rows.SetFrom
import PyProof.SetRoads
import PyProof.StrWalks
import PyProof.SumAny
import PyProof.Walks
import PySem.Challenge.RW_arrayloom_k56_reads_of_steps
-- CHANGE: your row's module here, as the last of these rows
set_option Elab.async false
set_option linter.all false
set_option maxRecDepth 100000
/-! THE HAND LAYER, for ints, bools, texts, own classes, LISTS and tuples (index, slices, in, append, pop ..), calls, loops. Paste it whole ahead of your own text; what your proof does not reach may be deleted. -/
namespace L2
open PySem PySem.Spec PyProof.Rows

/-- a key: an int or a str -/
abbrev Key := Sum Int Str
def keyIs : Key → Value → Bool
  | .inl k, v => Value.isInt k v
  | .inr x, v => Value.isStrOf x v
def keyH (w : World) : Key → Int
  | .inl k => hashInt k
  | .inr x => hashStr w x
theorem keyIs_shape : ∀ {k : Key} {v : Value}, keyIs k v = true → (∃ i t, k = Sum.inl i ∧ v = Value.int i t) ∨ (∃ x t, k = Sum.inr x ∧ v = Value.str x t)
  | .inl i, v, h => by
    obtain ⟨t, e⟩ := Value.isInt_shape (k := i) (v := v) h
    exact .inl ⟨i, t, rfl, e⟩
  | .inr x, v, h => by
    obtain ⟨t, e⟩ := Value.isStrOf_shape (x := x) (v := v) h
    exact .inr ⟨x, t, rfl, e⟩
theorem keyIs_int (i : Int) (t : Tok) : keyIs (.inl i) (.int i t) = true := by simp [keyIs, Value.isInt]
theorem keyIs_str (x : Str) (t : Tok) : keyIs (.inr x) (.str x t) = true := by simp [keyIs, Value.isStrOf]
theorem key_ll (a b : Int) : decide ((Sum.inl a : Key) = Sum.inl b) = (a == b) := by
  by_cases e : a = b
  · subst e; simp
  · have h : ¬ (Sum.inl a : Key) = Sum.inl b := fun q => e (Sum.inl.inj q)
    rw [decide_eq_false h]
    exact (beq_eq_false_iff_ne.mpr e).symm
theorem key_rr (a b : Str) : decide ((Sum.inr a : Key) = Sum.inr b) = decide (a = b) := by
  by_cases e : a = b
  · subst e; simp
  · have h : ¬ (Sum.inr a : Key) = Sum.inr b := fun q => e (Sum.inr.inj q)
    rw [decide_eq_false h, decide_eq_false e]
theorem key_lr (a : Int) (b : Str) : decide ((Sum.inl a : Key) = Sum.inr b) = false := decide_eq_false (fun q => nomatch q)
theorem key_rl (a : Str) (b : Int) : decide ((Sum.inr a : Key) = Sum.inl b) = false := decide_eq_false (fun q => nomatch q)

def mixKind (prog : Program) (w : World) : PySem.KeyKind prog w Key where
  is := keyIs
  hash := keyH w
  inj := fun v a b ha hb => by
    rcases keyIs_shape ha with ⟨i, t, rfl, rfl⟩ | ⟨x, t, rfl, rfl⟩
    · rcases keyIs_shape hb with ⟨j, u, rfl, e⟩ | ⟨y, u, rfl, e⟩
      · injection e with e1 _; rw [e1]
      · exact nomatch e
    · rcases keyIs_shape hb with ⟨j, u, rfl, e⟩ | ⟨y, u, rfl, e⟩
      · exact nomatch e
      · injection e with e1 _; rw [e1]
  byValue := fun k v h => by
    rcases keyIs_shape h with ⟨i, t, rfl, rfl⟩ | ⟨x, t, rfl, rfl⟩ <;> rfl
  pyHash := fun hv h => by
    rcases keyIs_shape hv with ⟨i, t, rfl, rfl⟩ | ⟨x, t, rfl, rfl⟩
    · exact wpAny_pyHash_int h
    · exact wpAny_pyHash_str h
  eqBool := fun hu hv h => by
    rcases keyIs_shape hu with ⟨i, t, rfl, rfl⟩ | ⟨x, t, rfl, rfl⟩
    · rcases keyIs_shape hv with ⟨j, u, rfl, rfl⟩ | ⟨y, u, rfl, rfl⟩
      · rw [key_ll] at h; exact wpAny_eqBool_int h
      · rw [key_lr] at h; exact SeqAt.EqAt.int_str i t y u _ _ _ _ h
    · rcases keyIs_shape hv with ⟨j, u, rfl, rfl⟩ | ⟨y, u, rfl, rfl⟩
      · rw [key_rl] at h; exact SeqAt.EqAt.str_int x t j u _ _ _ _ h
      · rw [key_rr] at h; exact wpAny_eqBool_str h
  «strs» := fun k x t v h => by
    rcases keyIs_shape h with ⟨i, u, rfl, e⟩ | ⟨y, u, rfl, e⟩
    · exact nomatch e
    · injection e with e1 _
      subst e1
      cases v <;> rfl

theorem mixKind_int (prog : Program) (w : World) (i : Int) (t : Tok) : (mixKind prog w).is (.inl i) (.int i t) = true := keyIs_int i t
theorem mixKind_str (prog : Program) (w : World) (x : Str) (t : Tok) : (mixKind prog w).is (.inr x) (.str x t) = true := keyIs_str x t
end L2

namespace L2
open PySem PySem.Spec PyProof.Rows

/-- a value, without the heap -/
inductive V where
  | non | bl (b : Bool) | int (i : Int) | str (x : Str) | byt (b : Array UInt8) | flt (b : UInt64) | ref (a : Addr) | ty (n : String)
  deriving DecidableEq

def RelV : V → Value → Prop
  | .non, u => u = Value.none
  | .bl b, u => u = Value.bool b
  | .int i, u => ∃ t, u = Value.int i t
  | .str x, u => ∃ t, u = Value.str x t
  | .byt b, u => ∃ t, u = Value.bytes b t
  | .flt b, u => ∃ t, u = Value.float b t
  | .ref a, u => u = Value.ref a
  | .ty n, u => u = Value.type n

abbrev Vals : List V → List Value → Prop := Paired RelV
theorem Vals.length {xs : List V} {us : List Value} (r : Vals xs us) : xs.length = us.length := Paired.length r
theorem Vals.get : ∀ {xs : List V} {us : List Value} {i : Nat} {x : V}, Vals xs us → xs[i]? = some x → ∃ u, us[i]? = some u ∧ RelV x u
  | _, _, _, _, .nil, e => by simp at e
  | _, _, 0, _, .cons r _, e => by simp at e; subst e; exact ⟨_, rfl, r⟩
  | _, _, i + 1, x, .cons _ t, e => by
    obtain ⟨u, h1, h2⟩ := Vals.get (i := i) (x := x) t (by simpa using e)
    exact ⟨u, by simpa using h1, h2⟩
theorem Vals.append : ∀ {xs ys : List V} {us ws : List Value}, Vals xs us → Vals ys ws → Vals (xs ++ ys) (us ++ ws)
  | _, _, _, _, .nil, s => s
  | _, _, _, _, .cons r t, s => .cons r (Vals.append t s)
theorem Vals.take : ∀ {xs : List V} {us : List Value} (n : Nat), Vals xs us → Vals (xs.take n) (us.take n)
  | _, _, 0, _ => .nil
  | _, _, _ + 1, .nil => .nil
  | _, _, n + 1, .cons r t => .cons r (Vals.take n t)
theorem Vals.drop : ∀ {xs : List V} {us : List Value} (n : Nat), Vals xs us → Vals (xs.drop n) (us.drop n)
  | _, _, 0, r => r
  | _, _, _ + 1, .nil => .nil
  | _, _, n + 1, .cons _ t => Vals.drop n t
def RelO : Option V → Option Value → Prop
  | some v, some u => RelV v u
  | none, none => True
  | _, _ => False
def KV {κ : Type} : List (κ × V) → List (κ × Value) → Prop := Paired fun (p : κ × V) (q : κ × Value) => p.1 = q.1 ∧ RelV p.2 q.2

/-- a key of a dict (00_mix): an int or a text -/
def kV : Key → V
  | .inl i => .int i
  | .inr x => .str x

/-- what stands at a tracked address -/
inductive HO where
  /-- a list -/
  | lst (xs : List V)
  /-- a tuple (never changes) -/
  | tup (xs : List V)
  /-- a dict whose keys are ints and texts; one whose keys are tuples of ints and texts (the empty one is both) -/
  | dK (kvs : List (Key × V)) | dT (kvs : List (List Key × V))
  /-- a set of ints: its members, its size -/
  | set (S : Int → Bool) (n : Nat)
  /-- an instance of the class at C, its dict at dx, its attributes -/
  | ins (C dx : Addr) (fs : List (Str × V))
  /-- the dict of the instance at x -/
  | own (x : Addr)
  /-- the dict of an exception -/
  | xd (fs : List (Str × V))
  /-- a bound method, f of x -/
  | met (f x : Addr)
  /-- a range object lo, lo + 1, .. below hi -/
  | rng (lo hi : Int)
  /-- a thing that is known to the object (the script; a dict while a loop walks it): read, never written while it is so -/
  | frz (o : Obj) (u : HO)
  /-- a code object's table -/
  | tbl (ps : Array Value)
  /-- any other thing, by what is true of its one object (a def of one's own: SetO a S n := HO.ext fun h => ..) -/
  | ext (φ : Heap → Prop)

abbrev Hp := Addr → Option HO
def upd (H : Hp) (a : Addr) (o : HO) : Hp := fun b => if b = a then some o else H b
theorem upd_same {H : Hp} {a : Addr} {o : HO} : upd H a o a = some o := by unfold upd; rw [if_pos rfl]
theorem upd_ne {H : Hp} {a b : Addr} {o : HO} (h : b ≠ a) : upd H a o b = H b := by unfold upd; rw [if_neg h]
theorem upd_upd {H : Hp} {a : Addr} {o u : HO} : upd (upd H a o) a u = upd H a u := by
  funext b; unfold upd; split <;> rfl
/-- two objects of different content stand apart -/
theorem ne_of {H : Hp} {a b : Addr} {o u : HO} (h : H a = some o) (h' : H b = some u) (d : o ≠ u) : a ≠ b := by
  intro e; subst e; rw [h] at h'; exact d (Option.some.inj h')
theorem ne_of_none {H : Hp} {a b : Addr} {o : HO} (h : H a = some o) (h' : H b = none) : a ≠ b := by
  intro e; subst e; rw [h] at h'; cases h'

section
variable (P : Program) (w : World)
def ObjOk (H : Hp) (h : Heap) (a : Addr) : HO → Prop
  | .lst xs => xs.length ≤ sizeLine ∧ ∃ (its : List Value) (n : Nat), Vals xs its ∧ h.get? a = some { cls := .type "list", data := .seq its.toArray n }
  | .tup xs => xs.length ≤ sizeLine ∧ ∃ its : List Value, Vals xs its ∧ IsTup h a its.toArray
  | .dK kvs => kvs.length ≤ sizeLine ∧ (a == sysModules) = false ∧ ∃ vs, KV kvs vs ∧ h.DictOf (mixKind P w) a vs
  | .dT kvs => kvs.length ≤ sizeLine ∧ (a == sysModules) = false ∧ ∃ xs : List (List Key × Addr × Value),
      Paired (fun (p : List Key × V) (q : List Key × Addr × Value) => p.1 = q.1 ∧ H q.2.1 = some (.tup (p.1.map kV)) ∧ RelV p.2 q.2.2) kvs xs ∧
      ∃ o es ep, h.get? a = some o ∧ o.ExactDict ∧ o.data = .dict es ep ∧ es.toList = xs.map (entryOfKey (tupleKind (mixKind P w))) ∧ (xs.map (·.1)).Nodup
  | .set S n => h.SetOf (intKind P w) a S n
  | .ins C dx fs => H dx = some (.own a) ∧ fs.length ≤ 1000 ∧ dx ≠ a ∧ h.get? a = some (PySem.W.instObj C dx) ∧
      ∃ mA, h.Ns1 dx mA ∧ (∀ f, RelO (fs.lookup f) (mA f)) ∧ PySem.Within mA (fs.map (·.1))
  | .own _ => ∃ o, h.get? a = some o
  | .xd fs => ∃ mA, h.Ns1 a mA ∧ ∀ f, RelO (fs.lookup f) (mA f)
  | .rng lo hi => ∃ t u v, h.get? a = some { cls := .type "range", data := .fields #[.int lo t, .int hi u, .int 1 v] }
  | .frz o u => h.get? a = some o ∧ ObjOk H h a u
  | .tbl ps => h.get? a = some { cls := .none, data := .fields ps }
  | .met f x => h.get? a = some (PySem.W.methodObj (.ref f) (.ref x))
  | .ext φ => φ h ∧ (∃ o, h.get? a = some o) ∧ ∀ h1 h2 : Heap, φ h1 → (∀ o, h1.get? a = some o → h2.get? a = some o) → φ h2
/-- the abstract heap is held -/
def HOk (H : Hp) (h : Heap) : Prop := ∀ a o, H a = some o → ObjOk P w H h a o
end

section
variable {P : Program} {w : World} {H H' : Hp} {h h' : Heap} {a : Addr} {o : HO}
theorem ObjOk.lt (x : ObjOk P w H h a o) : a < h.objs.size := by
  cases o with
  | lst xs => obtain ⟨_, _, _, _, e⟩ := x; exact Heap.lt_size e
  | tup xs => obtain ⟨_, _, _, p⟩ := x; exact p.lt
  | dK kvs => obtain ⟨_, _, _, _, o, _, _, e, _⟩ := x; exact Heap.lt_size e
  | dT kvs => obtain ⟨_, _, _, _, o, _, _, e, _⟩ := x; exact Heap.lt_size e
  | set S n => obtain ⟨o, _, _, _, e, _⟩ := x; exact Heap.lt_size e
  | ins C dx fs => obtain ⟨_, _, _, e, _⟩ := x; exact Heap.lt_size e
  | own y => obtain ⟨_, e⟩ := x; exact Heap.lt_size e
  | xd fs => obtain ⟨_, ⟨_, _, _, e, _⟩, _⟩ := x; exact Heap.lt_size e
  | rng lo hi => obtain ⟨_, _, _, e⟩ := x; exact Heap.lt_size e
  | frz ob u => obtain ⟨e, _⟩ := x; exact Heap.lt_size e
  | tbl ps => exact Heap.lt_size (show h.get? a = some _ from x)
  | met f y => exact Heap.lt_size (show h.get? a = some _ from x)
  | ext φ => obtain ⟨_, ⟨_, e⟩, _⟩ := x; exact Heap.lt_size e
theorem Paired.mapP {α β : Type} {F G : α → β → Prop} : ∀ {l₁ : List α} {l₂ : List β}, Paired F l₁ l₂ → (∀ a b, F a b → G a b) → Paired G l₁ l₂
  | _, _, .nil, _ => .nil
  | _, _, .cons r t, f => .cons (f _ _ r) (Paired.mapP t f)
/-- what an object's description leans on: its own object, its own dict, the tuples -/
theorem ObjOk.stay (x : ObjOk P w H h a o) (k : ∀ b u, (b = a ∨ H b = some (.own a)) → h.get? b = some u → h'.get? b = some u)
    (ho : ∀ b, H b = some (.own a) → H' b = some (.own a)) (ht : ∀ b xs, H b = some (.tup xs) → H' b = some (.tup xs)) : ObjOk P w H' h' a o := by
  induction o with
  | lst xs => obtain ⟨z, its, n, r, e⟩ := x; exact ⟨z, its, n, r, k _ _ (.inl rfl) e⟩
  | tup xs => obtain ⟨z, its, r, ob, e, c⟩ := x; exact ⟨z, its, r, ob, k _ _ (.inl rfl) e, c⟩
  | dK kvs => obtain ⟨z, y, vs, r, ob, es, ep, e, c⟩ := x; exact ⟨z, y, vs, r, ob, es, ep, k _ _ (.inl rfl) e, c⟩
  | dT kvs =>
    obtain ⟨z, y, xs, r, ob, es, ep, e, c⟩ := x
    exact ⟨z, y, xs, Paired.mapP r fun p q z => ⟨z.1, ht _ _ z.2.1, z.2.2⟩, ob, es, ep, k _ _ (.inl rfl) e, c⟩
  | set S n => obtain ⟨ob, es, ep, t, e, c⟩ := x; exact ⟨ob, es, ep, t, k _ _ (.inl rfl) e, c⟩
  | ins C dx fs =>
    obtain ⟨d, z, ne, e, mA, ⟨od, es, ep, e2, c⟩, r⟩ := x
    exact ⟨ho _ d, z, ne, k _ _ (.inl rfl) e, mA, ⟨od, es, ep, k _ _ (.inr d) e2, c⟩, r⟩
  | own y => obtain ⟨ob, e⟩ := x; exact ⟨ob, k _ _ (.inl rfl) e⟩
  | xd fs => obtain ⟨mA, ⟨od, es, ep, e, c⟩, r⟩ := x; exact ⟨mA, ⟨od, es, ep, k _ _ (.inl rfl) e, c⟩, r⟩
  | rng lo hi => obtain ⟨t, u, v, e⟩ := x; exact ⟨t, u, v, k _ _ (.inl rfl) e⟩
  | frz ob u ih => obtain ⟨e, q⟩ := x; exact ⟨k _ _ (.inl rfl) e, ih q⟩
  | tbl ps =>
    have e : h.get? a = some { cls := .none, data := .fields ps } := x
    show h'.get? a = some { cls := .none, data := .fields ps }
    exact k a _ (.inl rfl) e
  | met f y =>
    have e : h.get? a = some (PySem.W.methodObj (.ref f) (.ref y)) := x
    show h'.get? a = some (PySem.W.methodObj (.ref f) (.ref y))
    exact k a _ (.inl rfl) e
  | ext φ => obtain ⟨p, ⟨o, e⟩, st⟩ := x; exact ⟨st _ _ p fun o q => k _ _ (.inl rfl) q, ⟨o, k _ _ (.inl rfl) e⟩, st⟩
theorem HOk.lt (x : HOk P w H h) (e : H a = some o) : a < h.objs.size := (x a o e).lt
theorem HOk.fresh (x : HOk P w H h) (e : h.objs.size ≤ a) : H a = none := by
  cases q : H a with
  | none => rfl
  | some u => exact absurd (Nat.lt_of_lt_of_le (x.lt q) e) (Nat.lt_irrefl _)
/-- every object of the heap is kept -/
theorem HOk.kept (x : HOk P w H h) (k : ∀ b u, h.get? b = some u → h'.get? b = some u) : HOk P w H h' := fun a o e =>
  (x a o e).stay (fun b u _ q => k b u q) (fun _ q => q) fun _ _ q => q
/-- a new object is laid and tracked -/
theorem HOk.laid (x : HOk P w H h) (k : ∀ b u, h.get? b = some u → h'.get? b = some u) (hp : h.objs.size ≤ a) (new : ObjOk P w (upd H a o) h' a o) : HOk P w (upd H a o) h' := fun b u e => by
  have hn := x.fresh hp
  by_cases hb : b = a
  · subst hb; rw [upd_same] at e; cases e; exact new
  · rw [upd_ne hb] at e
    exact (x b u e).stay (fun c v _ q => k c v q) (fun c q => by rw [upd_ne (ne_of_none q hn)]; exact q) fun c xs q => by rw [upd_ne (ne_of_none q hn)]; exact q
end

/-- what may be read as u: it is u, or a known u -/
def Rd (H : Hp) (a : Addr) (u : HO) : Prop := H a = some u ∨ ∃ o, H a = some (.frz o u)
theorem Rd.ok {P : Program} {w : World} {H : Hp} {h : Heap} {a : Addr} {u : HO} (r : Rd H a u) (x : HOk P w H h) : ObjOk P w H h a u := by
  rcases r with r | ⟨o, r⟩
  · exact x a u r
  · obtain ⟨_, q⟩ := x a _ r
    exact q
/-- what may be written -/
def Mut : Option HO → Prop
  | some (.lst _) => True
  | some (.dK _) => True
  | some (.dT _) => True
  | some (.set _ _) => True
  | some (.ins _ _ _) => True
  | some (.ext _) => True
  | _ => False
section
variable {P : Program} {w : World} {H : Hp} {h h' : Heap} {x e : Addr} {o' : HO}
/-- the object at e is changed: x itself, or the dict of the instance x -/
theorem HOk.write (ok : HOk P w H h) (mu : Mut (H x)) (he : e = x ∨ H e = some (.own x)) (k : ∀ b u, b ≠ e → h.get? b = some u → h'.get? b = some u) (heo : ∃ u, h'.get? e = some u)
    (new : ObjOk P w (upd H x o') h' x o') : HOk P w (upd H x o') h' := fun b u q => by
  have nown : ∀ c y, H c = some (.own y) → c ≠ x := fun c y r z => by subst z; rw [r] at mu; exact mu
  have ntup : ∀ c xs, H c = some (.tup xs) → c ≠ x := fun c xs r z => by subst z; rw [r] at mu; exact mu
  by_cases hb : b = x
  · subst hb; rw [upd_same] at q; cases q; exact new
  · rw [upd_ne hb] at q
    by_cases hbe : b = e
    · have q' : H b = some (.own x) := by
        rcases he with z | z
        · exact absurd (hbe.trans z) hb
        · rw [hbe]; exact z
      rw [q] at q'; cases q'
      obtain ⟨v, hv⟩ := heo
      exact ⟨v, by rw [hbe]; exact hv⟩
    · refine (ok b u q).stay (fun c v hc r => k c v ?_ r) (fun c r => by rw [upd_ne (nown c b r)]; exact r) fun c xs r => by rw [upd_ne (ntup c xs r)]; exact r
      rcases hc with rfl | hc
      · exact hbe
      · rintro rfl
        rcases he with z | z
        · exact nown c b hc z
        · rw [hc] at z; cases z; exact hb rfl
end

/-! ### kept unless tracked; of the frames at fs (the callers') the slots may change (an exception that passes writes there); of the records at ex (iterators) nothing is said -/
structure Un (fs ex : List Addr) (H H' : Hp) (h h' : Heap) : Prop where
  keep : ∀ b o, h.get? b = some o → H b = none → b ∉ fs → b ∉ ex → h'.get? b = some o
  slot : ∀ b o, h.get? b = some o → H b = none → b ∈ fs → b ∉ ex → ∃ sl, h'.get? b = some { o with slots := sl }
  free : ∀ b o, h.get? b = some o → H b = none → b ∉ ex → H' b = none
  there : ∀ b o, h.get? b = some o → b ∉ ex → ∃ o', h'.get? b = some o'
  tups : ∀ b xs, H b = some (.tup xs) → H' b = some (.tup xs)
  frzs : ∀ b o u, H b = some (.frz o u) → H' b = some (.frz o u)
  tbls : ∀ b ps, H b = some (.tbl ps) → ∃ more, H' b = some (.tbl (ps ++ more))
section
variable {fs fs' ex ex' : List Addr} {H H1 H2 : Hp} {h h1 h2 h' : Heap} {a x e : Addr} {o : HO}
theorem Un.any (u : Un fs ex H H1 h h1) {b : Addr} {ob : Obj} (q : h.get? b = some ob) (n : H b = none) (hx : b ∉ ex) : ∃ sl, h1.get? b = some { ob with slots := sl } := by
  by_cases hb : b ∈ fs
  · exact u.slot b ob q n hb hx
  · exact ⟨ob.slots, u.keep b ob q n hb hx⟩
theorem Un.kept (k : ∀ b u, h.get? b = some u → h'.get? b = some u) : Un fs ex H H h h' :=
  ⟨fun b ob q _ _ _ => k b ob q, fun b ob q _ _ _ => ⟨ob.slots, k b ob q⟩, fun _ _ _ n _ => n, fun b ob q _ => ⟨ob, k b ob q⟩, fun _ _ q => q, fun _ _ _ q => q, fun _ ps q => ⟨#[], by rw [q]; simp⟩⟩
theorem Un.refl : Un fs ex H H h h := Un.kept fun _ _ q => q
theorem Un.laid (k : ∀ b u, h.get? b = some u → h'.get? b = some u) (hp : h.objs.size ≤ a) (hn : H a = none) : Un fs ex H (upd H a o) h h' where
  keep := fun b u q _ _ _ => k b u q
  slot := fun b u q _ _ _ => ⟨u.slots, k b u q⟩
  free := fun b u q n _ => by rw [upd_ne (Nat.ne_of_lt (Nat.lt_of_lt_of_le (Heap.lt_size q) hp))]; exact n
  there := fun b u q _ => ⟨u, k b u q⟩
  tups := fun b xs q => by rw [upd_ne (ne_of_none q hn)]; exact q
  frzs := fun b u xs q => by rw [upd_ne (ne_of_none q hn)]; exact q
  tbls := fun b ps q => ⟨#[], by rw [upd_ne (ne_of_none q hn), q]; simp⟩
theorem Un.write (mu : Mut (H x)) (he : e = x ∨ H e = some (.own x)) (k : ∀ b u, b ≠ e → h.get? b = some u → h'.get? b = some u) (heo : ∃ u, h'.get? e = some u) : Un fs ex H (upd H x o) h h' := by
  have hx : ∀ b, H b = none → b ≠ x := fun b n z => by subst z; rw [n] at mu; exact mu
  have hb : ∀ b, H b = none → b ≠ e := fun b n z => by
    subst z
    rcases he with r | r
    · exact hx b n r
    · rw [n] at r; cases r
  have hm : ∀ b u, H b = some u → ¬ Mut (some u) → b ≠ x := fun b u q nm z => by subst z; rw [q] at mu; exact nm mu
  refine ⟨fun b u q n _ _ => k b u (hb b n) q, fun b u q n _ _ => ⟨u.slots, k b u (hb b n) q⟩, fun b u q n _ => by rw [upd_ne (hx b n)]; exact n, fun b u q _ => ?_,
    fun b xs q => by rw [upd_ne (hm b _ q fun z => z)]; exact q, fun b u xs q => by rw [upd_ne (hm b _ q fun z => z)]; exact q, fun b ps q => ⟨#[], by rw [upd_ne (hm b _ q fun z => z), q]; simp⟩⟩
  by_cases hbe : b = e
  · subst hbe; exact heo
  · exact ⟨u, k b u hbe q⟩
end

/-! ### the heap without what is tracked -/
def trk (h : Heap) (H : Hp) : List Addr := (List.range h.objs.size).filter fun a => (H a).isSome
def hidT (h : Heap) (H : Hp) : Heap := PySem.W.hideAll h (trk h H)
theorem hidT_size (h : Heap) (H : Hp) : (hidT h H).objs.size = h.objs.size := PySem.W.hideAll_size _ _
theorem hidT_get {h : Heap} {H : Hp} {b : Addr} {o : Obj} (e : h.get? b = some o) (n : H b = none) : (hidT h H).get? b = some o :=
  PySem.W.hideAll_get _ e fun hm => by
    have q : (H b).isSome = true := (List.mem_filter.mp hm).2
    rw [n] at q; simp at q
theorem of_hidT {h : Heap} {H : Hp} {b : Addr} {o : Obj} (e : (hidT h H).get? b = some o) : h.get? b = some o ∧ H b = none := by
  have e' : h.get? b = some o := PySem.W.of_hideAll (trk h H) e
  refine ⟨e', ?_⟩
  cases q : H b with
  | none => rfl
  | some x =>
    have hm : b ∈ trk h H := List.mem_filter.mpr ⟨List.mem_range.mpr (Heap.lt_size e'), by simp [q]⟩
    have z : (hidT h H).get? b = none := PySem.W.hideAll_none (trk h H) hm
    rw [z] at e; cases e

/-! ### OpenK's ledger, filled with every new object but one -/
end L2

namespace L2
open PySem PySem.Spec PyProof.Rows

/-- the module's facts, over the base: the heap at the law's entry without what is tracked there -/
structure Mod (K : PySem.W.Frag) (mg : Str → Option Value) (base : Heap) : Prop where
  kin : K.In base
  glob : base.Ns mainGlobals mg
  blt : ∃ mb, base.Ns builtinsNs mb ∧ ∀ x : Str, x ≠ "__name__" → mb x = bootBuiltins x
  nolimit : base.NoLimit

/-- the context: a def's body (or a comprehension's block) running. base: fixed through the whole law; s₀, H₀: the entry; outer: the frames whose slots others may change (a def's callers); stack: all frames that run;
   ex: iterators that were made ahead of the entry and are walked here (a comprehension's); fn: the names whose cells were made at the entry (a def: all; a comprehension's block: its own); calm: not within an except suite; pn: pins that every state bears; xe: what is wanted of an exception that leaves the code -/
structure Cx where
  prog : Program
  w : World
  K : PySem.W.Frag
  mg : Str → Option Value
  base : Heap
  A : Around
  N : List Str
  s₀ : Shared
  H₀ : Hp
  env : Env
  outer : List Env
  stack : List Env
  ex : List Addr
  fn : Str → Bool
  calm : Bool
  pn : List (Addr × Obj)
  xe : Value → Shared → Prop
/-- the callers' frames -/
def frs (l : List Env) : List Addr := l.filterMap (·.frame)
abbrev Cx.fs (X : Cx) : List Addr := frs X.outer

def Vis (sc : Scope) (x : Str) : Prop := sc.names.lookup x = some .local ∨ sc.names.lookup x = some .cell ∨ sc.names.lookup x = some .free
def Loc (sc : Scope) (x : Str) : Prop := sc.names.lookup x = some .local ∨ sc.names.lookup x = some .cell
def Look (env : Env) (h : Heap) (m : Str → Option Value) (x : Str) (u : Value) : Prop :=
  (env.kindOf x = some .local ∧ m x = some u) ∨ ((env.kindOf x = some .cell ∨ env.kindOf x = some .free) ∧ ∃ c, env.cells.lookup x = some c ∧ h.IsCell c (some u))

structure Cx.Ok (X : Cx) : Prop where
  mod : Mod X.K X.mg X.base
  kind : X.env.scope.kind = .function
  glob : X.env.globals = mainGlobals
  blt : X.env.builtins = builtinsNs
  above : X.s₀.heap.objs.size ≤ X.env.locals
  inj : ∀ x y c, X.env.cells.lookup x = some c → X.env.cells.lookup y = some c → x = y
  has : ∀ x, (X.env.kindOf x = some .cell ∨ X.env.kindOf x = some .free) → ∃ c, X.env.cells.lookup x = some c
  cab : ∀ x c, X.fn x = true → X.env.cells.lookup x = some c → X.s₀.heap.objs.size ≤ c
  hd : X.calm = true → X.A.handled = none
  frames : X.A.frames = some X.stack
  stk : X.stack = X.outer ∨ (X.stack = X.env :: X.outer ∧ X.env.frame = some X.env.locals)
  exf : ∀ b ∈ X.ex, b ≠ X.env.locals ∧ ∀ x c, X.env.cells.lookup x = some c → c ≠ b
  bs : ∀ b o, X.base.get? b = some o → X.s₀.heap.get? b = some o ∧ X.H₀ b = none
  bsz : X.base.objs.size ≤ X.s₀.heap.objs.size
  noex : ∀ b o, X.base.get? b = some o → b ∉ X.ex
  exfs : ∀ b ∈ X.ex, b ∉ X.fs
  funs : X.s₀.heap.FunFrames X.base X.outer
  frf : ∀ b ∈ X.fs, X.H₀ b = none

structure Inv (X : Cx) (pins : List (Addr × Obj)) (σ : List (Option V)) (H : Hp) (s : Shared) : Prop where
  ok : X.Ok
  os : s.os = X.s₀.os
  bare : AllBare s.gens
  base : Un X.fs X.ex X.H₀ H X.s₀.heap s.heap
  loc : ∃ m, s.heap.Ns X.env.locals m ∧ ∀ (i : Nat) (x : Str) (v : V), X.N[i]? = some x → σ[i]? = some (some v) → Vis X.env.scope x → ∃ u, RelV v u ∧ Look X.env s.heap m x u
  cell : ∀ x c, X.env.cells.lookup x = some c → ∃ v, s.heap.IsCell c v
  free : H X.env.locals = none
  freeC : ∀ x c, X.env.cells.lookup x = some c → H c = none
  pin : ∀ p ∈ X.pn ++ pins, s.heap.get? p.1 = some p.2 ∧ H p.1 = none ∧ p.1 ≠ X.env.locals ∧ p.1 ∉ X.fs ∧ ∀ v, p.2.data ≠ .cell v
  hok : HOk X.prog X.w H s.heap
  len : σ.length = X.N.length

section
variable {X : Cx} {pins : List (Addr × Obj)} {σ : List (Option V)} {H H' : Hp} {s : Shared} {h' : Heap}

theorem Cx.Ok.nofr (ok : X.Ok) {b : Addr} {o : Obj} (e : X.base.get? b = some o) : b ∉ X.fs := fun hb => by
  have := (ok.funs.mem hb).1
  rw [e] at this; cases this
theorem Inv.bs (I : Inv X pins σ H s) : ∀ b o, X.base.get? b = some o → s.heap.get? b = some o ∧ H b = none := fun b o e =>
  ⟨I.base.keep b o (I.ok.bs b o e).1 (I.ok.bs b o e).2 (I.ok.nofr e) (I.ok.noex b o e), I.base.free b o (I.ok.bs b o e).1 (I.ok.bs b o e).2 (I.ok.noex b o e)⟩
theorem Inv.bk (I : Inv X pins σ H s) : ∀ b o, X.base.get? b = some o → s.heap.get? b = some o := fun b o e => (I.bs b o e).1
theorem Inv.mod (I : Inv X pins σ H s) : Mod X.K X.mg X.base := I.ok.mod
theorem Inv.kIn (I : Inv X pins σ H s) : X.K.In s.heap := I.ok.mod.kin.keeps I.bk
theorem Inv.lt (I : Inv X pins σ H s) : X.env.locals < s.heap.objs.size := let ⟨_, hn, _⟩ := I.loc; hn.lt
theorem Inv.sz (I : Inv X pins σ H s) : X.s₀.heap.objs.size ≤ s.heap.objs.size := Nat.le_trans I.ok.above (Nat.le_of_lt I.lt)
theorem Inv.nofs (I : Inv X pins σ H s) {a : Addr} (h : s.heap.objs.size ≤ a) : a ∉ X.fs := fun hb => by
  obtain ⟨_, o, ho, _⟩ := I.ok.funs.mem hb
  exact absurd (Nat.lt_of_lt_of_le (Heap.lt_size ho) (Nat.le_trans I.sz h)) (Nat.lt_irrefl _)
theorem Inv.cne (I : Inv X pins σ H s) : ∀ x c, X.env.cells.lookup x = some c → c ≠ X.env.locals := fun x c e z => by
  obtain ⟨v, o, ho, hd⟩ := I.cell x c e
  obtain ⟨m, ⟨o', es, ep, ho', hd', _⟩, _⟩ := I.loc
  rw [z, ho'] at ho; cases ho; rw [hd'] at hd; cases hd
theorem Inv.funs (I : Inv X pins σ H s) : s.heap.FunFrames X.base X.outer := by
  have all : ∀ (l : List Env), (∀ b ∈ frs l, b ∈ X.fs) → X.s₀.heap.FunFrames X.base l → s.heap.FunFrames X.base l := by
    intro l
    induction l with
    | nil => intro _ _; trivial
    | cons env r ih =>
      intro hs hl
      obtain ⟨hk, ⟨L, o, hf, hn, ho, hd⟩, hr⟩ := hl
      have hL : L ∈ X.fs := hs L (by unfold frs; rw [List.filterMap_cons, hf]; exact List.mem_cons_self)
      obtain ⟨sl, e⟩ := I.base.slot L o ho (I.ok.frf L hL) hL fun z => I.ok.exfs L z hL
      exact ⟨hk, ⟨L, _, hf, hn, e, hd⟩, ih (fun b hb => hs b (by unfold frs; rw [List.filterMap_cons, hf]; exact List.mem_cons_of_mem _ hb)) hr⟩
  exact all X.outer (fun _ hb => hb) I.ok.funs

/-- the frames that run, for a call -/
theorem Inv.stack (I : Inv X pins σ H s) : s.heap.FunFrames X.base X.stack := by
  rcases I.ok.stk with e | ⟨e, hf⟩
  · rw [e]; exact I.funs
  · rw [e]
    obtain ⟨m, hn, _⟩ := I.loc
    refine .cons (by rw [I.ok.kind]; decide) hf hn ?_ I.funs
    exact Heap.get?_none_of_le (Nat.le_trans I.ok.bsz I.ok.above)
theorem Inv.stkSub (I : Inv X pins σ H s) : ∀ b ∈ frs X.stack, b ∈ X.env.locals :: X.fs := fun b hb => by
  rcases I.ok.stk with e | ⟨e, hf⟩
  · rw [e] at hb; exact List.mem_cons_of_mem _ hb
  · rw [e] at hb
    unfold frs at hb
    rw [List.filterMap_cons, hf] at hb
    exact hb
theorem Inv.stkFree (I : Inv X pins σ H s) : ∀ b ∈ frs X.stack, H b = none := fun b hb => by
  rcases List.mem_cons.mp (I.stkSub b hb) with e | hb
  · rw [e]; exact I.free
  · obtain ⟨_, o, ho, _⟩ := I.ok.funs.mem hb
    exact I.base.free b o ho (I.ok.frf b hb) fun z => I.ok.exfs b z hb

/-- THE STEP: the untracked objects but the frame and the records at ch are kept (the callers' frames up to slots), the frame's map is kept, the new abstract heap is held -/
theorem Inv.step {g' : Array GenState} {t' : Nat} {d' : Drawn} {ch : List Addr} (I : Inv X pins σ H s)
    (hch : ∀ b ∈ ch, (b ∈ X.ex ∨ X.s₀.heap.objs.size ≤ b) ∧ b ≠ X.env.locals ∧ (∀ x c, X.env.cells.lookup x = some c → c ≠ b) ∧ ∀ p ∈ X.pn ++ pins, p.1 ≠ b)
    (keep : ∀ b o, b ≠ X.env.locals → b ∉ X.fs → b ∉ ch → s.heap.get? b = some o → H b = none → h'.get? b = some o)
    (slot : ∀ b o, b ≠ X.env.locals → b ∈ X.fs → b ∉ ch → s.heap.get? b = some o → H b = none → ∃ sl, h'.get? b = some { o with slots := sl }) (free : ∀ b o, b ∉ ch → s.heap.get? b = some o → H b = none → H' b = none)
    (there : ∀ b o, b ∉ ch → s.heap.get? b = some o → ∃ o', h'.get? b = some o')
    (tups : ∀ b xs, H b = some (.tup xs) → H' b = some (.tup xs)) (frzs : ∀ b o u, H b = some (.frz o u) → H' b = some (.frz o u)) (tbls : ∀ b ps, H b = some (.tbl ps) → ∃ more, H' b = some (.tbl (ps ++ more)))
    (ns : ∀ m, s.heap.Ns X.env.locals m → h'.Ns X.env.locals m) (hok : HOk X.prog X.w H' h') (hg : AllBare g') :
    Inv X pins σ H' { s with heap := h', gens := g', drawn := d', toks := t' } := by
  have neL : ∀ b o, X.s₀.heap.get? b = some o → b ≠ X.env.locals := fun b o e => Nat.ne_of_lt (Nat.lt_of_lt_of_le (Heap.lt_size e) I.ok.above)
  have neC : ∀ b o, X.s₀.heap.get? b = some o → b ∉ X.ex → b ∉ ch := fun b o e hx hb => by
    rcases (hch b hb).1 with z | z
    · exact hx z
    · exact absurd (Nat.lt_of_lt_of_le (Heap.lt_size e) z) (Nat.lt_irrefl _)
  have cellK : ∀ x c, X.env.cells.lookup x = some c → ∀ v, s.heap.IsCell c v → h'.IsCell c v := fun x c e v ⟨o, ho, hd⟩ => by
    have nch : c ∉ ch := fun z => (hch c z).2.2.1 x c e rfl
    by_cases hc : c ∈ X.fs
    · obtain ⟨sl, q⟩ := slot c o (I.cne x c e) hc nch ho (I.freeC x c e)
      exact ⟨_, q, hd⟩
    · exact ⟨o, keep c o (I.cne x c e) hc nch ho (I.freeC x c e), hd⟩
  refine ⟨I.ok, I.os, hg, ⟨fun b o e n hb hx => ?_, fun b o e n hb hx => ?_, fun b o e n hx => ?_, fun b o e hx => ?_, fun b xs e => tups b xs (I.base.tups b xs e), fun b o xs e => frzs b o xs (I.base.frzs b o xs e), fun b ps e => ?_⟩, ?_, fun x c e => ?_, ?_, fun x c e => ?_, fun p hp => ?_, hok, I.len⟩
  · exact keep b o (neL b o e) hb (neC b o e hx) (I.base.keep b o e n hb hx) (I.base.free b o e n hx)
  · obtain ⟨sl, e1⟩ := I.base.slot b o e n hb hx
    obtain ⟨sl', e2⟩ := slot b _ (neL b o e) hb (neC b o e hx) e1 (I.base.free b o e n hx)
    exact ⟨sl', e2⟩
  · obtain ⟨o', e1⟩ := I.base.there b o e hx
    exact free b o' (neC b o e hx) e1 (I.base.free b o e n hx)
  · obtain ⟨o', e1⟩ := I.base.there b o e hx
    exact there b o' (neC b o e hx) e1
  · obtain ⟨m1, e1⟩ := I.base.tbls b ps e
    obtain ⟨m2, e2⟩ := tbls b _ e1
    exact ⟨m1 ++ m2, by rw [e2, Array.append_assoc]⟩
  · obtain ⟨m, hn, hl⟩ := I.loc
    refine ⟨m, ns m hn, fun i x v e1 e2 e3 => ?_⟩
    obtain ⟨u, r, l⟩ := hl i x v e1 e2 e3
    refine ⟨u, r, ?_⟩
    rcases l with l | ⟨k, c, e, z⟩
    · exact .inl l
    · exact .inr ⟨k, c, e, cellK x c e _ z⟩
  · obtain ⟨v, z⟩ := I.cell x c e
    exact ⟨v, cellK x c e v z⟩
  · obtain ⟨m, ⟨o, _, _, ho, _⟩, _⟩ := I.loc
    exact free _ o (fun z => (hch _ z).2.1 rfl) ho I.free
  · obtain ⟨v, o, ho, hd⟩ := I.cell x c e
    exact free c o (fun z => (hch c z).2.2.1 x c e rfl) ho (I.freeC x c e)
  · obtain ⟨e, n, ne, nf, d⟩ := I.pin p hp
    have nch : p.1 ∉ ch := fun z => (hch p.1 z).2.2.2 p hp rfl
    exact ⟨keep p.1 p.2 ne nf nch e n, free p.1 p.2 nch e n, ne, nf, d⟩
/-- .. where the frame's own object is kept too -/
theorem Inv.un {t' : Nat} (I : Inv X pins σ H s) (u : Un X.fs [] H H' s.heap h') (hok : HOk X.prog X.w H' h') : Inv X pins σ H' { s with heap := h', toks := t' } := by
  obtain ⟨m, ⟨o, es, ep, ho, r⟩, _⟩ := id I.loc
  obtain ⟨sl, hL⟩ := u.any ho I.free (by simp)
  exact I.step (g' := s.gens) (d' := s.drawn) (ch := []) (fun _ z => nomatch z) (fun b o _ hb _ e n => u.keep b o e n hb (by simp)) (fun b o _ hb _ e n => u.slot b o e n hb (by simp)) (fun b o _ e n => u.free b o e n (by simp)) (fun b o _ e => u.there b o e (by simp)) u.tups u.frzs u.tbls (fun m' hm => by
    obtain ⟨o', es', ep', ho', r'⟩ := hm
    rw [ho] at ho'; cases ho'
    exact ⟨_, es', ep', hL, r'⟩) hok I.bare
/-- behind a call (or a comprehension's block): the slots of this frame may have changed too, the records at ch may have turned -/
theorem Inv.call {g' : Array GenState} {t' : Nat} {d' : Drawn} {ch : List Addr} (I : Inv X pins σ H s) (u : Un (frs X.stack) ch H H' s.heap h') (hok : HOk X.prog X.w H' h') (hg : AllBare g')
    (hch : ∀ b ∈ ch, (b ∈ X.ex ∨ X.s₀.heap.objs.size ≤ b) ∧ b ≠ X.env.locals ∧ (∀ x c, X.env.cells.lookup x = some c → c ≠ b) ∧ ∀ p ∈ X.pn ++ pins, p.1 ≠ b) :
    Inv X pins σ H' { s with heap := h', gens := g', drawn := d', toks := t' } := by
  obtain ⟨m, ⟨o, es, ep, ho, r⟩, _⟩ := id I.loc
  obtain ⟨sl, hL⟩ := u.any ho I.free fun z => (hch _ z).2.1 rfl
  exact I.step (ch := ch) hch (fun b o hL hb hc e n => u.keep b o e n (fun z => (List.mem_cons.mp (I.stkSub b z)).elim hL hb) hc) (fun b o _ _ hc e n => u.any e n hc) (fun b o hc e n => u.free b o e n hc) (fun b o hc e => u.there b o e hc) u.tups u.frzs u.tbls (fun m' hm => by
    obtain ⟨o', es', ep', ho', r'⟩ := hm
    rw [ho] at ho'; cases ho'
    exact ⟨_, es', ep', hL, r'⟩) hok hg
/-- an untracked record of ours (an iterator) has turned -/
theorem Inv.turned {t' : Nat} {it : Addr} (I : Inv X pins σ H s) (k : ∀ b o, b ≠ it → s.heap.get? b = some o → h'.get? b = some o) (hn : H it = none) (hL : it ≠ X.env.locals)
    (h1 : it ∈ X.ex ∨ X.s₀.heap.objs.size ≤ it) (h2 : ∀ x c, X.env.cells.lookup x = some c → c ≠ it) (h3 : ∀ p ∈ X.pn ++ pins, p.1 ≠ it) : Inv X pins σ H { s with heap := h', toks := t' } := by
  have nit : ∀ b u, H b = some u → b ≠ it := fun b u e z => by rw [z, hn] at e; cases e
  refine I.step (g' := s.gens) (d' := s.drawn) (ch := [it]) (fun b hb => ?_) (fun b o _ _ hc e _ => k b o (fun z => hc (by simp [z])) e) (fun b o _ _ hc e _ => ⟨o.slots, k b o (fun z => hc (by simp [z])) e⟩) (fun _ _ _ _ n => n)
    (fun b o hc e => ⟨o, k b o (fun z => hc (by simp [z])) e⟩) (fun _ _ e => e) (fun _ _ _ e => e) (fun b ps e => ⟨#[], by rw [e]; simp⟩) (fun m hm => ?_) (fun b u e => ?_) I.bare
  · have e : b = it := by simpa using hb
    subst e
    exact ⟨h1, hL, h2, h3⟩
  · obtain ⟨o, es, ep, ho, r⟩ := hm
    exact ⟨o, es, ep, k _ o (Ne.symm hL) ho, r⟩
  · refine (I.hok b u e).stay (fun c v hc q => k c v ?_ q) (fun _ q => q) fun _ _ q => q
    rcases hc with z | z
    · rw [z]; exact nit b u e
    · exact nit c _ z
theorem Inv.tok (I : Inv X pins σ H s) (t : Nat) : Inv X pins σ H { s with toks := t } := I.un (h' := s.heap) (t' := t) Un.refl I.hok
/-- all objects kept -/
theorem Inv.kept {t' : Nat} (I : Inv X pins σ H s) (k : ∀ b u, s.heap.get? b = some u → h'.get? b = some u) : Inv X pins σ H { s with heap := h', toks := t' } := I.un (Un.kept k) (I.hok.kept k)
/-- a new object laid and tracked -/
theorem Inv.laid {a : Addr} {o : HO} {t' : Nat} (I : Inv X pins σ H s) (k : ∀ b u, s.heap.get? b = some u → h'.get? b = some u) (hp : s.heap.objs.size ≤ a) (new : ObjOk X.prog X.w (upd H a o) h' a o) :
    Inv X pins σ (upd H a o) { s with heap := h', toks := t' } := I.un (Un.laid k hp (I.hok.fresh hp)) (I.hok.laid k hp new)
/-- an object written -/
theorem Inv.write {x e : Addr} {o : HO} {t' : Nat} (I : Inv X pins σ H s) (mu : Mut (H x)) (he : e = x ∨ H e = some (.own x)) (k : ∀ b u, b ≠ e → s.heap.get? b = some u → h'.get? b = some u) (heo : ∃ u, h'.get? e = some u)
    (new : ObjOk X.prog X.w (upd H x o) h' x o) : Inv X pins σ (upd H x o) { s with heap := h', toks := t' } := I.un (Un.write mu he k heo) (I.hok.write mu he k heo new)
/-- forgetting slots, pins -/
theorem Inv.weak {σ' : List (Option V)} (I : Inv X pins σ H s) (hl : σ'.length = σ.length) (w : ∀ (i : Nat) v, σ'[i]? = some (some v) → σ[i]? = some (some v)) : Inv X pins σ' H s :=
  ⟨I.ok, I.os, I.bare, I.base, let ⟨m, hn, hl'⟩ := I.loc; ⟨m, hn, fun i x v e1 e2 e3 => hl' i x v e1 (w i v e2) e3⟩, I.cell, I.free, I.freeC, I.pin, I.hok, hl.trans I.len⟩
theorem Inv.pins_of {pins' : List (Addr × Obj)} (I : Inv X pins σ H s) (h : ∀ p ∈ pins', s.heap.get? p.1 = some p.2 ∧ H p.1 = none ∧ p.1 ≠ X.env.locals ∧ p.1 ∉ X.fs ∧ ∀ v, p.2.data ≠ .cell v) : Inv X pins' σ H s :=
  ⟨I.ok, I.os, I.bare, I.base, I.loc, I.cell, I.free, I.freeC, fun p hp => (List.mem_append.mp hp).elim (fun z => I.pin p (List.mem_append_left _ z)) (h p), I.hok, I.len⟩

theorem nodup_ix {N : List Str} (hN : N.Nodup) {i j : Nat} {x : Str} (a : N[i]? = some x) (b : N[j]? = some x) : i = j := by
  obtain ⟨h1, e1⟩ := List.getElem?_eq_some_iff.mp a
  obtain ⟨h2, e2⟩ := List.getElem?_eq_some_iff.mp b
  exact (List.getElem_inj hN).mp (e1.trans e2.symm)

/-- a name is stored; what changed -/
theorem store_ok2 {M : Model} {A : Around} {E : Value → Shared → Prop} {i : Nat} {x : Str} {v : V} {u : Value} {Q : Unit → Shared → Prop} (I : Inv X pins σ H s) (hN : X.N.Nodup) (hi : X.N[i]? = some x) (hx : Loc X.env.scope x) (r : RelV v u)
    (h : ∀ s', Inv X pins (σ.set i (some v)) H s' → (∃ a, Heap.SameBut a s.heap s'.heap ∧ (a = X.env.locals ∨ X.env.cells.lookup x = some a)) → Q () s') (hf : X.fn x = true ∨ X.env.scope.names.lookup x = some .local := by first | exact .inl rfl | exact .inr rfl | assumption) : wpAny M A (storeName X.env x u) Q E s := by
  obtain ⟨m, hn, hl⟩ := id I.loc
  have hcls : (X.env.scope.kind == .class || (X.env.scope.kind == .module && X.env.locals != X.env.globals)) = false := by rw [I.ok.kind]; rfl
  have hiσ : i < σ.length := by rw [I.len]; exact (List.getElem?_eq_some_iff.mp hi).1
  have cne := I.cne
  have tracked : ∀ {a : Addr} {h' : Heap}, (∃ o, s.heap.get? a = some o ∧ H a = none) → Heap.SameBut a s.heap h' → HOk X.prog X.w H h' := fun {a h'} ha hs b ob e => by
    obtain ⟨_, _, hfree⟩ := ha
    refine (I.hok b ob e).stay (fun c w' hc q => (hs.2 c ?_).trans q) (fun _ q => q) fun _ _ q => q
    rintro rfl
    rcases hc with rfl | hc
    · rw [hfree] at e; cases e
    · rw [hfree] at hc; cases hc
  rcases hx with hk | hk
  · refine wpAny_storeName_local hk hn (fun h' hn' hs => ?_) hcls
    obtain ⟨oL, _, _, hoL, _⟩ := id hn
    refine h _ ⟨I.ok, I.os, I.bare, ⟨fun b o e n hb hx => ?_, fun b o e n hb hx => ?_, I.base.free, fun b o e hx => ?_, I.base.tups, I.base.frzs, I.base.tbls⟩, ⟨_, hn', fun j y v' e1 e2 e3 => ?_⟩, fun y c e => ?_, I.free, I.freeC, fun p hp => ?_, tracked ⟨oL, hoL, I.free⟩ hs, by simpa using I.len⟩ ⟨_, hs, .inl rfl⟩
    · exact (hs.2 b (Nat.ne_of_lt (Nat.lt_of_lt_of_le (Heap.lt_size e) I.ok.above))).trans (I.base.keep b o e n hb hx)
    · obtain ⟨sl, e1⟩ := I.base.slot b o e n hb hx
      exact ⟨sl, (hs.2 b (Nat.ne_of_lt (Nat.lt_of_lt_of_le (Heap.lt_size e) I.ok.above))).trans e1⟩
    · obtain ⟨o', e1⟩ := I.base.there b o e hx
      exact ⟨o', (hs.2 b (Nat.ne_of_lt (Nat.lt_of_lt_of_le (Heap.lt_size e) I.ok.above))).trans e1⟩
    · by_cases hj : j = i
      · subst hj
        rw [hi] at e1; cases e1
        rw [List.getElem?_set_self hiσ] at e2
        cases e2
        exact ⟨u, r, .inl ⟨hk, by simp⟩⟩
      · rw [List.getElem?_set_ne (Ne.symm hj)] at e2
        obtain ⟨u', r', q⟩ := hl j y v' e1 e2 e3
        refine ⟨u', r', ?_⟩
        rcases q with ⟨k, e⟩ | ⟨k, c, e, z⟩
        · refine .inl ⟨k, ?_⟩
          have : y ≠ x := fun e => hj (nodup_ix hN e1 (e ▸ hi))
          simp [this, e]
        · exact .inr ⟨k, c, e, z.sameBut hs (cne y c e)⟩
    · obtain ⟨w', z⟩ := I.cell y c e
      exact ⟨w', z.sameBut hs (cne y c e)⟩
    · obtain ⟨e, n, ne, nf, d⟩ := I.pin p hp
      exact ⟨(hs.2 p.1 ne).trans e, n, ne, nf, d⟩
  · have hfn : X.fn x = true := by
      rcases hf with z | z
      · exact z
      · rw [z] at hk; cases hk
    obtain ⟨c, hc⟩ := I.ok.has x (.inl hk)
    obtain ⟨w', z⟩ := I.cell x c hc
    refine wpAny_storeName_cell I.ok.kind hk hc z (fun h' hc' hs => ?_)
    obtain ⟨oc, hoc, hocd⟩ := id z
    refine h { s with heap := h' } ⟨I.ok, I.os, I.bare, ⟨fun b o e n hb hx => ?_, fun b o e n hb hx => ?_, I.base.free, fun b o e hx => ?_, I.base.tups, I.base.frzs, I.base.tbls⟩, ⟨m, hn.sameBut hs (Ne.symm (cne x c hc)), fun j y v' e1 e2 e3 => ?_⟩, fun y c' e => ?_, I.free, I.freeC, fun p hp => ?_, tracked ⟨oc, hoc, I.freeC x c hc⟩ hs, by simpa using I.len⟩ ⟨c, hs, .inr hc⟩
    · exact (hs.2 b (Nat.ne_of_lt (Nat.lt_of_lt_of_le (Heap.lt_size e) (I.ok.cab x c hfn hc)))).trans (I.base.keep b o e n hb hx)
    · obtain ⟨sl, e1⟩ := I.base.slot b o e n hb hx
      exact ⟨sl, (hs.2 b (Nat.ne_of_lt (Nat.lt_of_lt_of_le (Heap.lt_size e) (I.ok.cab x c hfn hc)))).trans e1⟩
    · obtain ⟨o', e1⟩ := I.base.there b o e hx
      exact ⟨o', (hs.2 b (Nat.ne_of_lt (Nat.lt_of_lt_of_le (Heap.lt_size e) (I.ok.cab x c hfn hc)))).trans e1⟩
    · by_cases hj : j = i
      · subst hj
        rw [hi] at e1; cases e1
        rw [List.getElem?_set_self hiσ] at e2
        cases e2
        exact ⟨u, r, .inr ⟨.inl hk, c, hc, hc'⟩⟩
      · rw [List.getElem?_set_ne (Ne.symm hj)] at e2
        obtain ⟨u', r', q⟩ := hl j y v' e1 e2 e3
        refine ⟨u', r', ?_⟩
        rcases q with q | ⟨k, c', e, z'⟩
        · exact .inl q
        · refine .inr ⟨k, c', e, z'.sameBut hs ?_⟩
          rintro rfl
          exact hj (nodup_ix hN e1 (I.ok.inj _ _ _ e hc ▸ hi))
    · by_cases hcc : c' = c
      · subst hcc; exact ⟨_, hc'⟩
      · obtain ⟨w2, z2⟩ := I.cell y c' e
        exact ⟨w2, z2.sameBut hs hcc⟩
    · obtain ⟨e, n, ne, nf, d⟩ := I.pin p hp
      refine ⟨(hs.2 p.1 ?_).trans e, n, ne, nf, d⟩
      intro q
      rw [q, hoc] at e
      have q' : oc = p.2 := Option.some.inj e
      exact d w' (by rw [← q']; exact hocd)
theorem store_ok {M : Model} {A : Around} {E : Value → Shared → Prop} {i : Nat} {x : Str} {v : V} {u : Value} {Q : Unit → Shared → Prop} (I : Inv X pins σ H s) (hN : X.N.Nodup) (hi : X.N[i]? = some x) (hx : Loc X.env.scope x) (r : RelV v u)
    (h : ∀ s', Inv X pins (σ.set i (some v)) H s' → Q () s') (hf : X.fn x = true ∨ X.env.scope.names.lookup x = some .local := by first | exact .inl rfl | exact .inr rfl | assumption) : wpAny M A (storeName X.env x u) Q E s :=
  store_ok2 I hN hi hx r (fun s' I' _ => h s' I') hf
/-- behind a call or a block, the state as it is -/
theorem Inv.call' {s' : Shared} {ch : List Addr} (I : Inv X pins σ H s) (ho : s'.os = s.os) (u : Un (frs X.stack) ch H H' s.heap s'.heap) (hok : HOk X.prog X.w H' s'.heap) (hg : AllBare s'.gens)
    (hch : ∀ b ∈ ch, (b ∈ X.ex ∨ X.s₀.heap.objs.size ≤ b) ∧ b ≠ X.env.locals ∧ (∀ x c, X.env.cells.lookup x = some c → c ≠ b) ∧ ∀ p ∈ X.pn ++ pins, p.1 ≠ b) : Inv X pins σ H' s' := by
  obtain ⟨h', g', d', t', o'⟩ := s'
  have e : o' = s.os := ho
  subst e
  exact I.call (g' := g') (t' := t') (d' := d') u hok hg hch
end

/-! ### the judgements -/
/-- an exception: its class, its own dict's address (where it has one), the abstract heap behind it -/
abbrev XK := Value → Option Addr → Hp → Prop
abbrev St := List (Option V)
abbrev VK := V → Hp → Prop
/-- an expression's reading; a test's; an argument list's -/
abbrev TE := St → Hp → VK → Prop
abbrev TT := St → Hp → (Bool → Hp → Prop) → Prop
abbrev TA := St → Hp → (List V → Hp → Prop) → Prop
/-- what is wanted behind a statement -/
structure Ends where
  nx : St → Hp → Prop
  rt : VK
  bk : St → Hp → Prop := fun _ _ => False
  ct : St → Hp → Prop := fun _ _ => False
abbrev TS := Ends → St → Hp → Prop

def EP (X : Cx) (pins : List (Addr × Obj)) (σ : St) (Q : VK) (u : Value) (s' : Shared) : Prop := ∃ v H', Inv X pins σ H' s' ∧ RelV v u ∧ Q v H'
def TP (X : Cx) (pins : List (Addr × Obj)) (σ : St) (Q : Bool → Hp → Prop) (b : Bool) (s' : Shared) : Prop := ∃ H', Inv X pins σ H' s' ∧ Q b H'
def AP (X : Cx) (pins : List (Addr × Obj)) (σ : St) (Q : List V → Hp → Prop) (us : List Value) (s' : Shared) : Prop := ∃ vs H', Inv X pins σ H' s' ∧ Vals vs us ∧ Q vs H'
def SP (X : Cx) (pins : List (Addr × Obj)) (D : Ends) (f : Flow) (s' : Shared) : Prop :=
  match f with
  | .next => ∃ σ' H', Inv X pins σ' H' s' ∧ D.nx σ' H'
  | .brk => ∃ σ' H', Inv X pins σ' H' s' ∧ D.bk σ' H'
  | .cont => ∃ σ' H', Inv X pins σ' H' s' ∧ D.ct σ' H'
  | .ret u => ∃ v σ' H', Inv X pins σ' H' s' ∧ RelV v u ∧ D.rt v H'

def PE (X : Cx) (e : Expr) (t : TE) : Prop :=
  ∀ (pins : List (Addr × Obj)) (s : Shared) (σ : St) (H : Hp) (Q : VK), Inv X pins σ H s → t σ H Q → wpAny (model X.prog X.w) X.A (eval e X.env) (EP X pins σ Q) X.xe s
def PT (X : Cx) (e : Expr) (t : TT) : Prop :=
  ∀ (pins : List (Addr × Obj)) (s : Shared) (σ : St) (H : Hp) (Q : Bool → Hp → Prop), Inv X pins σ H s → t σ H Q → wpAny (model X.prog X.w) X.A (isTrue e X.env (eval e X.env)) (TP X pins σ Q) X.xe s
/-- a test whatever its 'whole' is (and, or) -/
def PW (X : Cx) (e : Expr) (t : TT) : Prop :=
  ∀ (whole : Sem Value) (pins : List (Addr × Obj)) (s : Shared) (σ : St) (H : Hp) (Q : Bool → Hp → Prop), Inv X pins σ H s → t σ H Q → wpAny (model X.prog X.w) X.A (isTrue e X.env whole) (TP X pins σ Q) X.xe s
theorem PW.pt {X : Cx} {e : Expr} {t : TT} (h : PW X e t) : PT X e t := h _
/-- an argument list (no star), from the left -/
def PA (X : Cx) (es : List Expr) (t : TA) : Prop :=
  ∀ (pos : Pos) (pins : List (Addr × Obj)) (s : Shared) (σ : St) (H : Hp) (Q : List V → Hp → Prop), Inv X pins σ H s → t σ H Q → wpAny (model X.prog X.w) X.A (spliced (backTo pos (starEach es X.env))) (AP X pins σ Q) X.xe s
def PS (X : Cx) (st : Stmt) (t : TS) : Prop :=
  ∀ (pins : List (Addr × Obj)) (s : Shared) (σ : St) (H : Hp) (D : Ends), Inv X pins σ H s → t D σ H → wpAny (model X.prog X.w) X.A (exec st X.env) (SP X pins D) X.xe s
def PSs (X : Cx) (st : List Stmt) (t : TS) : Prop :=
  ∀ (pins : List (Addr × Obj)) (s : Shared) (σ : St) (H : Hp) (D : Ends), Inv X pins σ H s → t D σ H → wpAny (model X.prog X.w) X.A (execs st X.env) (SP X pins D) X.xe s
/-- weaken the end -/
theorem thn {α : Type} {t : Sem α} {Q Q' : α → Shared → Prop} {M : Model} {A : Around} {E : Value → Shared → Prop} {s : Shared} (h : wpAny M A t Q E s) (hQ : ∀ a s, Q a s → Q' a s) : wpAny M A t Q' E s := wpAny_mono h hQ fun _ _ x => x
end L2

namespace L2
open PySem PySem.Spec PyProof.Rows
section
variable {X : Cx}

/-! ### names and constants -/
def tVar (i : Nat) : TE := fun σ H Q => ∃ v, σ[i]? = some (some v) ∧ Q v H
def tC (v : V) : TE := fun _ H Q => Q v H
theorem pe_var {i : Nat} {x : Str} {pos : Pos} (hN : X.N[i]? = some x) (hv : Vis X.env.scope x) (hd : (x == ("__debug__" : Str)) = false := by decide) (hcd : (x == ("__classdict__" : Str)) = false := by decide) : PE X (.Name x pos) (tVar i) := by
  intro pins s σ H Q I h
  obtain ⟨v, e, h⟩ := h
  obtain ⟨m, hn, hl⟩ := I.loc
  obtain ⟨u, r, l⟩ := hl i x v hN e hv
  have fin : EP X pins σ Q u s := ⟨v, H, I, r, h⟩
  rcases l with ⟨hk, hm⟩ | ⟨hk, c, hc, hcell⟩
  · exact wpAny_Name (wpAny_loadName_local I.ok.kind hk hn hm fin) hd
  · rcases hk with hk | hk
    · exact wpAny_Name (wpAny_loadName_cell I.ok.kind hk hc hcell fin) hd
    · exact wpAny_Name (wpAny_loadName_free I.ok.kind hk hc hcell fin hcd) hd
theorem pe_int {i j pos} : PE X (.Constant (.int i) j pos) (tC (.int i)) := fun _ _ _ H _ I h => wpAny_Constant_int ⟨.int i, H, I.tok _, ⟨_, rfl⟩, h⟩
theorem pe_bl {b j pos} : PE X (.Constant (.bool b) j pos) (tC (.bl b)) := fun _ _ _ H _ I h => Constant_bool ⟨.bl b, H, I, rfl, h⟩
theorem pe_str {x j pos} : PE X (.Constant (.str x) j pos) (tC (.str x)) := fun _ _ _ H _ I h => Calls.Constant_str ⟨.str x, H, I.tok _, ⟨_, rfl⟩, h⟩

/-- a global name of the def -/
def Gl (X : Cx) (x : Str) : Prop := X.env.kindOf x = some .globalImplicit
theorem ld_glob {E : Value → Shared → Prop} {pins : List (Addr × Obj)} {s : Shared} {σ : St} {H : Hp} {x : Str} {u : Value} {pos : Pos} {Q : Value → Shared → Prop} (I : Inv X pins σ H s) (hg : Gl X x) (hm : X.mg x = some u) (h : Q u s)
    (hd : (x == ("__debug__" : Str)) = false := by decide) : wpAny (model X.prog X.w) X.A (eval (.Name x pos) X.env) Q E s :=
  Calls.Name_function_global I.ok.kind hg (Calls.loadGlobal_global (by rw [I.ok.glob]; exact I.mod.glob.keeps I.bk) hm h) hd
theorem ld_blt {E : Value → Shared → Prop} {pins : List (Addr × Obj)} {s : Shared} {σ : St} {H : Hp} {x : Str} {u : Value} {pos : Pos} {Q : Value → Shared → Prop} (I : Inv X pins σ H s) (hg : Gl X x) (hm : X.mg x = none) (hv : bootBuiltins x = some u) (h : Q u s)
    (hn : x ≠ "__name__" := by decide) (hd : (x == ("__debug__" : Str)) = false := by decide) : wpAny (model X.prog X.w) X.A (eval (.Name x pos) X.env) Q E s := by
  obtain ⟨mb, h1, h2⟩ := I.mod.blt
  exact Calls.Name_function_global I.ok.kind hg (Calls.loadGlobal_builtin (by rw [I.ok.glob]; exact I.mod.glob.keeps I.bk) hm (by rw [I.ok.blt]; exact h1.keeps I.bk) ((h2 x hn).trans hv) h) hd
theorem pe_bltn {x : Str} {v : V} {u : Value} {pos : Pos} (hg : Gl X x) (hm : X.mg x = none) (hv : bootBuiltins x = some u) (r : RelV v u) (hn : x ≠ "__name__" := by decide) (hd : (x == ("__debug__" : Str)) = false := by decide) : PE X (.Name x pos) (tC v) :=
  fun _ _ _ H _ I h => ld_blt I hg hm hv ⟨v, H, I, r, h⟩ hn hd

/-! ### arithmetic -/
variable {a b : Expr} {ta tb : TE} {pos : Pos}
/-! ### comparisons -/
/-- a comparison as a value, as a test -/
def tB (t : TE) : TT := fun σ H Q => t σ H fun x H1 => ∃ c, x = .bl c ∧ Q c H1
/-- an expression whose value is a bool, as a test -/
theorem pt_val {e : Expr} {t : TE} (h : PE X e t) (he : ∀ whole, isTrue e X.env whole = (do let v ← whole; standAt e.pos; holding [v] (truthy v)) := by intro _; rfl) : PT X e (tB t) := by
  intro pins s σ H Q I hw
  refine isTrue_plain (thn (h pins s σ H _ I hw) fun v s1 ⟨x, H1, I1, r1, q1⟩ => ?_) (he _)
  obtain ⟨d, rfl, q⟩ := q1
  cases r1
  exact wpAny_truthy_bool ⟨H1, I1, q⟩

/-! ### and, or, not -/
variable {tA tB' : TT} {rest : List Expr}
def tAnd (t u : TT) : TT := fun σ H Q => t σ H fun c H1 => if c = true then u σ H1 Q else Q false H1
def tOr (t u : TT) : TT := fun σ H Q => t σ H fun c H1 => if c = true then Q true H1 else u σ H1 Q
def tNot (t : TT) : TT := fun σ H Q => t σ H fun c H1 => Q (!c) H1
theorem pw_and1 (ha : PT X a tA) : PW X (.BoolOp .And [a] pos) tA := by
  intro wh pins s σ H Q I h
  refine isTrue_and (thn (ha pins s σ H Q I h) fun c s1 e => ?_)
  cases c with
  | true => exact isTrue_and_nil e
  | false => exact e
theorem pw_or1 (ha : PT X a tA) : PW X (.BoolOp .Or [a] pos) tA := by
  intro wh pins s σ H Q I h
  refine isTrue_or (thn (ha pins s σ H Q I h) fun c s1 e => ?_)
  cases c with
  | false => exact isTrue_or_nil e
  | true => exact e
theorem pw_and (ha : PT X a tA) (hb : PW X (.BoolOp .And (b :: rest) pos) tB') : PW X (.BoolOp .And (a :: b :: rest) pos) (tAnd tA tB') := by
  intro wh pins s σ H Q I h
  refine isTrue_and (thn (ha pins s σ H _ I h) fun c s1 ⟨H1, I1, q1⟩ => ?_)
  cases c with
  | true => exact hb wh pins s1 σ H1 Q I1 q1
  | false => exact ⟨H1, I1, q1⟩
theorem pw_or (ha : PT X a tA) (hb : PW X (.BoolOp .Or (b :: rest) pos) tB') : PW X (.BoolOp .Or (a :: b :: rest) pos) (tOr tA tB') := by
  intro wh pins s σ H Q I h
  refine isTrue_or (thn (ha pins s σ H _ I h) fun c s1 ⟨H1, I1, q1⟩ => ?_)
  cases c with
  | true => exact ⟨H1, I1, q1⟩
  | false => exact hb wh pins s1 σ H1 Q I1 q1
theorem pt_not (ha : PT X a tA) : PT X (.UnaryOp .Not a pos) (tNot tA) := by
  intro pins s σ H Q I h
  exact isTrue_not (ha pins s σ H (fun c H1 => Q (!c) H1) I h)
/-- .. as values (bools) -/
def tAndV (ta tb : TE) : TE := fun σ H Q => ta σ H fun x H1 => ∃ c, x = .bl c ∧ if c = true then tb σ H1 Q else Q (.bl false) H1
def tNotV (ta : TE) : TE := fun σ H Q => ta σ H fun x H1 => ∃ c, x = .bl c ∧ Q (.bl (!c)) H1
theorem pe_one {op} {t : TE} (h : PE X a t) : PE X (.BoolOp op [a] pos) t := fun pins s σ H Q I hw => BoolOp_one (h pins s σ H Q I hw)
theorem pe_and (ha : PE X a ta) (hb : PE X (.BoolOp .And (b :: rest) pos) tb) : PE X (.BoolOp .And (a :: b :: rest) pos) (tAndV ta tb) := by
  intro pins s σ H Q I h
  refine BoolOp_and (thn (ha pins s σ H _ I h) fun v s1 ⟨x, H1, I1, r1, q1⟩ => ?_)
  obtain ⟨c, rfl, q1⟩ := q1
  cases r1
  refine wpAny_truthy_bool ?_
  cases c with
  | true => exact hb pins s1 σ H1 Q I1 q1
  | false => exact ⟨.bl false, H1, I1, rfl, q1⟩
theorem pe_not (ha : PE X a ta) : PE X (.UnaryOp .Not a pos) (tNotV ta) := by
  intro pins s σ H Q I h
  refine UnaryOp_ (thn (ha pins s σ H _ I h) fun v s1 ⟨x, H1, I1, r1, q1⟩ => ?_)
  obtain ⟨c, rfl, q1⟩ := q1
  cases r1
  exact not_of (wpAny_truthy_bool ⟨.bl (!c), H1, I1, rfl, q1⟩)
end
end L2

namespace L2
open PySem PySem.Spec PyProof.Rows

/-! ### a list, a tuple that is read: tracked, frozen, or an object of the module -/
def SqL (K : PySem.W.Frag) (H : Hp) (a : Addr) (xs : List V) : Prop :=
  Rd H a (.lst xs) ∨
    ∃ (o : Obj) (its : Array Value) (n : Nat), K.lookup a = some o ∧ o.cls = .type "list" ∧ o.dict = none ∧ o.data = .seq its n ∧ its.size ≤ sizeLine ∧ Vals xs its.toList
def SqT (K : PySem.W.Frag) (H : Hp) (a : Addr) (xs : List V) : Prop :=
  Rd H a (.tup xs) ∨
    ∃ (o : Obj) (its : Array Value) (n : Nat), K.lookup a = some o ∧ o.cls = .type "tuple" ∧ o.data = .seq its n ∧ its.size ≤ sizeLine ∧ Vals xs its.toList
def absV : Value → Option V
  | .none => some .non
  | .bool b => some (.bl b)
  | .int i _ => some (.int i)
  | .str x _ => some (.str x)
  | .bytes b _ => some (.byt b)
  | .float b _ => some (.flt b)
  | .ref a => some (.ref a)
  | .type n => some (.ty n)
  | _ => none
theorem RelV.abs {x : V} {u : Value} (r : RelV x u) : absV u = some x := by
  cases x with
  | non => cases r; rfl
  | bl _ => cases r; rfl
  | int _ => obtain ⟨t, rfl⟩ := r; rfl
  | str _ => obtain ⟨t, rfl⟩ := r; rfl
  | byt _ => obtain ⟨t, rfl⟩ := r; rfl
  | flt _ => obtain ⟨t, rfl⟩ := r; rfl
  | ref _ => cases r; rfl
  | ty _ => cases r; rfl
theorem RelV.inj {x y : V} {u : Value} (r : RelV x u) (q : RelV y u) : x = y := Option.some.inj (r.abs.symm.trans q.abs)
theorem Vals.inj : ∀ {xs ys : List V} {us : List Value}, Vals xs us → Vals ys us → xs = ys
  | _, _, _, .nil, .nil => rfl
  | _, _, _, .cons r t, .cons r' t' => by rw [r.inj r', Vals.inj t t']
section
variable {X : Cx} {pins : List (Addr × Obj)} {σ : St} {H : Hp} {s : Shared} {a : Addr} {xs ys : List V}
theorem SqL.of {K : PySem.W.Frag} (h : H a = some (.lst xs)) : SqL K H a xs := .inl (.inl h)
theorem SqT.of {K : PySem.W.Frag} (h : H a = some (.tup xs)) : SqT K H a xs := .inl (.inl h)
theorem Inv.list (I : Inv X pins σ H s) (h : SqL X.K H a xs) : ∃ its : List Value, Vals xs its ∧ PlainL s.heap a its.toArray ∧ xs.length ≤ sizeLine := by
  rcases h with h | ⟨o, its, n, hk, hc, hd, hs, hz, r⟩
  · obtain ⟨z, its, n, r, e⟩ := h.ok I.hok
    exact ⟨its, r, ⟨_, n, e, rfl, rfl, rfl⟩, z⟩
  · refine ⟨its.toList, r, ⟨o, n, I.kIn a o hk, hc, hd, by simpa using hs⟩, ?_⟩
    have e := r.length
    simp only [Array.length_toList] at e
    omega
theorem Inv.tuple (I : Inv X pins σ H s) (h : SqT X.K H a xs) : ∃ its : List Value, Vals xs its ∧ IsTup s.heap a its.toArray ∧ xs.length ≤ sizeLine := by
  rcases h with h | ⟨o, its, n, hk, hc, hs, hz, r⟩
  · obtain ⟨z, its, r, p⟩ := h.ok I.hok
    exact ⟨its, r, p, z⟩
  · refine ⟨its.toList, r, ⟨o, I.kIn a o hk, hc, n, by simpa using hs⟩, ?_⟩
    have e := r.length
    simp only [Array.length_toList] at e
    omega
theorem Inv.list_inj (I : Inv X pins σ H s) (h : SqL X.K H a xs) (h' : SqL X.K H a ys) : xs = ys := by
  obtain ⟨its, r, ⟨o, n, e, _, _, d⟩, _⟩ := I.list h
  obtain ⟨its', r', ⟨o', n', e', _, _, d'⟩, _⟩ := I.list h'
  rw [e] at e'; cases e'
  rw [d] at d'
  injection d' with d1 _
  have : its = its' := by simpa using congrArg Array.toList d1
  subst this
  exact r.inj r'
theorem Inv.tuple_inj (I : Inv X pins σ H s) (h : SqT X.K H a xs) (h' : SqT X.K H a ys) : xs = ys := by
  obtain ⟨its, r, ⟨o, e, _, n, d⟩, _⟩ := I.tuple h
  obtain ⟨its', r', ⟨o', e', _, n', d'⟩, _⟩ := I.tuple h'
  rw [e] at e'; cases e'
  rw [d] at d'
  injection d' with d1 _
  have : its = its' := by simpa using congrArg Array.toList d1
  subst this
  exact r.inj r'
end

/-! ### another wish about exceptions -/
abbrev Cx.wish (X : Cx) (E : Value → Shared → Prop) : Cx := { X with xe := E }
/-- no exception leaves -/
abbrev Cx.nox (X : Cx) : Cx := X.wish fun _ _ => False
theorem Cx.Ok.wish {X : Cx} (ok : X.Ok) (E : Value → Shared → Prop) : (X.wish E).Ok :=
  ⟨ok.mod, ok.kind, ok.glob, ok.blt, ok.above, ok.inj, ok.has, ok.cab, ok.hd, ok.frames, ok.stk, ok.exf, ok.bs, ok.bsz, ok.noex, ok.exfs, ok.funs, ok.frf⟩
theorem Cx.Ok.unwish {X : Cx} {E : Value → Shared → Prop} (ok : (X.wish E).Ok) : X.Ok :=
  ⟨ok.mod, ok.kind, ok.glob, ok.blt, ok.above, ok.inj, ok.has, ok.cab, ok.hd, ok.frames, ok.stk, ok.exf, ok.bs, ok.bsz, ok.noex, ok.exfs, ok.funs, ok.frf⟩
section
variable {X : Cx} {pins : List (Addr × Obj)} {σ : St} {H : Hp} {s : Shared} {E : Value → Shared → Prop}
theorem Inv.wish (I : Inv X pins σ H s) (E : Value → Shared → Prop) : Inv (X.wish E) pins σ H s := ⟨I.ok.wish E, I.os, I.bare, I.base, I.loc, I.cell, I.free, I.freeC, I.pin, I.hok, I.len⟩
theorem Inv.unwish (I : Inv (X.wish E) pins σ H s) : Inv X pins σ H s := ⟨I.ok.unwish, I.os, I.bare, I.base, I.loc, I.cell, I.free, I.freeC, I.pin, I.hok, I.len⟩
theorem SP.unwish {D : Ends} {f : Flow} {s' : Shared} (h : SP (X.wish E) pins D f s') : SP X pins D f s' := by
  cases f with
  | next => obtain ⟨σ', H', I, q⟩ := h; exact ⟨σ', H', I.unwish, q⟩
  | brk => obtain ⟨σ', H', I, q⟩ := h; exact ⟨σ', H', I.unwish, q⟩
  | cont => obtain ⟨σ', H', I, q⟩ := h; exact ⟨σ', H', I.unwish, q⟩
  | ret u => obtain ⟨v, σ', H', I, r, q⟩ := h; exact ⟨v, σ', H', I.unwish, r, q⟩
theorem PSs.nox {st : List Stmt} {t : TS} (h : PSs X.nox st t) : PSs X st t := fun pins s σ H D I hw =>
  wpAny_mono (h pins s σ H D (I.wish _) hw) (fun _ _ q => q.unwish) fun _ _ z => False.elim z
end

/-! ### blocks and small statements -/
section
variable {X : Cx} {st : Stmt} {rest : List Stmt} {t u : TS} {e : Expr} {te : TE} {pos : Pos}
def tNext : TS := fun D σ H => D.nx σ H
def tSeq (t u : TS) : TS := fun D σ H => t { D with nx := u D } σ H
theorem pss_nil : PSs X [] tNext := fun _ _ σ H _ I h => wpAny_execs_nil ⟨σ, H, I, h⟩
theorem pss_cons (h1 : PS X st t) (h2 : PSs X rest u) : PSs X (st :: rest) (tSeq t u) := by
  intro pins s σ H D I h
  refine wpAny_execs_cons (thn (h1 pins s σ H { D with nx := u D } I h) fun f s1 q => ?_)
  cases f with
  | next =>
    obtain ⟨σ', H', I', q⟩ := q
    exact h2 pins s1 σ' H' D I' q
  | ret v => exact q
  | brk => exact q
  | cont => exact q
theorem pss_one (h1 : PS X st t) : PSs X [st] t := by
  intro pins s σ H D I h
  refine wpAny_execs_cons (thn (h1 pins s σ H D I h) fun f s1 q => ?_)
  cases f with
  | next => exact wpAny_execs_nil q
  | ret v => exact q
  | brk => exact q
  | cont => exact q
/-- in a def's body nothing is shown -/
theorem Inv.quiet {pins : List (Addr × Obj)} {σ : St} {H : Hp} {s : Shared} (I : Inv X pins σ H s) : interactive X.env = false := by simp [interactive, I.ok.kind]
/-- an expression whose value is dropped -/
def tDrop (te : TE) : TS := fun D σ H => te σ H fun _ H1 => D.nx σ H1
theorem ps_expr (he : PE X e te) (hs : swapsWith e none pos.line X.env = pure false := by rfl) : PS X (.Expr e pos) (tDrop te) := by
  intro pins s σ H D I h
  exact wpAny_Expr_any (thn (he pins s σ H _ I h) fun v s1 ⟨x, H1, I1, r1, q1⟩ => ⟨σ, H1, I1, q1⟩) I.quiet hs
def tRet (te : TE) : TS := fun D σ H => te σ H D.rt
theorem ps_ret (he : PE X e te) : PS X (.Return (some e) pos) (tRet te) := by
  intro pins s σ H D I h
  exact wpAny_Return_some (thn (he pins s σ H _ I h) fun v s1 ⟨x, H1, I1, r1, q1⟩ => ⟨x, σ, H1, I1, r1, q1⟩)
def tIfS (c : TT) (t u : TS) : TS := fun D σ H => c σ H fun b H1 => if b = true then t D σ H1 else u D σ H1
theorem ps_if {c : Expr} {a b : List Stmt} {tc : TT} (hc : PT X c tc) (ha : PSs X a t) (hb : PSs X b u) : PS X (.If c a b pos) (tIfS tc t u) := by
  intro pins s σ H D I h
  refine wpAny_If (thn (hc pins s σ H _ I h) fun d s1 ⟨H1, I1, q1⟩ => ?_)
  cases d with
  | true => exact ha pins s1 σ H1 D I1 q1
  | false => exact hb pins s1 σ H1 D I1 q1
end

/-! ### targets -/
abbrev TG := V → St → Hp → (St → Hp → Prop) → Prop
abbrev TGs := List V → St → Hp → (St → Hp → Prop) → Prop
def PG (X : Cx) (target : Expr) (t : TG) : Prop :=
  ∀ (pins : List (Addr × Obj)) (s : Shared) (σ : St) (H : Hp) (v : V) (u : Value) (Q : St → Hp → Prop), Inv X pins σ H s → RelV v u → t v σ H Q →
    wpAny (model X.prog X.w) X.A (assign target X.env u) (fun _ s' => ∃ σ' H', Inv X pins σ' H' s' ∧ Q σ' H') X.xe s
/-- several targets, one after another -/
def PGs (X : Cx) (ts : List Expr) (t : TGs) : Prop :=
  ∀ (pins : List (Addr × Obj)) (s : Shared) (σ : St) (H : Hp) (vs : List V) (us : List Value) (Q : St → Hp → Prop), Inv X pins σ H s → Vals vs us → t vs σ H Q →
    wpAny (model X.prog X.w) X.A (assignInOrder ((assignEach ts X.env).map (·.2)) us) (fun _ s' => ∃ σ' H', Inv X pins σ' H' s' ∧ Q σ' H') X.xe s
section
variable {X : Cx} {pos : Pos}
def gName (i : Nat) : TG := fun v σ H Q => Q (σ.set i (some v)) H
theorem pg_name {i : Nat} {x : Str} (hN : X.N.Nodup) (hi : X.N[i]? = some x) (hx : Loc X.env.scope x) (hf : X.fn x = true ∨ X.env.scope.names.lookup x = some .local := by first | exact .inl rfl | exact .inr rfl | assumption) : PG X (.Name x pos) (gName i) := by
  intro pins s σ H v u Q I r h
  exact wpAny_assign_Name (store_ok I hN hi hx r (fun s' I' => ⟨_, H, I', h⟩) hf)
def gNil : TGs := fun vs σ H Q => vs = [] ∧ Q σ H
def gCons (t : TG) (u : TGs) : TGs := fun vs σ H Q => ∃ v r, vs = v :: r ∧ t v σ H fun σ' H' => u r σ' H' Q
theorem pgs_nil : PGs X [] gNil := by
  intro pins s σ H vs us Q I r h
  obtain ⟨e, h⟩ := h
  subst e
  cases r
  exact assignInOrder_nil ⟨σ, H, I, h⟩
theorem pgs_cons {e : Expr} {es : List Expr} {t : TG} {u : TGs} (h1 : PG X e t) (h2 : PGs X es u)
    (hs : (assignEach (e :: es) X.env).map (·.2) = assign e X.env :: (assignEach es X.env).map (·.2) := by rfl) : PGs X (e :: es) (gCons t u) := by
  intro pins s σ H vs us Q I r h
  obtain ⟨v, vr, e1, h⟩ := h
  subst e1
  cases r with
  | cons r rr =>
    rw [hs]
    refine assignInOrder_cons (thn (h1 pins s σ H _ _ _ I r h) fun _ s1 ⟨σ1, H1, I1, q1⟩ => ?_)
    exact h2 pins s1 σ1 H1 _ _ Q I1 rr q1
/-- (a, b, ..) = a tuple of that length -/
def gTup (K : PySem.W.Frag) (n : Nat) (t : TGs) : TG := fun v σ H Q => ∃ a xs, v = .ref a ∧ SqT K H a xs ∧ xs.length = n ∧ t xs σ H Q
theorem pg_tup {es : List Expr} {k : Nat} {t : TGs} {n : Nat} (hc : X.calm = true) (h : PGs X es t)
    (hn : (assignEach es X.env).length = n := by rfl) (hst : (assignEach es X.env).findIdx? (·.1) = none := by rfl) : PG X (.Tuple es k pos) (gTup X.K n t) := by
  intro pins s σ H v u Q I r hw
  obtain ⟨a, xs, e1, hq, hl, hw⟩ := hw
  subst e1
  cases r
  obtain ⟨its, rv, ht, hz⟩ := I.tuple hq
  refine assign_Tuple_tuple (I.ok.hd hc) ht (by simp [hn, ← hl, rv.length]) hst fun h' hx => ?_
  have I1 : Inv X pins σ H { s with heap := h' } := I.kept (t' := s.toks) fun b o e => hx b o (Nat.ne_of_lt (Heap.lt_size e)) e
  exact h pins _ σ H xs _ Q I1 (by simpa using rv) hw
/-- target = value -/
def tAsg (te : TE) (g : TG) : TS := fun D σ H => te σ H fun x H1 => g x σ H1 D.nx
theorem ps_asg {tg e : Expr} {te : TE} {g : TG} (he : PE X e te) (hg : PG X tg g) (hs : swapsWithSole [tg] e pos.line X.env = pure false := by rfl) (hw : swappedStores [tg] e X.env = pure none := by rfl)
    (h1 : (assignEach [tg] X.env).map (·.2) = [assign tg X.env] := by rfl) : PS X (.Assign [tg] e pos) (tAsg te g) := by
  intro pins s σ H D I h
  refine wpAny_Assign_stores (thn (he pins s σ H _ I h) fun v s1 ⟨x, H1, I1, r1, q1⟩ => ?_) hs hw
  rw [h1]
  exact thn (hg pins s1 σ H1 x v _ I1 r1 q1) fun _ s2 q => q
/-- name = value -/
theorem ps_set {i : Nat} {x : Str} {e : Expr} {te : TE} {pos' : Pos} (hN : X.N.Nodup) (hi : X.N[i]? = some x) (hx : Loc X.env.scope x) (he : PE X e te) (hs : swapsWith e (some (.Name x pos')) pos.line X.env = pure false := by rfl) (hf : X.fn x = true ∨ X.env.scope.names.lookup x = some .local := by first | exact .inl rfl | exact .inr rfl | assumption) :
    PS X (.Assign [.Name x pos'] e pos) (tAsg te (gName i)) := by
  intro pins s σ H D I h
  refine wpAny_Assign_Name (thn (he pins s σ H _ I h) fun v s1 ⟨y, H1, I1, r1, q1⟩ => ?_) hs
  exact store_ok I1 hN hi hx r1 (fun s2 I2 => ⟨_, H1, I2, q1⟩) hf
end

/-! ### while -/
section
variable {X : Cx} {pos : Pos}
end

/-! ### what a loop or a comprehension walks -/
/-- at turn i: it yields x (the heap may grow), or it stops -/
structure It where
  go : Nat → Hp → Prop
  yld : Nat → Hp → V → Hp → Prop
  stop : Nat → Hp → Prop
/-- the iterator's own objects may turn: they are not the frame's, not pinned, younger than the entry (or a comprehension's own) -/
def FpOk (X : Cx) (pins : List (Addr × Obj)) (H : Hp) (b : Addr) : Prop :=
  H b = none ∧ b ≠ X.env.locals ∧ b ∉ X.fs ∧ (b ∈ X.ex ∨ X.s₀.heap.objs.size ≤ b) ∧ (∀ x c, X.env.cells.lookup x = some c → c ≠ b) ∧ ∀ p ∈ X.pn ++ pins, p.1 ≠ b
theorem Inv.fpOk {X : Cx} {pins : List (Addr × Obj)} {σ : St} {H H' : Hp} {s : Shared} {b : Addr} (I : Inv X pins σ H s) (hb : s.heap.objs.size ≤ b) (hn : H' b = none) : FpOk X pins H' b := by
  refine ⟨hn, Nat.ne_of_gt (Nat.lt_of_lt_of_le I.lt hb), I.nofs hb, .inr (Nat.le_trans I.sz hb), fun x c e z => ?_, fun p hp z => ?_⟩
  · obtain ⟨v, q⟩ := I.cell x c e
    exact absurd (Nat.lt_of_lt_of_le q.lt (by rw [z]; exact hb)) (Nat.lt_irrefl _)
  · exact absurd (Nat.lt_of_lt_of_le (Heap.lt_size (I.pin p hp).1) (by rw [z]; exact hb)) (Nat.lt_irrefl _)
structure Turn (P : Program) (w : World) (K : PySem.W.Frag) (tg : Expr) (J : It) (fp : List Addr) (it : Addr) (tn : Nat → Heap → Prop) : Prop where
  mem : it ∈ fp
  obj : ∀ i h, tn i h → ∀ b ∈ fp, ∃ o, h.get? b = some o ∧ ∀ v, o.data ≠ .cell v
  keep : ∀ i h h', tn i h → (∀ b ∈ fp, ∀ o, h.get? b = some o → h'.get? b = some o) → tn i h'
  item : ∀ (X : Cx), X.prog = P → X.w = w → X.K = K → X.calm = true → ∀ (i : Nat) (pins : List (Addr × Obj)) (s : Shared) (σ : St) (H : Hp) (E : Value → Shared → Prop), Inv X pins σ H s → (∀ b ∈ fp, FpOk X pins H b) → tn i s.heap → J.go i H →
    wpAny (model P w) X.A (pyNext (.ref it)) (fun r s1 => ∃ u, r = some u ∧
      wpAny (model P w) X.A (letOwnedTupleGo tg (.ref it) u) (fun _ s2 => ∃ x H', Inv X pins σ H' s2 ∧ RelV x u ∧ J.yld i H x H' ∧ tn (i + 1) s2.heap ∧ ∀ b ∈ fp, H' b = none) E s1) E s
  done : ∀ (X : Cx), X.prog = P → X.w = w → X.K = K → X.calm = true → ∀ (i : Nat) (pins : List (Addr × Obj)) (s : Shared) (σ : St) (H : Hp) (E : Value → Shared → Prop), Inv X pins σ H s → (∀ b ∈ fp, FpOk X pins H b) → tn i s.heap → J.stop i H →
    wpAny (model P w) X.A (pyNext (.ref it)) (fun r s1 => r = none ∧ Inv X pins σ H s1) E s
  self : ∀ (A : Around) (i : Nat) (s : Shared) (Q : Value → Shared → Prop) (E : Value → Shared → Prop), tn i s.heap → Q (.ref it) s → wpAny (model P w) A (pyIter (.ref it)) Q E s
abbrev TI := St → Hp → (It → Hp → Prop) → Prop
/-- an iterator has come -/
def PIE (X : Cx) (pins : List (Addr × Obj)) (σ : St) (tg : Expr) (R : It → Hp → Prop) (itv : Value) (s2 : Shared) : Prop :=
  ∃ (it : Addr) (fp : List Addr) (tn : Nat → Heap → Prop) (J : It) (H' : Hp), itv = .ref it ∧ Inv X pins σ H' s2 ∧ Turn X.prog X.w X.K tg J fp it tn ∧ tn 0 s2.heap ∧ (∀ b ∈ fp, FpOk X pins H' b) ∧ R J H'
def PI (X : Cx) (tg iter : Expr) (wi : TI) : Prop :=
  ∀ (pins : List (Addr × Obj)) (s : Shared) (σ : St) (H : Hp) (R : It → Hp → Prop), Inv X pins σ H s → wi σ H R →
    wpAny (model X.prog X.w) X.A (eval iter X.env) (fun v s1 => wpAny (model X.prog X.w) X.A (pyIter v) (PIE X pins σ tg R) X.xe s1) X.xe s

/-- the step ahead of the store is nothing for an iterator that keeps no tuple -/
theorem go_of {M : Model} {A : Around} {E : Value → Shared → Prop} {s : Shared} {tg : Expr} {it : Addr} {u : Value} {o : Obj} {n : String} {vs : Array Value} {Q : Unit → Shared → Prop} (ho : s.heap.get? it = some o) (hc : o.cls = .type n) (hd : o.data = .fields vs)
    (hn : ["enumerate", "zip", "dict_itemiterator", "dict_reverseitemiterator", "odict_iterator", "itertools.zip_longest", "itertools.pairwise"].contains n = false) (hQ : Q () s) : wpAny M A (letOwnedTupleGo tg (.ref it) u) Q E s := by
  unfold letOwnedTupleGo
  cases tg <;> first
    | exact wpAny_pure hQ
    | (cases u <;> first
        | exact wpAny_pure hQ
        | (refine wpAny_bind (wpAny_load ho ?_)
           rw [hc, hd]
           show wpAny M A (if (["enumerate", "zip", "dict_itemiterator", "dict_reverseitemiterator", "odict_iterator", "itertools.zip_longest", "itertools.pairwise"].contains n && vs[0]? == some (rawInt _)) = true then _ else _) Q E s
           rw [if_neg (by intro h; rw [hn, Bool.false_and] at h; cases h)]
           exact wpAny_pure hQ))

/-- the list at a, as it stands at each turn (a loop may append to it) -/
def Itl (K : PySem.W.Frag) (a : Addr) : It :=
  ⟨fun i H => ∃ xs x, SqL K H a xs ∧ xs[i]? = some x, fun i H x H' => H' = H ∧ ∀ xs, SqL K H a xs → xs[i]? = some x, fun i H => ∃ xs, SqL K H a xs ∧ xs.length ≤ i⟩
def Itt (K : PySem.W.Frag) (a : Addr) : It :=
  ⟨fun i H => ∃ xs x, SqT K H a xs ∧ xs[i]? = some x, fun i H x H' => H' = H ∧ ∀ xs, SqT K H a xs → xs[i]? = some x, fun i H => ∃ xs, SqT K H a xs ∧ xs.length ≤ i⟩
/-- lo, lo + 1, .. (n of them) -/
def Itr (lo : Int) (n : Nat) : It := ⟨fun i _ => i < n, fun i H x H' => H' = H ∧ x = .int (lo + i), fun i _ => n ≤ i⟩
theorem turn_list {P : Program} {w : World} {K : PySem.W.Frag} {tg : Expr} (a it : Addr) : Turn P w K tg (Itl K a) [it] it (fun i h => h.IsListIter it a i) where
  mem := by simp
  obj := fun i h st b hb => by
    have e : b = it := by simpa using hb
    subst e
    obtain ⟨o, e, c, d⟩ := st
    exact ⟨o, e, fun v z => by rw [d] at z; cases z⟩
  keep := fun i h h' st k => st.at fun o e => k it (by simp) o e
  item := by
    intro X hP hw hK hc i pins s σ H E I hf st hg
    subst hP hw hK
    obtain ⟨xs, x, hq, hx⟩ := hg
    obtain ⟨its, rv, p, hz⟩ := I.list hq
    obtain ⟨u, hu, ru⟩ := rv.get hx
    obtain ⟨f0, f1, f2, f3, f4, f5⟩ := hf it (by simp)
    refine wpAny_pyNext_list_item st p.isList (x := u) (by simpa using hu) fun h' st' sb => ?_
    have I1 : Inv X pins σ H { s with heap := h' } := I.turned (t' := s.toks) (fun b o hb e => (sb.2 b hb).trans e) f0 f1 f3 f4 f5
    obtain ⟨o, e, c, d⟩ := id st'
    exact ⟨u, rfl, go_of (s := { s with heap := h' }) e c d (by decide) ⟨x, H, I1, ru, ⟨rfl, fun ys hy => by rw [I.list_inj hy hq]; exact hx⟩, st', fun b hb => (hf b hb).1⟩⟩
  done := by
    intro X hP hw hK hc i pins s σ H E I hf st hg
    subst hP hw hK
    obtain ⟨xs, hq, hx⟩ := hg
    obtain ⟨its, rv, p, hz⟩ := I.list hq
    obtain ⟨f0, f1, f2, f3, f4, f5⟩ := hf it (by simp)
    have hl := rv.length
    exact wpAny_pyNext_list_end (I.ok.hd hc) st p.isList (by simp; omega) fun h' eb => ⟨rfl, I.turned (t' := s.toks) (fun b o hb e => eb b o hb e) f0 f1 f3 f4 f5⟩
  self := fun _ _ _ _ _ st h => wpAny_pyIter_listiter st h
theorem turn_tuple {P : Program} {w : World} {K : PySem.W.Frag} {tg : Expr} (a it : Addr) : Turn P w K tg (Itt K a) [it] it (fun i h => h.IsTupleIter it a i) where
  mem := by simp
  obj := fun i h st b hb => by
    have e : b = it := by simpa using hb
    subst e
    obtain ⟨o, e, c, d⟩ := st
    exact ⟨o, e, fun v z => by rw [d] at z; cases z⟩
  keep := fun i h h' st k => st.at fun o e => k it (by simp) o e
  item := by
    intro X hP hw hK hc i pins s σ H E I hf st hg
    subst hP hw hK
    obtain ⟨xs, x, hq, hx⟩ := hg
    obtain ⟨its, rv, p, hz⟩ := I.tuple hq
    obtain ⟨u, hu, ru⟩ := rv.get hx
    obtain ⟨f0, f1, f2, f3, f4, f5⟩ := hf it (by simp)
    refine wpAny_pyNext_tuple_item st (show s.heap.IsTuple a its.toArray from p) (x := u) (by simpa using hu) fun h' st' sb => ?_
    have I1 : Inv X pins σ H { s with heap := h' } := I.turned (t' := s.toks) (fun b o hb e => (sb.2 b hb).trans e) f0 f1 f3 f4 f5
    obtain ⟨o, e, c, d⟩ := id st'
    exact ⟨u, rfl, go_of (s := { s with heap := h' }) e c d (by decide) ⟨x, H, I1, ru, ⟨rfl, fun ys hy => by rw [I.tuple_inj hy hq]; exact hx⟩, st', fun b hb => (hf b hb).1⟩⟩
  done := by
    intro X hP hw hK hc i pins s σ H E I hf st hg
    subst hP hw hK
    obtain ⟨xs, hq, hx⟩ := hg
    obtain ⟨its, rv, p, hz⟩ := I.tuple hq
    obtain ⟨f0, f1, f2, f3, f4, f5⟩ := hf it (by simp)
    have hl := rv.length
    exact wpAny_pyNext_tuple_end (I.ok.hd hc) st (show s.heap.IsTuple a its.toArray from p) (by simp; omega) fun h' eb => ⟨rfl, I.turned (t' := s.toks) (fun b o hb e => eb b o hb e) f0 f1 f3 f4 f5⟩
  self := fun _ _ _ _ _ st h => wpAny_pyIter_tupleiter st h
theorem turn_range {P : Program} {w : World} {K : PySem.W.Frag} {tg : Expr} (it : Addr) (lo : Int) (n : Nat) : Turn P w K tg (Itr lo n) [it] it (fun i h => IsRangeIter h it (lo + (i : Nat) * 1) ((n : Int) - (i : Nat)) 1) where
  mem := by simp
  obj := fun i h st b hb => by
    have e : b = it := by simpa using hb
    subst e
    exact ⟨_, st, fun v z => by
      have z' : Data.fields _ = Data.cell v := z
      cases z'⟩
  keep := fun i h h' st k => k it (by simp) _ st
  item := by
    intro X hP hw hK hc i pins s σ H E I hf st hg
    subst hP hw hK
    obtain ⟨f0, f1, f2, f3, f4, f5⟩ := hf it (by simp)
    have W := Walks.range (prog := X.prog) (w := X.w) (I.ok.hd hc) it lo 1 n
    refine W.item i s _ _ hg st fun v h' tk hv st' kk => ?_
    obtain ⟨t, rfl⟩ := hv
    have I1 : Inv X pins σ H { s with heap := h', toks := tk } := I.turned (fun b o hb e => kk b o (by simpa using hb) e) f0 f1 f3 f4 f5
    refine ⟨_, rfl, go_of (s := { s with heap := h', toks := tk }) (n := "range_iterator") st' rfl rfl (by decide) ⟨.int (lo + i), H, I1, ⟨t, ?_⟩, ⟨rfl, rfl⟩, st', fun b hb => (hf b hb).1⟩⟩
    rw [Int.mul_one]
  done := by
    intro X hP hw hK hc i pins s σ H E I hf st hg
    subst hP hw hK
    obtain ⟨f0, f1, f2, f3, f4, f5⟩ := hf it (by simp)
    exact wpAny_pyNext_range_end (I.ok.hd hc) st (by have : n ≤ i := hg; omega) fun h' eb => ⟨rfl, I.turned (t' := s.toks) (fun b o hb e => eb b o hb e) f0 f1 f3 f4 f5⟩
  self := fun _ _ _ _ _ st h => wpAny_pyIter_rangeiter st h
end L2

namespace L2
open PySem PySem.Spec PyProof.Rows
section
variable {X : Cx} {tg : Expr}
def iList (K : PySem.W.Frag) (tl : TE) : TI := fun σ H R => tl σ H fun x H1 => ∃ a, x = .ref a ∧ (∃ xs, SqL K H1 a xs) ∧ R (Itl K a) H1
def iTup (K : PySem.W.Frag) (tl : TE) : TI := fun σ H R => tl σ H fun x H1 => ∃ a, x = .ref a ∧ (∃ xs, SqT K H1 a xs) ∧ R (Itt K a) H1
theorem pi_list {l : Expr} {tl : TE} (hl : PE X l tl) : PI X tg l (iList X.K tl) := by
  intro pins s σ H R I h
  refine thn (hl pins s σ H _ I h) fun v s1 ⟨x, H1, I1, r1, q1⟩ => ?_
  obtain ⟨a, e, ⟨xs, hq⟩, q⟩ := q1
  subst e
  cases r1
  obtain ⟨its, rv, p, hz⟩ := I1.list hq
  refine wpAny_pyIter_list p.isList ?_
  refine ⟨s1.heap.objs.size, [s1.heap.objs.size], _, _, H1, rfl, I1.kept (t' := s1.toks) fun b o e => Heap.get?_push_of_some _ e, turn_list a _, ⟨_, Heap.get?_push_size _ rfl, rfl, rfl⟩, fun b hb => ?_, q⟩
  have e : b = s1.heap.objs.size := by simpa using hb
  subst e
  exact I1.fpOk (Nat.le_refl _) (I1.hok.fresh (Nat.le_refl _))
theorem pi_tup {l : Expr} {tl : TE} (hl : PE X l tl) : PI X tg l (iTup X.K tl) := by
  intro pins s σ H R I h
  refine thn (hl pins s σ H _ I h) fun v s1 ⟨x, H1, I1, r1, q1⟩ => ?_
  obtain ⟨a, e, ⟨xs, hq⟩, q⟩ := q1
  subst e
  cases r1
  obtain ⟨its, rv, p, hz⟩ := I1.tuple hq
  refine wpAny_pyIter_tuple (show s1.heap.IsTuple a its.toArray from p) ?_
  refine ⟨s1.heap.objs.size, [s1.heap.objs.size], _, _, H1, rfl, I1.kept (t' := s1.toks) fun b o e => Heap.get?_push_of_some _ e, turn_tuple a _, ⟨_, Heap.get?_push_size _ rfl, rfl, rfl⟩, fun b hb => ?_, q⟩
  have e : b = s1.heap.objs.size := by simpa using hb
  subst e
  exact I1.fpOk (Nat.le_refl _) (I1.hok.fresh (Nat.le_refl _))
/-- a range object just made, walked -/
theorem range_it {pins : List (Addr × Obj)} {σ : St} {H : Hp} {s : Shared} {R : It → Hp → Prop} {E : Value → Shared → Prop} {lo hi : Int} {t u v : Tok} {tk : Nat} (I : Inv X pins σ H s) (h1 : -(2 ^ 62) ≤ lo) (h2 : lo < 2 ^ 62) (h3 : -(2 ^ 62) ≤ hi) (h4 : hi < 2 ^ 62)
    (q : R (Itr lo (hi - lo).toNat) H) : wpAny (model X.prog X.w) X.A (pyIter (.ref s.heap.objs.size)) (PIE X pins σ tg R) E { s with heap := s.heap.push { cls := .type "range", data := .fields #[.int lo t, .int hi u, .int 1 v] }, toks := tk } := by
  refine wpAny_pyIter_range (IsRange.new ..) (small_one h1 h2 h3 h4) ?_
  have I1 : Inv X pins σ H { s with heap := s.heap.push { cls := .type "range", data := .fields #[.int lo t, .int hi u, .int 1 v] }, toks := tk } := I.kept fun b o e => Heap.get?_push_of_some _ e
  refine ⟨(s.heap.push { cls := .type "range", data := .fields #[.int lo t, .int hi u, .int 1 v] }).objs.size, [(s.heap.push { cls := .type "range", data := .fields #[.int lo t, .int hi u, .int 1 v] }).objs.size], _, _, H, rfl,
    I1.kept (t' := tk) fun b o e => Heap.get?_push_of_some _ e, turn_range _ lo (hi - lo).toNat, ?_, fun b hb => ?_, q⟩
  · have e1 : lo + ((0 : Nat) : Int) * 1 = lo := by simp
    have e2 : (((hi - lo).toNat : Nat) : Int) - ((0 : Nat) : Int) = Builtin.Range.rangeSize lo hi 1 := by rw [rangeSize_one]; split <;> omega
    show IsRangeIter _ _ (lo + ((0 : Nat) : Int) * 1) ((((hi - lo).toNat : Nat) : Int) - ((0 : Nat) : Int)) 1
    rw [e1, e2]
    exact Heap.get?_push_size _ rfl
  · have e : b = (s.heap.push { cls := .type "range", data := .fields #[.int lo t, .int hi u, .int 1 v] }).objs.size := by simpa using hb
    subst e
    exact I1.fpOk (Nat.le_refl _) (I1.hok.fresh (Nat.le_refl _))
def iRng1 (ta : TA) : TI := fun σ H R => ta σ H fun vs H1 => ∃ j : Int, vs = [.int j] ∧ -(2 ^ 62) ≤ j ∧ j < 2 ^ 62 ∧ R (Itr 0 j.toNat) H1
theorem pi_range1 {a : Expr} {ta : TA} {p pos : Pos} (hg : Gl X "range") (hm : X.mg "range" = none) (ha : PA X [a] ta) (hs : starEach [a] X.env = [(false, eval a X.env)] := by rfl) : PI X tg (.Call (.Name "range" p) [a] [] pos) (iRng1 ta) := by
  intro pins s σ H R I h
  refine Call_ (ld_blt I hg hm boot_range (PyProof.Rows.callWith_type1 (thn (ha pos pins s σ H _ I h) fun us s1 ⟨vs, H1, I1, r1, q1⟩ => ?_) hs rfl))
  obtain ⟨j, e, q1, q2, q⟩ := q1
  subst e
  cases r1 with
  | cons r rr =>
    cases rr
    obtain ⟨t, rfl⟩ := r
    exact call_range_1 (range_it I1 (by omega) (by omega) q1 q2 (by simpa using q))
/-! ### for -/
/-- W: the invariant by the turn and a measure; N: what the body is to reach -/
def tFor (wi : TI) (g : TG) (tb : TS) : TS := fun D σ H => wi σ H fun J H1 => ∃ W : Nat → Nat → St → Hp → Prop, (∃ m, W 0 m σ H1) ∧ ∀ i m σ H, W i m σ H →
  (J.stop i H ∧ D.nx σ H) ∨ (J.go i H ∧ ∃ N : St → Hp → Prop, (∀ σ' H', N σ' H' → ∃ m', m' < m ∧ W (i + 1) m' σ' H') ∧ ∀ x H', J.yld i H x H' → g x σ H' fun σ2 H2 => tb { D with nx := N, ct := N, bk := D.nx } σ2 H2)
/-- the records at fp as they stand -/
def pinsAt (fp : List Addr) (h : Heap) : List (Addr × Obj) := fp.filterMap fun b => (h.get? b).map fun o => (b, o)
theorem mem_pinsAt {fp : List Addr} {h : Heap} {b : Addr} {o : Obj} (hb : b ∈ fp) (e : h.get? b = some o) : (b, o) ∈ pinsAt fp h := List.mem_filterMap.mpr ⟨b, hb, by rw [e]; rfl⟩
theorem of_pinsAt {fp : List Addr} {h : Heap} {p : Addr × Obj} (hp : p ∈ pinsAt fp h) : p.1 ∈ fp ∧ h.get? p.1 = some p.2 := by
  obtain ⟨b, hb, e⟩ := List.mem_filterMap.mp hp
  cases q : h.get? b with
  | none => rw [q] at e; cases e
  | some o =>
    rw [q] at e
    have e' : (b, o) = p := Option.some.inj e
    subst e'
    exact ⟨hb, q⟩
theorem Inv.pinned {pins : List (Addr × Obj)} {σ : St} {H : Hp} {s : Shared} {fp : List Addr} (I : Inv X pins σ H s) (hf : ∀ b ∈ fp, FpOk X pins H b) (ho : ∀ b ∈ fp, ∃ o, s.heap.get? b = some o ∧ ∀ v, o.data ≠ .cell v) : Inv X (pins ++ pinsAt fp s.heap) σ H s :=
  I.pins_of fun p hp => (List.mem_append.mp hp).elim (fun z => I.pin p (List.mem_append_right _ z)) fun z => by
    obtain ⟨hb, e⟩ := of_pinsAt z
    obtain ⟨f0, f1, f2, _⟩ := hf p.1 hb
    obtain ⟨o, e', d⟩ := ho p.1 hb
    rw [e] at e'; cases e'
    exact ⟨e, f0, f1, f2, d⟩
theorem Inv.unpinned {pins pl : List (Addr × Obj)} {σ : St} {H : Hp} {s : Shared} (I : Inv X (pins ++ pl) σ H s) : Inv X pins σ H s := I.pins_of fun p hp => I.pin p (List.mem_append_right _ (List.mem_append_left _ hp))
theorem ps_for {iter : Expr} {body : List Stmt} {wi : TI} {g : TG} {tb : TS} {pos : Pos} (hp : PassesOwn (model X.prog X.w) X.A X.env X.xe) (hc : X.calm = true) (hi : PI X tg iter wi) (hg : PG X tg g) (hb : PSs X body tb)
    (hs : ∀ x, foldedSetIterable iter X.env x = pure x := by intro _; rfl) : PS X (.For tg iter body [] pos) (tFor wi g tb) := by
  intro pins s σ H D I h
  refine wpAny_For (thn (hi pins s σ H _ I h) fun v s1 h1 => thn h1 fun itv s2 h2 => ?_) hs
  obtain ⟨it, fp, tn, J, H2, e, I2, T, st2, f2, W, ⟨m0, w0⟩, turn⟩ := h2
  subst e
  -- what stays true of the iterator's objects through the loop
  have stat : ∀ {H' : Hp}, (∀ b ∈ fp, H' b = none) → ∀ b ∈ fp, FpOk X pins H' b := fun hn b hb => ⟨hn b hb, (f2 b hb).2⟩
  refine codeAny_forLoop_any (fun n s' => ∃ i σ' H', Inv X pins σ' H' s' ∧ tn i s'.heap ∧ (∀ b ∈ fp, H' b = none) ∧ W i n σ' H') ?_ m0 ⟨0, σ, H2, I2, st2, fun b hb => (f2 b hb).1, w0⟩
  rintro n s3 ⟨i, σ3, H3, I3, st3, fr3, w3⟩
  rcases turn i n σ3 H3 w3 with ⟨stop, qn⟩ | ⟨go, N, hN, step⟩
  · refine wpAny_passesOwn hp (thn (T.done X rfl rfl rfl hc i pins s3 σ3 H3 X.xe I3 (stat fr3) st3 stop) fun r s4 ⟨hr, I4⟩ => ?_)
    subst hr
    exact wpAny_execs_nil ⟨σ3, H3, I4, qn⟩
  · refine wpAny_passesOwn hp (thn (T.item X rfl rfl rfl hc i pins s3 σ3 H3 X.xe I3 (stat fr3) st3 go) fun r s4 ⟨u, hr, h4⟩ => ?_)
    subst hr
    refine wpAny_passesOwn hp (thn h4 fun _ s5 ⟨x, H5, I5, r5, y5, st5, fr5⟩ => ?_)
    have I5' := I5.pinned (stat fr5) (T.obj _ _ st5)
    refine wpAny_passesOwn hp (thn (hg _ s5 σ3 H5 x u _ I5' r5 (step x H5 y5)) fun _ s6 ⟨σ6, H6, I6, q6⟩ => ?_)
    refine wpAny_passesOwn hp (thn (hb _ s6 σ6 H6 _ I6 q6) fun f s7 q7 => ?_)
    have again : ∀ {σ7 : St} {H7 : Hp}, Inv X (pins ++ pinsAt fp s5.heap) σ7 H7 s7 → N σ7 H7 → ∃ m, m < n ∧ ∃ i σ' H', Inv X pins σ' H' s7 ∧ tn i s7.heap ∧ (∀ b ∈ fp, H' b = none) ∧ W i m σ' H' := fun {σ7 H7} I7 n7 => by
      obtain ⟨m', hm, w7⟩ := hN σ7 H7 n7
      refine ⟨m', hm, i + 1, σ7, H7, I7.unpinned, T.keep _ _ _ st5 fun b hb o e => (I7.pin (b, o) (List.mem_append_right _ (List.mem_append_right _ (mem_pinsAt hb e)))).1, fun b hb => ?_, w7⟩
      obtain ⟨o, e, d⟩ := T.obj _ _ st5 b hb
      exact (I7.pin (b, o) (List.mem_append_right _ (List.mem_append_right _ (mem_pinsAt hb e)))).2.1
    cases f with
    | next => obtain ⟨σ7, H7, I7, n7⟩ := q7; exact again I7 n7
    | cont => obtain ⟨σ7, H7, I7, n7⟩ := q7; exact again I7 n7
    | brk => obtain ⟨σ7, H7, I7, q7⟩ := q7; exact ⟨σ7, H7, I7.unpinned, q7⟩
    | ret v => obtain ⟨x7, σ7, H7, I7, r7, q7⟩ := q7; exact ⟨x7, σ7, H7, I7.unpinned, r7, q7⟩
end

/-! ### the forms one uses -/
/-- over a list that the body leaves as it is -/
theorem for_list {K : PySem.W.Frag} {a : Addr} {xs : List V} {g : TG} {tb : TS} {D : Ends} {σ : St} {H : Hp} (Pv : Nat → St → Hp → Prop) (h0 : Pv 0 σ H) (hl : ∀ i σ H, i ≤ xs.length → Pv i σ H → SqL K H a xs)
    (hs : ∀ i x σ H, xs[i]? = some x → Pv i σ H → g x σ H fun σ2 H2 => tb { D with nx := Pv (i + 1), ct := Pv (i + 1), bk := D.nx } σ2 H2) (hd : ∀ σ H, Pv xs.length σ H → D.nx σ H) :
    ∃ W : Nat → Nat → St → Hp → Prop, (∃ m, W 0 m σ H) ∧ ∀ i m σ H, W i m σ H →
      ((Itl K a).stop i H ∧ D.nx σ H) ∨ ((Itl K a).go i H ∧ ∃ N : St → Hp → Prop, (∀ σ' H', N σ' H' → ∃ m', m' < m ∧ W (i + 1) m' σ' H') ∧ ∀ x H', (Itl K a).yld i H x H' → g x σ H' fun σ2 H2 => tb { D with nx := N, ct := N, bk := D.nx } σ2 H2) := by
  refine ⟨fun i m σ H => m = xs.length - i ∧ i ≤ xs.length ∧ Pv i σ H, ⟨xs.length, by simp, Nat.zero_le _, h0⟩, ?_⟩
  rintro i m σ H ⟨rfl, hi, p⟩
  have q := hl i σ H hi p
  by_cases hlt : i < xs.length
  · refine .inr ⟨⟨xs, xs[i], q, by simp [hlt]⟩, Pv (i + 1), fun σ' H' p' => ⟨xs.length - (i + 1), by omega, rfl, hlt, p'⟩, fun x H' y => ?_⟩
    obtain ⟨e, y⟩ := y
    subst e
    exact hs i x σ _ (y xs q) p
  · have e : i = xs.length := by omega
    subst e
    exact .inl ⟨⟨xs, q, Nat.le_refl _⟩, hd σ H p⟩
theorem for_tup {K : PySem.W.Frag} {a : Addr} {xs : List V} {g : TG} {tb : TS} {D : Ends} {σ : St} {H : Hp} (Pv : Nat → St → Hp → Prop) (h0 : Pv 0 σ H) (hl : ∀ i σ H, i ≤ xs.length → Pv i σ H → SqT K H a xs)
    (hs : ∀ i x σ H, xs[i]? = some x → Pv i σ H → g x σ H fun σ2 H2 => tb { D with nx := Pv (i + 1), ct := Pv (i + 1), bk := D.nx } σ2 H2) (hd : ∀ σ H, Pv xs.length σ H → D.nx σ H) :
    ∃ W : Nat → Nat → St → Hp → Prop, (∃ m, W 0 m σ H) ∧ ∀ i m σ H, W i m σ H →
      ((Itt K a).stop i H ∧ D.nx σ H) ∨ ((Itt K a).go i H ∧ ∃ N : St → Hp → Prop, (∀ σ' H', N σ' H' → ∃ m', m' < m ∧ W (i + 1) m' σ' H') ∧ ∀ x H', (Itt K a).yld i H x H' → g x σ H' fun σ2 H2 => tb { D with nx := N, ct := N, bk := D.nx } σ2 H2) := by
  refine ⟨fun i m σ H => m = xs.length - i ∧ i ≤ xs.length ∧ Pv i σ H, ⟨xs.length, by simp, Nat.zero_le _, h0⟩, ?_⟩
  rintro i m σ H ⟨rfl, hi, p⟩
  have q := hl i σ H hi p
  by_cases hlt : i < xs.length
  · refine .inr ⟨⟨xs, xs[i], q, by simp [hlt]⟩, Pv (i + 1), fun σ' H' p' => ⟨xs.length - (i + 1), by omega, rfl, hlt, p'⟩, fun x H' y => ?_⟩
    obtain ⟨e, y⟩ := y
    subst e
    exact hs i x σ _ (y xs q) p
  · have e : i = xs.length := by omega
    subst e
    exact .inl ⟨⟨xs, q, Nat.le_refl _⟩, hd σ H p⟩
theorem for_range {lo : Int} {n : Nat} {g : TG} {tb : TS} {D : Ends} {σ : St} {H : Hp} (Pv : Nat → St → Hp → Prop) (h0 : Pv 0 σ H)
    (hs : ∀ i σ H, i < n → Pv i σ H → g (.int (lo + i)) σ H fun σ2 H2 => tb { D with nx := Pv (i + 1), ct := Pv (i + 1), bk := D.nx } σ2 H2) (hd : ∀ σ H, Pv n σ H → D.nx σ H) :
    ∃ W : Nat → Nat → St → Hp → Prop, (∃ m, W 0 m σ H) ∧ ∀ i m σ H, W i m σ H →
      ((Itr lo n).stop i H ∧ D.nx σ H) ∨ ((Itr lo n).go i H ∧ ∃ N : St → Hp → Prop, (∀ σ' H', N σ' H' → ∃ m', m' < m ∧ W (i + 1) m' σ' H') ∧ ∀ x H', (Itr lo n).yld i H x H' → g x σ H' fun σ2 H2 => tb { D with nx := N, ct := N, bk := D.nx } σ2 H2) := by
  refine ⟨fun i m σ H => m = n - i ∧ i ≤ n ∧ Pv i σ H, ⟨n, by simp, Nat.zero_le _, h0⟩, ?_⟩
  rintro i m σ H ⟨rfl, hi, p⟩
  by_cases hlt : i < n
  · refine .inr ⟨hlt, Pv (i + 1), fun σ' H' p' => ⟨n - (i + 1), by omega, rfl, hlt, p'⟩, fun x H' y => ?_⟩
    obtain ⟨e, y⟩ := y
    subst e y
    exact hs i σ _ hlt p
  · have e : i = n := by omega
    subst e
    exact .inl ⟨Nat.le_refl _, hd σ H p⟩
end L2

namespace L2
open PySem PySem.Spec PyProof.Rows

abbrev R2 := V → V → Hp → VK → Prop
/-- a two-place operation on values: f is binaryOp op, inplaceOp op or compareOp op -/
def OpR (X : Cx) (f : Value → Value → Sem Value) (r : R2) : Prop :=
  ∀ (pins : List (Addr × Obj)) (s : Shared) (σ : St) (H : Hp) (x y : V) (v u : Value) (Q : VK), Inv X pins σ H s → RelV x v → RelV y u → r x y H Q →
    wpAny (model X.prog X.w) X.A (f v u) (EP X pins σ Q) X.xe s
/-- a one-place operation -/
def UnR (X : Cx) (f : Value → Sem Value) (r : V → Hp → VK → Prop) : Prop :=
  ∀ (pins : List (Addr × Obj)) (s : Shared) (σ : St) (H : Hp) (x : V) (v : Value) (Q : VK), Inv X pins σ H s → RelV x v → r x H Q →
    wpAny (model X.prog X.w) X.A (f v) (EP X pins σ Q) X.xe s
/-- a call of a value that is known (a builtin, a type) with values -/
def CallR (X : Cx) (f : Value) (r : List V → Hp → VK → Prop) : Prop :=
  ∀ (pins : List (Addr × Obj)) (s : Shared) (σ : St) (H : Hp) (xs : List V) (us : List Value) (Q : VK), Inv X pins σ H s → Vals xs us → r xs H Q →
    wpAny (model X.prog X.w) X.A (call f us) (EP X pins σ Q) X.xe s
def tOp (r : R2) (ta tb : TE) : TE := fun σ H Q => ta σ H fun x H1 => tb σ H1 fun y H2 => r x y H2 Q
def tUn (r : V → Hp → VK → Prop) (ta : TE) : TE := fun σ H Q => ta σ H fun x H1 => r x H1 Q
/-- ints in, under C, and a value out -/
def rI (C : Int → Int → Prop) (g : Int → Int → V) : R2 := fun x y H Q => ∃ i j, x = .int i ∧ y = .int j ∧ C i j ∧ Q (g i j) H
def rI0 (g : Int → Int → V) : R2 := fun x y H Q => ∃ i j, x = .int i ∧ y = .int j ∧ Q (g i j) H
def rU (g : Int → V) : V → Hp → VK → Prop := fun x H Q => ∃ i, x = .int i ∧ Q (g i) H

section
variable {X : Cx} {a b c : Expr} {ta tb tc : TE} {pos : Pos}

theorem binT (ha : PE X a ta) (hb : PE X b tb) {pins : List (Addr × Obj)} {s : Shared} {σ : St} {H : Hp} {R : V → V → Hp → Prop} (I : Inv X pins σ H s)
    (h : ta σ H fun x H1 => tb σ H1 fun y H2 => R x y H2) {Q : Value → Shared → Prop} {f : Value → Value → Sem Value}
    (hf : ∀ v u s2 x y H2, Inv X pins σ H2 s2 → RelV x v → RelV y u → R x y H2 → wpAny (model X.prog X.w) X.A (f v u) Q X.xe s2) :
    wpAny (model X.prog X.w) X.A (eval a X.env) (fun v s₁ => wpAny (model X.prog X.w) X.A (eval b X.env) (fun u s₂ => wpAny (model X.prog X.w) X.A (f v u) Q X.xe s₂) X.xe s₁) X.xe s := by
  refine thn (ha pins s σ H _ I h) fun v s1 ⟨x, H1, I1, r1, q1⟩ => ?_
  refine thn (hb pins s1 σ H1 _ I1 q1) fun u s2 ⟨y, H2, I2, r2, q2⟩ => ?_
  exact hf v u s2 x y H2 I2 r1 r2 q2

theorem pe_op {op : Operator} {r : R2} (ho : OpR X (binaryOp op) r) (ha : PE X a ta) (hb : PE X b tb) : PE X (.BinOp a op b pos) (tOp r ta tb) := by
  intro pins s σ H Q I h
  exact wpAny_BinOp (binT ha hb I h fun v u s2 x y H2 I2 rx ry q => ho pins s2 σ H2 x y v u Q I2 rx ry q)
theorem pe_un {op : UnaryOp} {r : V → Hp → VK → Prop} (ho : UnR X (unaryOp op) r) (ha : PE X a ta) : PE X (.UnaryOp op a pos) (tUn r ta) := by
  intro pins s σ H Q I h
  exact UnaryOp_ (thn (ha pins s σ H _ I h) fun v s1 ⟨x, H1, I1, r1, q1⟩ => ho pins s1 σ H1 x v Q I1 r1 q1)
/-! ### ints -/
theorem opI {f : Value → Value → Sem Value} {C : Int → Int → Prop} {g : Int → Int → Int}
    (rule : ∀ (i j : Int) (t u : Tok) (s : Shared) (Q : Value → Shared → Prop) (E : Value → Shared → Prop), C i j → Q (.int (g i j) s.toks) { s with toks := s.toks + 1 } → wpAny (model X.prog X.w) X.A (f (.int i t) (.int j u)) Q E s) :
    OpR X f (rI C fun i j => .int (g i j)) := by
  intro pins s σ H x y v u Q I rx ry h
  obtain ⟨i, j, rfl, rfl, hc, q⟩ := h
  obtain ⟨t, rfl⟩ := rx
  obtain ⟨t', rfl⟩ := ry
  exact rule i j t t' s _ _ hc ⟨.int (g i j), H, I.tok _, ⟨_, rfl⟩, q⟩
theorem opI0 {f : Value → Value → Sem Value} {g : Int → Int → Int}
    (rule : ∀ (i j : Int) (t u : Tok) (s : Shared) (Q : Value → Shared → Prop) (E : Value → Shared → Prop), Q (.int (g i j) s.toks) { s with toks := s.toks + 1 } → wpAny (model X.prog X.w) X.A (f (.int i t) (.int j u)) Q E s) :
    OpR X f (rI0 fun i j => .int (g i j)) := by
  intro pins s σ H x y v u Q I rx ry h
  obtain ⟨i, j, rfl, rfl, q⟩ := h
  obtain ⟨t, rfl⟩ := rx
  obtain ⟨t', rfl⟩ := ry
  exact rule i j t t' s _ _ ⟨.int (g i j), H, I.tok _, ⟨_, rfl⟩, q⟩
theorem opB0 {f : Value → Value → Sem Value} {g : Int → Int → Bool}
    (rule : ∀ (i j : Int) (t u : Tok) (s : Shared) (Q : Value → Shared → Prop) (E : Value → Shared → Prop), Q (.bool (g i j)) s → wpAny (model X.prog X.w) X.A (f (.int i t) (.int j u)) Q E s) :
    OpR X f (rI0 fun i j => .bl (g i j)) := by
  intro pins s σ H x y v u Q I rx ry h
  obtain ⟨i, j, rfl, rfl, q⟩ := h
  obtain ⟨t, rfl⟩ := rx
  obtain ⟨t', rfl⟩ := ry
  exact rule i j t t' s _ _ ⟨.bl (g i j), H, I, rfl, q⟩

def CDiv (i j : Int) : Prop := 0 < j ∧ j < 1073741824
def CPow (i j : Int) : Prop := 0 ≤ j ∧ j ≤ 1000000 ∧ i.natAbs < 2 ^ 64
def CMul (i j : Int) : Prop := (-(2 ^ 64) < i ∧ i < 2 ^ 64) ∨ (-(2 ^ 64) < j ∧ j < 2 ^ 64)
theorem CMul.ok {i j : Int} (h : CMul i j) : IntMulOk i j := by
  rcases h with ⟨h1, h2⟩ | ⟨h1, h2⟩
  · exact .of_left (intBits_le_64 h1 h2)
  · exact .of_right (intBits_le_64 h1 h2)
theorem op_add : OpR X (binaryOp .Add) (rI0 fun i j => .int (i + j)) := opI0 fun _ _ _ _ _ _ _ q => add_int q
theorem op_sub : OpR X (binaryOp .Sub) (rI0 fun i j => .int (i - j)) := opI0 fun _ _ _ _ _ _ _ q => sub_int q
theorem op_mul : OpR X (binaryOp .Mult) (rI CMul fun i j => .int (i * j)) := opI fun _ _ _ _ _ _ _ hc q => mul_int q hc.ok
/-- // by a positive divisor -/
theorem op_fdiv : OpR X (binaryOp .FloorDiv) (rI CDiv fun i j => .int (i / j)) := opI fun i j _ _ _ _ _ hc q => by
  have h1 : (0 : Int) < j := hc.1
  have h2 : j < 1073741824 := hc.2
  exact floordiv_int (by omega) (by rw [Int.fdiv_eq_ediv_of_nonneg i (by omega)]; exact q) (.inl (PyProof.noPylong_small (by omega)))
/-- % by a positive divisor of any size -/
theorem op_mod : OpR X (binaryOp .Mod) (rI (fun _ j => 0 < j) fun i j => .int (i % j)) := opI fun i j _ _ _ _ _ hc q => by
  have h1 : (0 : Int) < j := hc
  exact mod_int' (by omega) (by rw [Int.fmod_eq_emod_of_nonneg i (by omega)]; exact q)
theorem op_pow : OpR X (binaryOp .Pow) (rI CPow fun i j => .int (i ^ j.toNat)) := opI fun _ _ _ _ _ _ _ hc q => pow_int_small hc.1 hc.2.1 hc.2.2 q
theorem unI {f : Value → Sem Value} {g : Int → Int}
    (rule : ∀ (i : Int) (t : Tok) (s : Shared) (Q : Value → Shared → Prop) (E : Value → Shared → Prop), Q (.int (g i) s.toks) { s with toks := s.toks + 1 } → wpAny (model X.prog X.w) X.A (f (.int i t)) Q E s) :
    UnR X f (rU fun i => .int (g i)) := by
  intro pins s σ H x v Q I rx h
  obtain ⟨i, rfl, q⟩ := h
  obtain ⟨t, rfl⟩ := rx
  exact rule i t s _ _ ⟨.int (g i), H, I.tok _, ⟨_, rfl⟩, q⟩
theorem un_neg : UnR X (unaryOp .USub) (rU fun i => .int (-i)) := unI fun _ _ _ _ _ q => neg_int q
/-! ### bools among ints: n += (a < b) -/
end

/-! ### comparisons -/
/-- the scalars that == tells apart as data does -/
def scal : V → V → Bool
  | .non, .non => true | .non, .int _ => true | .int _, .non => true | .non, .bl _ => true | .bl _, .non => true | .non, .str _ => true | .str _, .non => true
  | .int _, .int _ => true | .bl _, .bl _ => true | .str _, .str _ => true | .byt _, .byt _ => true
  | .int _, .str _ => true | .str _, .int _ => true | .bl _, .str _ => true | .str _, .bl _ => true
  | _, _ => false
def rEq : R2 := fun x y H Q => scal x y = true ∧ Q (.bl (decide (x = y))) H
def rNe : R2 := fun x y H Q => scal x y = true ∧ Q (.bl (!decide (x = y))) H

theorem dec_int {i j : Int} : decide (V.int i = V.int j) = (i == j) := by
  rw [Bool.eq_iff_iff]
  simp
theorem dec_bl {i j : Bool} : decide (V.bl i = V.bl j) = (i == j) := by
  rw [Bool.eq_iff_iff]
  simp
theorem dec_str {i j : Str} : decide (V.str i = V.str j) = (i == j) := by
  rw [Bool.eq_iff_iff]
  simp
theorem dec_byt {i j : Array UInt8} : decide (V.byt i = V.byt j) = (i.toList == j.toList) := by
  rw [Bool.eq_iff_iff]
  cases i
  cases j
  simp

section
variable {X : Cx} {a b c : Expr} {ta tb tc : TE} {pos : Pos}
theorem fin_bl {pins : List (Addr × Obj)} {σ : St} {H : Hp} {s : Shared} {Q : VK} {k k' : Bool} (I : Inv X pins σ H s) (q : Q (.bl k) H) (e : k = k') : EP X pins σ Q (.bool k') s := by
  subst e
  exact ⟨.bl k, H, I, rfl, q⟩
theorem op_eq : OpR X (compareOp .Eq) rEq := by
  intro pins s σ H x y v u Q I rx ry h
  obtain ⟨hs, q⟩ := h
  cases x with
  | non =>
    cases rx
    cases y with
    | non => cases ry; exact PySem.EqNone.eq_none_none (fin_bl I q (by simp))
    | bl j => cases ry; exact PySem.EqNone.eq_none_bool (fin_bl I q (by simp))
    | int j => obtain ⟨t', rfl⟩ := ry; exact PySem.EqNone.eq_none_int (fin_bl I q (by simp))
    | str j => obtain ⟨t', rfl⟩ := ry; exact PySem.EqNone.eq_none_str (fin_bl I q (by simp))
    | _ => exact absurd (show false = true from hs) Bool.false_ne_true
  | bl i =>
    cases rx
    cases y with
    | non => cases ry; exact PySem.EqNone.eq_bool_none (fin_bl I q (by simp))
    | bl j => cases ry; exact eq_bool (fin_bl I q dec_bl)
    | str j => obtain ⟨t', rfl⟩ := ry; exact PySem.EqMixed.eq_bool_str (fin_bl I q (by simp))
    | _ => exact absurd (show false = true from hs) Bool.false_ne_true
  | int i =>
    obtain ⟨t, rfl⟩ := rx
    cases y with
    | non => cases ry; exact PySem.EqNone.eq_int_none (fin_bl I q (by simp))
    | int j => obtain ⟨t', rfl⟩ := ry; exact eq_int (fin_bl I q dec_int)
    | str j => obtain ⟨t', rfl⟩ := ry; exact PySem.EqMixed.eq_int_str (fin_bl I q (by simp))
    | _ => exact absurd (show false = true from hs) Bool.false_ne_true
  | str i =>
    obtain ⟨t, rfl⟩ := rx
    cases y with
    | non => cases ry; exact PySem.EqNone.eq_str_none (fin_bl I q (by simp))
    | bl j => cases ry; exact PySem.EqMixed.eq_str_bool (fin_bl I q (by simp))
    | int j => obtain ⟨t', rfl⟩ := ry; exact PySem.EqMixed.eq_str_int (fin_bl I q (by simp))
    | str j => obtain ⟨t', rfl⟩ := ry; exact eq_str (fin_bl I q dec_str)
    | _ => exact absurd (show false = true from hs) Bool.false_ne_true
  | byt i =>
    obtain ⟨t, rfl⟩ := rx
    cases y with
    | byt j => obtain ⟨t', rfl⟩ := ry; exact PySem.W.eq_bytes (fin_bl I q dec_byt)
    | _ => exact absurd (show false = true from hs) Bool.false_ne_true
  | _ => cases y <;> exact absurd (show false = true from hs) Bool.false_ne_true
theorem op_ne : OpR X (compareOp .NotEq) rNe := by
  intro pins s σ H x y v u Q I rx ry h
  obtain ⟨hs, q⟩ := h
  cases x with
  | non =>
    cases rx
    cases y with
    | non => cases ry; exact PySem.EqNone.ne_none_none (fin_bl I q (by simp))
    | bl j => cases ry; exact PySem.EqNone.ne_none_bool (fin_bl I q (by simp))
    | int j => obtain ⟨t', rfl⟩ := ry; exact PySem.EqNone.ne_none_int (fin_bl I q (by simp))
    | str j => obtain ⟨t', rfl⟩ := ry; exact PySem.EqNone.ne_none_str (fin_bl I q (by simp))
    | _ => exact absurd (show false = true from hs) Bool.false_ne_true
  | bl i =>
    cases rx
    cases y with
    | non => cases ry; exact PySem.EqNone.ne_bool_none (fin_bl I q (by simp))
    | bl j => cases ry; exact ne_bool (fin_bl I q (congrArg not dec_bl))
    | str j => obtain ⟨t', rfl⟩ := ry; exact PySem.EqMixed.ne_bool_str (fin_bl I q (by simp))
    | _ => exact absurd (show false = true from hs) Bool.false_ne_true
  | int i =>
    obtain ⟨t, rfl⟩ := rx
    cases y with
    | non => cases ry; exact PySem.EqNone.ne_int_none (fin_bl I q (by simp))
    | int j => obtain ⟨t', rfl⟩ := ry; exact ne_int (fin_bl I q (congrArg not dec_int))
    | str j => obtain ⟨t', rfl⟩ := ry; exact PySem.EqMixed.ne_int_str (fin_bl I q (by simp))
    | _ => exact absurd (show false = true from hs) Bool.false_ne_true
  | str i =>
    obtain ⟨t, rfl⟩ := rx
    cases y with
    | non => cases ry; exact PySem.EqNone.ne_str_none (fin_bl I q (by simp))
    | bl j => cases ry; exact PySem.EqMixed.ne_str_bool (fin_bl I q (by simp))
    | int j => obtain ⟨t', rfl⟩ := ry; exact PySem.EqMixed.ne_str_int (fin_bl I q (by simp))
    | str j => obtain ⟨t', rfl⟩ := ry; exact ne_str (fin_bl I q (congrArg not dec_str))
    | _ => exact absurd (show false = true from hs) Bool.false_ne_true
  | byt i =>
    obtain ⟨t, rfl⟩ := rx
    cases y with
    | byt j => obtain ⟨t', rfl⟩ := ry; exact PySem.W.ne_bytes (fin_bl I q (congrArg not dec_byt))
    | _ => exact absurd (show false = true from hs) Bool.false_ne_true
  | _ => cases y <;> exact absurd (show false = true from hs) Bool.false_ne_true

theorem op_lt : OpR X (compareOp .Lt) (rI0 fun i j => .bl (decide (i < j))) := opB0 fun _ _ _ _ _ _ _ q => lt_int q
theorem op_le : OpR X (compareOp .LtE) (rI0 fun i j => .bl (decide (i ≤ j))) := opB0 fun _ _ _ _ _ _ _ q => le_int q
theorem op_gt : OpR X (compareOp .Gt) (rI0 fun i j => .bl (decide (j < i))) := opB0 fun _ _ _ _ _ _ _ q => gt_int q
theorem nomark (b : Expr) {op : CmpOp} (h : op ≠ .In := by decide) (h2 : op ≠ .NotIn := by decide) : behindInMarks op b = false := by
  have e1 : (op == CmpOp.In) = false := by cases op <;> first | rfl | exact absurd rfl h
  have e2 : (op == CmpOp.NotIn) = false := by cases op <;> first | rfl | exact absurd rfl h2
  cases b <;> simp [behindInMarks, e1, e2]
/-- a comparison as a value; hm: nomark b, or (for in, not in) by with_unfolding_all rfl -/
theorem pe_cmpR {op : CmpOp} {r : R2} (ho : OpR X (compareOp op) r) (ha : PE X a ta) (hb : PE X b tb) (hm : behindInMarks op b = false) : PE X (.Compare a [op] [b] pos) (tOp r ta tb) := by
  intro pins s σ H Q I h
  exact wpAny_Compare1 (binT ha hb I h fun v u s2 x y H2 I2 rx ry q => ho pins s2 σ H2 x y v u Q I2 rx ry q) hm
/-- a reading of a value as a test -/
def tTest (t : TE) : TT := fun σ H Q => t σ H fun x H' => ∃ k, x = .bl k ∧ Q k H'
theorem pt_cmpR {op : CmpOp} {r : R2} (ho : OpR X (compareOp op) r) (ha : PE X a ta) (hb : PE X b tb) (hm : behindInMarks op b = false) : PT X (.Compare a [op] [b] pos) (tTest (tOp r ta tb)) := by
  intro pins s σ H Q I h
  refine wpAny_isTrue_Compare1 (thn (ha pins s σ H _ I h) fun v s1 ⟨x, H1, I1, r1, q1⟩ => thn (hb pins s1 σ H1 _ I1 q1) fun u s2 ⟨y, H2, I2, r2, q2⟩ =>
    thn (ho pins s2 σ H2 x y v u _ I2 r1 r2 q2) fun c s3 ⟨z, H3, I3, r3, k, e, q3⟩ => ?_) hm
  subst e
  cases r3
  exact wpAny_truthy_bool ⟨H3, I3, q3⟩
/-- a op1 b op2 c -/
def tChain (r r' : R2) (ta tb tc : TE) : TE := fun σ H Q => ta σ H fun x H1 => tb σ H1 fun y H2 => r x y H2 fun z H3 => ∃ k, z = .bl k ∧
  (if k = true then tc σ H3 fun w' H4 => r' y w' H4 Q else Q (.bl false) H3)
theorem pe_chain {op op' : CmpOp} {r r' : R2} (ho : OpR X (compareOp op) r) (ho' : OpR X (compareOp op') r') (ha : PE X a ta) (hb : PE X b tb) (hc : PE X c tc)
    (hm : lastMarks [op, op'] [b, c] = false := by with_unfolding_all rfl) : PE X (.Compare a [op, op'] [b, c] pos) (tChain r r' ta tb tc) := by
  intro pins s σ H Q I h
  refine Compare_chain (thn (ha pins s σ H _ I h) fun v s1 ⟨x, H1, I1, r1, q1⟩ => chain_link (thn (hb pins s1 σ H1 _ I1 q1) fun u s2 ⟨y, H2, I2, r2, q2⟩ =>
    thn (ho pins s2 σ H2 x y v u _ I2 r1 r2 q2) fun d s3 ⟨z, H3, I3, r3, k, e, q3⟩ => ?_)) hm
  subst e
  cases r3
  refine wpAny_truthy_bool ?_
  cases k with
  | false => exact ite_ff ⟨.bl false, H3, I3, rfl, q3⟩
  | true => exact ite_tt (chain_last (thn (hc pins s3 σ H3 _ I3 q3) fun w' s4 ⟨z', H4, I4, r4, q4⟩ => ho' pins s4 σ H4 y z' u w' Q I4 r2 r4 q4))
/-! ### truth -/
theorem line63 : (sizeLine : Nat) < 2 ^ 63 := by rw [sizeLine_eq]; decide
/-! ### strs and bytes -/
theorem op_add_str : OpR X (binaryOp .Add) (fun x y H Q => ∃ i j, x = .str i ∧ y = .str j ∧ i.length + j.length ≤ sizeLine ∧ Q (.str (i ++ j)) H) := by
  intro pins s σ H x y v u Q I rx ry h
  obtain ⟨i, j, rfl, rfl, hz, q⟩ := h
  obtain ⟨t, rfl⟩ := rx
  obtain ⟨t', rfl⟩ := ry
  exact add_str (fun t' tk => ⟨.str (i ++ j), H, I.tok _, ⟨_, rfl⟩, q⟩) hz
/-! ### scalar builtins, by CallR -/
theorem vals1 {x : V} {us : List Value} (r : Vals [x] us) : ∃ u, us = [u] ∧ RelV x u := by
  cases r with
  | cons r1 r2 => cases r2; exact ⟨_, rfl, r1⟩
theorem vals2 {x y : V} {us : List Value} (r : Vals [x, y] us) : ∃ u w', us = [u, w'] ∧ RelV x u ∧ RelV y w' := by
  cases r with
  | cons r1 r2 =>
    cases r2 with
    | cons r3 r4 => cases r4; exact ⟨_, _, rfl, r1, r3⟩
theorem call_min2 (hc : X.calm = true) : CallR X (.builtin "min") (fun xs H Q => ∃ i j, xs = [.int i, .int j] ∧ Q (.int (if j < i then j else i)) H) := by
  intro pins s σ H xs us Q I r h
  obtain ⟨i, j, rfl, q⟩ := h
  obtain ⟨u, w', rfl, ⟨t, rfl⟩, ⟨t', rfl⟩⟩ := vals2 r
  refine min_two_ints (I.ok.hd hc) fun h' tk k => ⟨_, H, I.kept k, ?_, q⟩
  by_cases hj : j < i
  · rw [if_pos hj, if_pos hj]; exact ⟨_, rfl⟩
  · rw [if_neg hj, if_neg hj]; exact ⟨_, rfl⟩
theorem call_int1 : CallR X (.type "int") (fun xs H Q => (∃ i, xs = [.int i] ∧ Q (.int i) H) ∨ ∃ k, xs = [.bl k] ∧ Q (.int (if k then 1 else 0)) H) := by
  intro pins s σ H xs us Q I r h
  rcases h with ⟨i, rfl, q⟩ | ⟨k, rfl, q⟩
  · obtain ⟨u, rfl, t, rfl⟩ := vals1 r
    exact call_int_int ⟨.int i, H, I, ⟨_, rfl⟩, q⟩
  · obtain ⟨u, rfl, r1⟩ := vals1 r
    cases r1
    exact call_int_bool ⟨.int (if k then 1 else 0), H, I.tok _, ⟨_, rfl⟩, q⟩
theorem call_str_int : CallR X (.type "str") (fun xs H Q => ∃ i, xs = [.int i] ∧ i.natAbs.log2 < 1920 ∧ Q (.str (toString i)) H) := by
  intro pins s σ H xs us Q I r h
  obtain ⟨i, rfl, hz, q⟩ := h
  obtain ⟨u, rfl, t, rfl⟩ := vals1 r
  exact PySem.P.str_of_int hz ⟨.str _, H, I.tok _, ⟨_, rfl⟩, q⟩
end
end L2

namespace L2
open PySem PySem.Spec PyProof.Rows

/-! ### an instance, its attributes a map -/
structure ObjM (h : Heap) (x dx C : Addr) (mA : Str → Option Value) : Prop where
  obj : h.get? x = some (PySem.W.instObj C dx)
  ns : h.Ns1 dx mA
  ne : dx ≠ x

theorem lookIn_ns {h : Heap} {dx : Addr} {mA : Str → Option Value} (n : h.Ns1 dx mA) : ∃ od, h.get? dx = some od ∧ ∀ name, PySem.W.lookIn name od = some (mA name) := by
  obtain ⟨o, es, ep, ho, hd, hk, _, hm⟩ := n
  refine ⟨o, ho, fun name => ?_⟩
  have e := hm name
  unfold nsFind findBy at e
  rw [← Array.find?_toList] at e
  unfold PySem.W.lookIn
  rw [hd]
  dsimp only
  split
  · rename_i y q
    rw [q] at e
    exact congrArg some e
  · rename_i q
    rw [q] at e
    have a : es.toList.any (·.refKey) = false := by
      rw [List.any_eq_false]
      intro y hy
      obtain ⟨z, t, hkey⟩ := hk y (Array.mem_toList_iff.mp hy)
      simp [DictEntry.refKey, hkey]
    have a' : ¬ es.toList.any (·.refKey) = true := by rw [a]; exact Bool.false_ne_true
    rw [if_neg a']
    exact congrArg some e

theorem ObjM.look {h : Heap} {x dx C : Addr} {mA : Str → Option Value} (I : ObjM h x dx C mA) : ∃ od, PySem.W.InstAt h x (PySem.W.instObj C dx) C (some od) ∧ ∀ name, PySem.W.lookIn name od = some (mA name) :=
  let ⟨od, ho, hl⟩ := lookIn_ns I.ns
  ⟨od, ⟨I.obj, rfl, rfl, ho⟩, hl⟩

section
variable {prog : Program} {w : World} {A : Around} {E : Value → Shared → Prop} {s : Shared} {K : PySem.W.Frag} {x dx C f : Addr} {mA : Str → Option Value} {name : Str} {v : Value}

theorem get_map {expr : Bool} {Q : Value → Shared → Prop} (X : K.In s.heap) (I : ObjM s.heap x dx C mA) (hg : PySem.W.plainGet K C name = true) (hh : PySem.W.hasDictIn K C = true)
    (ha : PySem.W.findIn K (.ref C) name = some none) (hv : mA name = some v) (hv' : PySem.W.handedIn v = true) (h : Q v { s with toks := s.toks + 1 }) :
    wpAny (model prog w) A (getAttr (.ref x) name expr) Q E s := by
  obtain ⟨od, J, hl⟩ := I.look
  exact PySem.W.get_value X J (PySem.W.plainGet_of hg).1 (PySem.W.findObj_own hh ha rfl (by rw [hl, hv])) hv' h

theorem get_meth {pl : Sem Bool} {Q : Value × List Value → Shared → Prop} (X : K.In s.heap) (I : ObjM s.heap x dx C mA) (hg : PySem.W.plainGet K C name = true)
    (hf : PySem.W.findIn K (.ref C) name = some (some (.ref f))) (ht : PySem.W.isFn K (.ref f) = true) (hv : mA name = none) (h : Q (.ref f, [.ref x]) s) :
    wpAny (model prog w) A (getMethod (.ref x) name pl) Q E s := by
  obtain ⟨od, J, hl⟩ := I.look
  exact PySem.W.method_fn X J (PySem.W.plainGet_of hg).1 (PySem.W.plainGet_of hg).2 hf (beq_iff_eq.mp ht) (by show (PySem.W.lookIn name od).map (·.isSome) = some false; rw [hl, hv]; rfl) h

theorem set_map {ns : List Str} {Q : Unit → Shared → Prop} (X : K.In s.heap) (I : ObjM s.heap x dx C mA)
    (hs : PySem.W.findIn K (.ref C) "__setattr__" = some (some (.builtin "object.__setattr__"))) (hp : PySem.W.plainOver K C = true) (ht : PySem.W.takerIn K C name = some none) (hh : PySem.W.hasDictIn K C = true)
    (hw : PySem.Within mA ns) (hsz : ns.length ≤ sizeLine)
    (h : ∀ h', ObjM h' x dx C (fun y => if y = name then some v else mA y) → Heap.SameBut dx s.heap h' → Q () { s with heap := h', toks := s.toks + 2 }) :
    wpAny (model prog w) A (setAttr (.ref x) name v) Q E s := by
  obtain ⟨od, J, hl⟩ := I.look
  refine PySem.W.set_plain X J hs (PySem.W.osa_open (s := { s with toks := s.toks + 1 }) (r := none) X J hp ht fun b => ?_)
  obtain ⟨cd, hc, hd'⟩ := PySem.W.any_some hh
  have hx : s.heap.get? x = some ⟨.ref C, some dx, .plain, #[]⟩ := I.obj
  refine wpAny_bind (wpAny_pure (wpAny_bind (wpAny_bind (wpAny_loadPart hx (wpAny_bind (PySem.W.Looks.here (s := { s with toks := s.toks + 1 }) (PySem.W.looks_clsIn X hc) ?_))))))
  rw [hd']
  refine wpAny_pure (a := some dx) (wpAny_bind (wpAny_pure (wpAny_bind ?_)))
  refine wpAny_nsSet1 (s := { s with toks := s.toks + 1 }) I.ns fun h' hn2 hs2 => ?_
  obtain ⟨oD, esD, epD, hoD, hdD, hcD⟩ := hn2.count (PySem.Within.cons name v hw)
  refine wpAny_bind (wpAny_lookBehind hoD (by rw [hdD]; exact pastItsLine_dict (Nat.le_trans hcD (by rw [List.length_cons]; omega))) ?_)
  exact wpAny_pure (h _ ⟨(hs2.2 _ (Ne.symm I.ne)).trans I.obj, hn2, I.ne⟩ hs2)

/-- C(..): the dict at the heap's end, the instance behind it; then its __init__ -/
theorem make_map {R : Result → Shared → Prop} {vs : List Value} {kw : List (Str × Value)} (X : K.In s.heap) (hm : PySem.W.makesIn K C = true)
    (hi : PySem.W.findIn K (.ref C) "__init__" = some (some (.ref f))) (hf : PySem.W.typeIn K (.ref f) = some (.type "function"))
    (h : codeAny (model prog w) (A.under (.builtin "type.__call__" ⟨.ref C :: vs, kw⟩)) (.call (.ref f) ⟨.ref (s.heap.objs.size + 1) :: vs, kw⟩) (PySem.W.InitBack (s.heap.objs.size + 1) R)
      { s with heap := (s.heap.push PySem.W.emptyDict).push (PySem.W.instObj C s.heap.objs.size) }) :
    codeAny (model prog w) A (.call (.ref C) ⟨vs, kw⟩) R s := by
  obtain ⟨hh, g, d, t, os⟩ := s
  exact PySem.W.make_core (PySem.W.makes_of X hm) (PySem.W.looks_findIn X hi) (fun self => PySem.W.bind_fn X self hf) (.inl rfl) h
end

/-! ### the attributes as a list of pairs -/
def putF (f : Str) (v : V) : List (Str × V) → List (Str × V)
  | [] => [(f, v)]
  | (g, x) :: r => if g = f then (g, v) :: r else (g, x) :: putF f v r
theorem lookup_putF (f g : Str) (v : V) : ∀ fs : List (Str × V), (putF f v fs).lookup g = if g = f then some v else fs.lookup g
  | [] => by
    show List.lookup g [(f, v)] = _
    by_cases h : g = f
    · have hb : (g == f) = true := beq_iff_eq.mpr h
      simp only [List.lookup, hb, if_pos h]
    · have hb : (g == f) = false := beq_eq_false_iff_ne.mpr h
      simp only [List.lookup, hb, if_neg h]
  | (k, x) :: r => by
    have ih := lookup_putF f g v r
    rw [show putF f v ((k, x) :: r) = (if k = f then (k, v) :: r else (k, x) :: putF f v r) from rfl]
    by_cases hk : k = f
    · rw [if_pos hk]
      by_cases h : g = k
      · have hb : (g == k) = true := beq_iff_eq.mpr h
        simp only [List.lookup, hb, if_pos (h.trans hk)]
      · have hb : (g == k) = false := beq_eq_false_iff_ne.mpr h
        simp only [List.lookup, hb, if_neg (fun e : g = f => h (e.trans hk.symm))]
    · rw [if_neg hk]
      by_cases h : g = k
      · have hb : (g == k) = true := beq_iff_eq.mpr h
        simp only [List.lookup, hb, if_neg (fun e : g = f => hk (h.symm.trans e))]
      · have hb : (g == k) = false := beq_eq_false_iff_ne.mpr h
        simp only [List.lookup, hb]
        exact ih
theorem keys_putF (f : Str) (v : V) : ∀ fs : List (Str × V), f ∈ (putF f v fs).map (·.1) ∧ ∀ g, g ∈ fs.map (·.1) → g ∈ (putF f v fs).map (·.1)
  | [] => ⟨by simp [putF], fun g h => by simp at h⟩
  | (k, x) :: r => by
    obtain ⟨i1, i2⟩ := keys_putF f v r
    rw [show putF f v ((k, x) :: r) = (if k = f then (k, v) :: r else (k, x) :: putF f v r) from rfl]
    by_cases hk : k = f
    · rw [if_pos hk]
      subst hk
      exact ⟨by simp, fun g h => by simpa using h⟩
    · rw [if_neg hk]
      refine ⟨?_, fun g h => ?_⟩
      · rw [List.map_cons]
        exact List.mem_cons_of_mem _ i1
      · rw [List.map_cons] at h ⊢
        rcases List.mem_cons.mp h with e | e
        · exact List.mem_cons.mpr (.inl e)
        · exact List.mem_cons_of_mem _ (i2 g e)
theorem length_putF (f : Str) (v : V) : ∀ fs : List (Str × V), (putF f v fs).length ≤ fs.length + 1
  | [] => by simp [putF]
  | (k, x) :: r => by
    have ih := length_putF f v r
    rw [show putF f v ((k, x) :: r) = (if k = f then (k, v) :: r else (k, x) :: putF f v r) from rfl]
    by_cases hk : k = f
    · rw [if_pos hk, List.length_cons, List.length_cons]; omega
    · rw [if_neg hk, List.length_cons, List.length_cons]; omega

theorem RelO.some_of {v : V} {o : Option Value} (r : RelO (some v) o) : ∃ u, o = some u ∧ RelV v u := by
  cases o with
  | none => exact (show False from r).elim
  | some u => exact ⟨u, rfl, r⟩
theorem RelO.none_of {o : Option Value} (r : RelO none o) : o = none := by
  cases o with
  | none => rfl
  | some u => exact (show False from r).elim
theorem handed_of {v : V} {u : Value} (r : RelV v u) : PySem.W.handedIn u = true := by
  cases v with
  | non => cases (show u = Value.none from r); rfl
  | bl b => cases (show u = Value.bool b from r); rfl
  | int i => obtain ⟨t, e⟩ := (show ∃ t, u = Value.int i t from r); cases e; rfl
  | str x => obtain ⟨t, e⟩ := (show ∃ t, u = Value.str x t from r); cases e; rfl
  | byt b => obtain ⟨t, e⟩ := (show ∃ t, u = Value.bytes b t from r); cases e; rfl
  | flt b => obtain ⟨t, e⟩ := (show ∃ t, u = Value.float b t from r); cases e; rfl
  | ref a => cases (show u = Value.ref a from r); rfl
  | ty n => cases (show u = Value.type n from r); rfl

section
variable {P : Program} {w : World} {H H' : Hp} {h h' : Heap} {a C dx : Addr} {fs fs' : List (Str × V)}
theorem ins_get (hok : HOk P w H h) (e : H a = some (.ins C dx fs)) : ∃ mA, ObjM h a dx C mA ∧ (∀ f, RelO (fs.lookup f) (mA f)) ∧ PySem.Within mA (fs.map (·.1)) ∧ fs.length ≤ 1000 ∧ H dx = some (.own a) := by
  obtain ⟨d, z, ne, ob, mA, n, r, q⟩ := (show ObjOk P w H h a (.ins C dx fs) from hok a _ e)
  exact ⟨mA, ⟨ob, n, ne⟩, r, q, z, d⟩
end

/-! ### what of the text a class must have -/
structure Cls (K : PySem.W.Frag) (C : Addr) : Prop where
  pg : PySem.W.plainGet K C Str.empty = true
  hd : PySem.W.hasDictIn K C = true
  po : PySem.W.plainOver K C = true
  sa : PySem.W.findIn K (.ref C) "__setattr__" = some (some (.builtin "object.__setattr__"))
theorem Cls.get {K : PySem.W.Frag} {C : Addr} (c : Cls K C) (f : Str) : PySem.W.plainGet K C f = true := c.pg
/-- no class of it has the name -/
def NoAttr (K : PySem.W.Frag) (C : Addr) (f : Str) : Prop := PySem.W.findIn K (.ref C) f = some none
theorem NoAttr.taker {K : PySem.W.Frag} {C : Addr} {f : Str} (n : NoAttr K C f) : PySem.W.takerIn K C f = some none := by
  unfold PySem.W.takerIn
  rw [show PySem.W.findIn K (.ref C) f = some none from n]
  rfl
/-- a method: a plain def of the class or of one above it -/
structure Meth (K : PySem.W.Frag) (C : Addr) (m : Str) (f : Addr) : Prop where
  at_ : PySem.W.findIn K (.ref C) m = some (some (.ref f))
  fn : PySem.W.isFn K (.ref f) = true
  kp : PySem.W.keepIn K (.ref f) = true

section
variable {X : Cx} {pins : List (Addr × Obj)} {σ : St} {H : Hp} {s : Shared} {a C dx : Addr} {fs : List (Str × V)} {f : Str} {v : V} {A : Around} {E : Value → Shared → Prop}

theorem getattr_ok {b : Bool} {Q : Value → Shared → Prop} (I : Inv X pins σ H s) (e : H a = some (.ins C dx fs)) (c : Cls X.K C) (n : NoAttr X.K C f) (l : fs.lookup f = some v)
    (h : ∀ u s', Inv X pins σ H s' → RelV v u → Q u s') : wpAny (model X.prog X.w) A (getAttr (.ref a) f b) Q E s := by
  obtain ⟨mA, O, r, _, _, _⟩ := ins_get I.hok e
  obtain ⟨u, hu, ru⟩ := RelO.some_of (v := v) (o := mA f) (by rw [← l]; exact r f)
  exact get_map I.kIn O (c.get f) c.hd n hu (handed_of ru) (h u _ (I.tok _) ru)

theorem getmeth_ok {m : Str} {g : Addr} {pl : Sem Bool} {Q : Value × List Value → Shared → Prop} (I : Inv X pins σ H s) (e : H a = some (.ins C dx fs)) (c : Cls X.K C) (k : Meth X.K C m g) (l : fs.lookup m = none)
    (h : Q (.ref g, [.ref a]) s) : wpAny (model X.prog X.w) A (getMethod (.ref a) m pl) Q E s := by
  obtain ⟨mA, O, r, _, _, _⟩ := ins_get I.hok e
  have hn : mA m = none := RelO.none_of (by rw [← l]; exact r m)
  exact get_meth I.kIn O (c.get m) k.at_ k.fn hn h

theorem setattr_ok {y : V} {u : Value} {Q : Unit → Shared → Prop} (I : Inv X pins σ H s) (e : H a = some (.ins C dx fs)) (c : Cls X.K C) (n : NoAttr X.K C f) (hl : fs.length < 1000) (ry : RelV y u)
    (h : ∀ s', Inv X pins σ (upd H a (.ins C dx (putF f y fs))) s' → Q () s') : wpAny (model X.prog X.w) A (setAttr (.ref a) f u) Q E s := by
  obtain ⟨mA, O, r, wi, _, ho⟩ := ins_get I.hok e
  have hz : (fs.map (·.1)).length ≤ sizeLine := by rw [List.length_map, sizeLine_eq]; omega
  refine set_map I.kIn O c.sa c.po n.taker c.hd wi hz fun h' O' sb => h _ ?_
  have hd : ∃ o, h'.get? dx = some o := let ⟨o, _, _, e', _⟩ := O'.ns; ⟨o, e'⟩
  refine I.write (x := a) (e := dx) (by rw [e]; exact True.intro) (.inr ho) (fun b q hb z => (sb.2 b hb).trans z) hd ?_
  refine ⟨by rw [upd_ne O.ne]; exact ho, ?_, O.ne, O'.obj, _, O'.ns, fun g => ?_, fun g hg => ?_⟩
  · have := length_putF f y fs; omega
  · show RelO ((putF f y fs).lookup g) (if g = f then some u else mA g)
    rw [lookup_putF]
    by_cases q : g = f
    · rw [if_pos q, if_pos q]; exact ry
    · rw [if_neg q, if_neg q]; exact r g
  · by_cases q : g = f
    · rw [q]; exact (keys_putF f y fs).1
    · refine (keys_putF f y fs).2 g (wi g fun z => hg ?_)
      show (if g = f then some u else mA g) = none
      rw [if_neg q]; exact z

/-- a new instance, tracked, without attributes -/
theorem Inv.made (I : Inv X pins σ H s) : Inv X pins σ (upd (upd H s.heap.objs.size (.own (s.heap.objs.size + 1))) (s.heap.objs.size + 1) (.ins C s.heap.objs.size []))
    { s with heap := (s.heap.push PySem.W.emptyDict).push (PySem.W.instObj C s.heap.objs.size) } := by
  have e1 : (s.heap.push PySem.W.emptyDict).get? s.heap.objs.size = some PySem.W.emptyDict := Heap.get?_push_size s.heap rfl
  have e2 : ((s.heap.push PySem.W.emptyDict).push (PySem.W.instObj C s.heap.objs.size)).get? (s.heap.objs.size + 1) = some (PySem.W.instObj C s.heap.objs.size) := by
    have := Heap.get?_push_size (s.heap.push PySem.W.emptyDict) (o := PySem.W.instObj C s.heap.objs.size) rfl
    rwa [Heap.size_push] at this
  have e3 : (s.heap.push PySem.W.emptyDict).Ns s.heap.objs.size (fun _ => none) := ⟨PySem.W.emptyDict, #[], _, e1, rfl, (fun e he => absurd he (by simp)), fun _ => rfl⟩
  have I1 := I.laid (a := s.heap.objs.size) (o := .own (s.heap.objs.size + 1)) (h' := s.heap.push PySem.W.emptyDict) (t' := s.toks) (fun b u q => Heap.get?_push_of_some _ q) (Nat.le_refl _) ⟨_, e1⟩
  refine I1.laid (a := s.heap.objs.size + 1) (o := .ins C s.heap.objs.size []) (t' := s.toks) (fun b u q => Heap.get?_push_of_some _ q) (Nat.le_of_eq (Heap.size_push _ _)) ?_
  have ne : s.heap.objs.size ≠ s.heap.objs.size + 1 := Nat.ne_of_lt (Nat.lt_succ_self _)
  refine ⟨by rw [upd_ne ne, upd_same], Nat.zero_le _, ne, e2, fun _ => none, (Heap.Ns1.of_empty e3).at fun o q => Heap.get?_push_of_some _ q, fun _ => True.intro, fun y hy => absurd rfl hy⟩

/-- e.f where nothing but the object is asked: through attributeBase (super) and the last hold -/
theorem attr_of {prog : Program} {w : World} {env : Env} {e : Expr} {f : Str} {pos : Pos} {s : Shared} {Q : Value → Shared → Prop} (hb : attributeBase e f env (eval e env) = eval e env)
    (h : wpAny (model prog w) A (eval e env) (fun o s₁ => wpAny (model prog w) A (getAttr o f true) Q E s₁) E s) : wpAny (model prog w) A (eval (.Attribute e f pos) env) Q E s :=
  Attribute_any_ h (by rw [arm_eval_Attribute, hb])
end

/-! ### readings and rules -/
/-- e.f, an attribute of the instance -/
def tFld (K : PySem.W.Frag) (ta : TE) (f : Str) : TE := fun σ H Q => ta σ H fun x H1 => ∃ a C dx fs v, x = .ref a ∧ H1 a = some (.ins C dx fs) ∧ Cls K C ∧ NoAttr K C f ∧ fs.lookup f = some v ∧ Q v H1
/-- e.f = value -/
def sFld (K : PySem.W.Frag) (ta tv : TE) (f : Str) : TS := fun D σ H => tv σ H fun y H1 => ta σ H1 fun x H2 => ∃ a C dx fs, x = .ref a ∧ H2 a = some (.ins C dx fs) ∧ Cls K C ∧ NoAttr K C f ∧ fs.length < 1000 ∧
  D.nx σ (upd H2 a (.ins C dx (putF f y fs)))
section
variable {X : Cx} {o e value : Expr} {f : Str} {pos pos' tpos : Pos} {ta tv : TE}
theorem pe_fld (he : PE X e ta) (hb : attributeBase e f X.env (eval e X.env) = eval e X.env) : PE X (.Attribute e f pos) (tFld X.K ta f) := by
  intro pins s σ H Q I h
  refine attr_of hb (thn (he pins s σ H _ I h) fun u s1 ⟨x, H1, I1, rx, a, C, dx, fs, v, ex, ea, c, n, l, q⟩ => ?_)
  subst ex
  obtain rfl : u = Value.ref a := rx
  exact getattr_ok I1 ea c n l fun u' s2 I2 ru => ⟨v, H1, I2, ru, q⟩
theorem ps_fld (ha : PE X o ta) (hv : PE X value tv) (hs : swapsWith value (some (.Attribute o f pos')) pos.line X.env = pure false) : PS X (.Assign [.Attribute o f pos'] value pos) (sFld X.K ta tv f) := by
  intro pins s σ H D I h
  refine plainObj_wpAny_Assign_Attribute (thn (hv pins s σ H _ I h) fun u s1 ⟨y, H1, I1, ry, q⟩ => thn (ha pins s1 σ H1 _ I1 q) fun ov s2 ⟨x, H2, I2, rx, a, C, dx, fs, ex, ea, c, n, l, q2⟩ => ?_) hs
  subst ex
  obtain rfl : ov = Value.ref a := rx
  exact setattr_ok I2 ea c n l ry fun s3 I3 => ⟨σ, _, I3, q2⟩
end

/-! ### isinstance -/
section
variable {X : Cx} {pins : List (Addr × Obj)} {σ : St} {H : Hp} {s : Shared} {A : Around} {E : Value → Shared → Prop} {Q : Value → Shared → Prop} {c : Value} {b : Bool}
/-- the type of a value, as the fragment's deciders take it; for an instance its class -/
inductive TyOf (K : PySem.W.Frag) (H : Hp) : V → Value → Prop where
  | non : TyOf K H .non (.type "NoneType")
  | bl (x : Bool) : TyOf K H (.bl x) (.type "bool")
  | int (i : Int) : TyOf K H (.int i) (.type "int")
  | str (x : Str) : TyOf K H (.str x) (.type "str")
  | flt (x : UInt64) : TyOf K H (.flt x) (.type "float")
  | lst {a : Addr} {xs : List V} (e : H a = some (.lst xs)) : TyOf K H (.ref a) (.type "list")
  | frz {a : Addr} {o : Obj} {xs : List V} (e : H a = some (.frz o (.lst xs))) : TyOf K H (.ref a) (.type "list")
  | tup {a : Addr} {xs : List V} (e : H a = some (.tup xs)) : TyOf K H (.ref a) (.type "tuple")
  | dK {a : Addr} {kvs : List (Key × V)} (e : H a = some (.dK kvs)) : TyOf K H (.ref a) (.type "dict")
  | dT {a : Addr} {kvs : List (List Key × V)} (e : H a = some (.dT kvs)) : TyOf K H (.ref a) (.type "dict")
  | ins {a C dx : Addr} {fs : List (Str × V)} (e : H a = some (.ins C dx fs)) (cl : Cls K C) (ha : PySem.W.findIn K (.ref C) "__class__" = some (some (.builtin "object.__class__")))
      (hn : PySem.W.specialIn K (.builtin "object.__class__") "__get__" = some (some (.builtin "getset_descriptor.__get__"))) (htk : PySem.W.takesIn K (.builtin "object.__class__") = some true)
      (hm : PySem.W.mroIn K C (.type "object") = some true) : TyOf K H (.ref a) (.ref C)
/-- isinstance(x, c) for one class c, a built-in or an own one: kitOne's answer -/
theorem isinst_ok {x : V} {u t : Value} (I : Inv X pins σ H s) (rx : RelV x u) (ty : TyOf X.K H x t) (e : PySem.W.kitOne X.K t c = some b) (h : ∀ tk, Q (.bool b) { s with toks := tk }) :
    wpAny (model X.prog X.w) A (call (.builtin "isinstance") [u, c]) Q E s := by
  cases ty with
  | non => cases (show u = Value.none from rx); exact PySem.W.kia_one PySem.W.kitx_none I.kIn True.intro e (fun z => nomatch z) h
  | bl y => cases (show u = Value.bool y from rx); exact PySem.W.kia_one PySem.W.kitx_bool I.kIn True.intro e (fun z => nomatch z) h
  | int i => obtain ⟨t, q⟩ := (show ∃ t, u = Value.int i t from rx); cases q; exact PySem.W.kia_one PySem.W.kitx_int I.kIn True.intro e (fun z => nomatch z) h
  | str y => obtain ⟨t, q⟩ := (show ∃ t, u = Value.str y t from rx); cases q; exact PySem.W.kia_one PySem.W.kitx_str I.kIn True.intro e (fun z => nomatch z) h
  | flt y => obtain ⟨t, q⟩ := (show ∃ t, u = Value.float y t from rx); cases q; exact PySem.W.kia_one PySem.W.kitx_float I.kIn True.intro e (fun z => nomatch z) h
  | @lst a xs ea =>
    cases (show u = Value.ref a from rx)
    obtain ⟨_, _, n, _, h1⟩ := (show ObjOk X.prog X.w H s.heap a (.lst xs) from I.hok a _ ea)
    exact PySem.W.kia_one PySem.W.kitx_list I.kIn ⟨_, h1, rfl⟩ e (fun z => nomatch z) h
  | @frz a ob xs ea =>
    cases (show u = Value.ref a from rx)
    obtain ⟨_, _, _, n, _, h1⟩ := (show ObjOk X.prog X.w H s.heap a (.frz ob (.lst xs)) from I.hok a _ ea)
    exact PySem.W.kia_one PySem.W.kitx_list I.kIn ⟨_, h1, rfl⟩ e (fun z => nomatch z) h
  | @tup a xs ea =>
    cases (show u = Value.ref a from rx)
    obtain ⟨_, _, _, p⟩ := (show ObjOk X.prog X.w H s.heap a (.tup xs) from I.hok a _ ea)
    obtain ⟨o, h1, h2, _⟩ := p
    exact PySem.W.kia_one PySem.W.kitx_tuple I.kIn ⟨o, h1, h2⟩ e (fun z => nomatch z) h
  | @dK a kvs ea =>
    cases (show u = Value.ref a from rx)
    obtain ⟨_, _, vs, _, p⟩ := (show ObjOk X.prog X.w H s.heap a (.dK kvs) from I.hok a _ ea)
    obtain ⟨o, es, ep, h1, h2, _⟩ := p
    exact PySem.W.kia_one PySem.W.kitx_dict I.kIn ⟨o, h1, h2.1⟩ e (fun z => nomatch z) h
  | @dT a kvs ea =>
    cases (show u = Value.ref a from rx)
    obtain ⟨_, _, xs, _, o, es, ep, h1, h2, _⟩ := (show ObjOk X.prog X.w H s.heap a (.dT kvs) from I.hok a _ ea)
    exact PySem.W.kia_one PySem.W.kitx_dict I.kIn ⟨o, h1, h2.1⟩ e (fun z => nomatch z) h
  | @ins a C dx fs ea cl ha hn htk hm =>
    cases (show u = Value.ref a from rx)
    obtain ⟨mA, O, _⟩ := ins_get I.hok ea
    obtain ⟨od, J, _⟩ := O.look
    exact PySem.W.kia_one (PySem.W.kitx_own (cl.get _) cl.hd ha hn htk hm) I.kIn J e (fun z => nomatch z) h
end
end L2

namespace L2
open PySem PySem.Spec PyProof.Rows

/-! ### room -/
structure Room (k : Nat) (A : Around) : Prop where
  hd : A.handled = none
  dp : A.depth + 3 * k + 5 < recursionLimit
  un : A.units + 16 * k + 200 < cLine
theorem Room.mono {j k : Nat} {A : Around} (r : Room k A) (h : j ≤ k) : Room j A := ⟨r.hd, by have := r.dp; omega, by have := r.un; omega⟩
theorem Room.deeper {k : Nat} {A : Around} (r : Room (k + 1) A) (env : Env) : Room k (A.deeper env) :=
  ⟨r.hd, by have := r.dp; show A.depth + 1 + 3 * k + 5 < _; omega, by have := r.un; show A.units + 3 + 16 * k + 200 < _; omega⟩
theorem make_depth {A : Around} {C : Addr} {us : List Value} {kw : List (Str × Value)} : (A.under (.builtin "type.__call__" ⟨.ref C :: us, kw⟩)).depth = A.depth + 1 := by
  first | rfl | simp [Around.under, Code.weight, Code.isCreation, Code.isGuard, Code.isCaller, Code.frames, Code.isFrame, guardIds]
theorem make_units {A : Around} {C : Addr} {us : List Value} {kw : List (Str × Value)} : (A.under (.builtin "type.__call__" ⟨.ref C :: us, kw⟩)).units = A.units + 1 := by
  first | rfl | simp [Around.under, Code.cUnits, Code.frames, Code.isFrame]
theorem Room.make {k : Nat} {A : Around} (r : Room (k + 1) A) (C : Addr) (us : List Value) (kw : List (Str × Value)) : Room k (A.under (.builtin "type.__call__" ⟨.ref C :: us, kw⟩)) :=
  ⟨r.hd, by have := r.dp; rw [make_depth]; omega, by have := r.un; rw [make_units]; omega⟩
theorem Room.depth {k : Nat} {A : Around} (r : Room k A) : A.depth < recursionLimit := by have := r.dp; omega
theorem Room.units {k : Nat} {A : Around} (r : Room k A) : A.units + 64 < cLine := by have := r.un; omega
/-! ### argument lists and displays -/
def tNil : TA := fun _ H Q => Q [] H
def tCons (ta : TE) (tr : TA) : TA := fun σ H Q => ta σ H fun x H1 => tr σ H1 fun xs H2 => Q (x :: xs) H2
section
variable {X : Cx} {e : Expr} {es : List Expr} {te : TE} {t : TA} {pos : Pos}
theorem pa_nil : PA X [] tNil := fun _ _ _ _ H Q I h => Calls.spliced_nil ⟨[], H, I, .nil, h⟩
theorem pa_cons (ha : PE X e te) (hr : PA X es t) (hs : starEach (e :: es) X.env = (false, eval e X.env) :: starEach es X.env := by rfl) : PA X (e :: es) (tCons te t) := by
  intro pos pins s σ H Q I h
  rw [hs]
  show wpAny _ _ (spliced ((false, eval e X.env) :: backTo pos (starEach es X.env))) _ _ s
  refine Calls.spliced_cons (thn (ha pins s σ H _ I h) fun u s1 ⟨x, H1, I1, r1, q1⟩ => ?_)
  exact thn (hr pos pins s1 σ H1 _ I1 q1) fun us s2 ⟨xs, H2, I2, r2, q2⟩ => ⟨x :: xs, H2, I2, .cons r1 r2, q2⟩

/-- a tuple, a list of written items -/
def tTup (t : TA) : TE := fun σ H Q => t σ H fun xs H1 => xs.length ≤ sizeLine ∧ ∀ p, H1 p = none → Q (.ref p) (upd H1 p (.tup xs))
def tLst (t : TA) : TE := fun σ H Q => t σ H fun xs H1 => xs.length ≤ sizeLine ∧ ∀ p, H1 p = none → Q (.ref p) (upd H1 p (.lst xs))
theorem pe_tup {x1} (h : PA X es t) : PE X (.Tuple es x1 pos) (tTup t) := by
  intro pins s σ H Q I hq
  refine wpAny_Tuple_spliced (thn (h pos pins s σ H _ I hq) fun us s1 ⟨xs, H1, I1, r, z, q⟩ => ⟨by rw [← r.length]; exact z, ?_⟩)
  have hf : H1 s1.heap.objs.size = none := I1.hok.fresh (Nat.le_refl _)
  refine ⟨.ref s1.heap.objs.size, upd H1 s1.heap.objs.size (.tup xs), I1.laid (t' := s1.toks) (fun b u e => Heap.get?_push_of_some _ e) (Nat.le_refl _) ?_, rfl, q _ hf⟩
  exact ⟨z, us, r, ⟨_, Heap.get?_push_size _ rfl, rfl, _, rfl⟩⟩
theorem pe_lst (h : PA X es t) : PE X (.List es pos) (tLst t) := by
  intro pins s σ H Q I hq
  refine wpAny_List_spliced (thn (h pos pins s σ H _ I hq) fun us s1 ⟨xs, H1, I1, r, z, q⟩ => ⟨by rw [← r.length]; exact z, ?_⟩)
  have hf : H1 s1.heap.objs.size = none := I1.hok.fresh (Nat.le_refl _)
  refine ⟨.ref s1.heap.objs.size, upd H1 s1.heap.objs.size (.lst xs), I1.laid (t' := s1.toks) (fun b u e => Heap.get?_push_of_some _ e) (Nat.le_refl _) ?_, rfl, q _ hf⟩
  exact ⟨z, us, 0, r, Heap.get?_push_size _ rfl⟩
end

/-! ### what a def promises -/
/-- a def's promise: the bound arguments in the parameters' order, the heap, the wanted end, the wanted exception -/
abbrev Sp := List V → Hp → VK → XK → Prop
/-- how an exception lies behind a call (file 08 gives it): the callers' frames, abstract heap and state ahead of the call, the wish, the exception, the state -/
abbrev CXT := List Env → Hp → Shared → XK → Value → Shared → Prop

/-- the state at a call -/
structure Env0 (P : Program) (w : World) (K : PySem.W.Frag) (mg : Str → Option Value) (base : Heap) (A : Around) (outer : List Env) (s : Shared) (H : Hp) : Prop where
  frames : A.frames = some outer
  mod : Mod K mg base
  bs : ∀ b o, base.get? b = some o → s.heap.get? b = some o ∧ H b = none
  bsz : base.objs.size ≤ s.heap.objs.size
  funs : s.heap.FunFrames base outer
  frf : ∀ b ∈ frs outer, H b = none
  hok : HOk P w H s.heap
  bare : AllBare s.gens
/-- a call's end -/
def CE (outer : List Env) (P : Program) (w : World) (H : Hp) (s : Shared) (Q : VK) (u : Value) (s' : Shared) : Prop :=
  ∃ v H', s'.os = s.os ∧ AllBare s'.gens ∧ Un (frs outer) [] H H' s.heap s'.heap ∧ HOk P w H' s'.heap ∧ RelV v u ∧ Q v H'
def CR (CX : CXT) (outer : List Env) (P : Program) (w : World) (H : Hp) (s : Shared) (Q : VK) (E : XK) (r : Result) (s' : Shared) : Prop :=
  match r with
  | .ok (.ret u) => CE outer P w H s Q u s'
  | .ok _ => False
  | .error e => CX outer H s E e s'
structure FnOk (P : Program) (w : World) (K : PySem.W.Frag) (mg : Str → Option Value) (base : Heap) (CX : CXT) (k : Nat) (f : Addr) (fd : FuncData) (ps : List Str) (sp : Sp) : Prop where
  len : ∀ vs H Q E, sp vs H Q E → vs.length = ps.length
  run : ∀ (A : Around) (outer : List Env) (s : Shared) (H : Hp) (args : Args) (us : List Value) (vs : List V) (Q : VK) (E : XK), Room k A → Env0 P w K mg base A outer s H → BindsTo s fd args (ps.zip us) → Vals vs us → sp vs H Q E →
    codeAny (model P w) A (.call (.ref f) args) (CR CX outer P w H s Q E) s
theorem FnOk.mono {P : Program} {w : World} {K : PySem.W.Frag} {mg : Str → Option Value} {base : Heap} {CX : CXT} {j k : Nat} {f : Addr} {fd : FuncData} {ps : List Str} {sp : Sp} (F : FnOk P w K mg base CX j f fd ps sp) (h : j ≤ k) :
    FnOk P w K mg base CX k f fd ps sp := ⟨F.len, fun A outer s H args us vs Q E hr => F.run A outer s H args us vs Q E (hr.mono h)⟩
theorem Env0.make {P : Program} {w : World} {K : PySem.W.Frag} {mg : Str → Option Value} {base : Heap} {A : Around} {outer : List Env} {s : Shared} {H : Hp} (e : Env0 P w K mg base A outer s H) (C : Addr) (us : List Value) (kw : List (Str × Value)) :
    Env0 P w K mg base (A.under (.builtin "type.__call__" ⟨.ref C :: us, kw⟩)) outer s H := ⟨by first | exact e.frames | (simpa [Around.under, Code.envs, Code.isFrame, pushEnvs] using e.frames), e.mod, e.bs, e.bsz, e.funs, e.frf, e.hok, e.bare⟩
section
variable {X : Cx} {pins : List (Addr × Obj)} {σ : St} {H : Hp} {s s' : Shared}
/-- from a body: what a callee wants -/
theorem Inv.env0 (I : Inv X pins σ H s) : Env0 X.prog X.w X.K X.mg X.base X.A X.stack s H :=
  ⟨I.ok.frames, I.ok.mod, I.bs, Nat.le_trans I.ok.bsz I.sz, I.stack, I.stkFree, I.hok, I.bare⟩
/-- behind a call -/
theorem Inv.after {Q : VK} {u : Value} (I : Inv X pins σ H s) (h : CE X.stack X.prog X.w H s Q u s') : EP X pins σ Q u s' := by
  obtain ⟨v, H', os, bare, un, hok, r, q⟩ := h
  obtain ⟨hh, g, d, t, os'⟩ := s'
  obtain rfl : os' = s.os := os
  exact ⟨v, H', I.call (h' := hh) (g' := g) (d' := d) (t' := t) (ch := []) un hok bare (fun b z => absurd z (by simp)), r, q⟩
end

/-! ### calls -/
/-- f(..): the written arguments, then the defaults dvs; E: what is wanted of an exception -/
def tCall (sp : Sp) (dvs : List V) (E : XK) (t : TA) : TE := fun σ H Q => t σ H fun vs H1 => sp (vs ++ dvs) H1 Q E
/-- C(..): a new instance and its dict, then __init__ -/
def tMake (C : Addr) (sp : Sp) (dvs : List V) (E : XK) (t : TA) : TE := fun σ H Q => t σ H fun vs H1 => ∀ x dx, H1 x = none → H1 dx = none → dx ≠ x →
  sp (.ref x :: (vs ++ dvs)) (upd (upd H1 dx (.own x)) x (.ins C dx [])) (fun v H2 => v = .non ∧ Q (.ref x) H2) E

/-- how the parameters are bound: us the positional arguments, kw the keywords' values by name, ds the defaults that fill up -/
def Binds (K : PySem.W.Frag) (fd : FuncData) (ps : List Str) (ds : List Value) : Prop :=
  ∀ (s : Shared) (us : List Value), K.In s.heap → (us ++ ds).length = ps.length → BindsTo s fd ⟨us, []⟩ (ps.zip (us ++ ds))
/-- every parameter is given -/
theorem Binds.all {K : PySem.W.Frag} {fd : FuncData} {ps : List Str} (h : ∀ us : List Value, us.length = ps.length → bindArgs fd ⟨us, []⟩ = pure (ps.zip us)) : Binds K fd ps [] := fun s us _ hl => by
  rw [List.append_nil] at hl ⊢
  exact .of_eq (h us hl)

/-- an exception of a callee reaches what this body wants of exceptions -/
def Passes (CX : CXT) (X : Cx) (E : XK) : Prop := ∀ (pins : List (Addr × Obj)) (σ : St) (H : Hp) (s : Shared) (e : Value) (s' : Shared), Inv X pins σ H s → CX X.stack H s E e s' → X.xe e s'

section
variable {X : Cx} {CX : CXT} {k : Nat} {f C : Addr} {fd : FuncData} {ps : List Str} {sp : Sp} {dvs : List V} {ds : List Value} {E : XK} {x m : Str} {p pos apos : Pos} {e o : Expr} {es : List Expr} {ta : TE} {t : TA}

/-- the callee runs -/
theorem run_fn {pins : List (Addr × Obj)} {σ : St} {H : Hp} {s : Shared} {Q : VK} {us : List Value} {vs : List V} (F : FnOk X.prog X.w X.K X.mg X.base CX k f fd ps sp) (hr : Room k X.A) (hb : Binds X.K fd ps ds) (hd : Vals dvs ds) (hx : Passes CX X E)
    (I : Inv X pins σ H s) (r : Vals vs us) (h : sp (vs ++ dvs) H Q E) : wpAny (model X.prog X.w) X.A (call (.ref f) us) (EP X pins σ Q) X.xe s := by
  have r2 : Vals (vs ++ dvs) (us ++ ds) := r.append hd
  have hl : (us ++ ds).length = ps.length := by rw [← r2.length]; exact F.len _ _ _ _ h
  refine wpAny_call (codeAny_mono (F.run X.A X.stack s H ⟨us, []⟩ (us ++ ds) (vs ++ dvs) Q E hr I.env0 (hb s us I.kIn hl) r2 h) fun r s' hq => ?_)
  cases r with
  | error e => exact hx pins σ H s e s' I hq
  | ok fl =>
    cases fl with
    | ret u => exact I.after hq
    | next => exact False.elim hq
    | brk => exact False.elim hq
    | cont => exact False.elim hq

theorem pe_call (F : FnOk X.prog X.w X.K X.mg X.base CX k f fd ps sp) (hr : Room k X.A) (hg : Gl X x) (hm : X.mg x = some (.ref f)) (hk : PySem.W.keepIn X.K (.ref f) = true) (hb : Binds X.K fd ps ds) (hd : Vals dvs ds) (hx : Passes CX X E)
    (ha : PA X (e :: es) t) (hdb : (x == ("__debug__" : Str)) = false := by decide) (he : starEach (e :: es) X.env = (false, eval e X.env) :: starEach es X.env := by rfl) (hpl : (backTo pos (starEach es X.env)).any (·.1) = false := by rfl) :
    PE X (.Call (.Name x p) (e :: es) [] pos) (tCall sp dvs E t) := by
  intro pins s σ H Q I h
  refine wpAny_Call_Name_kw (ld_glob I hg hm ?_ hdb)
  refine PySem.W.callWith_K (h₀ := X.base) I.ok.mod.kin hk (thn (ha pos pins s σ H _ I h) fun us s1 ⟨vs, H1, I1, r, q⟩ => ⟨I1.kIn, ?_⟩) he hpl
  exact run_fn F hr hb hd hx I1 r q
/-- what a class must have to be made -/
structure Mk (K : PySem.W.Frag) (C f : Addr) : Prop where
  makes : PySem.W.makesIn K C = true
  init : PySem.W.findIn K (.ref C) "__init__" = some (some (.ref f))
  fn : PySem.W.isFn K (.ref f) = true
  kp : PySem.W.keepIn K (.ref C) = true

theorem run_make {pins : List (Addr × Obj)} {σ : St} {H : Hp} {s : Shared} {Q : VK} {us : List Value} {vs : List V} (M : Mk X.K C f) (F : FnOk X.prog X.w X.K X.mg X.base CX k f fd ps sp) (hr : Room (k + 1) X.A) (hb : Binds X.K fd ps ds) (hd : Vals dvs ds)
    (hx : Passes CX X E) (I : Inv X pins σ H s) (r : Vals vs us)
    (h : ∀ x dx, H x = none → H dx = none → dx ≠ x → sp (.ref x :: (vs ++ dvs)) (upd (upd H dx (.own x)) x (.ins C dx [])) (fun v H2 => v = .non ∧ Q (.ref x) H2) E) :
    wpAny (model X.prog X.w) X.A (call (.ref C) us) (EP X pins σ Q) X.xe s := by
  have hq := h (s.heap.objs.size + 1) s.heap.objs.size (I.hok.fresh (Nat.le_succ _)) (I.hok.fresh (Nat.le_refl _)) (Nat.ne_of_lt (Nat.lt_succ_self _))
  have I2 := Inv.made (C := C) I
  have r2 : Vals (V.ref (s.heap.objs.size + 1) :: (vs ++ dvs)) (Value.ref (s.heap.objs.size + 1) :: (us ++ ds)) := .cons rfl (r.append hd)
  have hl : (Value.ref (s.heap.objs.size + 1) :: us ++ ds).length = ps.length := by
    have e := r2.length
    rw [F.len _ _ _ _ hq] at e
    exact e.symm
  refine wpAny_call (make_map (f := f) I.kIn M.makes M.init (beq_iff_eq.mp M.fn) (codeAny_mono (F.run _ X.stack _ _ ⟨Value.ref (s.heap.objs.size + 1) :: us, []⟩ (Value.ref (s.heap.objs.size + 1) :: (us ++ ds)) _ _ E (hr.make C us [])
    (I2.env0.make C us []) (hb _ (Value.ref (s.heap.objs.size + 1) :: us) I2.kIn hl) r2 hq) fun r s' hq' => ?_))
  cases r with
  | error e => exact hx pins σ _ _ e s' I2 hq'
  | ok fl =>
    cases fl with
    | ret u =>
      obtain ⟨v, H', I3, rv, ev, q3⟩ := I2.after hq'
      subst ev
      exact ⟨rv, ⟨V.ref (s.heap.objs.size + 1), H', I3, rfl, q3⟩⟩
    | next => exact False.elim hq'
    | brk => exact False.elim hq'
    | cont => exact False.elim hq'
theorem pe_make (M : Mk X.K C f) (F : FnOk X.prog X.w X.K X.mg X.base CX k f fd ps sp) (hr : Room (k + 1) X.A) (hg : Gl X x) (hm : X.mg x = some (.ref C)) (hb : Binds X.K fd ps ds) (hd : Vals dvs ds) (hx : Passes CX X E)
    (ha : PA X (e :: es) t) (hdb : (x == ("__debug__" : Str)) = false := by decide) (he : starEach (e :: es) X.env = (false, eval e X.env) :: starEach es X.env := by rfl) (hpl : (backTo pos (starEach es X.env)).any (·.1) = false := by rfl) :
    PE X (.Call (.Name x p) (e :: es) [] pos) (tMake C sp dvs E t) := by
  intro pins s σ H Q I h
  refine wpAny_Call_Name_kw (ld_glob I hg hm ?_ hdb)
  refine PySem.W.callWith_K (h₀ := X.base) I.ok.mod.kin M.kp (thn (ha pos pins s σ H _ I h) fun us s1 ⟨vs, H1, I1, r, q⟩ => ⟨I1.kIn, ?_⟩) he hpl
  exact run_make M F hr hb hd hx I1 r q
end

/-! ### keywords -/
section
variable {X : Cx} {CX : CXT} {k : Nat} {f C : Addr} {fd : FuncData} {ps ks : List Str} {sp : Sp} {E : XK} {x m : Str} {p pos apos kpos : Pos} {e o : Expr} {es : List Expr} {kws : List Keyword} {te ta : TE} {t tk : TA} {nm : Option Str}
variable {g : List Value → List Value → List Value} {gV : List V → List V → List V}
end

/-! ### a def's body keeps its promise -/
/-- names: the parameters first -/
structure FnScope (N P : List Str) (sc : Scope) : Prop where
  kind : sc.kind = .function
  co : sc.isCoroutine = false
  gen : sc.isGenerator = false
  nd : N.Nodup
  pre : N.take P.length = P
  par : ∀ x ∈ P, sc.names.lookup x = some .local ∨ sc.names.lookup x = some .cell
  nofree : ∀ y ∈ sc.names, y.2 ≠ .free

theorem bindL_out {kindOf : Str → Option NameKind} {x : Str} : ∀ {binds : List (Str × Value)} {m : Str → Option Value}, (∀ v, (x, v) ∉ binds) → bindL kindOf binds m x = m x
  | [], _, _ => rfl
  | (n, v) :: r, m, h => by
    unfold bindL
    rw [bindL_out fun w hw => h w (List.mem_cons_of_mem _ hw)]
    split
    · have : x ≠ n := by rintro rfl; exact h v List.mem_cons_self
      simp [this]
    · rfl
theorem bindC_out {kindOf : Str → Option NameKind} {x : Str} : ∀ {binds : List (Str × Value)} {m : Str → Option Value}, (∀ v, (x, v) ∉ binds) → bindC kindOf binds m x = m x
  | [], _, _ => rfl
  | (n, v) :: r, m, h => by
    unfold bindC
    rw [bindC_out fun w hw => h w (List.mem_cons_of_mem _ hw)]
    split
    · rfl
    · have : x ≠ n := by rintro rfl; exact h v List.mem_cons_self
      simp [this]
theorem bindL_get {kindOf : Str → Option NameKind} {x : Str} {v : Value} : ∀ {P : List Str} {vs : List Value} {i : Nat} {m : Str → Option Value}, P.Nodup → P[i]? = some x → vs[i]? = some v → kindOf x = some .local →
    bindL kindOf (P.zip vs) m x = some v
  | [], _, _, _, _, h, _, _ => by simp at h
  | _ :: _, [], _, _, _, _, h, _ => by simp at h
  | p :: P, w :: vs, 0, m, nd, h1, h2, hk => by
    simp at h1 h2; subst h1; subst h2
    show bindL kindOf ((p, w) :: P.zip vs) m p = _
    unfold bindL
    rw [bindL_out fun v hv => (List.nodup_cons.mp nd).1 (List.of_mem_zip hv).1, if_pos hk]
    simp
  | p :: P, w :: vs, i + 1, m, nd, h1, h2, hk => by
    show bindL kindOf ((p, w) :: P.zip vs) m x = _
    unfold bindL
    exact bindL_get (i := i) (List.nodup_cons.mp nd).2 (by simpa using h1) (by simpa using h2) hk
theorem bindC_get {kindOf : Str → Option NameKind} {x : Str} {v : Value} : ∀ {P : List Str} {vs : List Value} {i : Nat} {m : Str → Option Value}, P.Nodup → P[i]? = some x → vs[i]? = some v → kindOf x ≠ some .local →
    bindC kindOf (P.zip vs) m x = some v
  | [], _, _, _, _, h, _, _ => by simp at h
  | _ :: _, [], _, _, _, _, h, _ => by simp at h
  | p :: P, w :: vs, 0, m, nd, h1, h2, hk => by
    simp at h1 h2; subst h1; subst h2
    show bindC kindOf ((p, w) :: P.zip vs) m p = _
    unfold bindC
    rw [bindC_out fun v hv => (List.nodup_cons.mp nd).1 (List.of_mem_zip hv).1, if_neg hk]
    simp
  | p :: P, w :: vs, i + 1, m, nd, h1, h2, hk => by
    show bindC kindOf ((p, w) :: P.zip vs) m x = _
    unfold bindC
    exact bindC_get (i := i) (List.nodup_cons.mp nd).2 (by simpa using h1) (by simpa using h2) hk

/-- the names' values at the entry -/
def start (N : List Str) (vs : List V) : St := vs.map some ++ List.replicate (N.length - vs.length) none

/-- the context of a def's body, at its entry; an exception leaves the frame, then lies as CX says -/
def cxOf (CX : CXT) (P : Program) (w : World) (K : PySem.W.Frag) (mg : Str → Option Value) (base : Heap) (N : List Str) (qual : Str) (scope : Scope) (f : Addr) (cd : Value) (A : Around) (outer : List Env) (s : Shared) (H : Hp) (E : XK) : Cx where
  prog := P
  w := w
  K := K
  mg := mg
  base := base
  A := A.deeper (envOfC qual scope s.heap.objs.size f cd)
  N := N
  s₀ := s
  H₀ := H
  env := envOfC qual scope s.heap.objs.size f cd
  outer := outer
  stack := envOfC qual scope s.heap.objs.size f cd :: outer
  ex := []
  calm := true
  fn := fun _ => true
  pn := []
  xe := fun e s' => wpAny (model P w) (A.deeper (envOfC qual scope s.heap.objs.size f cd)) (leaving (envOfC qual scope s.heap.objs.size f cd) e) (fun _ s'' => CX outer H s E e s'') (fun e' s'' => CX outer H s E e' s'') s'

theorem cell_has {sc : Scope} {n : Nat} {x : Str} (h : sc.names.lookup x = some .cell) : ∃ c, (cellsFrom n sc.names []).lookup x = some c := by
  have q := PySem.W.cellsFrom_some sc.names n [] (.inl h)
  exact Option.isSome_iff_exists.mp q

theorem inv_start {CX : CXT} {P : Program} {w : World} {K : PySem.W.Frag} {mg : Str → Option Value} {base : Heap} {N ps : List Str} {qual : Str} {scope : Scope} {f : Addr} {cd : Value} {A : Around} {outer : List Env} {s s1 : Shared} {H : Hp} {E : XK} {us : List Value} {vs : List V}
    (S : FnScope N ps scope) (hd : A.handled = none) (e0 : Env0 P w K mg base A outer s H) (hl : vs.length = ps.length) (r : Vals vs us)
    (x : InCallC s s.heap.objs.size (bindL (envOfC qual scope s.heap.objs.size f cd).kindOf (ps.zip us) fun _ => none) (cellsFrom (s.heap.objs.size + 1) scope.names []) (bindC (envOfC qual scope s.heap.objs.size f cd).kindOf (ps.zip us) fun _ => none) s1) :
    Inv (cxOf CX P w K mg base N qual scope f cd A outer s H E) [] (start N vs) H s1 := by
  have hpl : ps.length ≤ N.length := by have := congrArg List.length S.pre; rw [List.length_take] at this; omega
  obtain ⟨h1, tk, rfl, hk⟩ := x.done
  have noA : ∀ b : Addr, b ∉ (cxOf CX P w K mg base N qual scope f cd A outer s H E).ex := fun b z => absurd (show b ∈ ([] : List Addr) from z) (by simp)
  refine ⟨⟨e0.mod, S.kind, rfl, rfl, Nat.le_refl _, fun y z c h1 h2 => ?_, fun y hy => ?_, fun y c _ h => ?_, fun _ => hd, Around.frames_deeper e0.frames, .inr ⟨rfl, rfl⟩, fun b z => absurd z (noA b), e0.bs, e0.bsz, fun b _ _ => noA b, fun b z => absurd z (noA b), e0.funs, e0.frf⟩,
    rfl, e0.bare, Un.kept hk, ⟨_, x.toInCall.ns, fun i y v h1 h2 h3 => ?_⟩, fun y c h => ⟨_, x.cell y c h⟩, e0.hok.fresh (Nat.le_refl _), fun y c h => ?_, fun p hp => absurd (show p ∈ ([] : List (Addr × Obj)) from hp) (by simp), e0.hok.kept hk, ?_⟩
  · exact name_of_addr x.apart (PySem.mem_of_lookup h1) (PySem.mem_of_lookup h2)
  · have hy : scope.names.lookup y = some .cell ∨ scope.names.lookup y = some .free := hy
    rcases hy with hy | hy
    · exact cell_has hy
    · exact absurd rfl (S.nofree _ (PySem.mem_of_lookup hy))
  · exact Nat.le_of_lt (x.above y c (PySem.mem_of_lookup h))
  · have hi : i < vs.length := by
      unfold start at h2
      by_cases hi : i < vs.length
      · exact hi
      · rw [List.getElem?_append_right (by simpa using hi)] at h2
        rw [List.getElem?_replicate] at h2
        split at h2 <;> cases h2
    have ha : vs[i]? = some v := by
      unfold start at h2
      rw [List.getElem?_append_left (by simpa using hi), List.getElem?_map] at h2
      cases e : vs[i]? with
      | none => rw [e] at h2; cases h2
      | some a => rw [e] at h2; cases h2; rfl
    obtain ⟨u, hu, rv⟩ := r.get ha
    have hp : ps[i]? = some y := by
      rw [← S.pre, List.getElem?_take_of_lt (by omega)]; exact h1
    have ndP : ps.Nodup := by rw [← S.pre]; exact S.nd.sublist (List.take_sublist _ _)
    refine ⟨u, rv, ?_⟩
    rcases S.par y (List.mem_of_getElem? hp) with k | k
    · exact .inl ⟨k, bindL_get ndP hp hu k⟩
    · obtain ⟨c, e⟩ := cell_has (n := s.heap.objs.size + 1) k
      refine .inr ⟨.inl k, c, e, ?_⟩
      have q := x.cell y c e
      rw [bindC_get ndP hp hu (by show scope.names.lookup y ≠ _; rw [k]; decide)] at q
      exact q
  · exact e0.hok.fresh (Nat.le_of_lt (x.above y c (PySem.mem_of_lookup h)))
  · unfold start
    show _ = N.length
    rw [List.length_append, List.length_map, List.length_replicate]
    omega

/-- THE RULE: a def (or a method) of the text, by its body. The body's reading t is chosen for each entry; it is run at the parameters' values -/
theorem fn_of {CX : CXT} {P : Program} {w : World} {K : PySem.W.Frag} {mg : Str → Option Value} {base : Heap} {k : Nat} {f : Addr} {name qual : Str} {params : Arguments} {body : List Stmt} {scope : Scope} {dV kV doc pm cdv ct oc : Value} {an od : Option Addr}
    {osl : Array (Option Value)} {N ps : List Str} {sp : Sp} (lk : K.lookup f = some ⟨oc, od, .func (PySem.W.fnOf name qual params body scope dV kV doc pm an cdv ct), osl⟩) (hcd : PySem.W.codeIn K cdv qual = true) (S : FnScope N ps scope)
    (len : ∀ vs H Q E, sp vs H Q E → vs.length = ps.length)
    (hbody : ∀ (A : Around) (outer : List Env) (s : Shared) (H : Hp) (vs : List V) (Q : VK) (E : XK), Room k (A.deeper (envOfC qual scope s.heap.objs.size f cdv)) → sp vs H Q E →
      ∃ t, PSs (cxOf CX P w K mg base N qual scope f cdv A outer s H E) body t ∧ t { nx := fun _ H' => Q .non H', rt := Q } (start N vs) H) :
    FnOk P w K mg base CX (k + 1) f (PySem.W.fnOf name qual params body scope dV kV doc pm an cdv ct) ps sp := by
  refine ⟨len, fun A outer s H args us vs Q E hr e0 hb r hsp => ?_⟩
  have hl := len _ _ _ _ hsp
  have KX : K.In s.heap := e0.mod.kin.keeps fun b o e => (e0.bs b o e).1
  have lim : s.heap.NoLimit := e0.mod.nolimit.keeps fun b o e => (e0.bs b o e).1
  have hkind : ∀ y ∈ ps.zip us, scope.names.lookup y.1 = some .local ∨ (scope.names.lookup y.1 = some .cell ∧ ((cellsFrom (s.heap.objs.size + 1) scope.names []).lookup y.1).isSome = true) := fun ⟨n, v⟩ hy => by
    rcases S.par n (List.of_mem_zip hy).1 with q | q
    · exact .inl q
    · exact .inr ⟨q, PySem.W.cellsFrom_some _ _ _ (.inl q)⟩
  refine codeAny_call_function hr.depth (KX _ _ lk) rfl S.co S.gen rfl (PySem.W.codeRec_of KX hcd) (hb _ _ _ _ ?_)
  refine wpAny_newFunctionEnv_cells S.kind hkind fun env he s1 x => ?_
  subst he
  refine ⟨lim.keeps x.toInCall.keep, codeAny_func ?_⟩
  obtain ⟨t, ht, hq⟩ := hbody A outer s H vs Q E (hr.deeper _) hsp
  have I : Inv (cxOf CX P w K mg base N qual scope f cdv A outer s H E) [] (start N vs) H s1 := inv_start S hr.hd e0 hl r x
  refine wpAny_mono (ht [] s1 (start N vs) H _ I hq) (fun fl s' hs => ?_) fun e s' hs => hs
  have fin : ∀ {σ' : St} {H' : Hp} {v : V} {u : Value}, Inv (cxOf CX P w K mg base N qual scope f cdv A outer s H E) [] σ' H' s' → RelV v u → Q v H' → CE outer P w H s Q u s' :=
    fun {σ' H' v u} J rv q => ⟨v, H', J.os, J.bare, J.base, J.hok, rv, q⟩
  cases fl with
  | ret u =>
    obtain ⟨v, σ', H', J, rv, q⟩ := hs
    exact fin J rv q
  | next =>
    obtain ⟨σ', H', J, q⟩ := hs
    exact fin (v := V.non) (u := Value.none) J rfl q
  | brk =>
    obtain ⟨_, _, _, q⟩ := hs
    exact False.elim q
  | cont =>
    obtain ⟨_, _, _, q⟩ := hs
    exact False.elim q
end L2

namespace L2
open PySem PySem.Spec PyProof.Rows
section
variable {X : Cx} {x : Str} {p pos : Pos} {e : Expr} {es : List Expr} {t : TA} {id T : String} {r : List V → Hp → VK → Prop}

def tCB (r : List V → Hp → VK → Prop) (t : TA) : TE := fun σ H Q => t σ H fun vs H1 => r vs H1 Q
/-- f(e, ..), f a built-in function -/
theorem pe_callB (hc : CallR X (.builtin id) r) (hg : Gl X x) (hm : X.mg x = none) (hv : bootBuiltins x = some (.builtin id)) (ha : PA X (e :: es) t) (hn : x ≠ "__name__" := by decide) (hdb : (x == ("__debug__" : Str)) = false := by decide)
    (he : starEach (e :: es) X.env = (false, eval e X.env) :: starEach es X.env := by rfl) (hpl : (backTo pos (starEach es X.env)).any (·.1) = false := by rfl) : PE X (.Call (.Name x p) (e :: es) [] pos) (tCB r t) := by
  intro pins s σ H Q I h
  refine wpAny_Call_Name_kw (ld_blt I hg hm hv ?_ hn hdb)
  exact PyProof.Rows.callWith_builtin1 (thn (ha pos pins s σ H _ I h) fun us s1 ⟨vs, H1, I1, r1, q1⟩ => hc pins s1 σ H1 vs us Q I1 r1 q1) he hpl
/-- T(e, ..), T a built-in type -/
theorem pe_callTy (hc : CallR X (.type T) r) (hg : Gl X x) (hm : X.mg x = none) (hv : bootBuiltins x = some (.type T)) (ha : PA X (e :: es) t) (hn : x ≠ "__name__" := by decide) (hdb : (x == ("__debug__" : Str)) = false := by decide)
    (he : starEach (e :: es) X.env = (false, eval e X.env) :: starEach es X.env := by rfl) (hpl : (backTo pos (starEach es X.env)).any (·.1) = false := by rfl) : PE X (.Call (.Name x p) (e :: es) [] pos) (tCB r t) := by
  intro pins s σ H Q I h
  refine wpAny_Call_Name_kw (ld_blt I hg hm hv ?_ hn hdb)
  exact PyProof.Rows.callWith_type1 (thn (ha pos pins s σ H _ I h) fun us s1 ⟨vs, H1, I1, r1, q1⟩ => hc pins s1 σ H1 vs us Q I1 r1 q1) he hpl
end
end L2

namespace HT
open PySem PyProof.Rows

section
open PySem.SeqAt
open PySem.AutoSeq1 (wpAny_loadPart')
open PySem.MeetsSeq PySem.MeetsSeq2 PySem.MeetsSeq3

end

section
variable {prog : Program} {w : World} {A : Around} {E : Value → Shared → Prop} {s : Shared}

/-- t + u, t not empty -/
theorem cat_tup {t b : Addr} {vs ws : List Value} {Q : Value → Shared → Prop} (ht : IsTup s.heap t vs.toArray) (hb : IsTup s.heap b ws.toArray) (hv : vs ≠ [])
    (h1 : ws = [] → Q (.ref t) s) (h2 : ws ≠ [] → Q (.ref s.heap.objs.size) { s with heap := s.heap.push { cls := .type "tuple", data := .seq (vs ++ ws).toArray } })
    (hsz : vs.length + ws.length ≤ sizeLine) : wpAny (model prog w) A (binaryOp .Add (.ref t) (.ref b)) Q E s := by
  obtain ⟨⟨cls, dd, data, sl⟩, ho, hc, n, hd⟩ := id ht
  obtain ⟨⟨cls2, dd2, data2, sl2⟩, ho2, hc2, n2, hd2⟩ := id hb
  simp only at hc hd hc2 hd2
  subst hc hd hc2 hd2
  have e : vs.toArray ++ ws.toArray = (vs ++ ws).toArray := by simp
  by_cases hw : ws = []
  · exact concat_meets ⟨_, ho, rfl⟩ ⟨_, ho2, rfl⟩ noFill_tuple_add seq_tuple_add PySem.F.slot_tuple_add PySem.F.entry_tuple_add (PySem.F.args_tuple_add_2 _ _)
      (tuple_addW1 t b vs.toArray ws.toArray n n2 dd dd2 sl sl2 (by simpa using hv) (by simp [hw])) ⟨ho, ho2, h1 hw⟩
  · refine concat_meets ⟨_, ho, rfl⟩ ⟨_, ho2, rfl⟩ noFill_tuple_add seq_tuple_add PySem.F.slot_tuple_add PySem.F.entry_tuple_add (PySem.F.args_tuple_add_2 _ _)
      (tuple_addW2 t b vs.toArray ws.toArray n n2 dd dd2 sl sl2 (by simpa using hv) (by simpa using hw) (by rw [List.size_toArray, List.size_toArray]; exact hsz)) ⟨ho, ho2, ?_⟩
    rw [e]
    exact h2 hw

/-! ### t[a:b], not the whole -/
/-- a slice's bound as a place among n (d where it is left out) -/
def sIx (n d : Nat) : Option Int → Nat
  | none => d
  | some v => if v < 0 then (v + (n : Int)).toNat else min v.toNat n
theorem sIx_none (n d : Nat) : sIx n d none = d := rfl
theorem sIx_nat (n d k : Nat) : sIx n d (some (k : Int)) = min k n := by
  show (if (k : Int) < 0 then ((k : Int) + (n : Int)).toNat else min (k : Int).toNat n) = min k n
  rw [if_neg (by omega), Int.toNat_natCast]
end
end HT

namespace L2
open PySem PySem.Spec PyProof.Rows

/-! ### the parts of a slice -/
abbrev TO := St → Hp → (Option Int → Hp → Prop) → Prop
/-- a slice's part (left out, or an int) -/
def PO (X : Cx) (e : Option Expr) (t : TO) : Prop :=
  ∀ (pins : List (Addr × Obj)) (s : Shared) (σ : St) (H : Hp) (Q : Option Int → Hp → Prop), Inv X pins σ H s → t σ H Q →
    wpAny (model X.prog X.w) X.A (evalPart e X.env) (fun u s' => ∃ o H', Inv X pins σ H' s' ∧ IsPart u o ∧ Q o H') X.xe s
def tNoPart : TO := fun _ H Q => Q none H
def tPart (t : TE) : TO := fun σ H Q => t σ H fun x H1 => ∃ i, x = .int i ∧ Q (some i) H1

section
variable {X : Cx} {e : Expr} {te : TE} {lo hi : Option Expr} {tl th : TO} {pos p2 : Pos}

theorem po_none : PO X none tNoPart := by
  intro pins s σ H Q I h
  rw [evalPart_none]
  exact wpAny_pure ⟨none, H, I, .none, h⟩
theorem po_some (h : PE X e te) : PO X (some e) (tPart te) := by
  intro pins s σ H Q I hw
  rw [evalPart_some]
  refine thn (h pins s σ H _ I hw) fun u s1 ⟨x, H1, I1, r1, q1⟩ => ?_
  obtain ⟨i, rfl, q⟩ := q1
  obtain ⟨t, rfl⟩ := r1
  exact ⟨some i, H1, I1, .int i t, q⟩

/-- what a slice of a value is, by values: the slice object stands at sl -/
def SlR (X : Cx) (r : V → Option Int → Option Int → Hp → VK → Prop) : Prop :=
  ∀ (pins : List (Addr × Obj)) (s : Shared) (σ : St) (H : Hp) (x : V) (v vl vu : Value) (lo hi : Option Int) (sl : Addr) (Q : VK), Inv X pins σ H s → RelV x v → s.heap.IsSliceOf sl vl vu .none → IsPart vl lo → IsPart vu hi → r x lo hi H Q →
    ∃ T id, typeLookup (.type T) "__getitem__" = pure (some (.builtin id)) ∧ s.TypeIs v T ∧ wpAny (model X.prog X.w) X.A (getItem v (.ref sl)) (EP X pins σ Q) X.xe s
def tSl (r : V → Option Int → Option Int → Hp → VK → Prop) (te : TE) (tl th : TO) : TE := fun σ H Q => te σ H fun x H1 => tl σ H1 fun l H2 => th σ H2 fun u H3 => r x l u H3 Q
/-- a[lo:hi], any a -/
theorem pe_slice {r : V → Option Int → Option Int → Hp → VK → Prop} (hr : SlR X r) (he : PE X e te) (hl : PO X lo tl) (hu : PO X hi th) : PE X (.Subscript e (.Slice lo hi none p2) pos) (tSl r te tl th) := by
  intro pins s σ H Q I h
  refine Subscript_ (thn (he pins s σ H _ I h) fun v s1 ⟨x, H1, I1, r1, q1⟩ => ?_)
  refine wpAny_Slice (thn (hl pins s1 σ H1 _ I1 q1) fun vl s2 ⟨l, H2, I2, pl, q2⟩ => thn (hu pins s2 σ H2 _ I2 q2) fun vu s3 ⟨u, H3, I3, pu, q3⟩ => ?_)
  rw [evalPart_none]
  refine wpAny_pure ?_
  have I4 : Inv X pins σ H3 { s3 with heap := s3.heap.push { cls := .type "slice", data := .fields #[vl, vu, .none] } } := I3.kept (t' := s3.toks) fun b ob q => Heap.get?_push_of_some _ q
  obtain ⟨T, id, hT, ht, hg⟩ := hr pins { s3 with heap := s3.heap.push { cls := .type "slice", data := .fields #[vl, vu, .none] } } σ H3 x v vl vu l u s3.heap.objs.size Q I4 r1 (Heap.IsSliceOf.new ..) pl pu q3
  show wpAny (model X.prog X.w) X.A (subscriptTail e (.Slice lo hi none p2) v (.ref s3.heap.objs.size)) (EP X pins σ Q) X.xe { s3 with heap := s3.heap.push { cls := .type "slice", data := .fields #[vl, vu, .none] } }
  exact tail_any (ops := [.ref s3.heap.objs.size, v]) ht hT hg (by with_unfolding_all rfl)

/-- the items of xs[lo:hi] -/
def cutV (xs : List V) (lo hi : Option Int) : List V := (xs.drop (HT.sIx xs.length 0 lo)).take (HT.sIx xs.length xs.length hi - HT.sIx xs.length 0 lo)
theorem cutV_length (xs : List V) (lo hi : Option Int) : (cutV xs lo hi).length ≤ xs.length := by
  unfold cutV
  rw [List.length_take, List.length_drop]
  omega
/-! ### t < u, t + u -/
/-- t + u, t not empty: u empty gives t itself -/
def rCatT (K : PySem.W.Frag) : R2 := fun x y H Q => ∃ a b xs ys, x = .ref a ∧ y = .ref b ∧ SqT K H a xs ∧ SqT K H b ys ∧ xs ≠ [] ∧ xs.length + ys.length ≤ sizeLine ∧
  (ys = [] → Q (.ref a) H) ∧ (ys ≠ [] → ∀ p, H p = none → Q (.ref p) (upd H p (.tup (xs ++ ys))))
theorem Vals.nil_iff {xs : List V} {us : List Value} (r : Vals xs us) : us = [] ↔ xs = [] := by
  cases r with
  | nil => simp
  | cons _ _ => simp
theorem op_catT : OpR X (binaryOp .Add) (rCatT X.K) := by
  intro pins s σ H x y v u Q I rx ry h
  obtain ⟨a, b, xs, ys, rfl, rfl, ha, hb, hx, hz, q1, q2⟩ := h
  cases rx
  cases ry
  obtain ⟨its, r1, p1, _⟩ := I.tuple ha
  obtain ⟨its2, r2, p2, _⟩ := I.tuple hb
  refine HT.cat_tup p1 p2 (fun z => hx (r1.nil_iff.mp z)) (fun z => ⟨.ref a, H, I, rfl, q1 (r2.nil_iff.mp z)⟩) (fun z => ?_) (by rw [← r1.length, ← r2.length]; exact hz)
  refine ⟨.ref s.heap.objs.size, _, I.laid (t' := s.toks) (o := .tup (xs ++ ys)) (fun b ob q => Heap.get?_push_of_some _ q) (Nat.le_refl _) ?_, rfl, q2 (fun w => z (r2.nil_iff.mpr w)) _ (I.hok.fresh (Nat.le_refl _))⟩
  exact ⟨by rw [List.length_append]; exact hz, _, r1.append r2, IsTup.new _ _⟩
end
end L2

namespace L2
open PySem PySem.Spec PyProof.Rows

/-! ### places -/
/-- the place that an index of any sign means -/
def ixN (n : Nat) (i : Int) : Option Nat := if 0 ≤ i then (if i < n then some i.toNat else none) else if -(n : Int) ≤ i then some (i + n).toNat else none
def atI {α : Type} (xs : List α) (i : Int) : Option α := (ixN xs.length i).bind fun j => xs[j]?
theorem ixN_seq {n : Nat} {i : Int} {j : Nat} (h : ixN n i = some j) : seqIndex? i n = some j ∧ j < n ∧ -(n : Int) ≤ i ∧ i < n := by
  unfold ixN at h
  by_cases h0 : 0 ≤ i
  · rw [if_pos h0] at h
    by_cases h1 : i < n
    · rw [if_pos h1] at h
      have e : i.toNat = j := Option.some.inj h
      exact ⟨by rw [seqIndex_of h0 h1, e], by omega, by omega, h1⟩
    · rw [if_neg h1] at h; cases h
  · rw [if_neg h0] at h
    by_cases h1 : -(n : Int) ≤ i
    · rw [if_pos h1] at h
      have e : (i + n).toNat = j := Option.some.inj h
      exact ⟨by rw [seqIndex_neg (by omega) h1, e], by omega, h1, by omega⟩
    · rw [if_neg h1] at h; cases h
theorem atI_get {α : Type} {xs : List α} {i : Int} {v : α} (h : atI xs i = some v) : ∃ j, seqIndex? i xs.length = some j ∧ xs[j]? = some v ∧ j < xs.length ∧ -(xs.length : Int) ≤ i ∧ i < xs.length := by
  unfold atI at h
  cases e : ixN xs.length i with
  | none => rw [e] at h; cases h
  | some j =>
    rw [e] at h
    obtain ⟨h1, h2, h3, h4⟩ := ixN_seq e
    exact ⟨j, h1, h, h2, h3, h4⟩
theorem atI_nat {α : Type} {xs : List α} {j : Nat} {v : α} (h : xs[j]? = some v) : atI xs (j : Int) = some v := by
  have hj : j < xs.length := (List.getElem?_eq_some_iff.mp h).1
  have e : ixN xs.length (j : Int) = some j := by
    unfold ixN
    rw [if_pos (by omega), if_pos (by omega)]; simp
  unfold atI; rw [e]; exact h
/-! ### what may be subscripted -/
/-- what stands as an index of a plain subscript -/
def PlainIx (b : Expr) : Prop := ∀ o i, subscripted b false o i = operate [o, i] (getItem o i)
/-- a subscript by values -/
def IxR (X : Cx) (r : R2) : Prop :=
  ∀ (value slice : Expr) (pins : List (Addr × Obj)) (s : Shared) (σ : St) (H : Hp) (x y : V) (v u : Value) (Q : VK), Inv X pins σ H s → RelV x v → RelV y u → r x y H Q →
    subscripted slice false v u = operate [v, u] (getItem v u) → wpAny (model X.prog X.w) X.A (subscriptTail value slice v u) (EP X pins σ Q) X.xe s
/-- a call of a builtin's method by values: the receiver, the arguments -/
def MtR (X : Cx) (id : String) (r : V → List V → Hp → VK → Prop) : Prop :=
  ∀ (pins : List (Addr × Obj)) (s : Shared) (σ : St) (H : Hp) (x : V) (xs : List V) (v : Value) (us : List Value) (Q : VK), Inv X pins σ H s → RelV x v → Vals xs us → r x xs H Q →
    wpAny (model X.prog X.w) X.A (call (.builtin id) (v :: us)) (EP X pins σ Q) X.xe s
section
variable {X : Cx} {a b : Expr} {ta tb : TE} {pos : Pos}
/-- a[b] -/
theorem pe_ix {r : R2} (hr : IxR X r) (ha : PE X a ta) (hb : PE X b tb) (hs : PlainIx b) : PE X (.Subscript a b pos) (tOp r ta tb) := by
  intro pins s σ H Q I h
  exact Subscript_ (binT ha hb I h fun v u s2 x y H2 I2 rx ry q => hr a b pins s2 σ H2 x y v u Q I2 rx ry q (hs _ _))

def rIxL (K : PySem.W.Frag) : R2 := fun x y H Q => ∃ p xs i v, x = .ref p ∧ y = .int i ∧ SqL K H p xs ∧ atI xs i = some v ∧ Q v H
def rIxT (K : PySem.W.Frag) : R2 := fun x y H Q => ∃ p xs i v, x = .ref p ∧ y = .int i ∧ SqT K H p xs ∧ atI xs i = some v ∧ Q v H
def rIxS : R2 := fun x y H Q => ∃ z i c, x = .str z ∧ y = .int i ∧ z.length ≤ sizeLine ∧ atI z.cps.toList i = some c ∧ Q (.str ⟨#[c]⟩) H
theorem ix_list : IxR X (rIxL X.K) := by
  intro value slice pins s σ H x y v u Q I rx ry h hs
  obtain ⟨p, xs, i, z, rfl, rfl, hq, he, q⟩ := h
  cases rx
  obtain ⟨t, rfl⟩ := ry
  obtain ⟨its, r, pl, hz⟩ := I.list hq
  obtain ⟨j, h1, h2, h3, h4, h5⟩ := atI_get he
  obtain ⟨w, ew, rw'⟩ := r.get h2
  have hl := r.length
  have hn := line63
  have fin : EP X pins σ Q w s := ⟨z, H, I, rw', q⟩
  by_cases h0 : 0 ≤ i
  · have hj : i.toNat = j := by
      rw [seqIndex_of h0 h5] at h1
      exact Option.some.inj h1
    exact item_listR pl.isList h0 (by omega) (by rw [hj]; simpa using ew) fin hs
  · have hj : (i + (its.toArray.size : Int)).toNat = j := by
      rw [seqIndex_neg (by omega) h4] at h1
      rw [List.size_toArray, ← hl]
      exact Option.some.inj h1
    exact subscriptTail_builtinR (x := w) pl.isList.typeIs slot_list_getitem.lookup
      (wpAny_getItem_list_neg (Q := fun r s' => r = w ∧ EP X pins σ Q r s') pl.isList (by omega) (by rw [List.size_toArray] <;> omega) (by omega) (by rw [hj]; simpa using ew) ⟨rfl, fin⟩) hs
theorem ix_tup : IxR X (rIxT X.K) := by
  intro value slice pins s σ H x y v u Q I rx ry h hs
  obtain ⟨p, xs, i, z, rfl, rfl, hq, he, q⟩ := h
  cases rx
  obtain ⟨t, rfl⟩ := ry
  obtain ⟨its, r, pl, hz⟩ := I.tuple hq
  obtain ⟨j, h1, h2, h3, h4, h5⟩ := atI_get he
  obtain ⟨w, ew, rw'⟩ := r.get h2
  have hl := r.length
  have hn := line63
  have fin : EP X pins σ Q w s := ⟨z, H, I, rw', q⟩
  exact subscriptTail_builtinR (x := w) pl.typeIs slot_tuple_getitem.lookup
    (getItem_tuple (j := j) (Q := fun r s' => r = w ∧ EP X pins σ Q r s') pl (by omega) (by omega) (by rw [List.size_toArray, ← hl]; exact h1) (by simpa using ew) ⟨rfl, fin⟩) hs
theorem ix_str : IxR X rIxS := by
  intro value slice pins s σ H x y v u Q I rx ry h hs
  obtain ⟨z, i, c, rfl, rfl, hz, he, q⟩ := h
  obtain ⟨t, rfl⟩ := rx
  obtain ⟨t', rfl⟩ := ry
  obtain ⟨j, h1, h2, h3, h4, h5⟩ := atI_get he
  have hl : z.cps.toList.length = z.length := by simp [Str.length]
  rw [hl] at h1 h4 h5
  have hn := line63
  exact tail_any (typeIs_str s z t) slot_str_getitem.lookup (getItem_str (c := c) (by
    have e1 : decide (i < -(2 ^ 63 : Int)) = false := decide_eq_false (by omega)
    have e2 : decide (i ≥ 2 ^ 63) = false := decide_eq_false (by omega)
    rw [e1, e2, Bool.or_false]) (by rw [h1]; simpa using h2) ⟨.str ⟨#[c]⟩, H, I.tok _, ⟨_, rfl⟩, q⟩) hs
/-! ### xs[i] = v, any sign -/
/-! ### slices -/
theorem slice_bounds (lo hi : Option Int) (n : Nat) : (sliceBounds lo hi none n).1 = ((HT.sIx n 0 lo : Nat) : Int) ∧ (sliceBounds lo hi none n).2.1 = ((HT.sIx n n hi : Nat) : Int) ∧ (sliceBounds lo hi none n).2.2 = 1 := by
  refine ⟨?_, ?_, rfl⟩
  · cases lo with
    | none => simp [sliceBounds, HT.sIx]
    | some i =>
      simp only [sliceBounds, HT.sIx, Option.getD_none, show (1 : Int) > 0 by decide, if_true]
      by_cases h : i < 0
      · simp only [h, if_true] <;> omega
      · simp only [h, if_false] <;> omega
  · cases hi with
    | none => simp [sliceBounds, HT.sIx]
    | some i =>
      simp only [sliceBounds, HT.sIx, Option.getD_none, show (1 : Int) > 0 by decide, if_true]
      by_cases h : i < 0
      · simp only [h, if_true] <;> omega
      · simp only [h, if_false] <;> omega
theorem slicePick_cut (its : List Value) (lo hi : Option Int) : slicePick its.toArray lo hi none = ((its.drop (HT.sIx its.length 0 lo)).take (HT.sIx its.length its.length hi - HT.sIx its.length 0 lo)).toArray := by
  obtain ⟨h1, h2, h3⟩ := slice_bounds lo hi its.toArray.size
  unfold slicePick
  rw [h1, h2, h3]
  simp only [sliceRange_one, pick_run, List.size_toArray] <;> rfl
/-- xs[lo:hi] of a list: a new list -/
def rSlL (K : PySem.W.Frag) : V → Option Int → Option Int → Hp → VK → Prop := fun x lo hi H Q => ∃ a xs, x = .ref a ∧ SqL K H a xs ∧ ∀ p, H p = none → Q (.ref p) (upd H p (.lst (cutV xs lo hi)))
theorem sl_list : SlR X (rSlL X.K) := by
  intro pins s σ H x v vl vu lo hi sl Q I rx hs pl pu h
  obtain ⟨a, xs, rfl, hx, q⟩ := h
  cases rx
  obtain ⟨its, r, ht, hz⟩ := I.list hx
  have hlen := r.length
  refine ⟨"list", _, slot_list_getitem.lookup, ht.isList.typeIs, ?_⟩
  refine wpAny_getItem_list_slice ht.isList hs pl pu .none (by simp) ?_ (by rw [List.size_toArray] <;> omega)
  rw [slicePick_cut, ← hlen]
  refine ⟨.ref s.heap.objs.size, _, I.laid (t' := s.toks) (o := .lst (cutV xs lo hi)) (fun b ob q => Heap.get?_push_of_some _ q) (Nat.le_refl _) ?_, rfl, q _ (I.hok.fresh (Nat.le_refl _))⟩
  exact ⟨Nat.le_trans (cutV_length xs lo hi) hz, _, 0, (r.drop (HT.sIx xs.length 0 lo)).take (HT.sIx xs.length xs.length hi - HT.sIx xs.length 0 lo), Heap.get?_push_size _ rfl⟩

/-! ### in, not in: flat items -/
/-! ### len, list(x), tuple(x) of any list or tuple that is read -/
theorem call_len_seq : CallR X (.builtin "len") (fun xs H Q => ∃ p ys, xs = [.ref p] ∧ (SqL X.K H p ys ∨ SqT X.K H p ys) ∧ Q (.int ys.length) H) := by
  intro pins s σ H xs us Q I r h
  obtain ⟨p, ys, rfl, hq, q⟩ := h
  obtain ⟨u, rfl, rx⟩ := vals1 r
  cases rx
  have hn := line63
  rcases hq with hq | hq
  · obtain ⟨its, r', pl, hz⟩ := I.list hq
    have hlen := r'.length
    exact Calls.call_len_list pl.isList (by simp only [List.size_toArray] <;> omega) ⟨.int ys.length, H, I.tok _, ⟨s.toks + 1, by rw [List.size_toArray, hlen]⟩, q⟩
  · obtain ⟨its, r', pl, hz⟩ := I.tuple hq
    have hlen := r'.length
    exact len_tuple pl (by simp only [List.size_toArray] <;> omega) ⟨.int ys.length, H, I.tok _, ⟨s.toks + 1, by rw [List.size_toArray, hlen]⟩, q⟩
theorem call_len_str : CallR X (.builtin "len") (fun xs H Q => ∃ z, xs = [.str z] ∧ z.length ≤ sizeLine ∧ Q (.int z.length) H) := by
  intro pins s σ H xs us Q I r h
  obtain ⟨z, rfl, hz, q⟩ := h
  obtain ⟨u, rfl, t, rfl⟩ := vals1 r
  have hn := line63
  exact len_str (by omega) ⟨.int z.length, H, I.tok _, ⟨_, rfl⟩, q⟩
theorem call_list_of : CallR X (.type "list") (fun xs H Q => ∃ p ys, xs = [.ref p] ∧ (SqL X.K H p ys ∨ SqT X.K H p ys) ∧ ∀ l, H l = none → Q (.ref l) (upd H l (.lst ys))) := by
  intro pins s σ H xs us Q I r h
  obtain ⟨p, ys, rfl, hq, q⟩ := h
  obtain ⟨u, rfl, rx⟩ := vals1 r
  cases rx
  have fin : ∀ (its : List Value), Vals ys its → ys.length ≤ sizeLine → ∀ (h' : Heap) (c' : Nat), (∀ b o', s.heap.get? b = some o' → h'.get? b = some o') →
      h'.get? s.heap.objs.size = some { cls := .type "list", dict := none, data := .seq its.toArray c', slots := #[] } → EP X pins σ Q (.ref s.heap.objs.size) { s with heap := h' } := fun its r' hz h' c' kp e =>
    ⟨.ref s.heap.objs.size, _, I.laid (t' := s.toks) kp (Nat.le_refl _) (show ObjOk X.prog X.w _ h' _ (.lst ys) from ⟨hz, its, c', r', e⟩), rfl, q _ (I.hok.fresh (Nat.le_refl _))⟩
  rcases hq with hq | hq
  · obtain ⟨its, r', pl, hz⟩ := I.list hq
    have hlen := r'.length
    obtain ⟨o, ho, hc, n, hd⟩ := pl.isList
    exact call_list_seq p (.inl rfl) ho hc hd (fun h' c' kp e => fin its r' hz h' c' kp e) (by simp only [List.size_toArray] <;> omega)
  · obtain ⟨its, r', pl, hz⟩ := I.tuple hq
    have hlen := r'.length
    obtain ⟨o, ho, hc, n, hd⟩ := pl
    exact call_list_seq p (.inr rfl) ho hc hd (fun h' c' kp e => fin its r' hz h' c' kp e) (by simp only [List.size_toArray] <;> omega)
theorem call_tuple_of : CallR X (.type "tuple") (fun xs H Q => ∃ p ys, xs = [.ref p] ∧ ((SqL X.K H p ys ∧ ∀ l, H l = none → Q (.ref l) (upd H l (.tup ys))) ∨ (SqT X.K H p ys ∧ Q (.ref p) H))) := by
  intro pins s σ H xs us Q I r h
  obtain ⟨p, ys, rfl, h⟩ := h
  obtain ⟨u, rfl, rx⟩ := vals1 r
  cases rx
  rcases h with ⟨hq, q⟩ | ⟨hq, q⟩
  · obtain ⟨its, r', pl, hz⟩ := I.list hq
    have hlen := r'.length
    refine call_tuple_list pl.isList (fun h' kp => ?_) (by simp only [List.size_toArray] <;> omega)
    have I1 : Inv X pins σ H { s with heap := h' } := I.kept (t' := s.toks) kp
    have I2 : Inv X pins σ (upd H h'.objs.size (.tup ys)) { s with heap := h'.push { cls := .type "tuple", data := .seq its.toArray } } :=
      I1.laid (t' := s.toks) (fun b o e => Heap.get?_push_of_some _ e) (Nat.le_refl _) (show ObjOk X.prog X.w _ _ _ (.tup ys) from ⟨hz, its, r', IsTup.new _ _⟩)
    exact ⟨.ref h'.objs.size, _, I2, rfl, q _ (I1.hok.fresh (Nat.le_refl _))⟩
  · obtain ⟨its, r', pl, hz⟩ := I.tuple hq
    exact call_tuple_same pl ⟨.ref p, H, I, rfl, q⟩

/-! ### the call of a builtin's method: o.m(..) -/
/-- the value is of that builtin type -/
def tyV (K : PySem.W.Frag) (T : String) (x : V) (H : Hp) : Prop := match x with
  | .str _ => T = "str"
  | .int _ => T = "int"
  | .ref p => (T = "list" ∧ ∃ xs, SqL K H p xs) ∨ (T = "tuple" ∧ ∃ o, K.lookup p = some o ∧ o.cls = .type "tuple" ∧ o.dict = none) ∨
      (T = "dict" ∧ ((∃ kvs, H p = some (.dK kvs)) ∨ ∃ kvs, H p = some (.dT kvs))) ∨ (T = "set" ∧ ∃ S n, H p = some (.set S n))
  | _ => False
theorem tyV_is {pins : List (Addr × Obj)} {σ : St} {H : Hp} {s : Shared} {T : String} {x : V} {v : Value} (I : Inv X pins σ H s) (r : RelV x v) (ty : tyV X.K T x H) :
    s.TypeIs v T ∧ ∀ a, v = .ref a → ∃ ob, s.heap.get? a = some ob ∧ ob.dict = none := by
  cases x with
  | str z =>
    obtain ⟨t, rfl⟩ := r
    cases (show T = "str" from ty)
    exact ⟨typeIs_str s z t, fun _ e => nomatch e⟩
  | int i =>
    obtain ⟨t, rfl⟩ := r
    cases (show T = "int" from ty)
    exact ⟨typeIs_int s i t, fun _ e => nomatch e⟩
  | ref p =>
    cases r
    rcases ty with ⟨rfl, xs, hq⟩ | ⟨rfl, o, hk, hc, hd⟩ | ⟨rfl, hk⟩ | ⟨rfl, S, n, hk⟩
    · obtain ⟨its, _, pl, _⟩ := I.list hq
      refine ⟨pl.isList.typeIs, fun a e => ?_⟩
      cases e
      obtain ⟨o, n, e, c, hd, _⟩ := pl
      exact ⟨o, e, hd⟩
    · refine ⟨⟨o, I.kIn p o hk, hc⟩, fun a e => ?_⟩
      cases e
      exact ⟨o, I.kIn _ o hk, hd⟩
    · have z : ∃ o, s.heap.get? p = some o ∧ o.ExactDict := by
        rcases hk with ⟨kvs, hk⟩ | ⟨kvs, hk⟩
        · obtain ⟨_, _, _, _, o, _, _, e, ex, _⟩ := I.hok p _ hk
          exact ⟨o, e, ex⟩
        · obtain ⟨_, _, _, _, o, _, _, e, ex, _⟩ := I.hok p _ hk
          exact ⟨o, e, ex⟩
      obtain ⟨o, e, ex⟩ := z
      refine ⟨⟨o, e, ex.1⟩, fun a e2 => ?_⟩
      cases e2
      exact ⟨o, e, ex.2.1⟩
    · obtain ⟨o, _, _, _, e, ex, _⟩ := I.hok p _ hk
      refine ⟨⟨o, e, ex.1⟩, fun a e2 => ?_⟩
      cases e2
      exact ⟨o, e, ex.2.1⟩
  | _ => exact False.elim ty
def tBM0 (K : PySem.W.Frag) (T : String) (r : V → List V → Hp → VK → Prop) (to : TE) : TE := fun σ H Q => to σ H fun x H1 => tyV K T x H1 ∧ r x [] H1 Q
def tBM (K : PySem.W.Frag) (T : String) (r : V → List V → Hp → VK → Prop) (to : TE) (t : TA) : TE := fun σ H Q => to σ H fun x H1 => tyV K T x H1 ∧ t σ H1 fun xs H2 => r x xs H2 Q
variable {o e : Expr} {es : List Expr} {to : TE} {t : TA} {name : Str} {apos cpos : Pos} {T id : String} {r : V → List V → Hp → VK → Prop}
theorem pe_bm0 (pa : PlainAttrs T) (slot : Slot T name id) (hty : typeOf (.builtin id) = pure (.type "method_descriptor")) (hm : MtR X id r) (ho : PE X o to)
    (hbase : attributeBase o name X.env (eval o X.env) = eval o X.env := by rfl) (hline : (apos.endLine == cpos.line) = true := by rfl) : PE X (.Call (.Attribute o name apos) [] [] cpos) (tBM0 X.K T r to) := by
  intro pins s σ H Q I h
  refine wpAny_Call_method0_late hbase hline (thn (ho pins s σ H _ I h) fun v s1 ⟨x, H1, I1, r1, ty, q1⟩ => ?_)
  obtain ⟨h1, h2⟩ := tyV_is I1 r1 ty
  exact ⟨T, id, pa, slot, hty, h1, h2, Calls.callWith_builtin rfl (PySem.evalArgs_none (hm pins s1 σ H1 x [] v [] Q I1 r1 .nil q1))⟩
theorem pe_bm (pa : PlainAttrs T) (slot : Slot T name id) (hty : typeOf (.builtin id) = pure (.type "method_descriptor")) (hm : MtR X id r) (ho : PE X o to) (ha : PA X (e :: es) t)
    (hbase : attributeBase o name X.env (eval o X.env) = eval o X.env := by rfl)
    (hfew : ((backTo cpos (starEach (e :: es) X.env)).all (fun x => !x.1) && (backToKw cpos (keywordEach [] X.env)).all (fun x => x.1.isSome)
      && decide ((e :: es).length + ([] : List Keyword).length + (if ([] : List Keyword).isEmpty then 0 else 1) < 30)) = true := by rfl)
    (hline : (apos.endLine == cpos.line) = true := by rfl) (hs : starEach (e :: es) X.env = (false, eval e X.env) :: starEach es X.env := by rfl) (hplain : (backTo cpos (starEach es X.env)).any (·.1) = false := by rfl) :
    PE X (.Call (.Attribute o name apos) (e :: es) [] cpos) (tBM X.K T r to t) := by
  intro pins s σ H Q I h
  refine wpAny_Call_method_late hbase hfew hline rfl (thn (ho pins s σ H _ I h) fun v s1 ⟨x, H1, I1, r1, ty, q1⟩ => ?_)
  obtain ⟨h1, h2⟩ := tyV_is I1 r1 ty
  refine ⟨T, id, pa, slot, hty, h1, h2, ?_⟩
  have hA := ha cpos pins s1 σ H1 _ I1 q1
  rw [hs] at hA ⊢
  refine Calls.callWith_builtin (by show (false || (backTo cpos (starEach es X.env)).any (·.1)) = false; rw [hplain] <;> rfl) (Calls.evalArgs_plain ?_)
  exact thn hA fun us s2 ⟨vs, H2, I2, r2, q2⟩ => hm pins s2 σ H2 x vs v us Q I2 r1 r2 q2
/- xs.append(e), list.index on a module's tuple .. are MtR facts of 06m -/
end
end L2

namespace L2
open PySem PySem.Spec PyProof.Rows

def MtM (X : Cx) (id : String) (r : V → List V → Hp → VK → Prop) : Prop :=
  ∀ (pins : List (Addr × Obj)) (s : Shared) (σ : St) (H : Hp) (x : V) (xs : List V) (v : Value) (us : List Value) (Q : VK), Inv X pins σ H s → RelV x v → Vals xs us → r x xs H Q →
    wpAny (model X.prog X.w) X.A (call (.builtin id) (v :: us)) (EP X pins σ Q) X.xe s

/-! ### lists of values -/
theorem Vals.one : ∀ {x : V} {us : List Value}, Vals [x] us → ∃ u, us = [u] ∧ RelV x u
  | _, _, .cons r .nil => ⟨_, rfl, r⟩
section
variable {X : Cx} {pins : List (Addr × Obj)} {σ : St} {H : Hp} {s : Shared} {l b : Addr} {xs ys zs : List V}

/-! ### the two steps: a tracked list is rewritten, a new list is laid -/
theorem Inv.lset {its its' : List Value} {n : Nat} {f : Array Value → Array Value} {t' : Nat} (I : Inv X pins σ H s) (hH : H l = some (.lst xs))
    (e : s.heap.get? l = some { cls := .type "list", data := .seq its.toArray n }) (hf : f its.toArray = its'.toArray) (hv : Vals ys its') (hz : ys.length ≤ sizeLine) :
    Inv X pins σ (upd H l (.lst ys)) { s with heap := s.heap.update l (Obj.mapSeq f), toks := t' } := by
  have q := PySem.IsL.update e f
  rw [hf] at q
  refine I.write (x := l) (e := l) (by rw [hH]; exact trivial) (.inl rfl) (fun b' u hb hu => (Heap.get?_update_other s.heap (Obj.mapSeq f) (Ne.symm hb)).trans hu) ⟨_, q⟩ ?_
  exact ⟨hz, its', _, hv, q⟩
theorem Inv.lnew {its : List Value} {t' : Nat} (I : Inv X pins σ H s) (hv : Vals ys its) (hz : ys.length ≤ sizeLine) :
    Inv X pins σ (upd H s.heap.objs.size (.lst ys)) { s with heap := s.heap.push { cls := .type "list", data := .seq its.toArray }, toks := t' } :=
  I.laid (fun _ _ q => Heap.get?_push_of_some _ q) (Nat.le_refl _) ⟨hz, its, 0, hv, Heap.get?_push_size _ rfl⟩
theorem Inv.fresh (I : Inv X pins σ H s) : H s.heap.objs.size = none := I.hok.fresh (Nat.le_refl _)
theorem Inv.lstM (I : Inv X pins σ H s) (hH : H l = some (.lst xs)) : xs.length ≤ sizeLine ∧ ∃ (its : List Value) (n : Nat), Vals xs its ∧ xs.length = its.length ∧ s.heap.get? l = some { cls := .type "list", data := .seq its.toArray n } := by
  obtain ⟨z, its, n, r, e⟩ := I.hok l _ hH
  exact ⟨z, its, n, r, r.length, e⟩

theorem notLongL {n : Nat} (h : n ≤ sizeLine) : Builtin.List.listTooLong n = false := by
  unfold Builtin.List.listTooLong
  exact decide_eq_false (by omega)
end

section
variable {X : Cx}

/-! ### methods -/
def rAppend : V → List V → Hp → VK → Prop := fun x vs H Q => ∃ l xs y, x = .ref l ∧ vs = [y] ∧ H l = some (.lst xs) ∧ xs.length < sizeLine ∧ Q .non (upd H l (.lst (xs ++ [y])))
theorem mt_append : MtM X "list.append" rAppend := by
  intro pins s σ H x vs v us Q I rx rv h
  obtain ⟨l, xs, y, rfl, rfl, hH, hz, q⟩ := h
  cases rx
  obtain ⟨u, rfl, ru⟩ := rv.one
  obtain ⟨z, its, n, r, hl, e⟩ := I.lstM hH
  refine call_meets F.slot_list_append ⟨_, e, rfl⟩ F.entry_list_append (F.args_list_append_2 _ _) (PySem.list_append l its.toArray n u (by rw [List.size_toArray]; omega)) ⟨e, ?_⟩
  refine ⟨.non, _, I.lset (its' := its ++ [u]) hH e (by simp) (r.append (.cons ru .nil)) ?_, rfl, q⟩
  rw [List.length_append, List.length_singleton]
  omega

def rExtend : V → List V → Hp → VK → Prop := fun x vs H Q => ∃ l b xs zs, x = .ref l ∧ vs = [.ref b] ∧ H l = some (.lst xs) ∧ H b = some (.lst zs) ∧ xs.length + zs.length ≤ sizeLine ∧ Q .non (upd H l (.lst (xs ++ zs)))
theorem mt_extend : MtM X "list.extend" rExtend := by
  intro pins s σ H x vs v us Q I rx rv h
  obtain ⟨l, b, xs, zs, rfl, rfl, hH, hB, hz, q⟩ := h
  cases rx
  obtain ⟨u, rfl, ru⟩ := rv.one
  cases ru
  obtain ⟨z, its, n, r, hl, e⟩ := I.lstM hH
  obtain ⟨z2, its2, n2, r2, hl2, e2⟩ := I.lstM hB
  have hsz : its.toArray.size + its2.toArray.size ≤ sizeLine := by rw [List.size_toArray, List.size_toArray]; omega
  have hlong : ¬ (!its.toArray.isEmpty && Builtin.List.listTooLong (its.toArray.size + its2.toArray.size)) = true := by
    rw [notLongL hsz, Bool.and_false]
    exact Bool.false_ne_true
  refine call_meets F.slot_list_extend ⟨_, e, rfl⟩ F.entry_list_extend (F.args_list_extend_2 _ _)
    (AutoSeq1.list_extend_list_list_0 l its.toArray n b its2.toArray n2 hlong (by rw [List.size_toArray]; omega) (by omega)) ⟨e, e2, ?_⟩
  refine ⟨.non, _, I.lset (its' := its ++ its2) hH e (by simp) (r.append r2) ?_, rfl, q⟩
  rw [List.length_append]
  omega

/-! ### list + list, list += list, list * int -/
def rCat : R2 := fun x y H Q => ∃ l b xs zs, x = .ref l ∧ y = .ref b ∧ H l = some (.lst xs) ∧ H b = some (.lst zs) ∧ xs.length + zs.length ≤ sizeLine ∧ ∀ p, H p = none → Q (.ref p) (upd H p (.lst (xs ++ zs)))
theorem op_cat : OpR X (binaryOp .Add) rCat := by
  intro pins s σ H x y v u Q I rx ry h
  obtain ⟨l, b, xs, zs, rfl, rfl, hH, hB, hz, q⟩ := h
  cases rx
  cases ry
  obtain ⟨z, its, n, r, hl, e⟩ := I.lstM hH
  obtain ⟨z2, its2, n2, r2, hl2, e2⟩ := I.lstM hB
  refine PySem.P.add_list e e2 ?_ (by rw [List.size_toArray, List.size_toArray]; omega)
  have ea : its.toArray ++ its2.toArray = (its ++ its2).toArray := by simp
  rw [ea]
  exact ⟨.ref _, _, I.lnew (t' := s.toks) (r.append r2) (by rw [List.length_append]; omega), rfl, q _ I.fresh⟩
/-! ### del xs[i] -/
end

/-! ### xs[a:b] = ys -/
section
variable {prog : Program} {w : World} {A : Around} {E : Value → Shared → Prop} {s : Shared}
set_option maxRecDepth 100000 in
end

section
variable {X : Cx}
end
end L2

namespace L2
open PySem PySem.Spec PyProof.Rows

/-! ### lists of pairs as tables -/
section
variable {κ : Type} [DecidableEq κ]
def valV (kvs : List (κ × V)) (k : κ) : Option V := (kvs.find? fun kv => decide (kv.1 = k)).map (·.2)
/-- in its place, or at the end -/
def putK (kvs : List (κ × V)) (k : κ) (v : V) : List (κ × V) :=
  if (kvs.any fun kv => decide (kv.1 = k)) = true then kvs.map (fun kv => if kv.1 = k then (kv.1, v) else kv) else kvs ++ [(k, v)]
theorem valV_pos {p : κ × V} {r : List (κ × V)} {k : κ} (e : p.1 = k) : valV (p :: r) k = some p.2 := by simp [valV, List.find?_cons, e]
theorem valV_neg {p : κ × V} {r : List (κ × V)} {k : κ} (e : ¬ p.1 = k) : valV (p :: r) k = valV r k := by simp [valV, List.find?_cons, e]
theorem valV_any (k : κ) : ∀ kvs : List (κ × V), (kvs.any fun kv => decide (kv.1 = k)) = (valV kvs k).isSome
  | [] => rfl
  | p :: r => by
    rw [List.any_cons]
    by_cases e : p.1 = k
    · simp only [valV_pos e, decide_eq_true e, Bool.true_or, Option.isSome_some]
    · rw [valV_neg e, decide_eq_false e, Bool.false_or]; exact valV_any k r
theorem valV_map (k j : κ) (y : V) : ∀ kvs : List (κ × V), valV (kvs.map fun kv => if kv.1 = k then (kv.1, y) else kv) j = (valV kvs j).map fun x => if j = k then y else x
  | [] => rfl
  | p :: r => by
    have ih := valV_map k j y r
    rw [List.map_cons]
    by_cases h : p.1 = k
    · rw [if_pos h]
      by_cases e : p.1 = j
      · rw [valV_pos (p := (p.1, y)) e, valV_pos e, Option.map_some, if_pos (e.symm.trans h)]
      · rw [valV_neg (p := (p.1, y)) e, valV_neg e, ih]
    · rw [if_neg h]
      by_cases e : p.1 = j
      · rw [valV_pos (p := p) e, valV_pos e, Option.map_some, if_neg (fun z => h (e.trans z))]
      · rw [valV_neg (p := p) e, valV_neg e, ih]
theorem valV_snoc (k j : κ) (y : V) : ∀ kvs : List (κ × V), valV kvs k = none → valV (kvs ++ [(k, y)]) j = if j = k then some y else valV kvs j
  | [], _ => by
    by_cases e : k = j
    · rw [if_pos e.symm]; exact valV_pos (p := (k, y)) e
    · rw [if_neg (fun z => e z.symm)]; exact valV_neg (p := (k, y)) e
  | p :: r, hn => by
    rw [List.cons_append]
    have hk : ¬ p.1 = k := fun z => by rw [valV_pos z] at hn; cases hn
    rw [valV_neg hk] at hn
    have ih := valV_snoc k j y r hn
    by_cases e : p.1 = j
    · rw [valV_pos e, valV_pos e, if_neg (fun z => hk (e.trans z))]
    · rw [valV_neg e, valV_neg e, ih]
theorem valV_put (kvs : List (κ × V)) (k j : κ) (y : V) : valV (putK kvs k y) j = if j = k then some y else valV kvs j := by
  unfold putK
  by_cases a : (kvs.any fun kv => decide (kv.1 = k)) = true
  · rw [if_pos a, valV_map]
    rw [valV_any] at a
    by_cases e : j = k
    · obtain ⟨x, hx⟩ := Option.isSome_iff_exists.mp a
      rw [if_pos e, e, hx, Option.map_some, if_pos rfl]
    · rw [if_neg e]
      cases valV kvs j with
      | none => rfl
      | some x => rw [Option.map_some, if_neg e]
  · rw [if_neg a]
    refine valV_snoc k j y kvs ?_
    rw [valV_any] at a
    cases q : valV kvs k with
    | none => rfl
    | some x => rw [q] at a; exact (a rfl).elim
theorem length_putK (kvs : List (κ × V)) (k : κ) (v : V) : (putK kvs k v).length ≤ kvs.length + 1 := by
  unfold putK
  split
  · rw [List.length_map]; omega
  · rw [List.length_append, List.length_cons, List.length_nil]; omega
theorem RelO.isSome_eq {o : Option V} {u : Option Value} (r : RelO o u) : o.isSome = u.isSome := by
  cases o with
  | none => cases u with
    | none => rfl
    | some _ => exact (show False from r).elim
  | some _ => cases u with
    | none => exact (show False from r).elim
    | some _ => rfl
/-- raw tables of the same keys -/
theorem KV.val {kvs : List (κ × V)} {vs : List (κ × Value)} (r : KV kvs vs) (k : κ) : RelO (valV kvs k) (valueAt vs k) := by
  unfold KV at r
  induction r with
  | nil => exact True.intro
  | @cons p q ps qs h t ih =>
    obtain ⟨h1, h2⟩ := h
    by_cases e : p.1 = k
    · have e' : q.1 = k := h1.symm.trans e
      have b : valueAt (q :: qs) k = some q.2 := by simp [valueAt, List.find?_cons, e']
      rw [valV_pos e, b]; exact h2
    · have e' : ¬ q.1 = k := fun z => e (h1.trans z)
      have b : valueAt (q :: qs) k = valueAt qs k := by simp [valueAt, List.find?_cons, e']
      rw [valV_neg e, b]; exact ih
theorem KV.any {kvs : List (κ × V)} {vs : List (κ × Value)} (r : KV kvs vs) (k : κ) : (kvs.any fun kv => decide (kv.1 = k)) = vs.any fun kv => decide (kv.1 = k) := by
  unfold KV at r
  induction r with
  | nil => rfl
  | cons h t ih => rw [List.any_cons, List.any_cons, ih, h.1]
theorem KV.repl {kvs : List (κ × V)} {vs : List (κ × Value)} (r : KV kvs vs) (k : κ) {y : V} {u : Value} (ry : RelV y u) :
    KV (kvs.map fun kv => if kv.1 = k then (kv.1, y) else kv) (vs.map fun kv => if kv.1 = k then (kv.1, u) else kv) := by
  unfold KV at r ⊢
  induction r with
  | nil => exact .nil
  | @cons p q ps qs h t ih =>
    rw [List.map_cons, List.map_cons]
    refine .cons ?_ ih
    obtain ⟨h1, h2⟩ := h
    by_cases e : p.1 = k
    · rw [if_pos e, if_pos (h1.symm.trans e)]; exact ⟨h1, ry⟩
    · rw [if_neg e, if_neg (fun z => e (h1.trans z))]; exact ⟨h1, h2⟩
theorem KV.put {kvs : List (κ × V)} {vs : List (κ × Value)} (r : KV kvs vs) (k : κ) {y : V} {u : Value} (ry : RelV y u) : KV (putK kvs k y) (stored vs k u) := by
  unfold putK stored
  rw [r.any k]
  by_cases e : (vs.any fun kv => decide (kv.1 = k)) = true
  · rw [if_pos e, if_pos e]; exact r.repl k ry
  · rw [if_neg e, if_neg e]; exact Paired.snoc r ⟨rfl, ry⟩
theorem KV.length {kvs : List (κ × V)} {vs : List (κ × Value)} (r : KV kvs vs) : kvs.length = vs.length := Paired.length r
end


/-! ### a tracked dict, its keys ints and texts or tuples of these -/
theorem kV_is {P : Program} {w : World} {k : Key} {u : Value} (r : RelV (kV k) u) : (mixKind P w).is k u = true := by
  cases k with
  | inl i => obtain ⟨t, e⟩ := (show ∃ t, u = Value.int i t from r); subst e; exact mixKind_int P w i t
  | inr x => obtain ⟨t, e⟩ := (show ∃ t, u = Value.str x t from r); subst e; exact mixKind_str P w x t
theorem items_are {P : Program} {w : World} : ∀ {ks : List Key} {us : List Value}, Vals (ks.map kV) us → ItemsAre (mixKind P w) ks us
  | [], _, r => by rw [List.map_nil] at r; cases r; exact .nil
  | k :: ks, _, r => by
    rw [List.map_cons] at r
    cases r with
    | cons h t => exact .cons (kV_is h) (items_are t)

/-- raw entries of a dict with tuple keys -/
abbrev KT (H : Hp) : List (List Key × V) → List (List Key × Addr × Value) → Prop := Paired fun p q => p.1 = q.1 ∧ H q.2.1 = some (.tup (p.1.map kV)) ∧ RelV p.2 q.2.2
theorem KT.val {H : Hp} {kvs : List (List Key × V)} {xs : List (List Key × Addr × Value)} (r : KT H kvs xs) (k : List Key) : RelO (valV kvs k) ((atKey xs k).map (·.2)) := by
  induction r with
  | nil => exact True.intro
  | @cons p q ps qs h t ih =>
    obtain ⟨h1, _, h2⟩ := h
    by_cases e : p.1 = k
    · have e' : q.1 = k := h1.symm.trans e
      have b : atKey (q :: qs) k = some q.2 := by simp [atKey, List.find?_cons, e']
      rw [valV_pos e, b]; exact h2
    · have e' : ¬ q.1 = k := fun z => e (h1.trans z)
      have b : atKey (q :: qs) k = atKey qs k := by simp [atKey, List.find?_cons, e']
      rw [valV_neg e, b]; exact ih
theorem KT.repl {H : Hp} {kvs : List (List Key × V)} {xs : List (List Key × Addr × Value)} (r : KT H kvs xs) (k : List Key) {y : V} {u : Value} (ry : RelV y u) :
    KT H (kvs.map fun kv => if kv.1 = k then (kv.1, y) else kv) (xs.map (putAt k u)) := by
  induction r with
  | nil => exact .nil
  | @cons p q ps qs h t ih =>
    rw [List.map_cons, List.map_cons]
    refine .cons ?_ ih
    obtain ⟨h1, h2, h3⟩ := h
    unfold putAt
    by_cases e : p.1 = k
    · rw [if_pos e, if_pos (h1.symm.trans e)]; exact ⟨h1, h2, ry⟩
    · rw [if_neg e, if_neg (fun z => e (h1.trans z))]; exact ⟨h1, h2, h3⟩
theorem KT.put {H : Hp} {kvs : List (List Key × V)} {xs : List (List Key × Addr × Value)} (r : KT H kvs xs) (k : List Key) {b : Addr} {y : V} {u : Value} (hb : H b = some (.tup (k.map kV))) (ry : RelV y u) :
    KT H (putK kvs k y) (storedH xs k b u) := by
  have e : (kvs.any fun kv => decide (kv.1 = k)) = (atKey xs k).isSome := by
    rw [valV_any, (r.val k).isSome_eq, Option.isSome_map]
  unfold putK storedH
  rw [e]
  by_cases q : (atKey xs k).isSome = true
  · rw [if_pos q, if_pos q]; exact r.repl k ry
  · rw [if_neg q, if_neg q]; exact Paired.snoc r ⟨rfl, hb, ry⟩
theorem KT.keeps {H H' : Hp} {kvs : List (List Key × V)} {xs : List (List Key × Addr × Value)} (r : KT H kvs xs) (ht : ∀ b ys, H b = some (.tup ys) → H' b = some (.tup ys)) : KT H' kvs xs :=
  Paired.mapP r fun _ _ z => ⟨z.1, ht _ _ z.2.1, z.2.2⟩

section
variable {P : Program} {w : World} {H : Hp} {h : Heap} {a : Addr}
theorem rd_of {u : HO} (ok : HOk P w H h) (e : Rd H a u) : ObjOk P w H h a u := e.ok ok
theorem dk_rd {kvs : List (Key × V)} (ok : HOk P w H h) (e : Rd H a (.dK kvs)) : kvs.length ≤ sizeLine ∧ (a == sysModules) = false ∧ ∃ vs, KV kvs vs ∧ h.DictOf (mixKind P w) a vs :=
  show ObjOk P w H h a (.dK kvs) from rd_of ok e
theorem dk_of {kvs : List (Key × V)} (ok : HOk P w H h) (e : H a = some (.dK kvs)) : kvs.length ≤ sizeLine ∧ (a == sysModules) = false ∧ ∃ vs, KV kvs vs ∧ h.DictOf (mixKind P w) a vs := dk_rd ok (.inl e)
/-- a tracked tuple of ints and texts is a key -/
theorem key_of {ks : List Key} (ok : HOk P w H h) (e : H a = some (.tup (ks.map kV))) : (tupleKind (mixKind P w)).is h ks a := by
  obtain ⟨_, its, r, o, h1, h2, n, h3⟩ := (show ObjOk P w H h a (.tup (ks.map kV)) from ok a _ e)
  exact ⟨o, its.toArray, n, h1, h2, h3, by simpa using items_are r⟩
theorem dt_rd {kvs : List (List Key × V)} (ok : HOk P w H h) (e : Rd H a (.dT kvs)) : kvs.length ≤ sizeLine ∧ (a == sysModules) = false ∧
    ∃ xs, KT H kvs xs ∧ h.DictOfH (tupleKind (mixKind P w)) a xs := by
  obtain ⟨z, y, xs, r, o, es, ep, h1, h2, h3, h4, h5⟩ := (show ObjOk P w H h a (.dT kvs) from rd_of ok e)
  refine ⟨z, y, xs, r, o, es, ep, h1, h2, h3, h4, fun x hx => ?_, h5⟩
  have all : ∀ {l : List (List Key × V)} {m : List (List Key × Addr × Value)}, KT H l m → ∀ x ∈ m, (tupleKind (mixKind P w)).is h x.1 x.2.1 := by
    intro l m q
    induction q with
    | nil => intro x hx; exact nomatch hx
    | @cons p q ps qs hq t ih =>
      intro x hx
      rcases List.mem_cons.mp hx with e | hx
      · subst e
        exact key_of ok (by rw [← hq.1]; exact hq.2.1)
      · exact ih x hx
  exact all r x hx
theorem dt_of {kvs : List (List Key × V)} (ok : HOk P w H h) (e : H a = some (.dT kvs)) : kvs.length ≤ sizeLine ∧ (a == sysModules) = false ∧
    ∃ xs, KT H kvs xs ∧ h.DictOfH (tupleKind (mixKind P w)) a xs := dt_rd ok (.inl e)
end

/-- what the dict at a holds at the key y -/
def DGet (H : Hp) (a : Addr) (y : V) (r : Option V) : Prop :=
  (∃ kvs k, Rd H a (.dK kvs) ∧ y = kV k ∧ r = valV kvs k) ∨ ∃ kvs k b, Rd H a (.dT kvs) ∧ y = .ref b ∧ H b = some (.tup (k.map kV)) ∧ r = valV kvs k
/-- the heap behind a[y] = v -/
def DPut (H : Hp) (a : Addr) (y v : V) (H' : Hp) : Prop :=
  (∃ kvs k, H a = some (.dK kvs) ∧ y = kV k ∧ kvs.length < sizeLine ∧ H' = upd H a (.dK (putK kvs k v))) ∨
  ∃ kvs k b, H a = some (.dT kvs) ∧ y = .ref b ∧ H b = some (.tup (k.map kV)) ∧ kvs.length < sizeLine ∧ H' = upd H a (.dT (putK kvs k v))
theorem DGet.k {H : Hp} {a : Addr} {kvs : List (Key × V)} {k : Key} (e : H a = some (.dK kvs)) : DGet H a (kV k) (valV kvs k) := .inl ⟨kvs, k, .inl e, rfl, rfl⟩
theorem DPut.k {H : Hp} {a : Addr} {kvs : List (Key × V)} {k : Key} {v : V} (e : H a = some (.dK kvs)) (hl : kvs.length < sizeLine) : DPut H a (kV k) v (upd H a (.dK (putK kvs k v))) := .inl ⟨kvs, k, e, rfl, hl, rfl⟩
section
variable {X : Cx} {pins : List (Addr × Obj)} {σ : St} {H : Hp} {s : Shared} {a : Addr} {y v : V} {u r : Value} {o : Option V} {A : Around} {E : Value → Shared → Prop}

theorem Inv.big (I : Inv X pins σ H s) : sysModules < s.heap.objs.size := by
  have h : mainGlobals < s.heap.objs.size := (I.mod.glob.keeps I.bk).lt
  exact Nat.lt_trans (by decide) h

/-- d[y], there -/
theorem d_getItem {Q : Value → Shared → Prop} (hu : A.units + 1 < cLine) (I : Inv X pins σ H s) (g : DGet H a y (some v)) (ry : RelV y u) (h : ∀ w' s', Inv X pins σ H s' → RelV v w' → Q w' s') :
    wpAny (model X.prog X.w) A (getItem (.ref a) u) Q E s := by
  rcases g with ⟨kvs, k, e, ey, l⟩ | ⟨kvs, k, b, e, ey, eb, l⟩
  · subst ey
    obtain ⟨z, hd, vs, rel, dd⟩ := dk_rd I.hok e
    obtain ⟨w', hw, rw'⟩ := RelO.some_of (v := v) (o := valueAt vs k) (by rw [l]; exact rel.val k)
    exact wpAny_getItem_of (kV_is ry) dd.mapOf hw (h w' _ (I.tok _) rw')
  · subst ey
    cases (show u = Value.ref b from ry)
    obtain ⟨z, hd, xs, rel, dd⟩ := dt_rd I.hok e
    obtain ⟨w', hw, rw'⟩ := RelO.some_of (v := v) (o := (atKey xs k).map (·.2)) (by rw [l]; exact rel.val k)
    obtain ⟨p, hp, hp2⟩ := Option.map_eq_some_iff.mp hw
    refine wpAny_getItem_heap (tupleKind_room_in1 hu) (key_of I.hok eb) dd hp ?_
    rw [hp2]
    exact h w' _ (I.tok _) rw'
/-- a dict's object is replaced -/
theorem d_write {h' : Heap} {t' : Nat} {ob : HO} (I : Inv X pins σ H s) (mu : Mut (H a)) (hs : Heap.SameBut a s.heap h') (he : ∃ q, h'.get? a = some q) (new : ObjOk X.prog X.w (upd H a ob) h' a ob) :
    Inv X pins σ (upd H a ob) { s with heap := h', toks := t' } :=
  I.write (x := a) (e := a) mu (.inl rfl) (fun b q hb z => (hs.2 b hb).trans z) he new
theorem dk_new {P : Program} {w : World} {H' : Hp} {h' : Heap} {kvs : List (Key × V)} {vs : List (Key × Value)} (z : kvs.length ≤ sizeLine) (hd : (a == sysModules) = false) (rel : KV kvs vs) (dd : h'.DictOf (mixKind P w) a vs) :
    ObjOk P w H' h' a (.dK kvs) := ⟨z, hd, vs, rel, dd⟩
/-- d[y] = v -/
theorem d_setItem {H' : Hp} {Q : Unit → Shared → Prop} (hu : A.units + 1 < cLine) (I : Inv X pins σ H s) (g : DPut H a y v H') (ry : RelV y u) (rv : RelV v r) (h : ∀ s', Inv X pins σ H' s' → Q () s') :
    wpAny (model X.prog X.w) A (setItem (.ref a) u r) Q E s := by
  rcases g with ⟨kvs, k, e, ey, l, eH⟩ | ⟨kvs, k, b, e, ey, eb, l, eH⟩
  · subst ey eH
    obtain ⟨z, hd, vs, rel, dd⟩ := dk_of I.hok e
    have hz : vs.length ≤ sizeLine := by rw [← rel.length]; exact z
    have hl : (putK kvs k v).length ≤ sizeLine := by have := length_putK kvs k v; omega
    refine wpAny_setItem_pairs (hsz := hz) (kV_is ry) dd fun h' dd' hs => h _ ?_
    have he : ∃ q, h'.get? a = some q := let ⟨q, _, _, hq, _⟩ := dd'; ⟨q, hq⟩
    exact d_write I (by rw [e]; exact True.intro) hs he (dk_new hl hd (rel.put k rv) dd')
  · subst ey eH
    cases (show u = Value.ref b from ry)
    obtain ⟨z, hd, xs, rel, dd⟩ := dt_of I.hok e
    have hz : xs.length ≤ sizeLine := by rw [← Paired.length rel]; exact z
    have hl : (putK kvs k v).length ≤ sizeLine := by have := length_putK kvs k v; omega
    refine wpAny_setItem_heap (hsz := hz) (tupleKind_room_in1 hu) (key_of I.hok eb) dd fun h' dd' hs => h _ ?_
    obtain ⟨q, es, ep, hq, h2, h3, h4, _, h5⟩ := dd'
    refine d_write I (by rw [e]; exact True.intro) hs ⟨q, hq⟩ ⟨hl, hd, _, (rel.put k eb rv).keeps fun c ys ec => ?_, q, es, ep, hq, h2, h3, h4, h5⟩
    rw [upd_ne (ne_of ec e (fun z => nomatch z))]
    exact ec
end

section
variable {X : Cx} {pins : List (Addr × Obj)} {σ : St} {H : Hp} {s : Shared} {a : Addr} {kvs : List (Key × V)} {k : Key} {u : Value} {A : Around} {E : Value → Shared → Prop}
/-- len(d) -/
theorem d_len {Q : Value → Shared → Prop} (I : Inv X pins σ H s) (e : Rd H a (.dK kvs)) (h : ∀ t s', Inv X pins σ H s' → Q (.int kvs.length t) s') : wpAny (model X.prog X.w) A (call (.builtin "len") [.ref a]) Q E s := by
  obtain ⟨z, hd, vs, rel, dd⟩ := dk_rd I.hok e
  refine call_len_dict hd dd (by rw [← rel.length]; rw [sizeLine_eq] at z; omega) ?_
  rw [← rel.length]
  exact h _ _ (I.tok _)
end


/-! ### readings and rules -/
/-- the element of a subscription, not a slice -/
def NoSl (i : Expr) : Prop := ∀ ov iv, subscripted i false ov iv = operate [ov, iv] (getItem ov iv)
theorem subD_of {prog : Program} {w : World} {A : Around} {E : Value → Shared → Prop} {s : Shared} {env : Env} {value slice : Expr} {pos : Pos} {T id : String} {Q : Value → Shared → Prop}
    (hl : typeLookup (.type T) "__getitem__" = pure (some (.builtin id))) (hs : NoSl slice)
    (h : wpAny (model prog w) A (eval value env) (fun o s₁ => wpAny (model prog w) A (eval slice env) (fun i s₂ => s₂.TypeIs o T ∧ wpAny (model prog w) A (getItem o i) Q E s₂) E s₁) E s) :
    wpAny (model prog w) A (eval (.Subscript value slice pos) env) Q E s := by
  refine Subscript_ (wpAny_mono h (fun o s₁ h₁ => wpAny_mono h₁ (fun i s₂ h₂ => ?_) fun _ _ x => x) fun _ _ x => x)
  obtain ⟨hT, h₂⟩ := h₂
  unfold subscriptTail
  refine wpAny_bind ?_
  rw [getitemInPython_of_ne hT.not_modules]
  refine wpAny_bind (wpAny_specialOf hT hl ?_)
  have fin : wpAny (model prog w) A (subscripted slice false o i) (fun r s₃ => wpAny (model prog w) A (letTemporaryGo value o r >>= fun _ => pure r) Q E s₃) E s₂ := by
    rw [hs o i]
    exact wpAny_operating (wpAny_mono h₂ (fun r s₃ h₃ => wpAny_bind (wpAny_letTemporaryGo (wpAny_pure h₃))) fun _ _ x => x)
  first
    | exact wpAny_pure (wpAny_bind fin)
    | exact wpAny_bind (wpAny_pure (wpAny_bind fin))
    | exact wpAny_bind fin

theorem dict_typeIs {X : Cx} {pins : List (Addr × Obj)} {σ : St} {H : Hp} {s : Shared} {a : Addr} {y : V} {o : Option V} (I : Inv X pins σ H s) (g : DGet H a y o) : s.TypeIs (.ref a) "dict" := by
  rcases g with ⟨kvs, k, e, _, _⟩ | ⟨kvs, k, b, e, _, _, _⟩
  · obtain ⟨_, _, vs, _, dd⟩ := dk_rd I.hok e
    exact dd.typeIs
  · obtain ⟨_, _, xs, _, dd⟩ := dt_rd I.hok e
    exact dd.typeIs
/-- d[y] -/
def tDGet (td ty : TE) : TE := fun σ H Q => td σ H fun x H1 => ty σ H1 fun y H2 => ∃ a v, x = .ref a ∧ DGet H2 a y (some v) ∧ Q v H2
/-- d[y] = v -/
def sDPut (td ty tv : TE) : TS := fun D σ H => tv σ H fun v H1 => td σ H1 fun x H2 => ty σ H2 fun y H3 => ∃ a H4, x = .ref a ∧ DPut H3 a y v H4 ∧ D.nx σ H4
section
variable {X : Cx} {o i e value : Expr} {pos pos' tpos : Pos} {td ty tv : TE}
theorem pe_dget (hu : X.A.units + 1 < cLine) (ho : PE X o td) (hi : PE X i ty) (hs : NoSl i) : PE X (.Subscript o i pos) (tDGet td ty) := by
  intro pins s σ H Q I h
  refine subD_of PySem.F.slot_dict_getitem.lookup hs (thn (ho pins s σ H _ I h) fun u s1 ⟨x, H1, I1, rx, q1⟩ => thn (hi pins s1 σ H1 _ I1 q1) fun iv s2 ⟨y, H2, I2, ry, a, v, ex, g, q2⟩ => ?_)
  subst ex
  obtain rfl : u = Value.ref a := rx
  exact ⟨dict_typeIs I2 g, d_getItem hu I2 g ry fun w' s3 I3 rw' => ⟨v, H2, I3, rw', q2⟩⟩
theorem ps_dput (hu : X.A.units + 1 < cLine) (ho : PE X o td) (hi : PE X i ty) (hv : PE X value tv) (hs : swapsWith value (some (.Subscript o i pos')) pos.line X.env = pure false) :
    PS X (.Assign [.Subscript o i pos'] value pos) (sDPut td ty tv) := by
  intro pins s σ H D I h
  refine wpAny_Assign_Subscript (thn (hv pins s σ H _ I h) fun r s1 ⟨v, H1, I1, rv, q1⟩ => thn (ho pins s1 σ H1 _ I1 q1) fun u s2 ⟨x, H2, I2, rx, q2⟩ => thn (hi pins s2 σ H2 _ I2 q2) fun iv s3 ⟨y, H3, I3, ry, a, H4, ex, g, q3⟩ => ?_) hs
  subst ex
  obtain rfl : u = Value.ref a := rx
  exact d_setItem hu I3 g ry rv fun s4 I4 => ⟨σ, H4, I4, q3⟩
end


/-! ### displays -/
theorem dk_empty {P : Program} {w : World} {H : Hp} (h : Heap) (hb : sysModules < h.objs.size) : ObjOk P w H (h.push { cls := .type "dict", data := .dict #[] }) h.objs.size (.dK []) :=
  ⟨Nat.zero_le _, beq_eq_false_iff_ne.mpr (Ne.symm (Nat.ne_of_lt hb)), [], .nil, Heap.DictOf.new h⟩
/-- {}, to be a dict of the kind that is wanted -/
def tDNewK : TE := fun _ H Q => ∀ p, H p = none → Q (.ref p) (upd H p (.dK []))
section
variable {X : Cx} {pos : Pos}
theorem pe_dnewK : PE X (.Dict [] [] pos) tDNewK := fun pins s σ H Q I h =>
  wpAny_Dict_empty ⟨.ref s.heap.objs.size, _, I.laid (a := s.heap.objs.size) (o := .dK []) (t' := s.toks) (fun _ _ q => Heap.get?_push_of_some _ q) (Nat.le_refl _) (dk_empty s.heap I.big), rfl, h _ (I.hok.fresh (Nat.le_refl _))⟩
end

/-- the pairs of a display, from the left -/
def tPairs : List (TE × TE) → St → Hp → (List (V × V) → Hp → Prop) → Prop
  | [], _, H, Q => Q [] H
  | (tk, tv) :: r, σ, H, Q => tk σ H fun x H1 => tv σ H1 fun y H2 => tPairs r σ H2 fun ps H3 => Q ((x, y) :: ps) H3
abbrev VV : List (V × V) → List (Value × Value) → Prop := Paired fun p q => RelV p.1 q.1 ∧ RelV p.2 q.2
def PPs (X : Cx) (pos : Pos) (keys : List (Option Expr)) (values : List Expr) (trs : List (TE × TE)) : Prop :=
  ∀ (pins : List (Addr × Obj)) (s : Shared) (σ : St) (H : Hp) (Q : List (V × V) → Hp → Prop), Inv X pins σ H s → tPairs trs σ H Q →
    wpAny (model X.prog X.w) X.A (evalPairs (pairTrees keys values X.env pos)) (fun vs s' => ∃ ps H', Inv X pins σ H' s' ∧ VV ps vs ∧ Q ps H') X.xe s
theorem pps_nil {X : Cx} {pos : Pos} : PPs X pos [] [] [] := fun pins s σ H Q I h => pairTrees_nil_walk ⟨[], H, I, .nil, h⟩
theorem pps_cons {X : Cx} {pos : Pos} {k v : Expr} {ks : List (Option Expr)} {vs : List Expr} {tk tv : TE} {trs : List (TE × TE)} (hk : PE X k tk) (hv : PE X v tv) (hr : PPs X pos ks vs trs) :
    PPs X pos (some k :: ks) (v :: vs) ((tk, tv) :: trs) := fun pins s σ H Q I h =>
  pairTrees_cons_walk (thn (hk pins s σ H _ I h) fun u s1 ⟨x, H1, I1, rx, q1⟩ => thn (hv pins s1 σ H1 _ I1 q1) fun w2 s2 ⟨y, H2, I2, ry, q2⟩ =>
    thn (hr pins s2 σ H2 _ I2 q2) fun ws s3 ⟨ps, H3, I3, rel, q3⟩ => ⟨(x, y) :: ps, H3, I3, .cons ⟨rx, ry⟩ rel, q3⟩)

def mergeK (kvs more : List (Key × V)) : List (Key × V) := more.foldl (fun acc kv => putK acc kv.1 kv.2) kvs
theorem KV.merge : ∀ {more : List (Key × V)} {rs : List (Key × Value)} {kvs : List (Key × V)} {vs : List (Key × Value)}, KV more rs → KV kvs vs → KV (mergeK kvs more) (merged vs rs) := by
  intro more rs kvs vs r
  unfold KV at r
  induction r generalizing kvs vs with
  | nil => intro q; exact q
  | @cons p q ps qs h t ih =>
    intro r0
    have e : KV (putK kvs p.1 p.2) (stored vs q.1 q.2) := by
      have := r0.put p.1 h.2
      rw [← h.1]; exact this
    exact ih e
theorem length_mergeK : ∀ (more kvs : List (Key × V)), (mergeK kvs more).length ≤ kvs.length + more.length
  | [], kvs => by show kvs.length ≤ kvs.length + 0; omega
  | p :: r, kvs => by
    have h1 := length_mergeK r (putK kvs p.1 p.2)
    have h2 := length_putK kvs p.1 p.2
    show (mergeK (putK kvs p.1 p.2) r).length ≤ _
    rw [List.length_cons]; omega
theorem carries_of {P : Program} {w : World} : ∀ {kvs : List (Key × V)} {ws : List (Value × Value)}, VV (kvs.map fun kv => (kV kv.1, kv.2)) ws → ∃ rs, Carries (mixKind P w) ws rs ∧ KV kvs rs
  | [], _, r => by rw [List.map_nil] at r; cases r; exact ⟨[], True.intro, .nil⟩
  | p :: kvs, _, r => by
    rw [List.map_cons] at r
    cases r with
    | @cons a b as bs h t =>
      obtain ⟨rs, c, q⟩ := carries_of (P := P) (w := w) t
      obtain ⟨b1, b2⟩ := b
      exact ⟨(p.1, b2) :: rs, ⟨kV_is h.1, rfl, c⟩, .cons ⟨rfl, h.2⟩ q⟩
/-- {k: v, ..} with keys ints and texts; the new dict stands empty while the pairs are made -/
def tDisp (trs : List (TE × TE)) : TE := fun σ H Q => ∀ p, H p = none → tPairs trs σ (upd H p (.dK [])) fun ps H2 => H2 p = some (.dK []) ∧ ∃ kvs : List (Key × V), ps = kvs.map (fun kv => (kV kv.1, kv.2)) ∧ kvs.length ≤ 15 ∧ Q (.ref p) (upd H2 p (.dK (mergeK [] kvs)))
theorem pe_disp {X : Cx} {pos : Pos} {keys : List (Option Expr)} {values : List Expr} {trs : List (TE × TE)} (h : PPs X pos keys values trs) (hall : keys.all (·.isSome) = true) (hl : keys.length = values.length) (h0 : keys ≠ [])
    (h15 : keys.length ≤ 15) : PE X (.Dict keys values pos) (tDisp trs) := by
  intro pins s σ H Q I q
  have hn := I.hok.fresh (Nat.le_refl s.heap.objs.size)
  have I1 := I.laid (a := s.heap.objs.size) (o := .dK []) (h' := s.heap.push { cls := .type "dict", data := .dict #[] }) (t' := s.toks) (fun _ _ q => Heap.get?_push_of_some _ q) (Nat.le_refl _) (dk_empty s.heap I.big)
  refine wpAny_Dict_walk (knd := mixKind X.prog X.w) hall hl h0 h15 (thn (h pins _ σ _ _ I1 (q _ hn)) fun ws s2 ⟨ps, H2, I2, rel, e, kvs, ep, lk, q2⟩ => ?_)
  subst ep
  obtain ⟨rs, c, rk⟩ := carries_of (P := X.prog) (w := X.w) rel
  obtain ⟨z, hd, vs0, r0, dd⟩ := dk_of I2.hok e
  cases r0
  refine ⟨rs, c, dd, fun h' dd' hs => ⟨.ref s.heap.objs.size, _, ?_, rfl, q2⟩⟩
  have hz : (mergeK [] kvs).length ≤ sizeLine := by
    have h1 := length_mergeK kvs []
    rw [List.length_nil] at h1
    rw [sizeLine_eq]; omega
  have he : ∃ q, h'.get? s.heap.objs.size = some q := let ⟨q, _, _, hq, _⟩ := dd'; ⟨q, hq⟩
  exact d_write I2 (by rw [e]; exact True.intro) hs he (dk_new hz hd (rk.merge .nil) dd')


/-! ### methods -/
section
variable {X : Cx} {pins : List (Addr × Obj)} {σ : St} {H : Hp} {s : Shared} {a : Addr} {y d : V} {u r : Value} {o : Option V} {A : Around} {E : Value → Shared → Prop}
end

section
variable {X : Cx} {o e f : Expr} {apos cpos : Pos} {td ty tx : TE}
end

/-! ### dict(d): a copy -/
section
variable {X : Cx} {pins : List (Addr × Obj)} {σ : St} {H : Hp} {s : Shared} {a : Addr} {kvs : List (Key × V)} {A : Around} {E : Value → Shared → Prop}
end


section
variable {X : Cx} {pins : List (Addr × Obj)} {σ : St} {H : Hp} {s : Shared} {a : Addr} {y : V} {u : Value} {A : Around} {E : Value → Shared → Prop}
end
end L2

namespace Att
open PySem PySem.W PySem.Calls PyProof.Rows

/-! ### the script -/
theorem ints_of_wellAll {P : Params} {h : Heap} : ∀ (ns : List Int) (vs : List Value), WellAll P h vs (ns.map WData.int) → IntsAre vs ns := by
  intro ns
  induction ns with
  | nil =>
    intro vs w
    rw [List.map_nil] at w
    cases w
    exact .nil
  | cons n ns ih =>
    intro vs w
    rw [List.map_cons] at w
    cases w with
    | cons a b =>
      cases a
      exact .cons _ _ (ih _ b)

theorem script_of {l : OpenLaw} {n : Nat} (hn : l.most = some n) {P : Params} {h : Heap} {args : List WData} {vals : List Value}
    (hpre : l.row.toRowW.claim.pre args = true) (hwl : WellAll P h vals args) :
    ∃ a vs ns, vals = [Value.ref a] ∧ args = [WData.list (ns.map WData.int)] ∧ h.get? a = some { cls := .type "list", data := .seq vs.toArray } ∧ IntsAre vs ns ∧ ns.length ≤ n := by
  have hsh : WShape.hasAll [] args [.list .int] = true := (pre_splitW hpre).1
  have hc : l.pre.holds [] { args := args } = true := (pre_splitW hpre).2
  obtain ⟨d, r, rfl, h1, h2⟩ := hasAllW_cons hsh
  obtain rfl := hasAllW_nil h2
  obtain ⟨xs, rfl, h3⟩ := hasW_list h1
  obtain ⟨ns, rfl⟩ := items_int h3
  have hlen : ns.length ≤ n := by
    unfold OpenLaw.pre at hc
    have h4 : (WTm.not (.lt (.lit (.int (n : Int))) (.len (.arg 0)))).holds [] { args := [.list (ns.map .int)] } = true := by
      have h4 := (holds_andW hc).1
      rw [hn] at h4
      exact h4
    have h5 := condW_of h4 (w_not (w_lt w_lit (w_len_list (w_arg rfl))))
    rw [List.length_map] at h5
    refine Nat.le_of_not_lt fun q => ?_
    have q' : (n : Int) < ((ns.length : Nat) : Int) := by omega
    first
      | (rw [decide_eq_true q'] at h5; exact absurd h5 (by decide))
      | (simp at h5; omega)
  cases hwl with
  | cons w1 w2 =>
    cases w2
    cases w1 with
    | list ho hall => exact ⟨_, _, ns, rfl, rfl, ho, ints_of_wellAll ns _ hall, hlen⟩

theorem post_true (l : OpenLaw) (args : List WData) : l.row.toRowW.claim.post args (.bool true) args = true :=
  postW_of (r := l.row.toRowW) (X := (true == true))
    (show WShape.has [] (.bool true) .bool = true by first | rfl | decide | simp [WShape.has, WShape.arms, WShape.armsAll])
    (show (WTm.eq .res (.lit (.bool true))).value [] { args := args, res := some (.bool true), after := args } = some (.bool (true == true)) from w_eq_bool (w_res rfl) w_lit) rfl

/-! ### the attachment: holds_open's last premise (the goal 'hc' behind k_head) from a wpAny of the law's body -/
/-- the same from a codeAny of the CALL (for a layer whose function contracts speak of calls) -/
theorem attach_call {l : OpenLaw} {n : Nat} {q : Program} {loose : List Str} {XP : (Str → Option Value) → Heap → Prop} {YP : World → Heap → Prop} {d : DefRec}
    (hn : l.most = some n) (hdf : d.params.defaults = [])
    (call : ∀ (w : World) (s₀ s₁ : Shared) (mg mb : Str → Option Value) (fa : Addr) (o : Obj) (pm cd doc : Value) (a : Addr) (vs : List Value) (ns : List Int),
      Ground q loose [] XP w s₀ mg mb s₁.heap → YP w s₁.heap →
      s₁.heap.get? fa = some o → o.data = .func (docDef d.name d.params d.body d.scope pm cd doc) → s₁.heap.CodeRec cd d.name → mg d.name = some (.ref fa) →
      s₁.heap.get? a = some { cls := .type "list", data := .seq vs.toArray } → IntsAre vs ns → ns.length ≤ n → s₁.gens = #[] →
      codeAny (model l.prog w) callerA (.call (.ref fa) ⟨[.ref a], []⟩) (fun r s' => r = .ok (.ret (.bool true)) ∧ OldK s₁.heap s'.heap ∧ s'.os = s₁.os ∧ AllBare s'.gens) s₁) :
    WalkO q loose XP YP l.row.toRowW d [] (fun f vs => PySem.call f vs) := by
  intro w s₀ s₁ mg mb G Y fa o pm cd doc dV kV ho hd hcd hD hmg hg args vals as hpre hlay hrd hwl hlo
  obtain rfl : dV = .none := Dflts.none hD hdf
  obtain rfl : kV = .none := Dflts.noKw hD
  obtain ⟨a, vs, ns, rfl, rfl, hobj, hints, hlen⟩ := script_of hn hpre hwl
  refine enter_call (codeAny_mono (call w s₀ s₁ mg mb fa o pm cd doc a vs ns G Y ho (fd_plain hd) hcd hmg hobj hints hlen hg) fun r s' hq => ?_)
  obtain ⟨rfl, h2, h3, h4⟩ := hq
  exact ⟨.inl ⟨.bool true, .bool true, [], rfl, fun _ => rfl, .bool true, post_true l _, fun _ => ⟨List.Pairwise.nil, fun _ hm => (nomatch hm)⟩⟩, h2, h3, h4⟩

/-! ### rules over ANY heap (no ledger) from facts about the written part K: the library's own take a ledger (News) for what they write -/
section
variable {prog : Program} {w : World} {A : Around} {E : Value → Shared → Prop} {s : Shared} {K : Frag}

/-! the whole heap as the ledger: makes every rule that writes through a ledger a rule over any heap -/
end
end Att

namespace L2
open PySem PySem.Spec PyProof.Rows

theorem vals_ints : ∀ {vs : List Value} {ns : List Int}, IntsAre vs ns → Vals (ns.map V.int) vs
  | _, _, .nil => .nil
  | _, _, .cons n t h => .cons ⟨t, rfl⟩ (vals_ints h)

/-- nothing is tracked but the script, known to the object (or it is an object of the module) -/
def Only (H : Hp) : Prop := ∀ b, H b = none ∨ ∃ o xs, H b = some (.frz o (.lst xs))

/-- THE HEAD: the law's promise, at the heap behind the top. F, the promise of the law's def, may use that base is part of the heap (so K.In base, base.Ns mainGlobals mg stand in Mod) -/
theorem law_call {P : Program} {w : World} {K : PySem.W.Frag} {mg mb : Str → Option Value} {CX : CXT} {k : Nat} {fa a : Addr} {fd : FuncData} {x : Str} {sp : Sp} {s₁ : Shared} {vs : List Value} {ns : List Int}
    (KX : K.In s₁.heap) (hns : s₁.heap.Ns mainGlobals mg) (hb : s₁.heap.Ns builtinsNs mb) (hbb : ∀ x : Str, x ≠ "__name__" → mb x = bootBuiltins x) (hlim : s₁.heap.NoLimit) (hg : s₁.gens = #[])
    (ha : s₁.heap.get? a = some { cls := .type "list", data := .seq vs.toArray }) (hi : IntsAre vs ns) (hl : ns.length ≤ sizeLine) (hr : Room k callerA)
    (F : ∀ base : Heap, K.In base → base.Ns mainGlobals mg → FnOk P w K mg base CX k fa fd [x] sp) (hbind : ∀ (s : Shared) (u : Value), BindsTo s fd ⟨[u], []⟩ [(x, u)])
    (hsp : ∀ H : Hp, Only H → SqL K H a (ns.map V.int) → sp [.ref a] H (fun v _ => v = .bl true) fun _ _ _ => False)
    (hCX : ∀ H e s', CX [] H s₁ (fun _ _ _ => False) e s' → False) :
    codeAny (model P w) callerA (.call (.ref fa) ⟨[.ref a], []⟩) (fun r s' => r = .ok (.ret (.bool true)) ∧ OldK s₁.heap s'.heap ∧ s'.os = s₁.os ∧ AllBare s'.gens) s₁ := by
  have rv := vals_ints hi
  have lenV := hi.length
  -- from an abstract heap in which nothing but the script may be tracked
  have core : ∀ H : Hp, Only H → SqL K H a (ns.map V.int) → HOk P w H s₁.heap → (∀ b, H b ≠ none → b = a) → (H a ≠ none → K.lookup a = none) →
      codeAny (model P w) callerA (.call (.ref fa) ⟨[.ref a], []⟩) (fun r s' => r = .ok (.ret (.bool true)) ∧ OldK s₁.heap s'.heap ∧ s'.os = s₁.os ∧ AllBare s'.gens) s₁ := by
    intro H hO hS hok hA hK
    have base_of : ∀ {b : Addr} {o : Obj}, s₁.heap.get? b = some o → H b = none → (hidT s₁.heap H).get? b = some o := fun e n => hidT_get e n
    have noA : ∀ {b : Addr} {o : Obj} {es : Array DictEntry} {ep : Nat}, s₁.heap.get? b = some o → o.data = .dict es ep → H b = none := fun {b o es ep} e d => by
      cases q : H b with
      | none => rfl
      | some u =>
        have e' : b = a := hA b (by rw [q]; simp)
        subst e'
        rw [ha] at e; cases e
        have d' : Data.seq vs.toArray _ = Data.dict es ep := d
        cases d'
    have nsK : ∀ {b : Addr} {m : Str → Option Value}, s₁.heap.Ns b m → (hidT s₁.heap H).Ns b m := fun {b m} ⟨o, es, ep, e, d, r⟩ => ⟨o, es, ep, base_of e (noA e d), d, r⟩
    have hKb : K.In (hidT s₁.heap H) := fun b o e => base_of (KX b o e) (by
      cases q : H b with
      | none => rfl
      | some u =>
        have e' : b = a := hA b (by rw [q]; simp)
        subst e'
        rw [hK (by rw [q]; simp)] at e; cases e)
    have hM : Mod K mg (hidT s₁.heap H) := ⟨hKb, nsK hns, ⟨mb, nsK hb, hbb⟩, let ⟨mc, h1, h2⟩ := hlim; ⟨mc, nsK h1, h2⟩⟩
    have e0 : Env0 P w K mg (hidT s₁.heap H) callerA [] s₁ H := ⟨rfl, hM, fun b o e => of_hidT e, Nat.le_of_eq (hidT_size _ _), trivial, fun b hb => absurd (show b ∈ ([] : List Addr) from hb) (by simp), hok, .of_eq hg⟩
    refine codeAny_mono ((F _ hKb (nsK hns)).run callerA [] s₁ H ⟨[.ref a], []⟩ [.ref a] [.ref a] _ _ hr e0 (hbind s₁ (.ref a)) (.cons rfl .nil) (hsp H hO hS)) fun r s' h => ?_
    cases r with
    | error e => exact (hCX H e s' h).elim
    | ok fl =>
      cases fl with
      | next => exact False.elim h
      | brk => exact False.elim h
      | cont => exact False.elim h
      | ret u =>
        obtain ⟨v, H', os, bare, un, hok', r', q⟩ := h
        have q' : v = .bl true := q
        subst q'
        obtain rfl : u = Value.bool true := r'
        refine ⟨rfl, OldK.of_keep fun b o e => ?_, os, bare⟩
        cases q : H b with
        | none => exact un.keep b o e q (by intro z; exact absurd (show b ∈ ([] : List Addr) from z) (by simp)) (by simp)
        | some u =>
          rcases hO b with z | ⟨ob, xs, z⟩
          · rw [q] at z; cases z
          · have z2 := un.frzs b ob _ z
            obtain ⟨e1, _⟩ := hok b _ z
            obtain ⟨e2, _⟩ := hok' b _ z2
            rw [e] at e1; cases e1
            exact e2
  cases hk : K.lookup a with
  | some o =>
    -- the script is one of the module's own objects
    have e := KX a o hk
    rw [ha] at e
    cases e
    refine core (fun _ => none) (fun _ => .inl rfl) (.inr ⟨_, vs.toArray, _, hk, rfl, rfl, rfl, by rw [List.size_toArray, lenV]; exact hl, by simpa using rv⟩) (fun b u z => by have z' : (none : Option HO) = some u := z; cases z') (fun b z => absurd rfl z) fun z => absurd rfl z
  | none =>
    refine core (fun b => if b = a then some (.frz { cls := .type "list", data := .seq vs.toArray } (.lst (ns.map V.int))) else none) (fun b => ?_) (.inl (.inr ⟨{ cls := .type "list", data := .seq vs.toArray }, if_pos rfl⟩)) (fun b u z => ?_) (fun b z => ?_) fun _ => hk
    · by_cases hb : b = a
      · exact .inr ⟨_, _, if_pos hb⟩
      · exact .inl (if_neg hb)
    · by_cases hb : b = a
      · have z' := (if_pos hb).symm.trans z
        cases z'
        subst hb
        exact ⟨ha, by rw [List.length_map]; exact hl, vs, _, rv, ha⟩
      · have z' := (if_neg hb).symm.trans z
        cases z'
    · by_cases hb : b = a
      · exact hb
      · exact absurd (if_neg hb) z
end L2

namespace L2
open PySem PySem.Spec PyProof.Rows

/-- the goal that k_head leaves (case hc), from the law's promise. F gives the function object fd (K's own) once, then the promise over every base -/
theorem walk_of {l : PySem.W.OpenLaw} {n k : Nat} {q : Program} {loose : List Str} {XP : (Str → Option Value) → Heap → Prop} {YP : World → Heap → Prop} {d : DefRec} {K : Params → PySem.W.Frag} {CX : World → CXT} {sp : World → Sp} {x : Str}
    (hn : l.most = some n) (hn2 : n ≤ sizeLine) (hdf : d.params.defaults = []) (hr : Room k callerA)
    (hY : ∀ (w : World) (h : Heap), YP w h → (K w.params).In h)
    (F : ∀ (w : World) (mg : Str → Option Value) (fa : Addr) (h : Heap), (K w.params).In h → h.Ns mainGlobals mg → mg d.name = some (.ref fa) →
      ∃ fd : FuncData, (∀ (s : Shared) (u : Value), BindsTo s fd ⟨[u], []⟩ [(x, u)]) ∧
        ∀ base : Heap, (K w.params).In base → base.Ns mainGlobals mg → FnOk l.prog w (K w.params) mg base (CX w) k fa fd [x] (sp w))
    (hsp : ∀ (w : World) (H : Hp) (a : Addr) (ns : List Int), ns.length ≤ n → Only H → SqL (K w.params) H a (ns.map V.int) → sp w [.ref a] H (fun v _ => v = .bl true) fun _ _ _ => False)
    (hCX : ∀ (w : World) (H : Hp) (s : Shared) (e : Value) (s' : Shared), CX w [] H s (fun _ _ _ => False) e s' → False) :
    PySem.W.WalkO q loose XP YP l.row.toRowW d [] (fun f vs => PySem.call f vs) := by
  refine Att.attach_call hn hdf fun w s₀ s₁ mg mb fa o pm cd doc a vs ns G Y ho hd hcd hmg hobj hints hlen hg => ?_
  have KX := hY w _ Y
  obtain ⟨fd, hb, hF⟩ := F w mg fa _ KX G.T.g hmg
  exact law_call KX G.T.g G.T.b G.T.builtins G.T.nolimit hg hobj hints (Nat.le_trans hlen hn2) hr hF hb (fun H hO hS => hsp w H a ns hlen hO hS) fun H e s' => hCX w H s₁ e s'
end L2

/- THE LAST THEOREM (shape; LID, My.* are yours):
   My.Adr: a structure of the addresses that your layer names (classes, functions); My.Txt K t: a structure (Prop) of the equations over K;
   My.txt_mk : {K} {implicit addresses ..} (e1 : nsIn K mainGlobals "law" = some (some (.ref f))) (e2 : K.lookup f = some ⟨oc, od, .func (fnOf "law" "law" params body scope dV kV doc pm an cdv ct), sl⟩) (e3 : codeIn K cdv "law" = true) .. : ∃ t, My.Txt K t

set_option maxRecDepth 100000 in
set_option maxHeartbeats 0 in
theorem PySem.Challenge.cw_LID_holds : PySem.Challenge.rw_LID.Holds := by
  w_on; o_law; k_head; (case hw => w_witness2)
  k_fill
  refine L2.walk_of (l := PySem.Challenge.rw_LID) (n := 63) (k := 40) (x := "script") (CX := fun w => ..) (sp := fun _ => My.sp_law) rfl (by decide) rfl ⟨rfl, by decide, by decide⟩ (fun w h Y => PySem.W.kIn_of Y) ?F ?S ?C
  case F =>
    intro w mg fa h KX G hmg
    have T : ∃ t, My.Txt (L2.KOf KX) t := by
      dsimp only [L2.KOf]                          -- K must stand as «<heap const> w.params» for k_is
      refine' My.txt_mk ?e1 ?e2 ?e3 ..
      (case e1 => PySem.W.k_is)                    -- in the order: a name -> its address -> its object -> its parts
      (case e2 => PySem.W.k_is)
      ..
    obtain ⟨t, T⟩ := T
    have e0 := hmg.symm.trans (PySem.W.mg_of KX G T.law)
    cases e0                                       -- fa is the law's own address
    exact ⟨_, fun s u => .of_eq rfl, fun base kb nb => My.law_fn T kb nb⟩     -- if «.of_eq rfl» comes too early: refine' ⟨_, ?b, fun base kb nb => My.law_fn T kb nb⟩; exact fun s u => .of_eq rfl
  case S => exact fun w H a ns hl hO hS => ..
  case C => exact ..
(the tactic k_is has no namespace: write k_is) -/

/-! SHORT WORDS over the layer: a def of the text, its body, what a loop and a test want. -/
namespace L2
open PySem PySem.Spec PyProof.Rows

/-! ### the text by places -/
/-- the j-th statement of a class's body -/
def inClass (s : Stmt) (j : Nat) : Stmt := match s with
  | .ClassDef _ _ _ body _ _ _ _ _ _ _ => body.getD j (.Pass ⟨0, 0, 0, 0⟩)
  | _ => .Pass ⟨0, 0, 0, 0⟩
def defArgs (s : Stmt) : Arguments := match s with
  | .FunctionDef _ a _ _ _ _ _ _ _ _ => a
  | _ => { posonlyargs := [], args := [], vararg := none, kwonlyargs := [], kw_defaults := [], kwarg := none, defaults := [] }
def defBody (s : Stmt) : List Stmt := match s with
  | .FunctionDef _ _ b _ _ _ _ _ _ _ => b
  | _ => []
def defScope (s : Stmt) : Scope := match s with
  | .FunctionDef _ _ _ _ _ _ sc _ _ _ => sc
  | _ => { kind := .function, names := [], isGenerator := false, isCoroutine := false }

/-! ### no exception leaves a def -/
abbrev CX0 : CXT := fun _ _ _ _ _ _ => False
abbrev E0 : XK := fun _ _ _ => False
theorem pass0 {X : Cx} : Passes CX0 X E0 := fun _ _ _ _ _ _ _ h => h.elim

/-! ### a def (or method) of the text as it stands behind the top -/
structure Fun (K : PySem.W.Frag) (x qual : Str) (st : Stmt) (f : Addr) (fd : FuncData) : Prop where
  ex : ∃ (oc : Value) (od : Option Addr) (kV doc pm : Value) (an : Option Addr) (cdv ct : Value) (osl : Array (Option Value)),
    fd = PySem.W.fnOf x qual (defArgs st) (defBody st) (defScope st) .none kV doc pm an cdv ct ∧ K.lookup f = some ⟨oc, od, .func fd, osl⟩ ∧ PySem.W.codeIn K cdv qual = true
  kp : PySem.W.keepIn K (.ref f) = true
section
variable {P : Program} {w : World} {K : PySem.W.Frag} {mg : Str → Option Value} {base : Heap}
/-- THE RULE for a def: its body as a term of rules, and the reading of that term -/
theorem Fun.ok {x qual : Str} {st : Stmt} {f : Addr} {fd : FuncData} {N ps : List Str} {k : Nat} {sp : Sp} (F : Fun K x qual st f fd) (S : FnScope N ps (defScope st)) (len : ∀ vs H Q E, sp vs H Q E → vs.length = ps.length)
    (hbody : ∀ (cdv : Value) (A : Around) (outer : List Env) (s : Shared) (H : Hp) (vs : List V) (Q : VK) (E : XK), Room k (A.deeper (envOfC qual (defScope st) s.heap.objs.size f cdv)) → sp vs H Q E →
      ∃ t, PSs (cxOf CX0 P w K mg base N qual (defScope st) f cdv A outer s H E).nox (defBody st) t ∧ t { nx := fun _ H' => Q .non H', rt := Q } (start N vs) H) : FnOk P w K mg base CX0 (k + 1) f fd ps sp := by
  obtain ⟨oc, od, kV, doc, pm, an, cdv, ct, osl, rfl, lk, hcd⟩ := F.ex
  refine fn_of lk hcd S len fun A outer s H vs Q E hr hsp => ?_
  obtain ⟨t, h, q⟩ := hbody cdv A outer s H vs Q E hr hsp
  exact ⟨t, h.nox, q⟩
/-- how its arguments bind (no defaults): h is «fun _ _ _ _ _ _ us hl => match us, hl with | [_, _], _ => rfl», one _ a parameter -/
theorem Fun.binds {x qual : Str} {st : Stmt} {f : Addr} {fd : FuncData} {ps : List Str} (F : Fun K x qual st f fd)
    (h : ∀ (kV doc pm : Value) (an : Option Addr) (cdv ct : Value) (us : List Value), us.length = ps.length → bindArgs (PySem.W.fnOf x qual (defArgs st) (defBody st) (defScope st) .none kV doc pm an cdv ct) ⟨us, []⟩ = pure (ps.zip us)) : Binds K fd ps [] := by
  obtain ⟨oc, od, kV, doc, pm, an, cdv, ct, osl, rfl, lk, hcd⟩ := F.ex
  exact .all (h kV doc pm an cdv ct)
theorem fun_mk {x qual : Str} {st : Stmt} {f : Addr} {oc : Value} {od an : Option Addr} {osl : Array (Option Value)} {kV doc pm cdv ct : Value} (l : K.lookup f = some ⟨oc, od, .func (PySem.W.fnOf x qual (defArgs st) (defBody st) (defScope st) .none kV doc pm an cdv ct), osl⟩)
    (c : PySem.W.codeIn K cdv qual = true) (k : PySem.W.keepIn K (.ref f) = true) : Fun K x qual st f (PySem.W.fnOf x qual (defArgs st) (defBody st) (defScope st) .none kV doc pm an cdv ct) := ⟨⟨oc, od, kV, doc, pm, an, cdv, ct, osl, rfl, l, c⟩, k⟩
end
theorem hu_of {A : Around} {k : Nat} (hr : Room k A) : A.units + 1 < cLine := Nat.lt_of_le_of_lt (Nat.add_le_add_left (by decide : 1 ≤ 64) _) hr.units
/-! ### expressions in short: the name that stands in the i-th slot -/
section
variable {X : Cx}
theorem pv (i : Nat) {x : Str} {pos : Pos} (hN : X.N[i]? = some x := by rfl) (hv : Vis X.env.scope x := by first | exact Or.inl rfl | exact Or.inr (Or.inl rfl) | exact Or.inr (Or.inr rfl)) (hd : (x == ("__debug__" : Str)) = false := by decide)
    (hcd : (x == ("__classdict__" : Str)) = false := by decide) : PE X (.Name x pos) (tVar i) := pe_var hN hv hd hcd
/-- len of a dict -/
theorem call_lenD : CallR X (.builtin "len") (fun xs H Q => ∃ a kvs, xs = [V.ref a] ∧ H a = some (.dK kvs) ∧ Q (.int kvs.length) H) := by
  intro pins s σ H xs us Q I r h
  obtain ⟨a, kvs, rfl, ha, q⟩ := h
  obtain ⟨u, rfl, ru⟩ := vals1 r
  cases ru
  exact d_len I (.inl ha) fun t s' I' => ⟨.int kvs.length, H, I', ⟨t, rfl⟩, q⟩
end

/-! ### tests -/
theorem iteF {A B : Prop} (h : B) : if false = true then A else B := by
  rw [if_neg Bool.false_ne_true]
  exact h
theorem iteT {A B : Prop} (h : A) : if true = true then A else B := by
  rw [if_pos rfl]
  exact h
theorem ite2 {c A B : Prop} [Decidable c] (h1 : c → A) (h2 : ¬ c → B) : if c then A else B := by
  by_cases h : c
  · rw [if_pos h]
    exact h1 h
  · rw [if_neg h]
    exact h2 h
theorem iteNS {c A B : Prop} [Decidable c] (hc : c) (h : B) : if (!decide c) = true then A else B := by
  rw [decide_eq_true hc]
  exact iteF h

/-! ### heaps -/
/-- all that was tracked is as it was -/
def Same (H H' : Hp) : Prop := ∀ b o, H b = some o → H' b = some o
theorem Same.refl (H : Hp) : Same H H := fun _ _ h => h
theorem Same.trans {H H1 H2 : Hp} (a : Same H H1) (b : Same H1 H2) : Same H H2 := fun c o h => b c o (a c o h)
theorem Same.free {H H' : Hp} (e : Same H H') {l : Addr} (h : H' l = Option.none) : H l = Option.none := by
  cases q : H l with
  | none => rfl
  | some o =>
    rw [e l o q] at h
    cases h
theorem Same.seq {K : PySem.W.Frag} {H H' : Hp} {a : Addr} {xs : List V} (e : Same H H') (h : SqL K H a xs) : SqL K H' a xs := by
  rcases h with (h | ⟨o, h⟩) | h
  · exact .inl (.inl (e _ _ h))
  · exact .inl (.inr ⟨o, e _ _ h⟩)
  · exact .inr h

/-! ### a dict's pairs: keys that differ -/
section
variable {κ : Type} [DecidableEq κ]
end
end L2


/-! MY RULES over the hand layer: isinstance, == and != of lists of ints, t + u with an empty t, products and quotients of long ints. -/
namespace L2
open PySem PySem.Spec PyProof.Rows
section
variable {X : Cx}
/-- a statement, then the rest, with a word between them -/
def tCut (t u : TS) : TS := fun D σ H => ∃ M : St → Hp → Prop, t { D with nx := M } σ H ∧ ∀ σ' H', M σ' H' → u D σ' H'
theorem pss_cut {st : Stmt} {rest : List Stmt} {t u : TS} (h1 : PS X st t) (h2 : PSs X rest u) : PSs X (st :: rest) (tCut t u) := by
  intro pins s σ H D I h
  obtain ⟨M, h, hm⟩ := h
  refine wpAny_execs_cons (thn (h1 pins s σ H { D with nx := M } I h) fun f s1 q => ?_)
  cases f with
  | next =>
    obtain ⟨σ', H', I', q⟩ := q
    exact h2 pins s1 σ' H' D I' (hm _ _ q)
  | ret v => exact q
  | brk => exact q
  | cont => exact q
/-- isinstance(x, c) -/
def rIsi (K : PySem.W.Frag) : List V → Hp → VK → Prop := fun xs H Q => ∃ x c t b, xs = [x, c] ∧ TyOf K H x t ∧ (∀ u, RelV c u → PySem.W.kitOne K t u = some b) ∧ Q (.bl b) H
theorem call_isinst : CallR X (.builtin "isinstance") (rIsi X.K) := by
  intro pins s σ H xs us Q I r h
  obtain ⟨x, c, t, b, rfl, ty, e, q⟩ := h
  obtain ⟨u, w', rfl, ru, rw'⟩ := vals2 r
  exact isinst_ok I ru ty (e w' rw') fun tk => ⟨.bl b, H, I.tok tk, rfl, q⟩
theorem isi_same {K : PySem.W.Frag} (T : String) : ∀ u, RelV (.ty T) u → PySem.W.kitOne K (.type T) u = some true := by
  intro u h
  cases (show u = Value.type T from h)
  unfold PySem.W.kitOne
  rw [if_pos (beq_self_eq_true _)]
theorem isi_by {K : PySem.W.Frag} {T U : String} {b : Bool} (h : (Value.type T == Value.type U) = false) (hm : PySem.W.kitMeta U = true) (hs : (PySem.fastBuiltinMro T).map (·.contains (Value.type U)) = some b) :
    ∀ u, RelV (.ty U) u → PySem.W.kitOne K (.type T) u = some b := by
  intro u z
  cases (show u = Value.type U from z)
  unfold PySem.W.kitOne
  rw [if_neg (by rw [h]; exact Bool.false_ne_true)]
  show (if PySem.W.kitMeta U = true then PySem.W.subIn K (.type T) (.type U) else none) = some b
  rw [if_pos hm]
  exact hs
end
end L2

/-! MY RULES: zip over two sources of any kind that is walked (list, tuple), reversed(list) walked, tuple(reversed(list)). -/
namespace L2
open PySem PySem.Spec PyProof.Rows
/-- a source that is drawn from by its own iterator: at the k-th draw it stands at st k -/
structure Nx (it l : Addr) (st : Nat → Heap → Prop) (src : Array Value → Heap → Prop) : Prop where
  item : ∀ {prog : Program} {w : World} {A : Around} {E : Value → Shared → Prop} {s : Shared} {k : Nat} {xs : Array Value} {x : Value} {Q : Value → Shared → Prop}, st k s.heap → src xs s.heap → xs[k]? = some x →
    (∀ h', st (k + 1) h' → Heap.SameBut it s.heap h' → Q x { s with heap := h' }) → wpAny (model prog w) A (Builtin.SmallTypes.nextOf (.ref it)) Q E s
  fin : ∀ {prog : Program} {w : World} {A : Around} {E : Value → Shared → Prop} {s : Shared} {k : Nat} {xs : Array Value} {Q : Value → Shared → Prop}, A.handled = none → st k s.heap → src xs s.heap → xs[k]? = none →
    (∀ h' e, Heap.ExtBut it s.heap h' → (∃ o, h'.get? e = some o ∧ o.cls = .type "StopIteration") → E (.ref e) { s with heap := h' }) → wpAny (model prog w) A (Builtin.SmallTypes.nextOf (.ref it)) Q E s
  mv : ∀ {k : Nat} {h h' : Heap}, st k h → (∀ o, h.get? it = some o → h'.get? it = some o) → st k h'
  mvS : ∀ {xs : Array Value} {h h' : Heap}, src xs h → (∀ o, h.get? l = some o → h'.get? l = some o) → src xs h'
  ob : ∀ {k : Nat} {h : Heap}, st k h → ∃ o, h.get? it = some o ∧ ∀ v, o.data ≠ .cell v
theorem nx_list (it l : Addr) : Nx it l (fun k h => h.IsListIter it l k) (fun xs h => h.IsList l xs) where
  item := wpAny_nextOf_list_item
  fin := wpAny_nextOf_list_end
  mv := fun x e => x.at e
  mvS := fun x e => x.at e
  ob := fun ⟨o, e, _, d⟩ => ⟨o, e, fun v z => by rw [d] at z; cases z⟩
section
variable {prog : Program} {w : World} {A : Around} {E : Value → Shared → Prop} {s : Shared}
theorem nextOf_tuple_item {it l : Addr} {k : Nat} {xs : Array Value} {x : Value} {Q : Value → Shared → Prop} (hi : s.heap.IsTupleIter it l k) (hl : s.heap.IsTuple l xs) (hx : xs[k]? = some x)
    (hQ : ∀ h', h'.IsTupleIter it l (k + 1) → Heap.SameBut it s.heap h' → Q x { s with heap := h' }) : wpAny (model prog w) A (Builtin.SmallTypes.nextOf (.ref it)) Q E s := by
  obtain ⟨o, ho, hc, hd⟩ := id hi
  obtain ⟨ol, hol, _, nl, hdl⟩ := hl
  unfold Builtin.SmallTypes.nextOf
  refine wpAny_bind (wpAny_callSpecial?_slot (name := Str.ofString "__next__") hi.typeIs F.slot_tuple_iterator_next (wpAny_call_entry F.slot_tuple_iterator_next hi.typeIs F.entry_tuple_iterator_next ?_ (F.args_tuple_iterator_next_1 _)))
  show wpAny _ _ (field (.ref it) 0 >>= _) _ _ s
  refine wpAny_bind (wpAny_field ho hd (x := .ref l) rfl ?_)
  show wpAny _ _ (if (Value.ref l == Value.none) = true then _ else _) _ _ s
  rw [if_neg (show ¬ ((Value.ref l == Value.none) = true) from Bool.false_ne_true)]
  show wpAny _ _ (field (.ref it) 1 >>= _) _ _ s
  refine wpAny_bind (wpAny_field ho hd (x := .int k 0) rfl ?_)
  show wpAny _ _ (seqItems? (.ref l) >>= _) _ _ s
  refine wpAny_bind (wpAny_seqItems hol hdl ?_)
  simp only [Int.toNat_natCast, hx]
  refine wpAny_bind (wpAny_setField ho hd (by simp) (wpAny_pure ⟨x, rfl, wpAny_pure (hQ _ ?_ (Heap.SameBut.update ..))⟩))
  exact ⟨_, Heap.get?_update_self _ ho (Obj.isFreed_of_fields (Obj.data_mapFields hd _)), (Obj.cls_mapFields ..).trans hc, by rw [Obj.data_mapFields hd]; simp [rawInt]⟩
theorem nextOf_tuple_end {it l : Addr} {k : Nat} {xs : Array Value} {Q : Value → Shared → Prop} (hh : A.handled = none) (hi : s.heap.IsTupleIter it l k) (hl : s.heap.IsTuple l xs) (hx : xs[k]? = none)
    (hE : ∀ h' e, Heap.ExtBut it s.heap h' → (∃ o, h'.get? e = some o ∧ o.cls = .type "StopIteration") → E (.ref e) { s with heap := h' }) : wpAny (model prog w) A (Builtin.SmallTypes.nextOf (.ref it)) Q E s := by
  obtain ⟨o, ho, hc, hd⟩ := id hi
  obtain ⟨ol, hol, _, nl, hdl⟩ := hl
  unfold Builtin.SmallTypes.nextOf
  refine wpAny_bind (wpAny_callSpecial?_slot (name := Str.ofString "__next__") hi.typeIs F.slot_tuple_iterator_next (wpAny_call_entry F.slot_tuple_iterator_next hi.typeIs F.entry_tuple_iterator_next ?_ (F.args_tuple_iterator_next_1 _)))
  show wpAny _ _ (field (.ref it) 0 >>= _) _ _ s
  refine wpAny_bind (wpAny_field ho hd (x := .ref l) rfl ?_)
  show wpAny _ _ (if (Value.ref l == Value.none) = true then _ else _) _ _ s
  rw [if_neg (show ¬ ((Value.ref l == Value.none) = true) from Bool.false_ne_true)]
  show wpAny _ _ (field (.ref it) 1 >>= _) _ _ s
  refine wpAny_bind (wpAny_field ho hd (x := .int k 0) rfl ?_)
  show wpAny _ _ (seqItems? (.ref l) >>= _) _ _ s
  refine wpAny_bind (wpAny_seqItems hol hdl ?_)
  simp only [Int.toNat_natCast, hx]
  refine wpAny_bind (wpAny_rule (wpAny_bind (wpAny_setField ho hd (by simp) ?_)))
  show wpAny _ _ (newExc (.type "StopIteration") [] >>= _) _ _ _
  refine wpAny_bind ?_
  simp only [newExc, newTuple]
  refine wpAny_bind (wpAny_newObj_type ?_ (by size_fits))
  refine wpAny_bind (m := firstArgMember _ _) (wpAny_of_eq (a := Value.none) (by first | rfl | (simp only [firstArgMember]; rfl)) ?_)
  refine wpAny_newObj_type ?_ (by size_fits)
  simp only [raiseNew]
  refine wpAny_bind (wpAny_handled ?_)
  first | rw [show A.in1.handled = none from hh] | rw [hh]
  refine wpAny_bind (wpAny_pure (wpAny_throw ?_))
  exact hE _ _ (((Heap.SameBut.update ..).extBut.push _).push _) ⟨_, Heap.get?_push_size _ rfl, rfl⟩
end
theorem nx_tuple (it l : Addr) : Nx it l (fun k h => h.IsTupleIter it l k) (fun xs h => h.IsTuple l xs) where
  item := nextOf_tuple_item
  fin := nextOf_tuple_end
  mv := fun ⟨o, e, r⟩ f => ⟨o, f _ e, r⟩
  mvS := fun ⟨o, e, r⟩ f => ⟨o, f _ e, r⟩
  ob := fun ⟨o, e, _, d⟩ => ⟨o, e, fun v z => by rw [d] at z; cases z⟩
section
variable {z TI TO i1 i2 l1 l2 : Addr} {st1 st2 : Nat → Heap → Prop} {src1 src2 : Array Value → Heap → Prop} {prog : Program} {w : World} {A : Around} {E : Value → Shared → Prop} {s : Shared}
/-- a zip's draw -/
theorem zip_item (N1 : Nx i1 l1 st1 src1) (N2 : Nx i2 l2 st2 src2) {k1 k2 : Nat} {xs ys : Array Value} {x y a b : Value} {Q : Option Value → Shared → Prop} (D : ZipApart z TI TO i1 i2 l1 l2)
    (hz : IsZip s.heap z TI TO .none) (hTI : IsPair s.heap TI (.ref i1) (.ref i2)) (hTO : IsPair s.heap TO a b) (h1 : st1 k1 s.heap) (h2 : st2 k2 s.heap) (hl1 : src1 xs s.heap) (hl2 : src2 ys s.heap) (hx : xs[k1]? = some x) (hy : ys[k2]? = some y)
    (hQ : ∀ h', IsZip h' z TI TO (rawInt s.heap.objs.size) → IsPair h' TO x y → st1 (k1 + 1) h' → st2 (k2 + 1) h' → IsPair h' s.heap.objs.size x y →
      (∀ c o, c ≠ z → c ≠ TO → c ≠ i1 → c ≠ i2 → s.heap.get? c = some o → h'.get? c = some o) → Q (some (.ref s.heap.objs.size)) { s with heap := h' }) : wpAny (model prog w) A (pyNext (.ref z)) Q E s := by
  have hT : s.TypeIs (.ref z) "zip" := ⟨_, hz, rfl⟩
  unfold pyNext
  refine wpAny_bind (wpAny_attempt (wpAny_callSpecial?_slot (name := Str.ofString "__next__") hT F.slot_zip_next (wpAny_call_entry F.slot_zip_next hT F.entry_zip_next ?_ (F.args_zip_next_1 _))))
  show wpAny _ _ (field (.ref z) 2 >>= _) _ _ _
  refine wpAny_bind (wpAny_field hz rfl (x := .bool false) rfl ?_)
  show wpAny _ _ (field (.ref z) 3 >>= _) _ _ _
  refine wpAny_bind (wpAny_field hz rfl (x := .ref TI) rfl ?_)
  refine wpAny_bind (wpAny_seqItems hTI rfl ?_)
  show wpAny _ _ (Builtin.SmallTypes.ownedTupleIsFree (.ref z) >>= _) _ _ _
  refine wpAny_bind ?_
  unfold Builtin.SmallTypes.ownedTupleIsFree
  refine wpAny_bind (wpAny_field hz rfl (x := .none) rfl (wpAny_pure ?_))
  simp only [if_true]
  refine wpAny_bind (wpAny_rule ?_)
  refine wpAny_bind (wpAny_field hz rfl (x := .ref TO) rfl ?_)
  refine wpAny_bind (wpAny_setField_rec hz (by simp) fun g1 z1 b1 => ?_)
  replace z1 : IsZip g1 z TI TO .ellipsis := z1
  refine wpAny_bind ?_
  simp only [List.zipIdx_cons, List.zipIdx_nil, List.forIn_cons, List.forIn_nil]
  -- the first source
  refine wpAny_bind (wpAny_bind (wpAny_onRaise ?_))
  show wpAny _ _ (Builtin.SmallTypes.nextOf (.ref i1) >>= _) _ _ _
  refine wpAny_bind (N1.item (N1.mv h1 fun o e => b1.extBut _ _ D.i1z e) (N1.mvS hl1 fun o e => b1.extBut _ _ D.l1z e) hx fun g2 t2 b2 => wpAny_pure ?_)
  have p2 : IsPair g2 TO a b := b2.extBut _ _ D.TOi1 (b1.extBut _ _ D.TOz hTO)
  refine wpAny_bind (wpAny_seqItems p2 rfl ?_)
  refine wpAny_bind (wpAny_updateSeq_pair p2 fun g3 p3 b3 => ?_)
  replace p3 : IsPair g3 TO x b := p3
  refine wpAny_bind (wpAny_letGo (wpAny_pure ?_))
  -- the second one
  refine wpAny_bind (wpAny_bind (wpAny_onRaise ?_))
  show wpAny _ _ (Builtin.SmallTypes.nextOf (.ref i2) >>= _) _ _ _
  refine wpAny_bind (N2.item (N2.mv h2 fun o e => b3.extBut _ _ D.TOi2.symm (b2.extBut _ _ D.i12.symm (b1.extBut _ _ D.i2z e))) (N2.mvS hl2 fun o e => b3.extBut _ _ D.l2TO (b2.extBut _ _ D.l2i1 (b1.extBut _ _ D.l2z e))) hy fun g4 t4 b4 => wpAny_pure ?_)
  have p4 : IsPair g4 TO x b := b4.extBut _ _ D.TOi2 p3
  refine wpAny_bind (wpAny_seqItems p4 rfl ?_)
  refine wpAny_bind (wpAny_updateSeq_pair p4 fun g5 p5 b5 => ?_)
  replace p5 : IsPair g5 TO x y := p5
  refine wpAny_bind (wpAny_letGo (wpAny_pure (wpAny_pure ?_)))
  -- the pair that is handed out
  refine wpAny_bind (wpAny_seqItems p5 rfl ?_)
  refine wpAny_bind (wpAny_newTuple ?_)
  have hsz : g5.objs.size = s.heap.objs.size := by rw [b5.1, b4.1, b3.1, b2.1, b1.1]
  have z5 : IsZip g5 z TI TO .ellipsis := b5.extBut _ _ D.TOz.symm (b4.extBut _ _ D.i2z.symm (b3.extBut _ _ D.TOz.symm (b2.extBut _ _ D.i1z.symm z1)))
  have k5 : ∀ c o, c ≠ z → c ≠ TO → c ≠ i1 → c ≠ i2 → s.heap.get? c = some o → g5.get? c = some o := fun c o c1 c2 c3 c4 e => b5.extBut _ _ c2 (b4.extBut _ _ c4 (b3.extBut _ _ c2 (b2.extBut _ _ c3 (b1.extBut _ _ c1 e))))
  have s1 : st1 (k1 + 1) g5 := N1.mv t2 fun o e => b5.extBut _ _ D.TOi1.symm (b4.extBut _ _ D.i12 (b3.extBut _ _ D.TOi1.symm e))
  have s2 : st2 (k2 + 1) g5 := N2.mv t4 fun o e => b5.extBut _ _ D.TOi2.symm e
  have zlt : z < g5.objs.size := Heap.lt_size z5
  show wpAny _ _ (Builtin.SmallTypes.ownedTupleHandOut (.ref z) (.ref g5.objs.size) >>= _) _ _ _
  refine wpAny_bind ?_
  unfold Builtin.SmallTypes.ownedTupleHandOut
  have z6 : IsZip (g5.push { cls := .type "tuple", data := .seq #[x, y] }) z TI TO .ellipsis := Heap.get?_push_of_some _ z5
  refine wpAny_bind (wpAny_setField_rec z6 (by simp) fun g7 z7 b7 => ?_)
  replace z7 : IsZip g7 z TI TO (rawInt g5.objs.size) := z7
  refine wpAny_setField_rec z7 (by simp) fun g8 z8 b8 => ?_
  replace z8 : IsZip g8 z TI TO (rawInt g5.objs.size) := z8
  have up : ∀ c o, c ≠ z → g5.get? c = some o → g8.get? c = some o := fun c o c1 e => b8.extBut _ _ c1 (b7.extBut _ _ c1 (Heap.get?_push_of_some _ e))
  have p8 : IsPair g8 g5.objs.size x y := b8.extBut _ _ (Nat.ne_of_gt zlt) (b7.extBut _ _ (Nat.ne_of_gt zlt) (Heap.get?_push_size _ rfl))
  rw [hsz] at z8 p8
  refine wpAny_pure ⟨_, rfl, wpAny_pure ?_⟩
  show Q (some (.ref g5.objs.size)) _
  rw [hsz]
  exact hQ g8 z8 (up _ _ D.TOz p5) (N1.mv s1 fun o e => up _ o D.i1z e) (N2.mv s2 fun o e => up _ o D.i2z e) p8 fun c o c1 c2 c3 c4 e => up c o c1 (k5 c o c1 c2 c3 c4 e)
/-- .. and its end -/
theorem zip_end (N1 : Nx i1 l1 st1 src1) (N2 : Nx i2 l2 st2 src2) {k1 k2 : Nat} {xs ys : Array Value} {a b : Value} {Q : Option Value → Shared → Prop} (hh : A.handled = none) (D : ZipApart z TI TO i1 i2 l1 l2)
    (hz : IsZip s.heap z TI TO .none) (hTI : IsPair s.heap TI (.ref i1) (.ref i2)) (hTO : IsPair s.heap TO a b) (h1 : st1 k1 s.heap) (h2 : st2 k2 s.heap) (hl1 : src1 xs s.heap) (hl2 : src2 ys s.heap) (hend : xs[k1]? = none ∨ ys[k2]? = none)
    (hQ : ∀ h', (∀ c o, c ≠ z → c ≠ TO → c ≠ i1 → c ≠ i2 → s.heap.get? c = some o → h'.get? c = some o) → Q none { s with heap := h' }) : wpAny (model prog w) A (pyNext (.ref z)) Q E s := by
  have hT : s.TypeIs (.ref z) "zip" := ⟨_, hz, rfl⟩
  unfold pyNext
  have fin : ∀ (h' : Heap) (e : Addr), (∀ c o, c ≠ z → c ≠ TO → c ≠ i1 → c ≠ i2 → s.heap.get? c = some o → h'.get? c = some o) → (∃ o, h'.get? e = some o ∧ o.cls = .type "StopIteration") →
      wpAny (model prog w) A (isInstance (.ref e) (.type "StopIteration") >>= fun b => if b = true then pure none else throw (.ref e)) Q E { s with heap := h' } := fun h' e hk ⟨o, ho, hc⟩ =>
    wpAny_bind (wpAny_isInstance (T := "StopIteration") (b := true) ⟨o, ho, hc⟩ isSubtype_stop (wpAny_pure (hQ _ hk)))
  refine wpAny_bind (wpAny_attempt (wpAny_callSpecial?_slot (name := Str.ofString "__next__") hT F.slot_zip_next (wpAny_call_entry F.slot_zip_next hT F.entry_zip_next ?_ (F.args_zip_next_1 _))))
  show wpAny _ _ (field (.ref z) 2 >>= _) _ _ _
  refine wpAny_bind (wpAny_field hz rfl (x := .bool false) rfl ?_)
  show wpAny _ _ (field (.ref z) 3 >>= _) _ _ _
  refine wpAny_bind (wpAny_field hz rfl (x := .ref TI) rfl ?_)
  refine wpAny_bind (wpAny_seqItems hTI rfl ?_)
  show wpAny _ _ (Builtin.SmallTypes.ownedTupleIsFree (.ref z) >>= _) _ _ _
  refine wpAny_bind ?_
  unfold Builtin.SmallTypes.ownedTupleIsFree
  refine wpAny_bind (wpAny_field hz rfl (x := .none) rfl (wpAny_pure ?_))
  simp only [if_true]
  refine wpAny_bind (wpAny_rule ?_)
  refine wpAny_bind (wpAny_field hz rfl (x := .ref TO) rfl ?_)
  refine wpAny_bind (wpAny_setField_rec hz (by simp) fun g1 z1 b1 => ?_)
  replace z1 : IsZip g1 z TI TO .ellipsis := z1
  refine wpAny_bind ?_
  simp only [List.zipIdx_cons, List.zipIdx_nil, List.forIn_cons, List.forIn_nil]
  refine wpAny_bind (wpAny_bind (wpAny_onRaise ?_))
  show wpAny _ _ (Builtin.SmallTypes.nextOf (.ref i1) >>= _) _ _ _
  have u1 := N1.mv h1 fun o e => b1.extBut _ _ D.i1z e
  have v1 := N1.mvS hl1 fun o e => b1.extBut _ _ D.l1z e
  cases hx : xs[k1]? with
  | none =>
    refine wpAny_bind (N1.fin hh u1 v1 hx fun g2 e b2 he => ?_)
    obtain ⟨oe, hoe, hce⟩ := he
    have z2 : IsZip g2 z TI TO .ellipsis := b2 _ _ D.i1z.symm z1
    have ez : e ≠ z := fun x => by subst x; rw [z2] at hoe; cases hoe; simp at hce
    exact wpAny_setField_rec z2 (by simp) fun g3 _ b3 => fin g3 e (fun c o c1 _ c3 _ x => b3.extBut _ _ c1 (b2 _ _ c3 (b1.extBut _ _ c1 x))) ⟨oe, b3.extBut _ _ ez hoe, hce⟩
  | some x =>
    have hy : ys[k2]? = none := by
      rcases hend with h | h
      · rw [hx] at h; cases h
      · exact h
    refine wpAny_bind (N1.item u1 v1 hx fun g2 t2 b2 => wpAny_pure ?_)
    have p2 : IsPair g2 TO a b := b2.extBut _ _ D.TOi1 (b1.extBut _ _ D.TOz hTO)
    refine wpAny_bind (wpAny_seqItems p2 rfl ?_)
    refine wpAny_bind (wpAny_updateSeq_pair p2 fun g3 p3 b3 => ?_)
    refine wpAny_bind (wpAny_letGo (wpAny_pure ?_))
    refine wpAny_bind (wpAny_bind (wpAny_onRaise ?_))
    show wpAny _ _ (Builtin.SmallTypes.nextOf (.ref i2) >>= _) _ _ _
    refine wpAny_bind (N2.fin hh (N2.mv h2 fun o e => b3.extBut _ _ D.TOi2.symm (b2.extBut _ _ D.i12.symm (b1.extBut _ _ D.i2z e))) (N2.mvS hl2 fun o e => b3.extBut _ _ D.l2TO (b2.extBut _ _ D.l2i1 (b1.extBut _ _ D.l2z e))) hy fun g4 e b4 he => ?_)
    obtain ⟨oe, hoe, hce⟩ := he
    have z4 : IsZip g4 z TI TO .ellipsis := b4 _ _ D.i2z.symm (b3.extBut _ _ D.TOz.symm (b2.extBut _ _ D.i1z.symm z1))
    have ez : e ≠ z := fun x => by subst x; rw [z4] at hoe; cases hoe; simp at hce
    exact wpAny_setField_rec z4 (by simp) fun g5 _ b5 => fin g5 e (fun c o c1 c2 c3 c4 x => b5.extBut _ _ c1 (b4 _ _ c4 (b3.extBut _ _ c2 (b2.extBut _ _ c3 (b1.extBut _ _ c1 x))))) ⟨oe, b5.extBut _ _ ez hoe, hce⟩
end
section
variable {X : Cx} {pins : List (Addr × Obj)} {σ : St} {H : Hp} {s : Shared} {h' : Heap}
/-- untracked records of ours (iterators) have turned, a new object is laid and tracked -/
theorem Inv.turnedNew {t' : Nat} {ts : List Addr} {a : Addr} {o : HO} (I : Inv X pins σ H s) (k : ∀ b u, b ∉ ts → s.heap.get? b = some u → h'.get? b = some u) (f : ∀ b ∈ ts, FpOk X pins H b) (hp : s.heap.objs.size ≤ a)
    (new : ObjOk X.prog X.w (upd H a o) h' a o) : Inv X pins σ (upd H a o) { s with heap := h', toks := t' } := by
  have nt : ∀ b u, H b = some u → b ∉ ts := fun b u e z => by have := (f b z).1; rw [e] at this; cases this
  have na : ∀ b u, s.heap.get? b = some u → b ≠ a := fun b u e => Nat.ne_of_lt (Nat.lt_of_lt_of_le (Heap.lt_size e) hp)
  have ha : H a = none := I.hok.fresh hp
  refine I.step (g' := s.gens) (d' := s.drawn) (ch := ts) (fun b hb => ⟨(f b hb).2.2.2.1, (f b hb).2.1, (f b hb).2.2.2.2.1, (f b hb).2.2.2.2.2⟩) (fun b u _ _ hc e _ => k b u hc e) (fun b u _ _ hc e _ => ⟨u.slots, k b u hc e⟩)
    (fun b u _ e n => by rw [upd_ne (na b u e)]; exact n) (fun b u hc e => ⟨u, k b u hc e⟩) (fun b xs e => by rw [upd_ne (ne_of_none e ha)]; exact e) (fun b u xs e => by rw [upd_ne (ne_of_none e ha)]; exact e)
    (fun b ps e => ⟨#[], by rw [upd_ne (ne_of_none e ha), e]; simp⟩) (fun m hm => ?_) (fun b u e => ?_) I.bare
  · obtain ⟨ob, es, ep, ho, r⟩ := hm
    exact ⟨ob, es, ep, k _ ob (fun z => (f _ z).2.1 rfl) ho, r⟩
  · by_cases hb : b = a
    · subst hb
      rw [upd_same] at e
      cases e
      exact new
    · rw [upd_ne hb] at e
      refine (I.hok b u e).stay (fun c v hc q => k c v ?_ q) (fun c q => by rw [upd_ne (ne_of_none q ha)]; exact q) fun c xs q => by rw [upd_ne (ne_of_none q ha)]; exact q
      rcases hc with rfl | hc
      · exact nt _ _ e
      · exact nt _ _ hc
/-- untracked records of ours have turned -/
theorem Inv.turnedL {t' : Nat} {ts : List Addr} (I : Inv X pins σ H s) (k : ∀ b u, b ∉ ts → s.heap.get? b = some u → h'.get? b = some u) (f : ∀ b ∈ ts, FpOk X pins H b) : Inv X pins σ H { s with heap := h', toks := t' } := by
  have nt : ∀ b u, H b = some u → b ∉ ts := fun b u e z => by have := (f b z).1; rw [e] at this; cases this
  refine I.step (g' := s.gens) (d' := s.drawn) (ch := ts) (fun b hb => ⟨(f b hb).2.2.2.1, (f b hb).2.1, (f b hb).2.2.2.2.1, (f b hb).2.2.2.2.2⟩) (fun b u _ _ hc e _ => k b u hc e) (fun b u _ _ hc e _ => ⟨u.slots, k b u hc e⟩)
    (fun b u _ e n => n) (fun b u hc e => ⟨u, k b u hc e⟩) (fun b xs e => e) (fun b u xs e => e) (fun b ps e => ⟨#[], by rw [e]; simp⟩) (fun m hm => ?_) (fun b u e => ?_) I.bare
  · obtain ⟨ob, es, ep, ho, r⟩ := hm
    exact ⟨ob, es, ep, k _ ob (fun z => (f _ z).2.1 rfl) ho, r⟩
  · refine (I.hok b u e).stay (fun c v hc q => k c v ?_ q) (fun c q => q) fun c xs q => q
    rcases hc with rfl | hc
    · exact nt _ _ e
    · exact nt _ _ hc
end
/-- zip over a list and a tuple: the i-th pair is a new tuple -/
def Itz (K : PySem.W.Frag) (a b : Addr) : It :=
  ⟨fun i H => ∃ xs ys x y, SqL K H a xs ∧ SqT K H b ys ∧ xs[i]? = some x ∧ ys[i]? = some y,
   fun i H v H' => ∃ p, H p = none ∧ v = .ref p ∧ ∃ x y, (∀ xs, SqL K H a xs → xs[i]? = some x) ∧ (∀ ys, SqT K H b ys → ys[i]? = some y) ∧ H' = upd H p (.tup [x, y]),
   fun i H => ∃ xs ys, SqL K H a xs ∧ SqT K H b ys ∧ (xs.length ≤ i ∨ ys.length ≤ i)⟩
def ZipSt (z TI TO i1 i2 a b : Addr) (i : Nat) (h : Heap) : Prop := IsZip h z TI TO .none ∧ IsPair h TI (.ref i1) (.ref i2) ∧ (∃ u v, IsPair h TO u v) ∧ h.IsListIter i1 a i ∧ h.IsTupleIter i2 b i
theorem turn_zip {P : Program} {w : World} {K : PySem.W.Frag} {elts : List Expr} {kk : Nat} {pos : Pos} {z TI TO i1 i2 a b : Addr} (D : ZipApart z TI TO i1 i2 a b) :
    Turn P w K (.Tuple elts kk pos) (Itz K a b) [z, TI, TO, i1, i2] z (ZipSt z TI TO i1 i2 a b) where
  mem := by simp
  obj := fun i h st c hc => by
    obtain ⟨h1, h2, ⟨u, v, h3⟩, h4, h5⟩ := st
    simp only [List.mem_cons, List.not_mem_nil, or_false] at hc
    rcases hc with rfl | rfl | rfl | rfl | rfl
    · exact ⟨_, h1, fun v z => by cases (show Data.fields _ = Data.cell v from z)⟩
    · exact ⟨_, h2, fun v z => by cases (show Data.seq _ _ = Data.cell v from z)⟩
    · exact ⟨_, h3, fun v z => by cases (show Data.seq _ _ = Data.cell v from z)⟩
    · exact (nx_list _ a).ob h4
    · exact (nx_tuple _ b).ob h5
  keep := fun i h h' st k => by
    obtain ⟨h1, h2, ⟨u, v, h3⟩, h4, h5⟩ := st
    exact ⟨k z (by simp) _ h1, k TI (by simp) _ h2, ⟨u, v, k TO (by simp) _ h3⟩, (nx_list i1 a).mv h4 fun o e => k i1 (by simp) o e, (nx_tuple i2 b).mv h5 fun o e => k i2 (by simp) o e⟩
  item := by
    intro X hP hw hK hc i pins s σ H E I hf st hg
    subst hP hw hK
    obtain ⟨xs, ys, x, y, hq1, hq2, hx, hy⟩ := hg
    obtain ⟨its, rv, p1, _⟩ := I.list hq1
    obtain ⟨its2, rv2, p2, _⟩ := I.tuple hq2
    obtain ⟨u, hu, ru⟩ := rv.get hx
    obtain ⟨u2, hu2, ru2⟩ := rv2.get hy
    obtain ⟨h1, h2, ⟨o1, o2, h3⟩, h4, h5⟩ := st
    refine zip_item (nx_list i1 a) (nx_tuple i2 b) D h1 h2 h3 h4 h5 p1.isList (show s.heap.IsTuple b its2.toArray from p2) (x := u) (by simpa using hu) (y := u2) (by simpa using hu2) fun h' z1 z2 z3 z4 z5 kp => ?_
    refine ⟨_, rfl, wpAny_letOwnedTupleGo_zip (s := { s with heap := h' }) z1 fun g zg sb => ?_⟩
    have nz : s.heap.objs.size ≠ z := Nat.ne_of_gt (Heap.lt_size h1)
    have n2 : TI < s.heap.objs.size := Heap.lt_size h2
    have n3 : TO < s.heap.objs.size := Heap.lt_size h3
    have n4 : i1 < s.heap.objs.size := let ⟨_, e, _⟩ := (nx_list i1 a).ob h4; Heap.lt_size e
    have n5 : i2 < s.heap.objs.size := let ⟨_, e, _⟩ := (nx_tuple i2 b).ob h5; Heap.lt_size e
    have zq : IsPair g s.heap.objs.size u u2 := sb.extBut _ _ nz z5
    have I1 : Inv X pins σ (upd H s.heap.objs.size (.tup [x, y])) { s with heap := g, toks := s.toks } := I.turnedNew (ts := [z, TI, TO, i1, i2]) (fun c o hc e => by
      simp only [List.mem_cons, List.not_mem_nil, or_false, not_or] at hc
      exact sb.extBut _ _ hc.1 (kp c o hc.1 hc.2.2.1 hc.2.2.2.1 hc.2.2.2.2 e)) hf (Nat.le_refl _) ⟨by show 2 ≤ sizeLine; decide, [u, u2], .cons ru (.cons ru2 .nil), ⟨_, zq, rfl, _, rfl⟩⟩
    refine ⟨.ref s.heap.objs.size, _, I1, rfl, ⟨_, I.hok.fresh (Nat.le_refl _), rfl, x, y, fun zs hz => by rw [I.list_inj hz hq1]; exact hx, fun zs hz => by rw [I.tuple_inj hz hq2]; exact hy, rfl⟩,
      ⟨zg, sb.extBut _ _ D.TIz (kp _ _ D.TIz D.TITO D.TIi1 D.TIi2 h2), ⟨_, _, sb.extBut _ _ D.TOz z2⟩, (nx_list i1 a).mv z3 fun o e => sb.extBut _ _ D.i1z e, (nx_tuple i2 b).mv z4 fun o e => sb.extBut _ _ D.i2z e⟩, fun c hc => ?_⟩
    have hcn : c ≠ s.heap.objs.size := by
      simp only [List.mem_cons, List.not_mem_nil, or_false] at hc
      rcases hc with rfl | rfl | rfl | rfl | rfl
      · exact nz.symm
      · exact Nat.ne_of_lt n2
      · exact Nat.ne_of_lt n3
      · exact Nat.ne_of_lt n4
      · exact Nat.ne_of_lt n5
    rw [upd_ne hcn]
    exact (hf c hc).1
  done := by
    intro X hP hw hK hc i pins s σ H E I hf st hg
    subst hP hw hK
    obtain ⟨xs, ys, hq1, hq2, hx⟩ := hg
    obtain ⟨its, rv, p1, _⟩ := I.list hq1
    obtain ⟨its2, rv2, p2, _⟩ := I.tuple hq2
    have e1 := rv.length
    have e2 := rv2.length
    obtain ⟨h1, h2, ⟨o1, o2, h3⟩, h4, h5⟩ := st
    refine zip_end (nx_list i1 a) (nx_tuple i2 b) (I.ok.hd hc) D h1 h2 h3 h4 h5 p1.isList (show s.heap.IsTuple b its2.toArray from p2) (by simp; omega) fun h' kp => ⟨rfl, ?_⟩
    exact I.turnedL (t' := s.toks) (ts := [z, TI, TO, i1, i2]) (fun c o hc e => by
      simp only [List.mem_cons, List.not_mem_nil, or_false, not_or] at hc
      exact kp c o hc.1 hc.2.2.1 hc.2.2.2.1 hc.2.2.2.2 e) hf
  self := fun _ _ _ _ _ st h => wpAny_pyIter_zip st.1 h
/-! ### zip(list, tuple) is made -/
abbrev zpH2 (h : Heap) (l1 l2 : Addr) : Heap := (zipH1 h l1).push { cls := .type "tuple_iterator", data := .fields #[.ref l2, .int 0 0] }
abbrev zpH3 (h : Heap) (l1 l2 : Addr) : Heap := (zpH2 h l1 l2).push { cls := .type "tuple", data := .seq #[.ref h.objs.size, .ref (zipH1 h l1).objs.size] }
abbrev zpH4 (h : Heap) (l1 l2 : Addr) : Heap := (zpH3 h l1 l2).push { cls := .type "tuple", data := .seq #[.none, .none] }
abbrev zpH5 (h : Heap) (l1 l2 : Addr) : Heap := (zpH4 h l1 l2).push { cls := .type "zip", data := .fields #[.none, .bool false, .bool false, .ref (zpH2 h l1 l2).objs.size, .ref (zpH3 h l1 l2).objs.size] }
theorem meets_zip_lt (l1 l2 : Addr) (xs ys : Array Value) : Meets (Builtin.«zip.__new__» ⟨[.type "zip", .ref l1, .ref l2], []⟩) (fun _ R s => s.heap.IsList l1 xs ∧ s.heap.IsTuple l2 ys ∧
    R (.ok (.ret (.ref (zpH4 s.heap l1 l2).objs.size))) { s with heap := zpH5 s.heap l1 l2 }) :=
  .of_wp fun prog w A R s h => by
    obtain ⟨hp, g, d, tk, os⟩ := s; obtain ⟨hl1, hl2, h⟩ := h
    have hsub := sub_zip
    have hL1 : Heap.IsList (Shared.heap ⟨hp, g, d, tk, os⟩) l1 xs := hl1
    have hL2 : Heap.IsTuple (Shared.heap ⟨hp.push { cls := .type "list_iterator", data := .fields #[.ref l1, .int 0 0] }, g, d, tk, os⟩) l2 ys := Heap.IsTuple.push hl2 _
    wp_walk using wpAny_pyIter_list hL1, wpAny_pyIter_tuple hL2
    exact ⟨_, rfl, h⟩
theorem call_zip_lt {prog : Program} {w : World} {A : Around} {E : Value → Shared → Prop} {s : Shared} {l1 l2 : Addr} {xs ys : Array Value} {Q : Value → Shared → Prop} (hl1 : s.heap.IsList l1 xs) (hl2 : s.heap.IsTuple l2 ys)
    (h : ∀ h', ZipSt (s.heap.objs.size + 4) (s.heap.objs.size + 2) (s.heap.objs.size + 3) s.heap.objs.size (s.heap.objs.size + 1) l1 l2 0 h' → (∀ c o, s.heap.get? c = some o → h'.get? c = some o) → Q (.ref (s.heap.objs.size + 4)) { s with heap := h' }) :
    wpAny (model prog w) A (call (.type "zip") [.ref l1, .ref l2]) Q E s := by
  refine callType_new F.called_zip (by decide) (F.typeCall_zip_2 _ _) (F.newCall_zip_2 _ _) (fun obj => F.args_object_init_3 obj _ _) F.entry_zip_new (meets_zip_lt l1 l2 xs ys) ⟨hl1, hl2, ?_⟩
  have z1 : (zipH1 s.heap l1).objs.size = s.heap.objs.size + 1 := Heap.size_push ..
  have z2 : (zpH2 s.heap l1 l2).objs.size = s.heap.objs.size + 2 := by rw [Heap.size_push, z1]
  have z3 : (zpH3 s.heap l1 l2).objs.size = s.heap.objs.size + 3 := by rw [Heap.size_push, z2]
  have z4 : (zpH4 s.heap l1 l2).objs.size = s.heap.objs.size + 4 := by rw [Heap.size_push, z3]
  have q5 : (zpH5 s.heap l1 l2).get? (zpH4 s.heap l1 l2).objs.size = some _ := Heap.get?_push_size _ rfl
  have q4 : (zpH5 s.heap l1 l2).get? (zpH3 s.heap l1 l2).objs.size = some _ := Heap.get?_push_of_some _ (Heap.get?_push_size _ rfl)
  have q3 : (zpH5 s.heap l1 l2).get? (zpH2 s.heap l1 l2).objs.size = some _ := Heap.get?_push_of_some _ (Heap.get?_push_of_some _ (Heap.get?_push_size _ rfl))
  have q2 : (zpH5 s.heap l1 l2).get? (zipH1 s.heap l1).objs.size = some _ := Heap.get?_push_of_some _ (Heap.get?_push_of_some _ (Heap.get?_push_of_some _ (Heap.get?_push_size _ rfl)))
  have q1 : (zpH5 s.heap l1 l2).get? s.heap.objs.size = some _ := Heap.get?_push_of_some _ (Heap.get?_push_of_some _ (Heap.get?_push_of_some _ (Heap.get?_push_of_some _ (Heap.get?_push_size _ rfl))))
  show _ ∧ _
  rw [z2, z3, z4] at q5
  rw [z1, z2] at q3
  rw [z3] at q4
  rw [z1] at q2
  rw [z4]
  exact ⟨⟨_, q5, rfl⟩, h _ ⟨q5, q3, ⟨_, _, q4⟩, ⟨_, q1, rfl, rfl⟩, ⟨_, q2, rfl, rfl⟩⟩ fun c o x => Heap.get?_push_of_some _ (Heap.get?_push_of_some _ (Heap.get?_push_of_some _ (Heap.get?_push_of_some _ (Heap.get?_push_of_some _ x))))⟩
def iZip (K : PySem.W.Frag) (ta : TA) : TI := fun σ H R => ta σ H fun vs H1 => ∃ a b xs ys, vs = [.ref a, .ref b] ∧ SqL K H1 a xs ∧ SqT K H1 b ys ∧ R (Itz K a b) H1
theorem pi_zipLT {X : Cx} {elts : List Expr} {kk : Nat} {tpos : Pos} {a b : Expr} {ta : TA} {p pos : Pos} (hg : Gl X "zip") (hm : X.mg "zip" = none) (ha : PA X [a, b] ta) (hs : starEach [a, b] X.env = [(false, eval a X.env), (false, eval b X.env)] := by rfl) (hs2 : starEach [b] X.env = [(false, eval b X.env)] := by rfl) :
    PI X (.Tuple elts kk tpos) (.Call (.Name "zip" p) [a, b] [] pos) (iZip X.K ta) := by
  intro pins s σ H R I h
  refine Call_ (ld_blt I hg hm boot_zip (PyProof.Rows.callWith_type1 (thn (ha pos pins s σ H _ I h) fun us s1 ⟨vs, H1, I1, r1, q1⟩ => ?_) (by rw [hs, hs2]) (by rw [hs2]; rfl)))
  obtain ⟨l1, l2, xs, ys, e, hq1, hq2, q⟩ := q1
  subst e
  obtain ⟨u, u2, rfl, ru, ru2⟩ := vals2 r1
  cases ru
  cases ru2
  obtain ⟨its, rv, p1, _⟩ := I1.list hq1
  obtain ⟨its2, rv2, p2, _⟩ := I1.tuple hq2
  have t1 : l1 < s1.heap.objs.size := let ⟨_, e, _⟩ := p1.isList; Heap.lt_size e
  have t2 : l2 < s1.heap.objs.size := p2.lt
  refine call_zip_lt p1.isList (show s1.heap.IsTuple l2 its2.toArray from p2) fun h' zs kp => wpAny_pyIter_zip zs.1 ?_
  have I2 : Inv X pins σ H1 { s1 with heap := h' } := I1.kept (t' := s1.toks) kp
  refine ⟨_, [s1.heap.objs.size + 4, s1.heap.objs.size + 2, s1.heap.objs.size + 3, s1.heap.objs.size, s1.heap.objs.size + 1], _, _, H1, rfl, I2, turn_zip (zipApart_new t1 t2), zs, fun c hc => ?_, q⟩
  have hle : s1.heap.objs.size ≤ c := by
    simp only [List.mem_cons, List.not_mem_nil, or_false] at hc
    rcases hc with rfl | rfl | rfl | rfl | rfl
    · exact Nat.le_add_right _ _
    · exact Nat.le_add_right _ _
    · exact Nat.le_add_right _ _
    · exact Nat.le_refl _
    · exact Nat.le_add_right _ _
  exact I1.fpOk hle (I1.hok.fresh hle)
/-- over a list and a tuple that the body leaves as they are -/
theorem for_zip {K : PySem.W.Frag} {a b : Addr} {xs ys : List V} {g : TG} {tb : TS} {D : Ends} {σ : St} {H : Hp} (Pv : Nat → St → Hp → Prop) (h0 : Pv 0 σ H) (hl : ∀ i σ H, Pv i σ H → SqL K H a xs ∧ SqT K H b ys) (hlen : xs.length = ys.length)
    (hs : ∀ i x y σ H p, xs[i]? = some x → ys[i]? = some y → Pv i σ H → H p = none → g (.ref p) σ (upd H p (.tup [x, y])) fun σ2 H2 => tb { D with nx := Pv (i + 1), ct := Pv (i + 1), bk := D.nx } σ2 H2) (hd : ∀ σ H, Pv xs.length σ H → D.nx σ H) :
    ∃ W : Nat → Nat → St → Hp → Prop, (∃ m, W 0 m σ H) ∧ ∀ i m σ H, W i m σ H →
      ((Itz K a b).stop i H ∧ D.nx σ H) ∨ ((Itz K a b).go i H ∧ ∃ N : St → Hp → Prop, (∀ σ' H', N σ' H' → ∃ m', m' < m ∧ W (i + 1) m' σ' H') ∧ ∀ x H', (Itz K a b).yld i H x H' → g x σ H' fun σ2 H2 => tb { D with nx := N, ct := N, bk := D.nx } σ2 H2) := by
  refine ⟨fun i m σ H => m = xs.length - i ∧ i ≤ xs.length ∧ Pv i σ H, ⟨xs.length, by simp, Nat.zero_le _, h0⟩, ?_⟩
  rintro i m σ H ⟨rfl, hi, p⟩
  obtain ⟨q1, q2⟩ := hl i σ H p
  by_cases hlt : i < xs.length
  · have e1 : xs[i]? = some xs[i] := List.getElem?_eq_getElem hlt
    have e2 : ys[i]? = some (ys[i]'(by omega)) := List.getElem?_eq_getElem _
    refine .inr ⟨⟨xs, ys, _, _, q1, q2, e1, e2⟩, Pv (i + 1), fun σ' H' p' => ⟨xs.length - (i + 1), by omega, rfl, hlt, p'⟩, fun v H' y => ?_⟩
    obtain ⟨c, hc, rfl, x, z, f1, f2, rfl⟩ := y
    exact hs i x z σ H c (f1 xs q1) (f2 ys q2) p hc
  · have e : i = xs.length := by omega
    subst e
    exact .inl ⟨⟨xs, ys, q1, q2, .inl (Nat.le_refl _)⟩, hd σ H p⟩
/-! ### reversed(list) -/
def Itv (K : PySem.W.Frag) (a : Addr) (n : Nat) : It :=
  ⟨fun i H => ∃ xs x, SqL K H a xs ∧ xs.length = n ∧ i < n ∧ xs[n - 1 - i]? = some x, fun i H x H' => H' = H ∧ ∀ xs, SqL K H a xs → xs[n - 1 - i]? = some x, fun i _ => i = n⟩
theorem turn_rev {P : Program} {w : World} {K : PySem.W.Frag} {tg : Expr} (a it : Addr) (n : Nat) : Turn P w K tg (Itv K a n) [it] it (fun i h => h.IsRevIter it a ((n : Int) - 1 - (i : Int))) where
  mem := by simp
  obj := fun i h st b hb => by
    have e : b = it := by simpa using hb
    subst e
    obtain ⟨o, e, c, d⟩ := st
    exact ⟨o, e, fun v z => by rw [d] at z; cases z⟩
  keep := fun i h h' st k => st.at fun o e => k it (by simp) o e
  item := by
    intro X hP hw hK hc i pins s σ H E I hf st hg
    subst hP hw hK
    obtain ⟨xs, x, hq, hn, hi, hx⟩ := hg
    obtain ⟨its, rv, p, hz⟩ := I.list hq
    obtain ⟨u, hu, ru⟩ := rv.get hx
    obtain ⟨f0, f1, f2, f3, f4, f5⟩ := hf it (by simp)
    have e1 : (n : Int) - 1 - (i : Int) = ((n - 1 - i : Nat) : Int) := by omega
    rw [e1] at st
    refine wpAny_pyNext_rev_item st p.isList (x := u) (by simpa using hu) fun h' st' sb => ?_
    have I1 : Inv X pins σ H { s with heap := h' } := I.turned (t' := s.toks) (fun b o hb e => (sb.2 b hb).trans e) f0 f1 f3 f4 f5
    have e2 : ((n - 1 - i : Nat) : Int) - 1 = (n : Int) - 1 - ((i + 1 : Nat) : Int) := by omega
    rw [e2] at st'
    obtain ⟨o, e, c, d⟩ := id st'
    exact ⟨u, rfl, go_of (s := { s with heap := h' }) e c d (by decide) ⟨x, H, I1, ru, ⟨rfl, fun ys hy => by rw [I.list_inj hy hq]; exact hx⟩, st', fun b hb => (hf b hb).1⟩⟩
  done := by
    intro X hP hw hK hc i pins s σ H E I hf st hg
    subst hP hw hK
    have hi : i = n := hg
    subst hi
    obtain ⟨f0, f1, f2, f3, f4, f5⟩ := hf it (by simp)
    have e1 : (i : Int) - 1 - (i : Int) = -1 := by omega
    rw [e1] at st
    exact wpAny_pyNext_rev_end (I.ok.hd hc) st fun h' eb => ⟨rfl, I.turned (t' := s.toks) (fun b o hb e => eb b o hb e) f0 f1 f3 f4 f5⟩
  self := fun _ _ _ _ _ st h => wpAny_pyIter_revIter st h
def iRev (K : PySem.W.Frag) (ta : TA) : TI := fun σ H R => ta σ H fun vs H1 => ∃ a xs, vs = [.ref a] ∧ SqL K H1 a xs ∧ R (Itv K a xs.length) H1
theorem pi_rev {X : Cx} {tg : Expr} {a : Expr} {ta : TA} {p pos : Pos} (hg : Gl X "reversed") (hm : X.mg "reversed" = none) (ha : PA X [a] ta) (hs : starEach [a] X.env = [(false, eval a X.env)] := by rfl) :
    PI X tg (.Call (.Name "reversed" p) [a] [] pos) (iRev X.K ta) := by
  intro pins s σ H R I h
  refine Call_ (ld_blt I hg hm boot_reversed (PyProof.Rows.callWith_type1 (thn (ha pos pins s σ H _ I h) fun us s1 ⟨vs, H1, I1, r1, q1⟩ => ?_) hs rfl))
  obtain ⟨l, xs, e, hq, q⟩ := q1
  subst e
  obtain ⟨u, rfl, ru⟩ := vals1 r1
  cases ru
  obtain ⟨its, rv, p1, _⟩ := I1.list hq
  have en : (its.toArray.size : Int) - 1 = (xs.length : Int) - 1 - ((0 : Nat) : Int) := by rw [List.size_toArray, ← rv.length]; omega
  refine call_reversed_list p1.isList ?_
  rw [en]
  have st : (s1.heap.push (revObj l ((xs.length : Int) - 1 - ((0 : Nat) : Int)))).IsRevIter s1.heap.objs.size l ((xs.length : Int) - 1 - ((0 : Nat) : Int)) := ⟨_, Heap.get?_push_size _ rfl, rfl, rfl⟩
  refine wpAny_pyIter_revIter (s := { s1 with heap := s1.heap.push (revObj l ((xs.length : Int) - 1 - ((0 : Nat) : Int))) }) st ?_
  refine ⟨_, [s1.heap.objs.size], _, _, H1, rfl, I1.kept (t' := s1.toks) fun b o e => Heap.get?_push_of_some _ e, turn_rev l _ xs.length, st, fun b hb => ?_, q⟩
  have e : b = s1.heap.objs.size := by simpa using hb
  subst e
  exact I1.fpOk (Nat.le_refl _) (I1.hok.fresh (Nat.le_refl _))
end L2

/-! MY RULES: a list comprehension of one clause, with no test or one. -/
namespace L2
open PySem PySem.Spec PyProof.Rows
/-- what the comprehension's own scope and the cells that it takes over must be -/
structure ClOk (X : Cx) (scope : Scope) (cl : List (Str × Addr)) : Prop where
  eq : closureFor scope X.env = pure cl
  sub : ∀ x c, cl.lookup x = some c → X.env.cells.lookup x = some c
  has : ∀ x, ((relabel scope X.env).names.lookup x = some .cell ∨ (relabel scope X.env).names.lookup x = some .free) → ∃ c, cl.lookup x = some c
  kind : scope.kind = .function
  ncell : ∀ y ∈ scope.names, y.2 ≠ .cell
  names : ∀ y ∈ scope.names, y.2 = .local → scope.names.lookup y.1 = some .local
/-- the block's context: its names, its own dict at C, the state at its entry, the iterator that it walks -/
def blk (X : Cx) (N' : List Str) (scope : Scope) (cl : List (Str × Addr)) (C : Addr) (s₀ : Shared) (H₀ : Hp) (fp : List Addr) : Cx :=
  { X with N := N', s₀ := s₀, H₀ := H₀, env := compEnvC scope cl C X.env, outer := X.stack, ex := fp, fn := fun _ => false, pn := [], xe := fun _ _ => False }
/-- the names' values at the block's entry: those that are taken over -/
def blkSt (ix : List (Option Nat)) (σ : St) : St := ix.map fun o => o.bind fun j => (σ[j]?).bind id
section
variable {X : Cx} {pins : List (Addr × Obj)} {σ : St} {H : Hp} {s : Shared} {N' : List Str} {scope : Scope} {cl : List (Str × Addr)} {fp : List Addr} {ix : List (Option Nat)}
/-- which outer slots stand for the names that are taken over -/
def IxOk (X : Cx) (N' : List Str) (scope : Scope) (ix : List (Option Nat)) : Prop :=
  ix.length = N'.length ∧ ∀ i j : Nat, ix[i]? = some (some j) → ∃ x, N'[i]? = some x ∧ X.N[j]? = some x ∧ (X.env.scope.names.lookup x = some .cell ∨ X.env.scope.names.lookup x = some .free) ∧
    ((relabel scope X.env).names.lookup x = some .cell ∨ (relabel scope X.env).names.lookup x = some .free)
theorem blk_ok (I : Inv X pins σ H s) (ck : ClOk X scope cl) (f : ∀ b ∈ fp, FpOk X pins H b) (hlt : ∀ b ∈ fp, b < s.heap.objs.size) : (blk X N' scope cl s.heap.objs.size s H fp).Ok where
  mod := I.ok.mod
  kind := ck.kind
  glob := I.ok.glob
  blt := I.ok.blt
  above := Nat.le_refl _
  inj := fun x y c h1 h2 => I.ok.inj x y c (ck.sub x c h1) (ck.sub y c h2)
  has := fun x h => ck.has x h
  cab := fun x c h => by cases h
  hd := I.ok.hd
  frames := I.ok.frames
  stk := .inl rfl
  exf := fun b hb => ⟨Nat.ne_of_lt (hlt b hb), fun x c h => (f b hb).2.2.2.2.1 x c (ck.sub x c h)⟩
  bs := I.bs
  bsz := Nat.le_trans I.ok.bsz I.sz
  noex := fun b o e hb => by
    rcases (f b hb).2.2.2.1 with z | z
    · exact I.ok.noex b o e z
    · exact absurd (Nat.lt_of_lt_of_le (Heap.lt_size (I.ok.bs b o e).1) z) (Nat.lt_irrefl _)
  exfs := fun b hb hs => by
    rcases List.mem_cons.mp (I.stkSub b hs) with z | z
    · exact (f b hb).2.1 z
    · exact (f b hb).2.2.1 z
  funs := I.stack
  frf := I.stkFree
theorem blk_start (I : Inv X pins σ H s) (ck : ClOk X scope cl) (io : IxOk X N' scope ix) (f : ∀ b ∈ fp, FpOk X pins H b) (hlt : ∀ b ∈ fp, b < s.heap.objs.size) {h' : Heap} {m : Str → Option Value} {t' : Nat}
    (hn : h'.Ns s.heap.objs.size m) (k : ∀ b o, s.heap.get? b = some o → h'.get? b = some o) : Inv (blk X N' scope cl s.heap.objs.size s H fp) [] (blkSt ix σ) H { s with heap := h', toks := t' } := by
  have cl' : ∀ x c, cl.lookup x = some c → ∃ v, s.heap.IsCell c v := fun x c h => I.cell x c (ck.sub x c h)
  refine ⟨blk_ok I ck f hlt, rfl, I.bare, Un.kept k, ⟨m, hn, fun i x v e1 e2 e3 => ?_⟩, fun x c e => ?_, I.hok.fresh (Nat.le_refl _), fun x c e => I.freeC x c (ck.sub x c e), (fun p hp => by cases hp), I.hok.kept k, ?_⟩
  · unfold blkSt at e2
    rw [List.getElem?_map] at e2
    cases hi : ix[i]? with
    | none => rw [hi] at e2; cases e2
    | some o =>
      rw [hi] at e2
      cases o with
      | none => cases Option.some.inj e2
      | some j =>
        have e2' : (σ[j]?).bind id = some v := Option.some.inj e2
        obtain ⟨x', n1, n2, k1, k2⟩ := io.2 i j hi
        have ex : x' = x := Option.some.inj (n1.symm.trans e1)
        subst ex
        have es : σ[j]? = some (some v) := by
          cases q : σ[j]? with
          | none => rw [q] at e2'; cases e2'
          | some w =>
            rw [q] at e2'
            exact congrArg some e2'
        obtain ⟨m0, _, hl⟩ := I.loc
        obtain ⟨u, ru, lo⟩ := hl j x' v n2 es (k1.elim (fun z => .inr (.inl z)) fun z => .inr (.inr z))
        refine ⟨u, ru, .inr ⟨k2, ?_⟩⟩
        obtain ⟨c, hc⟩ := ck.has x' k2
        refine ⟨c, hc, ?_⟩
        rcases lo with ⟨z, _⟩ | ⟨_, c', hc', ic⟩
        · exfalso
          have z' : X.env.scope.names.lookup x' = some .local := z
          rcases k1 with k1 | k1 <;> (rw [z'] at k1; cases k1)
        · have ec : c' = c := Option.some.inj (hc'.symm.trans (ck.sub x' c hc))
          subst ec
          obtain ⟨o, ho, hd⟩ := ic
          exact ⟨o, k _ _ ho, hd⟩
  · obtain ⟨v, o, ho, hd⟩ := cl' x c e
    exact ⟨v, o, k _ _ ho, hd⟩
  · unfold blkSt
    rw [List.length_map]
    exact io.1
/-- behind the block: the frame's own words stand again -/
theorem blk_end (I : Inv X pins σ H s) (f : ∀ b ∈ fp, FpOk X pins H b) {σ' : St} {H' : Hp} {s' : Shared} {pl : List (Addr × Obj)} (J : Inv (blk X N' scope cl s.heap.objs.size s H fp) pl σ' H' s') {h' : Heap} (sb : Heap.SameBut s.heap.objs.size s'.heap h') :
    Inv X pins σ H' { s' with heap := h' } := by
  have nC : ∀ b o, s.heap.get? b = some o → b ≠ s.heap.objs.size := fun b o e => Nat.ne_of_lt (Heap.lt_size e)
  have hC : H' s.heap.objs.size = none := J.free
  have u : Un (frs X.stack) fp H H' s.heap s'.heap := J.base
  refine I.call' (ch := fp) (s' := { s' with heap := h' }) J.os ⟨fun b o e n hb hx => (sb.2 b (nC b o e)).trans (u.keep b o e n hb hx), fun b o e n hb hx => ?_, u.free, fun b o e hx => ?_, u.tups, u.frzs, u.tbls⟩ (fun b o e => ?_) J.bare
    (fun b hb => ⟨(f b hb).2.2.2.1, (f b hb).2.1, (f b hb).2.2.2.2.1, (f b hb).2.2.2.2.2⟩)
  · obtain ⟨sl, q⟩ := u.slot b o e n hb hx
    exact ⟨sl, (sb.2 b (nC b o e)).trans q⟩
  · obtain ⟨o', q⟩ := u.there b o e hx
    exact ⟨o', (sb.2 b (nC b o e)).trans q⟩
  · refine (J.hok b o e).stay (fun c v hc q => (sb.2 c ?_).trans q) (fun c q => q) fun c xs q => q
    rcases hc with rfl | hc
    · exact ne_of_none e hC
    · exact ne_of_none hc hC
end
/-- what the one knows the other one knows too -/
def StKeep : St → St → Prop
  | [], _ => True
  | none :: r, _ :: r' => StKeep r r'
  | none :: r, [] => StKeep r []
  | some v :: r, w :: r' => w = some v ∧ StKeep r r'
  | some _ :: _, [] => False
theorem StKeep.get : ∀ {a b : St}, StKeep a b → ∀ (j : Nat) v, a[j]? = some (some v) → b[j]? = some (some v)
  | [], _, _, _, _, e => by simp at e
  | none :: r, _ :: r', h, 0, v, e => by simp at e
  | none :: r, _ :: r', h, j + 1, v, e => by simpa using StKeep.get (a := r) (b := r') h j v (by simpa using e)
  | none :: r, [], h, 0, v, e => by simp at e
  | none :: r, [], h, j + 1, v, e => by have := StKeep.get (a := r) (b := []) h j v (by simpa using e); simp at this
  | some w :: r, _ :: r', h, 0, v, e => by
    have e' : w = v := by simpa using e
    subst e'
    simpa using h.1
  | some _ :: r, _ :: r', h, j + 1, v, e => by simpa using StKeep.get (a := r) (b := r') h.2 j v (by simpa using e)
section
variable {X : Cx}
/-- [elt for tg in iter]: D the list that grows -/
def tComp (ix : List (Option Nat)) (wi : TI) (g : TG) (te : TE) : TE := fun σ H Q => wi σ H fun J H1 => ∀ D, H1 D = none → ∃ W : Nat → Nat → Hp → Prop, (∃ m, W 0 m (upd H1 D (.lst []))) ∧ ∀ i m H2, W i m H2 →
  (J.stop i H2 ∧ Q (.ref D) H2) ∨ (J.go i H2 ∧ ∃ N : VK, (∀ y H5, N y H5 → ∃ xs, H5 D = some (.lst xs) ∧ xs.length < sizeLine ∧ ∃ m', m' < m ∧ W (i + 1) m' (upd H5 D (.lst (xs ++ [y])))) ∧ ∀ x H3, J.yld i H2 x H3 → g x (blkSt ix σ) H3 fun σ4 H4 => StKeep (blkSt ix σ) σ4 ∧ te σ4 H4 N)
theorem pe_comp {elt iter tg : Expr} {scope : Scope} {pos : Pos} {N' : List Str} {ix : List (Option Nat)} {cl : List (Str × Addr)} {wi : TI} {g : TG} {te : TE} (hc : X.calm = true) (ck : ClOk X scope cl) (io : IxOk X N' scope ix) (hi : PI X tg iter wi)
    (hg : ∀ C s₀ H₀ fp, PG (blk X N' scope cl C s₀ H₀ fp) tg g) (he : ∀ C s₀ H₀ fp, PE (blk X N' scope cl C s₀ H₀ fp) elt te) (hs : ∀ x, foldedSetIterable iter X.env x = pure x := by intro _; rfl) :
    PE X (.ListComp elt [⟨tg, iter, [], 0⟩] scope pos) (tComp ix wi g te) := by
  intro pins s σ H Q I h
  rw [eval_ListComp]
  refine wpAny_comprehension_free (use := none) rfl hs ck.eq ck.kind ck.names (thn (hi pins s σ H _ I h) fun xv s1 h1 => thn h1 fun itv s2 h2 => ?_)
  obtain ⟨it, fp, tn, J, H1, rfl, I1, T, st1, f1, R⟩ := h2
  -- the list
  refine wpAny_newObj_type ?_
  have hD : H1 s2.heap.objs.size = none := I1.hok.fresh (Nat.le_refl _)
  obtain ⟨W, ⟨m0, w0⟩, turn⟩ := R _ hD
  have hfD : ∀ b ∈ fp, b < s2.heap.objs.size := fun b hb => let ⟨o, e, _⟩ := T.obj _ _ st1 b hb; Heap.lt_size e
  have I2 : Inv X pins σ (upd H1 s2.heap.objs.size (.lst [])) { s2 with heap := s2.heap.push { cls := .type "list", data := .seq ([] : List Value).toArray }, toks := s2.toks } := I1.lnew (its := []) .nil (Nat.zero_le _)
  have f2 : ∀ b ∈ fp, FpOk X pins (upd H1 s2.heap.objs.size (.lst [])) b := fun b hb => ⟨by rw [upd_ne (Nat.ne_of_lt (hfD b hb))]; exact (f1 b hb).1, (f1 b hb).2⟩
  have lt2 : ∀ b ∈ fp, b < (s2.heap.push { cls := .type "list", data := .seq ([] : List Value).toArray }).objs.size := fun b hb => by rw [Heap.size_push]; exact Nat.lt_succ_of_lt (hfD b hb)
  -- the block's own dict
  refine wpAny_newFunctionEnv ck.ncell (by intro y hy; simp at hy) (fun h3 hns sb3 => ?_) ck.kind
  dsimp only at hns sb3 ⊢
  have k3 : ∀ b o, (s2.heap.push { cls := .type "list", data := .seq ([] : List Value).toArray }).get? b = some o → h3.get? b = some o := fun b o e => (sb3.2 b (Nat.ne_of_lt (Heap.lt_size e))).trans (Heap.get?_push_of_some _ e)
  generalize hs2 : ({ s2 with heap := s2.heap.push { cls := .type "list", data := .seq ([] : List Value).toArray }, toks := s2.toks } : Shared) = s3 at I2
  have e3 : s2.heap.push { cls := .type "list", data := .seq ([] : List Value).toArray } = s3.heap := by rw [← hs2]
  rw [e3] at hns k3 lt2
  have I3 := blk_start (N' := N') (ix := ix) I2 ck io f2 lt2 (h' := h3) (t' := s2.toks + ([] : List (Str × Value)).length) hns k3
  have e4 : ({ s3 with heap := h3, toks := s2.toks + ([] : List (Str × Value)).length } : Shared) = { s2 with heap := h3, toks := s2.toks + ([] : List (Str × Value)).length } := by rw [← hs2]
  rw [e4] at I3
  have st3 : tn 0 h3 := T.keep _ _ _ st1 fun b hb o e => k3 b o (by rw [← e3]; exact Heap.get?_push_of_some _ e)
  have loop : ∀ s4 : Shared, s4 = { s2 with heap := h3, toks := s2.toks + ([] : List (Str × Value)).length } →
      codeAny (model X.prog X.w) X.A (.compLoop (.ListComp elt [⟨tg, iter, [], 0⟩] scope pos) 0 (.ref it) (.ref s2.heap.objs.size) (compEnvC scope cl s3.heap.objs.size X.env))
        (compPost (model X.prog X.w) X.A X.xe none (EP X pins σ Q) (.ref s2.heap.objs.size) s3.heap.objs.size) s4 := by
    rintro s4 rfl
    have stat : ∀ {H' : Hp}, (∀ b ∈ fp, H' b = none) → ∀ b ∈ fp, FpOk (blk X N' scope cl s3.heap.objs.size s3 (upd H1 s2.heap.objs.size (.lst [])) fp) [] H' b := fun hn b hb =>
      ⟨hn b hb, Nat.ne_of_lt (lt2 b hb), fun hs => I3.ok.exfs b hb hs, .inl hb, fun x c e => (f2 b hb).2.2.2.2.1 x c (ck.sub x c e), (fun p hp => by cases hp)⟩
    refine codeAny_loop rfl (fun n s' => ∃ i σ' H', Inv (blk X N' scope cl s3.heap.objs.size s3 (upd H1 s2.heap.objs.size (.lst [])) fp) [] σ' H' s' ∧ (∀ (j : Nat) v, (blkSt ix σ)[j]? = some (some v) → σ'[j]? = some (some v)) ∧ tn i s'.heap ∧ (∀ b ∈ fp, H' b = none) ∧ W i n H')
      (fun n s' hI => ?_) m0 ⟨0, _, _, I3, fun _ _ z => z, st3, fun b hb => (f2 b hb).1, w0⟩
    obtain ⟨i, σ5, H5, I5, wk, st5, fr5, w5⟩ := hI
    show wpAny _ _ ((compTurn (.ListComp elt [⟨tg, iter, [], 0⟩] scope pos) 0 (.ref it) (.ref s2.heap.objs.size) (compEnvC scope cl s3.heap.objs.size X.env)).onRaise (fun x => do noteFrame x (compEnvC scope cl s3.heap.objs.size X.env); theTreesLotGoes x)) _ _ s'
    refine wpAny_noted ?_
    rw [compTurn_list1]
    refine wpAny_bind (wpAny_standAt ?_)
    rcases turn i n H5 w5 with ⟨stop, qn⟩ | ⟨go, NN, hNN, step⟩
    · refine wpAny_bind (wpAny_mono (T.done (blk X N' scope cl s3.heap.objs.size s3 (upd H1 s2.heap.objs.size (.lst [])) fp) rfl rfl rfl hc i [] s' σ5 H5 (fun _ _ => False) I5 (stat fr5) st5 stop) (fun r s6 h6 => ?_) fun _ _ z => z.elim)
      obtain ⟨rfl, I6⟩ := h6
      refine wpAny_pure ?_
      obtain ⟨mm, hm, _⟩ := id I6.loc
      exact ⟨mm, hm, fun h' sb => ⟨.ref s2.heap.objs.size, H5, blk_end I2 f2 I6 sb, rfl, qn⟩⟩
    · refine wpAny_bind (wpAny_mono (T.item (blk X N' scope cl s3.heap.objs.size s3 (upd H1 s2.heap.objs.size (.lst [])) fp) rfl rfl rfl hc i [] s' σ5 H5 (fun _ _ => False) I5 (stat fr5) st5 go) (fun r s6 h6 => ?_) fun _ _ z => z.elim)
      obtain ⟨u, rfl, h6⟩ := h6
      refine wpAny_bind (wpAny_mono h6 (fun _ s7 h7 => ?_) fun _ _ z => z.elim)
      obtain ⟨x, H7, I7, r7, y7, st7, fr7⟩ := h7
      have I7w : Inv (blk X N' scope cl s3.heap.objs.size s3 (upd H1 s2.heap.objs.size (.lst [])) fp) [] (blkSt ix σ) H7 s7 := I7.weak (by rw [I7.len]; unfold blkSt; rw [List.length_map]; exact io.1) wk
      have I7p := I7w.pinned (stat fr7) (T.obj _ _ st7)
      refine wpAny_bind (wpAny_mono (hg _ _ _ _ _ s7 _ H7 x u _ I7p r7 (step x H7 y7)) (fun _ s8 h8 => ?_) fun _ _ z => z.elim)
      obtain ⟨σ8, H8, I8, kp8, q8⟩ := h8
      refine wpAny_bind (wpAny_bind (wpAny_mono (he _ _ _ _ _ s8 σ8 H8 _ I8 q8) (fun yv s9 h9 => ?_) fun _ _ z => z.elim))
      obtain ⟨y, H9, I9, r9, n9⟩ := h9
      obtain ⟨xs, hx9, hz9, m', hm', w9⟩ := hNN _ _ n9
      refine wpAny_bind (wpAny_mono (mt_append (X := blk X N' scope cl s3.heap.objs.size s3 (upd H1 s2.heap.objs.size (.lst [])) fp) _ s9 σ8 H9 (.ref s2.heap.objs.size) [y] (.ref s2.heap.objs.size) [yv] (fun _ H' => W (i + 1) m' H') I9 rfl (.cons r9 .nil) ⟨_, xs, y, rfl, rfl, hx9, hz9, w9⟩) (fun _ s10 h10 => ?_) fun _ _ z => z.elim)
      obtain ⟨_, H10, I10, _, w10⟩ := h10
      refine wpAny_pure (wpAny_pure ⟨rfl, m', hm', i + 1, σ8, H10, I10.unpinned, ?_, T.keep _ _ _ st7 fun b hb o e => (I10.pin (b, o) (List.mem_append_right _ (List.mem_append_right _ (mem_pinsAt hb e)))).1, fun b hb => ?_, w10⟩)
      · exact kp8.get
      · obtain ⟨o, e, d⟩ := T.obj _ _ st7 b hb
        exact (I10.pin (b, o) (List.mem_append_right _ (List.mem_append_right _ (mem_pinsAt hb e)))).2.1
  have e5 : s3.heap.objs.size = (s2.heap.push { cls := .type "list", data := .seq ([] : List Value).toArray }).objs.size := by rw [e3]
  rw [e5] at loop
  exact codeAny_compStart_list (loop _ rfl) (T.self X.A 0 _ _ _ st3 (loop _ rfl))
end
end L2

/-! MY RULES: a method by the object's own class; data (ints, texts, tuples, lists within one another) and their ==; texts; comprehensions over lists and tuples. -/
namespace L2
open PySem PySem.Spec PyProof.Rows
/-! ### o.m(..), the class and the method found where the object stands -/
section
variable {X : Cx} {m : Str} {pos apos : Pos} {e o : Expr} {es : List Expr} {ta : TE} {t : TA}
def tMethD (X : Cx) (m : Str) (ta : TE) (t : TA) : TE := fun σ H Q => ta σ H fun x H1 => ∃ (a C dx : Addr) (fs : List (Str × V)) (k : Nat) (f : Addr) (fd : FuncData) (ps : List Str) (sp : Sp), x = .ref a ∧ H1 a = some (.ins C dx fs) ∧ Cls X.K C ∧ Meth X.K C m f ∧ fs.lookup m = none ∧
  FnOk X.prog X.w X.K X.mg X.base CX0 k f fd ps sp ∧ Room k X.A ∧ Binds X.K fd ps [] ∧ t σ H1 fun vs H2 => sp (x :: vs) H2 Q E0
theorem pe_methD {pl : Sem Bool} (he : PE X o ta) (ha : PA X (e :: es) t)
    (hst : starEach (e :: es) X.env = (false, eval e X.env) :: starEach es X.env := by rfl) (hpl : (backTo pos (starEach es X.env)).any (·.1) = false := by rfl)
    (ht : eval (.Call (.Attribute o m apos) (e :: es) [] pos) X.env = (do
      let ov ← eval o X.env
      standAt apos.atName
      let (f, first) ← holding [ov] (getMethod ov m pl)
      callWith pos f first (backTo pos (starEach (e :: es) X.env)) (backToKw pos (keywordEach [] X.env))) := by rfl) :
    PE X (.Call (.Attribute o m apos) (e :: es) [] pos) (tMethD X m ta t) := by
  intro pins s σ H Q I h
  refine PySem.W.methodCall_KW (pl := pl) (thn (he pins s σ H _ I h) fun u s1 ⟨x, H1, I1, rx, a, C, dx, fs, k, f, fd, ps, sp, ex, ea, c, hm, l, F, hr, hb, q⟩ => ?_) ht
  subst ex
  obtain rfl : u = Value.ref a := rx
  refine getmeth_ok I1 ea c hm l ?_
  refine PySem.W.callWith_K (first := [.ref a]) (h₀ := X.base) I.ok.mod.kin hm.kp (thn (ha pos pins s1 σ H1 _ I1 q) fun us s2 ⟨vs, H2, I2, r, q2⟩ => ⟨I2.kIn, ?_⟩) hst hpl
  exact run_fn (us := .ref a :: us) (vs := .ref a :: vs) (dvs := []) F hr hb .nil pass0 I2 (.cons rfl r) (by rw [List.append_nil]; exact q2)
end
/-! ### data -/
mutual
inductive Rep (H : Hp) : V → PyData → Prop
  | non : Rep H .non .none
  | bl (b : Bool) : Rep H (.bl b) (.bool b)
  | int (i : Int) : Rep H (.int i) (.int i)
  | str (x : Str) : Rep H (.str x) (.str x)
  | lst {p : Addr} {xs : List V} {ds : List PyData} : H p = some (.lst xs) → Reps H xs ds → Rep H (.ref p) (.list ds)
  | tup {p : Addr} {xs : List V} {ds : List PyData} : H p = some (.tup xs) → Reps H xs ds → Rep H (.ref p) (.tuple ds)
inductive Reps (H : Hp) : List V → List PyData → Prop
  | nil : Reps H [] []
  | cons {v : V} {vs : List V} {d : PyData} {ds : List PyData} : Rep H v d → Reps H vs ds → Reps H (v :: vs) (d :: ds)
end
mutual
theorem Rep.imp {H H' : Hp} (f : ∀ p o, H p = some o → H' p = some o) : ∀ {v : V} {d : PyData}, Rep H v d → Rep H' v d
  | _, _, .non => .non
  | _, _, .bl b => .bl b
  | _, _, .int i => .int i
  | _, _, .str x => .str x
  | _, _, .lst e r => .lst (f _ _ e) (Reps.imp f r)
  | _, _, .tup e r => .tup (f _ _ e) (Reps.imp f r)
theorem Reps.imp {H H' : Hp} (f : ∀ p o, H p = some o → H' p = some o) : ∀ {vs : List V} {ds : List PyData}, Reps H vs ds → Reps H' vs ds
  | _, _, .nil => .nil
  | _, _, .cons a r => .cons (Rep.imp f a) (Reps.imp f r)
end
theorem Rep.same {H H' : Hp} {v : V} {d : PyData} (h : Rep H v d) (s : Same H H') : Rep H' v d := h.imp s
theorem Reps.same {H H' : Hp} {v : List V} {d : List PyData} (h : Reps H v d) (s : Same H H') : Reps H' v d := h.imp s
theorem Reps.len {H : Hp} : ∀ {vs : List V} {ds : List PyData}, Reps H vs ds → vs.length = ds.length
  | _, _, .nil => rfl
  | _, _, .cons _ r => by rw [List.length_cons, List.length_cons, Reps.len r]
theorem Reps.snoc {H : Hp} {v : V} {d : PyData} (a : Rep H v d) : ∀ {vs : List V} {ds : List PyData}, Reps H vs ds → Reps H (vs ++ [v]) (ds ++ [d])
  | _, _, .nil => .cons a .nil
  | _, _, .cons b r => .cons b (Reps.snoc a r)
theorem Reps.strs {H : Hp} : ∀ xs : List Str, Reps H (xs.map V.str) (xs.map PyData.str)
  | [] => .nil
  | x :: r => .cons (.str x) (Reps.strs r)
section
variable {X : Cx} {pins : List (Addr × Obj)} {σ : St} {H : Hp} {s : Shared}
mutual
theorem rep_reads (I : Inv X pins σ H s) : ∀ {v : V} {d : PyData} {u : Value}, Rep H v d → RelV v u → ∃ as, Reads s.heap u d as
  | _, _, u, .non, r => by cases (show u = Value.none from r); exact ⟨_, .none⟩
  | _, _, u, .bl b, r => by cases (show u = Value.bool b from r); exact ⟨_, .bool b⟩
  | _, _, u, .int i, r => by obtain ⟨t, q⟩ := (show ∃ t, u = Value.int i t from r); cases q; exact ⟨_, .int i t⟩
  | _, _, u, .str x, r => by obtain ⟨t, q⟩ := (show ∃ t, u = Value.str x t from r); cases q; exact ⟨_, .str x t⟩
  | _, _, u, @Rep.lst _ p xs ds e q, r => by
    cases (show u = Value.ref p from r)
    obtain ⟨_, its, n, rv, ho⟩ := (show ObjOk X.prog X.w H s.heap p (.lst xs) from I.hok p _ e)
    obtain ⟨as, z⟩ := reps_reads I q rv
    exact ⟨_, Reads.list ho rfl rfl (by simpa using z)⟩
  | _, _, u, @Rep.tup _ p xs ds e q, r => by
    cases (show u = Value.ref p from r)
    obtain ⟨_, its, rv, o, ho, hc, n, hd⟩ := (show ObjOk X.prog X.w H s.heap p (.tup xs) from I.hok p _ e)
    obtain ⟨as, z⟩ := reps_reads I q rv
    exact ⟨_, Reads.tuple ho hc hd (by simpa using z)⟩
theorem reps_reads (I : Inv X pins σ H s) : ∀ {vs : List V} {ds : List PyData} {us : List Value}, Reps H vs ds → Vals vs us → ∃ as, ReadsAll s.heap us ds as
  | _, _, _, .nil, .nil => ⟨_, .nil⟩
  | _, _, _, .cons a r, .cons q rv => by
    obtain ⟨as, z⟩ := rep_reads I a q
    obtain ⟨bs, y⟩ := reps_reads I r rv
    exact ⟨_, .cons z y⟩
end
end
/-- == and != of data -/
def rEqD (neg : Bool) : R2 := fun x y H Q => ∃ d e, Rep H x d ∧ Rep H y e ∧ SeqAt.shaped d = true ∧ SeqAt.shaped e = true ∧ Q (.bl (if neg then !PyData.eqv d e else PyData.eqv d e)) H
section
variable {X : Cx}
theorem op_eqD (hu : X.A.units + 64 < cLine) : OpR X (compareOp .Eq) (rEqD false) := by
  intro pins s σ H x y v u Q I rx ry h
  obtain ⟨d, e, h1, h2, s1, s2, q⟩ := h
  obtain ⟨as, r1⟩ := rep_reads I h1 rx
  obtain ⟨bs, r2⟩ := rep_reads I h2 ry
  exact eq_dataH r1 r2 s1 s2 hu ⟨.bl (PyData.eqv d e), H, I, rfl, q⟩
theorem op_neD (hu : X.A.units + 64 < cLine) : OpR X (compareOp .NotEq) (rEqD true) := by
  intro pins s σ H x y v u Q I rx ry h
  obtain ⟨d, e, h1, h2, s1, s2, q⟩ := h
  obtain ⟨as, r1⟩ := rep_reads I h1 rx
  obtain ⟨bs, r2⟩ := rep_reads I h2 ry
  exact ne_dataH r1 r2 s1 s2 hu ⟨.bl (!PyData.eqv d e), H, I, rfl, q⟩
/-! ### texts -/
/-- s[lo:hi] -/
def rSlS : V → Option Int → Option Int → Hp → VK → Prop := fun x lo hi H Q => ∃ z, x = .str z ∧ z.length ≤ sizeLine ∧ Q (.str (Txt.slice z lo hi)) H
theorem sl_str : SlR X rSlS := by
  intro pins s σ H x v vl vu lo hi sl Q I rx hs pl pu h
  obtain ⟨z, rfl, hz, q⟩ := h
  obtain ⟨t, rfl⟩ := (show ∃ t, v = Value.str z t from rx)
  refine ⟨"str", _, F.slot_str_getitem.lookup, typeIs_str _ _ _, ?_⟩
  obtain ⟨ob, ho, hc, hd⟩ := hs
  have fin : ∀ t' k, EP X pins σ Q (.str (Txt.slice z lo hi) t') { s with toks := k } := fun t' k => ⟨.str (Txt.slice z lo hi), H, I.tok k, ⟨t', rfl⟩, q⟩
  cases pl with
  | none =>
    cases pu with
    | none => exact wpAny_getItem_str_slice (l := none) (u := none) (st := none) ⟨ob, ho, hc, hd⟩ rfl (post_val_or_str ⟨Nat.le_trans (Txt.slice_le z _ _) hz, fin⟩)
    | int j uj => exact wpAny_getItem_str_slice (l := none) (u := some (j, uj)) (st := none) ⟨ob, ho, hc, hd⟩ rfl (post_val_or_str ⟨Nat.le_trans (Txt.slice_le z _ _) hz, fin⟩)
  | int i ui =>
    cases pu with
    | none => exact wpAny_getItem_str_slice (l := some (i, ui)) (u := none) (st := none) ⟨ob, ho, hc, hd⟩ rfl (post_val_or_str ⟨Nat.le_trans (Txt.slice_le z _ _) hz, fin⟩)
    | int j uj => exact wpAny_getItem_str_slice (l := some (i, ui)) (u := some (j, uj)) (st := none) ⟨ob, ho, hc, hd⟩ rfl (post_val_or_str ⟨Nat.le_trans (Txt.slice_le z _ _) hz, fin⟩)
/-- s.find(t) -/
def rFind : V → List V → Hp → VK → Prop := fun x vs H Q => ∃ z y, x = .str z ∧ vs = [.str y] ∧ Q (.int (Txt.find z y)) H
theorem mt_find : MtR X "str.find" rFind := by
  intro pins s σ H x xs v us Q I rx rv h
  obtain ⟨z, y, rfl, rfl, q⟩ := h
  obtain ⟨t, rfl⟩ := (show ∃ t, v = Value.str z t from rx)
  obtain ⟨u, rfl, ru⟩ := vals1 rv
  obtain ⟨t', rfl⟩ := (show ∃ t, u = Value.str y t from ru)
  exact SC.find ⟨.int (Txt.find z y), H, I.tok _, ⟨_, rfl⟩, q⟩
end
/-! ### comprehensions -/
theorem clok_none {X : Cx} {scope : Scope} (hk : scope.kind = .function) (hn : ∀ y ∈ scope.names, y.2 ≠ .free ∧ y.2 ≠ .cell) (hl : ∀ y ∈ scope.names, y.2 = .local → scope.names.lookup y.1 = some .local) : ClOk X scope [] where
  eq := closureFor_none fun y hy => (hn y hy).1
  sub := fun x c h => by cases h
  has := fun x h => by
    exfalso
    have e : (relabel scope X.env).names = scope.names := map_eq_self fun y hy => by
      obtain ⟨n, k⟩ := y
      have z := (hn _ hy).1
      have z' : (k == NameKind.free) = false := by simpa using z
      simp [z']
    rw [e] at h
    have mem : ∀ {k : NameKind}, scope.names.lookup x = some k → (x, k) ∈ scope.names := fun {k} q => by
      generalize scope.names = l at q
      induction l with
      | nil => cases q
      | cons a r ih =>
        obtain ⟨n, k'⟩ := a
        rw [List.lookup_cons] at q
        split at q
        · rename_i hb
          have hb' : x = n := by simpa using hb
          cases q
          subst hb'
          exact .head _
        · exact .tail _ (ih q)
    rcases h with h | h
    · exact (hn _ (mem h)).2 rfl
    · exact (hn _ (mem h)).1 rfl
  kind := hk
  ncell := fun y hy => (hn y hy).2
  names := hl
theorem ixok_none {X : Cx} {N' : List Str} {scope : Scope} {n : Nat} (h : n = N'.length) : IxOk X N' scope (List.replicate n none) := ⟨by rw [List.length_replicate]; exact h, fun i j e => by
  rw [List.getElem?_replicate] at e
  split at e <;> cases e⟩
section
variable {K : PySem.W.Frag} {a D : Addr} {xs : List V} {g : TG} {te : TE} {Q : VK} {σ₀ : St} {H : Hp}
theorem comp_list (Pv : Nat → List V → Hp → Prop) (h0 : Pv 0 [] (upd H D (.lst []))) (hl : ∀ i ys H, Pv i ys H → SqL K H a xs)
    (hs : ∀ i x ys H, xs[i]? = some x → Pv i ys H → g x σ₀ H fun σ4 H4 => StKeep σ₀ σ4 ∧ te σ4 H4 fun y H5 => H5 D = some (.lst ys) ∧ ys.length < sizeLine ∧ Pv (i + 1) (ys ++ [y]) (upd H5 D (.lst (ys ++ [y])))) (hd : ∀ ys H, Pv xs.length ys H → Q (.ref D) H) :
    ∃ W : Nat → Nat → Hp → Prop, (∃ m, W 0 m (upd H D (.lst []))) ∧ ∀ i m H2, W i m H2 →
      ((Itl K a).stop i H2 ∧ Q (.ref D) H2) ∨ ((Itl K a).go i H2 ∧ ∃ N : VK, (∀ y H5, N y H5 → ∃ xs, H5 D = some (.lst xs) ∧ xs.length < sizeLine ∧ ∃ m', m' < m ∧ W (i + 1) m' (upd H5 D (.lst (xs ++ [y])))) ∧
        ∀ x H3, (Itl K a).yld i H2 x H3 → g x σ₀ H3 fun σ4 H4 => StKeep σ₀ σ4 ∧ te σ4 H4 N) := by
  refine ⟨fun i m H => m = xs.length - i ∧ i ≤ xs.length ∧ ∃ ys, Pv i ys H, ⟨xs.length, by simp, Nat.zero_le _, [], h0⟩, ?_⟩
  rintro i m H2 ⟨rfl, hi, ys, p⟩
  have q := hl i ys H2 p
  by_cases hlt : i < xs.length
  · refine .inr ⟨⟨xs, xs[i], q, by simp [hlt]⟩, fun y H5 => H5 D = some (.lst ys) ∧ ys.length < sizeLine ∧ Pv (i + 1) (ys ++ [y]) (upd H5 D (.lst (ys ++ [y]))), fun y H5 n => ⟨ys, n.1, n.2.1, xs.length - (i + 1), by omega, rfl, hlt, _, n.2.2⟩, fun x H3 z => ?_⟩
    obtain ⟨e, z⟩ := z
    subst e
    exact hs i x ys _ (z xs q) p
  · have e : i = xs.length := by omega
    subst e
    exact .inl ⟨⟨xs, q, Nat.le_refl _⟩, hd ys H2 p⟩
theorem comp_tup (Pv : Nat → List V → Hp → Prop) (h0 : Pv 0 [] (upd H D (.lst []))) (hl : ∀ i ys H, Pv i ys H → SqT K H a xs)
    (hs : ∀ i x ys H, xs[i]? = some x → Pv i ys H → g x σ₀ H fun σ4 H4 => StKeep σ₀ σ4 ∧ te σ4 H4 fun y H5 => H5 D = some (.lst ys) ∧ ys.length < sizeLine ∧ Pv (i + 1) (ys ++ [y]) (upd H5 D (.lst (ys ++ [y])))) (hd : ∀ ys H, Pv xs.length ys H → Q (.ref D) H) :
    ∃ W : Nat → Nat → Hp → Prop, (∃ m, W 0 m (upd H D (.lst []))) ∧ ∀ i m H2, W i m H2 →
      ((Itt K a).stop i H2 ∧ Q (.ref D) H2) ∨ ((Itt K a).go i H2 ∧ ∃ N : VK, (∀ y H5, N y H5 → ∃ xs, H5 D = some (.lst xs) ∧ xs.length < sizeLine ∧ ∃ m', m' < m ∧ W (i + 1) m' (upd H5 D (.lst (xs ++ [y])))) ∧
        ∀ x H3, (Itt K a).yld i H2 x H3 → g x σ₀ H3 fun σ4 H4 => StKeep σ₀ σ4 ∧ te σ4 H4 N) := by
  refine ⟨fun i m H => m = xs.length - i ∧ i ≤ xs.length ∧ ∃ ys, Pv i ys H, ⟨xs.length, by simp, Nat.zero_le _, [], h0⟩, ?_⟩
  rintro i m H2 ⟨rfl, hi, ys, p⟩
  have q := hl i ys H2 p
  by_cases hlt : i < xs.length
  · refine .inr ⟨⟨xs, xs[i], q, by simp [hlt]⟩, fun y H5 => H5 D = some (.lst ys) ∧ ys.length < sizeLine ∧ Pv (i + 1) (ys ++ [y]) (upd H5 D (.lst (ys ++ [y]))), fun y H5 n => ⟨ys, n.1, n.2.1, xs.length - (i + 1), by omega, rfl, hlt, _, n.2.2⟩, fun x H3 z => ?_⟩
    obtain ⟨e, z⟩ := z
    subst e
    exact hs i x ys _ (z xs q) p
  · have e : i = xs.length := by omega
    subst e
    exact .inl ⟨⟨xs, q, Nat.le_refl _⟩, hd ys H2 p⟩
end
end L2

/-! MY RULES: a comprehension that takes one name over; range(a, b, c). -/
namespace L2
open PySem PySem.Spec PyProof.Rows
theorem lookup_mem {x : Str} {k : NameKind} : ∀ {l : List (Str × NameKind)}, l.lookup x = some k → (x, k) ∈ l
  | [], q => by cases q
  | (n, k') :: r, q => by
    rw [List.lookup_cons] at q
    split at q
    · rename_i hb
      have hb' : x = n := by simpa using hb
      cases q
      subst hb'
      exact .head _
    · exact .tail _ (lookup_mem q)
theorem clok_one {X : Cx} {scope : Scope} {x : Str} {c : Addr} (he : closureFor scope X.env = pure [(x, c)]) (hc : X.env.cells.lookup x = some c) (hk : scope.kind = .function) (hn : ∀ y ∈ scope.names, y.2 ≠ .cell ∧ (y.2 = .free → y.1 = x))
    (hl : ∀ y ∈ scope.names, y.2 = .local → scope.names.lookup y.1 = some .local) : ClOk X scope [(x, c)] where
  eq := he
  sub := fun y d h => by
    rw [List.lookup_cons] at h
    split at h
    · rename_i hb
      have hb' : y = x := by simpa using hb
      cases h
      subst hb'
      exact hc
    · cases h
  has := fun y h => by
    have key : y = x := by
      have m : ∃ k, (y, k) ∈ (relabel scope X.env).names ∧ (k = .cell ∨ k = .free) := h.elim (fun z => ⟨_, lookup_mem z, .inl rfl⟩) fun z => ⟨_, lookup_mem z, .inr rfl⟩
      obtain ⟨k, hm, hk⟩ := m
      obtain ⟨⟨n, k0⟩, h0, e⟩ := List.mem_map.mp hm
      dsimp only at e
      by_cases hf : k0 = .free
      · have en : n = y := by
          split at e
          · exact congrArg Prod.fst e
          · exact congrArg Prod.fst e
        rw [← en]
        exact (hn _ h0).2 hf
      · have hb : (k0 == NameKind.free) = false := by simpa using hf
        simp only [hb, Bool.false_and, Bool.false_eq_true, if_false] at e
        have e2 : k0 = k := congrArg Prod.snd e
        subst e2
        rcases hk with hk | hk
        · exact absurd hk (hn _ h0).1
        · exact absurd hk hf
    subst key
    exact ⟨c, by simp [List.lookup_cons]⟩
  kind := hk
  ncell := fun y hy => (hn y hy).1
  names := hl
theorem ixok_last {X : Cx} {N0 : List Str} {x : Str} {scope : Scope} {j : Nat} (hN : X.N[j]? = some x) (h1 : X.env.scope.names.lookup x = some .cell ∨ X.env.scope.names.lookup x = some .free)
    (h2 : (relabel scope X.env).names.lookup x = some .cell ∨ (relabel scope X.env).names.lookup x = some .free) : IxOk X (N0 ++ [x]) scope (List.replicate N0.length none ++ [some j]) := by
  refine ⟨by simp, fun i k e => ?_⟩
  by_cases hi : i < N0.length
  · rw [List.getElem?_append_left (by simpa using hi), List.getElem?_replicate] at e
    split at e <;> cases e
  · have hi' : i = N0.length := by
      have := (List.getElem?_eq_some_iff.mp e).1
      simp at this
      omega
    subst hi'
    rw [List.getElem?_append_right (by simp)] at e
    have ek : j = k := by simpa using e
    subst ek
    exact ⟨x, by simp, hN, h1, h2⟩
/-! ### range(a, b, c) -/
end L2

/-! MY RULES: a part of the heap; data in a part; lookups of attributes; what is walked may be a list or a tuple. -/
set_option linter.all false
namespace L2
open PySem PySem.Spec PyProof.Rows
/-! ### heaps -/
theorem upd_keep {H : Hp} {p a : Addr} {o u : HO} (hp : H p = none) (h : H a = some u) : upd H p o a = some u := by
  rw [upd_ne (ne_of_none h hp)]
  exact h
theorem same_fresh {H H' : Hp} {l : Addr} {o : HO} (s : Same H H') (hl : H l = none) : Same H (upd H' l o) := fun b u e => by
  rw [upd_ne (ne_of_none e hl)]
  exact s b u e
theorem same_new {H : Hp} {l : Addr} {o : HO} (hl : H l = none) : Same H (upd H l o) := same_fresh (Same.refl H) hl
theorem same_made {H : Hp} {x dx : Addr} {o u v : HO} (hx : H x = none) (hd : H dx = none) : Same H (upd (upd (upd H dx o) x u) x v) := same_fresh (same_fresh (same_new hd) hx) hx
theorem line_le {n : Nat} (h : n ≤ 1000000) : n ≤ sizeLine := by rw [sizeLine_eq]; omega
theorem line_lt {n : Nat} (h : n ≤ 1000000) : n < sizeLine := by rw [sizeLine_eq]; omega
theorem Paired.snoc {α β : Type} {F : α → β → Prop} {a : α} {b : β} (h : F a b) : ∀ {xs : List α} {ys : List β}, Paired F xs ys → Paired F (xs ++ [a]) (ys ++ [b])
  | _, _, .nil => .cons h .nil
  | _, _, .cons r t => .cons r (Paired.snoc h t)
/-- the part of the heap that S says -/
noncomputable def restr (S : Addr → Prop) (H : Hp) : Hp := fun a => @ite _ (S a) (Classical.propDecidable _) (H a) none
theorem restr_in {S : Addr → Prop} {H : Hp} {a : Addr} (h : S a) : restr S H a = H a := by unfold restr; rw [if_pos h]
theorem restr_out {S : Addr → Prop} {H : Hp} {a : Addr} (h : ¬ S a) : restr S H a = none := by unfold restr; rw [if_neg h]
theorem restr_some {S : Addr → Prop} {H : Hp} {a : Addr} {o : HO} (h : restr S H a = some o) : S a ∧ H a = some o := by
  by_cases hs : S a
  · rw [restr_in hs] at h; exact ⟨hs, h⟩
  · rw [restr_out hs] at h; cases h
theorem restr_mk {S : Addr → Prop} {H : Hp} {a : Addr} {o : HO} (hs : S a) (h : H a = some o) : restr S H a = some o := by rw [restr_in hs]; exact h
theorem restr_sub {S : Addr → Prop} {H : Hp} : Same (restr S H) H := fun _ _ e => (restr_some e).2
theorem restr_same {S : Addr → Prop} {H H' : Hp} (s : Same H H') : Same (restr S H) (restr S H') := fun b o e => restr_mk (restr_some e).1 (s _ _ (restr_some e).2)
theorem restr_imp {S S' : Addr → Prop} {H H' : Hp} (s : Same H H') (h : ∀ a o, H a = some o → S a → S' a) : Same (restr S H) (restr S' H') := fun b o e => restr_mk (h _ _ (restr_some e).2 (restr_some e).1) (s _ _ (restr_some e).2)
theorem restr_upd {S : Addr → Prop} {H H' : Hp} {l : Addr} {o : HO} (s : Same (restr S H) (restr S H')) (h : ¬ S l) : Same (restr S H) (restr S (upd H' l o)) := fun b u e => by
  have q := restr_some (s _ _ e)
  have hne : b ≠ l := fun z => h (by rw [← z]; exact q.1)
  exact restr_mk q.1 (by rw [upd_ne hne]; exact q.2)
/-! ### data -/
mutual
theorem Rep.imp2 {H H' : Hp} (f : ∀ p xs, H p = some (.lst xs) → H' p = some (.lst xs)) (g : ∀ p xs, H p = some (.tup xs) → H' p = some (.tup xs)) : ∀ {v : V} {d : PyData}, Rep H v d → Rep H' v d
  | _, _, .non => .non
  | _, _, .bl b => .bl b
  | _, _, .int i => .int i
  | _, _, .str x => .str x
  | _, _, .lst e r => .lst (f _ _ e) (Reps.imp2 f g r)
  | _, _, .tup e r => .tup (g _ _ e) (Reps.imp2 f g r)
theorem Reps.imp2 {H H' : Hp} (f : ∀ p xs, H p = some (.lst xs) → H' p = some (.lst xs)) (g : ∀ p xs, H p = some (.tup xs) → H' p = some (.tup xs)) : ∀ {vs : List V} {ds : List PyData}, Reps H vs ds → Reps H' vs ds
  | _, _, .nil => .nil
  | _, _, .cons a r => .cons (Rep.imp2 f g a) (Reps.imp2 f g r)
end
/-- an instance is changed: no matter to data -/
theorem Rep.ins {H : Hp} {v : V} {d : PyData} {p C dx : Addr} {fs : List (Str × V)} {o : HO} (h : Rep H v d) (e : H p = some (.ins C dx fs)) : Rep (upd H p o) v d :=
  h.imp2 (fun q xs z => by rw [upd_ne (ne_of z e (by intro w; cases w))]; exact z) (fun q xs z => by rw [upd_ne (ne_of z e (by intro w; cases w))]; exact z)
section
variable {G : Hp} {v : V} {vs : List V} {d : PyData} {ds : List PyData}
theorem rep_tup (h : Rep G v (.tuple ds)) : ∃ p xs, v = .ref p ∧ G p = some (.tup xs) ∧ Reps G xs ds := by
  cases h with
  | tup e r => exact ⟨_, _, rfl, e, r⟩
theorem rep_lst (h : Rep G v (.list ds)) : ∃ p xs, v = .ref p ∧ G p = some (.lst xs) ∧ Reps G xs ds := by
  cases h with
  | lst e r => exact ⟨_, _, rfl, e, r⟩
theorem rep_str {x : Str} (h : Rep G v (.str x)) : v = .str x := by cases h; rfl
theorem rep_int {x : Int} (h : Rep G v (.int x)) : v = .int x := by cases h; rfl
theorem reps_cons (h : Reps G vs (d :: ds)) : ∃ u r, vs = u :: r ∧ Rep G u d ∧ Reps G r ds := by
  cases h with
  | cons a r => exact ⟨_, _, rfl, a, r⟩
theorem reps_nil (h : Reps G vs []) : vs = [] := by cases h; rfl
end
mutual
def cnt : PyData → Nat
  | .none => 1
  | .bool _ => 1
  | .int _ => 1
  | .str _ => 1
  | .list xs => cntAll xs + 1
  | .tuple xs => cntAll xs + 1
  | .dict _ => 1
def cntAll : List PyData → Nat
  | [] => 0
  | x :: xs => cnt x + cntAll xs
end
theorem cnt_pos (d : PyData) : 1 ≤ cnt d := by cases d <;> simp [cnt]
theorem cnt_len : ∀ ds : List PyData, ds.length ≤ cntAll ds
  | [] => by simp [cntAll]
  | d :: r => by
    have := cnt_len r
    have := cnt_pos d
    simp only [cntAll, List.length_cons]
    omega
theorem cnt_at : ∀ {ds : List PyData} {i : Nat} {d : PyData}, ds[i]? = some d → cnt d ≤ cntAll ds ∧ PyData.depth d ≤ PyData.depthAll ds
  | [], _, _, e => by simp at e
  | d :: r, 0, _, e => by
    simp at e; subst e
    simp only [cntAll, PyData.depthAll]
    omega
  | x :: r, i + 1, d, e => by
    have := cnt_at (ds := r) (i := i) (d := d) (by simpa using e)
    simp only [cntAll, PyData.depthAll]
    omega
theorem Reps.get2 {H : Hp} : ∀ {vs : List V} {ds : List PyData} {i : Nat} {v : V}, Reps H vs ds → vs[i]? = some v → ∃ d, ds[i]? = some d ∧ Rep H v d
  | _, _, _, _, .nil, e => by simp at e
  | _, _, 0, _, .cons a _, e => by simp at e; subst e; exact ⟨_, rfl, a⟩
  | _, _, i + 1, v, .cons _ r, e => by
    obtain ⟨d, h1, h2⟩ := Reps.get2 (i := i) (v := v) r (by simpa using e)
    exact ⟨d, by simpa using h1, h2⟩
/-! ### attributes -/
theorem lk0 {k : Str} {v : V} {r : List (Str × V)} : List.lookup k ((k, v) :: r) = some v := by simp [List.lookup_cons]
theorem lk1 {k j : Str} {v : V} {r : List (Str × V)} {o : Option V} (h : (k == j) = false) (e : List.lookup k r = o) : List.lookup k ((j, v) :: r) = o := by
  rw [List.lookup_cons, h]
  exact e
theorem putF_nil {f : Str} {v : V} : putF f v [] = [(f, v)] := rfl
theorem putF_ne {f g : Str} {v x : V} {r : List (Str × V)} (h : ¬ g = f) : putF f v ((g, x) :: r) = (g, x) :: putF f v r := by rw [putF, if_neg h]
/-! ### a test that is known -/
theorem iteD {c A B : Prop} [Decidable c] (h1 : c → A) (h2 : ¬ c → B) : if decide c = true then A else B :=
  ite2 (fun h => h1 (of_decide_eq_true h)) (fun h => h2 fun hc => h (decide_eq_true hc))
theorem iteND {c A B : Prop} [Decidable c] (h1 : ¬ c → A) (h2 : c → B) : if (!decide c) = true then A else B :=
  ite2 (fun h => h1 fun hc => by rw [decide_eq_true hc] at h; cases h) (fun h => h2 (by
    by_cases hc : c
    · exact hc
    · rw [decide_eq_false hc] at h; exact absurd rfl h))
/-! ### a list or a tuple is walked -/
section
variable {X : Cx}
theorem pi_seq {tg l : Expr} {tl : TE} (hl : PE X l tl) : PI X tg l (fun σ H R => iList X.K tl σ H R ∨ iTup X.K tl σ H R) := fun pins s σ H R I h => h.elim (pi_list hl pins s σ H R I) (pi_tup hl pins s σ H R I)
end
/-! ### atI -/
theorem atI_ok {α : Type} {xs : List α} {i : Int} (h0 : 0 ≤ i) (h1 : i < xs.length) : ∃ v, xs[i.toNat]? = some v ∧ atI xs i = some v := by
  obtain ⟨n, rfl⟩ := Int.eq_ofNat_of_zero_le h0
  have hn : n < xs.length := by omega
  exact ⟨xs[n], by simp [hn], atI_nat (by simp [hn])⟩
theorem at_mapV {α : Type} {f : α → V} {xs : List α} {i : Int} (h0 : 0 ≤ i) (h1 : i < xs.length) : ∃ x, xs[i.toNat]? = some x ∧ atI (xs.map f) i = some (f x) := by
  obtain ⟨n, rfl⟩ := Int.eq_ofNat_of_zero_le h0
  have hn : n < xs.length := by omega
  exact ⟨xs[n], by simp [hn], atI_nat (by simp [hn])⟩
/-! ### comprehensions: the end is said of the heap alone -/
section
variable {K : PySem.W.Frag} {a D : Addr} {xs : List V} {g : TG} {te : TE} {QD : Hp → Prop} {σ₀ : St} {H : Hp}
theorem comp_listQ (Pv : Nat → List V → Hp → Prop) (h0 : Pv 0 [] (upd H D (.lst []))) (hl : ∀ i ys H, Pv i ys H → SqL K H a xs)
    (hs : ∀ i x ys H, xs[i]? = some x → Pv i ys H → g x σ₀ H fun σ4 H4 => StKeep σ₀ σ4 ∧ te σ4 H4 fun y H5 => H5 D = some (.lst ys) ∧ ys.length < sizeLine ∧ Pv (i + 1) (ys ++ [y]) (upd H5 D (.lst (ys ++ [y])))) (hd : ∀ ys H, Pv xs.length ys H → QD H) :
    ∃ W : Nat → Nat → Hp → Prop, (∃ m, W 0 m (upd H D (.lst []))) ∧ ∀ i m H2, W i m H2 →
      ((Itl K a).stop i H2 ∧ QD H2) ∨ ((Itl K a).go i H2 ∧ ∃ N : VK, (∀ y H5, N y H5 → ∃ xs, H5 D = some (.lst xs) ∧ xs.length < sizeLine ∧ ∃ m', m' < m ∧ W (i + 1) m' (upd H5 D (.lst (xs ++ [y])))) ∧
        ∀ x H3, (Itl K a).yld i H2 x H3 → g x σ₀ H3 fun σ4 H4 => StKeep σ₀ σ4 ∧ te σ4 H4 N) := comp_list (Q := fun _ H => QD H) Pv h0 hl hs hd
theorem comp_tupQ (Pv : Nat → List V → Hp → Prop) (h0 : Pv 0 [] (upd H D (.lst []))) (hl : ∀ i ys H, Pv i ys H → SqT K H a xs)
    (hs : ∀ i x ys H, xs[i]? = some x → Pv i ys H → g x σ₀ H fun σ4 H4 => StKeep σ₀ σ4 ∧ te σ4 H4 fun y H5 => H5 D = some (.lst ys) ∧ ys.length < sizeLine ∧ Pv (i + 1) (ys ++ [y]) (upd H5 D (.lst (ys ++ [y])))) (hd : ∀ ys H, Pv xs.length ys H → QD H) :
    ∃ W : Nat → Nat → Hp → Prop, (∃ m, W 0 m (upd H D (.lst []))) ∧ ∀ i m H2, W i m H2 →
      ((Itt K a).stop i H2 ∧ QD H2) ∨ ((Itt K a).go i H2 ∧ ∃ N : VK, (∀ y H5, N y H5 → ∃ xs, H5 D = some (.lst xs) ∧ xs.length < sizeLine ∧ ∃ m', m' < m ∧ W (i + 1) m' (upd H5 D (.lst (xs ++ [y])))) ∧
        ∀ x H3, (Itt K a).yld i H2 x H3 → g x σ₀ H3 fun σ4 H4 => StKeep σ₀ σ4 ∧ te σ4 H4 N) := comp_tup (Q := fun _ H => QD H) Pv h0 hl hs hd
end
/-! ### isinstance of an own class -/
end L2

/-! MY RULES: dict(d), for k in d, == and != of two dicts that hold the same, a comprehension with a test. -/
set_option linter.all false
namespace L2
open PySem PySem.Spec PyProof.Rows
section
variable {X : Cx}
/-! ### frozen while it is walked -/
theorem Inv.frozen {pins : List (Addr × Obj)} {σ : St} {H : Hp} {s : Shared} {a : Addr} {o : Obj} {kvs : List (Key × V)} (I : Inv X pins σ H s) (ha : H a = some (.dK kvs)) (ho : s.heap.get? a = some o) : Inv X pins σ (upd H a (.frz o (.dK kvs))) s :=
  I.write (t' := s.toks) (h' := s.heap) (e := a) (by rw [ha]; trivial) (.inl rfl) (fun _ _ _ e => e) ⟨o, ho⟩ ⟨ho, (show ObjOk X.prog X.w H s.heap a (.dK kvs) from I.hok a _ ha)⟩
theorem Inv.thaw {pins : List (Addr × Obj)} {σ : St} {H : Hp} {s : Shared} {a : Addr} {o : Obj} {u : HO} (I : Inv X pins σ H s) (ha : H a = some (.frz o u)) (hu : ∃ kvs, u = .dK kvs) (h0 : ∀ o' u', X.H₀ a ≠ some (.frz o' u')) : Inv X pins σ (upd H a u) s := by
  have nf : ∀ b, H b = none → upd H a u b = none := fun b e => by rw [upd_ne (fun z => by subst z; rw [ha] at e; cases e)]; exact e
  obtain ⟨kvs, rfl⟩ := hu
  refine ⟨I.ok, I.os, I.bare, ⟨I.base.keep, I.base.slot, fun b ob e n hx => nf b (I.base.free b ob e n hx), I.base.there, fun b xs e => ?_, fun b ob u' e => ?_, fun b ps e => ?_⟩, I.loc, I.cell, nf _ I.free, fun x c e => nf _ (I.freeC x c e),
    fun p hp => ⟨(I.pin p hp).1, nf _ (I.pin p hp).2.1, (I.pin p hp).2.2⟩, fun b v e => ?_, I.len⟩
  · have q := I.base.tups b xs e
    rw [upd_ne (ne_of q ha (by intro z; cases z))]; exact q
  · have q := I.base.frzs b ob u' e
    rw [upd_ne (fun z => by subst z; exact h0 _ _ e)]; exact q
  · obtain ⟨more, q⟩ := I.base.tbls b ps e
    exact ⟨more, by rw [upd_ne (ne_of q ha (by intro z; cases z))]; exact q⟩
  · by_cases hb : b = a
    · subst hb
      rw [upd_same] at e
      cases e
      obtain ⟨_, q⟩ := (show ObjOk X.prog X.w H s.heap b (.frz o (.dK kvs)) from I.hok b _ ha)
      exact q
    · rw [upd_ne hb] at e
      exact (I.hok b v e).stay (fun _ _ _ q => q) (fun c q => by rw [upd_ne (ne_of q ha (by intro z; cases z))]; exact q) fun c xs q => by rw [upd_ne (ne_of q ha (by intro z; cases z))]; exact q
/-- the rest, with the dict that was walked as it was -/
def tThaw (X : Cx) (t : TS) : TS := fun D σ H => ∃ a o kvs, H a = some (.frz o (.dK kvs)) ∧ (∀ o' u', X.H₀ a ≠ some (.frz o' u')) ∧ t D σ (upd H a (.dK kvs))
theorem pss_thaw {sts : List Stmt} {t : TS} (h : PSs X sts t) : PSs X sts (tThaw X t) := by
  intro pins s σ H D I hw
  obtain ⟨a, o, kvs, ha, h0, q⟩ := hw
  exact h pins s σ _ D (I.thaw ha ⟨kvs, rfl⟩ h0) q
def Itd (a : Addr) (o : Obj) (kvs : List (Key × V)) : It :=
  ⟨fun i H => H a = some (.frz o (.dK kvs)) ∧ i < kvs.length, fun i H x H' => H' = H ∧ ∃ k v, kvs[i]? = some (k, v) ∧ x = kV k, fun i H => H a = some (.frz o (.dK kvs)) ∧ i = kvs.length⟩
theorem is_kV {P : Program} {w : World} {k : Key} {u : Value} (h : (mixKind P w).is k u = true) : RelV (kV k) u := by
  rcases keyIs_shape (show keyIs k u = true from h) with ⟨i, t, rfl, rfl⟩ | ⟨x, t, rfl, rfl⟩
  · exact ⟨t, rfl⟩
  · exact ⟨t, rfl⟩
theorem KV.at {kvs : List (Key × V)} {vs : List (Key × Value)} : KV kvs vs → ∀ {i : Nat} {k : Key} {v : V}, kvs[i]? = some (k, v) → ∃ u, vs[i]? = some (k, u) ∧ RelV v u := by
  intro r
  unfold KV at r
  induction r with
  | nil => intro i k v e; simp at e
  | @cons p q ps qs h t ih =>
    intro i k v e
    cases i with
    | zero =>
      simp at e
      subst e
      obtain ⟨h1, h2⟩ := h
      obtain ⟨q1, q2⟩ := q
      cases h1
      exact ⟨q2, rfl, h2⟩
    | succ j =>
      obtain ⟨u, e1, e2⟩ := ih (i := j) (by simpa using e)
      exact ⟨u, by simpa using e1, e2⟩
end
theorem dict_ep {P : Program} {w : World} {H : Hp} {h : Heap} {a : Addr} {o : Obj} {kvs : List (Key × V)} {es : Array DictEntry} {ep : Nat} (ok : HOk P w H h) (ha : H a = some (.frz o (.dK kvs))) (ho : o.data = .dict es ep) :
    (a == sysModules) = false ∧ ∃ vs, KV kvs vs ∧ h.DictAt (mixKind P w) a vs ep := by
  obtain ⟨e1, hz, hs, vs, rel, o', es', ep', e2, c, d, r⟩ := (show ObjOk P w H h a (.frz o (.dK kvs)) from ok a _ ha)
  rw [e1] at e2
  cases e2
  rw [ho] at d
  cases d
  exact ⟨hs, vs, rel, o, es, e1, c, ho, r⟩
theorem turn_dict {P : Program} {w : World} {K : PySem.W.Frag} {tg : Expr} (it a : Addr) (o : Obj) (kvs : List (Key × V)) (es : Array DictEntry) (ep : Nat) (ho : o.data = .dict es ep) :
    Turn P w K tg (Itd a o kvs) [it] it (fun i h => h.IsKeyIter it a i kvs.length ep) where
  mem := by simp
  obj := fun i h st b hb => by
    have e : b = it := by simpa using hb
    subst e
    obtain ⟨ob, e, _, d⟩ := st
    exact ⟨ob, e, fun v z => by rw [d] at z; cases z⟩
  keep := fun i h h' st k => st.at fun ob e => k it (by simp) ob e
  item := by
    intro X hP hw hK hc i pins s σ H E I hf st hg
    subst hP hw hK
    obtain ⟨ha, hi⟩ := hg
    obtain ⟨f0, f1, f2, f3, f4, f5⟩ := hf it (by simp)
    obtain ⟨_, vs, rel, dd⟩ := dict_ep I.hok ha ho
    have hl := rel.length
    obtain ⟨⟨k, v⟩, hkv⟩ : ∃ p, kvs[i]? = some p := ⟨kvs[i], by simp [hi]⟩
    obtain ⟨u, hu, _⟩ := rel.at hkv
    rw [hl] at st
    refine wpAny_pyNext_dict_item st dd hu fun key h' hk hit sb => ?_
    have I1 : Inv X pins σ H { s with heap := h', toks := s.toks } := I.turned (t' := s.toks) (fun b ob hb e => (sb.2 b hb).trans e) f0 f1 f3 f4 f5
    obtain ⟨ob, e, c, d⟩ := id hit
    exact ⟨key, rfl, go_of (s := { s with heap := h' }) e c d (by decide) ⟨kV k, H, I1, is_kV hk, ⟨rfl, k, v, hkv, rfl⟩, by rw [hl]; exact hit, fun b hb => (hf b hb).1⟩⟩
  done := by
    intro X hP hw hK hc i pins s σ H E I hf st hg
    subst hP hw hK
    obtain ⟨ha, hi⟩ := hg
    obtain ⟨f0, f1, f2, f3, f4, f5⟩ := hf it (by simp)
    obtain ⟨_, vs, rel, dd⟩ := dict_ep I.hok ha ho
    have hl := rel.length
    rw [hl] at st
    exact wpAny_pyNext_dict_end (I.ok.hd hc) st dd (by simp; omega) fun h' eb => ⟨rfl, I.turned (t' := s.toks) (fun b ob hb e => eb b ob hb e) f0 f1 f3 f4 f5⟩
  self := fun _ _ _ _ _ st h => wpAny_pyIter_keyiter st h
def iDict (tl : TE) : TI := fun σ H R => tl σ H fun x H1 => ∃ a kvs, x = .ref a ∧ H1 a = some (.dK kvs) ∧ ∀ o, R (Itd a o kvs) (upd H1 a (.frz o (.dK kvs)))
theorem pi_dict {X : Cx} {tg l : Expr} {tl : TE} (hl : PE X l tl) : PI X tg l (iDict tl) := by
  intro pins s σ H R I h
  refine thn (hl pins s σ H _ I h) fun u s1 ⟨x, H1, I1, rx, a, kvs, ex, ha, q⟩ => ?_
  subst ex
  cases rx
  obtain ⟨hz, hs, vs, rel, o, es, ep, ho, hx, hd, r⟩ := dk_of I1.hok ha
  have dd : s1.heap.DictAt (mixKind X.prog X.w) a vs ep := ⟨o, es, ho, hx, hd, r⟩
  refine wpAny_pyIter_dict hs dd ?_
  have I2 : Inv X pins σ H1 { s1 with heap := s1.heap.push { cls := .type "dict_keyiterator", data := .fields #[.ref a, .int 0 0, .int vs.length 0, .int ep 0] }, toks := s1.toks } := I1.kept fun b ob e => Heap.get?_push_of_some _ e
  have I3 := I2.frozen ha (Heap.get?_push_of_some _ ho)
  refine ⟨_, [s1.heap.objs.size], _, _, _, rfl, I3, turn_dict _ a o kvs es ep hd, ?_, fun b hb => ?_, q o⟩
  · rw [rel.length]
    exact ⟨_, Heap.get?_push_size _ rfl, rfl, rfl⟩
  · have e : b = s1.heap.objs.size := by simpa using hb
    subst e
    refine I1.fpOk (Nat.le_refl _) ?_
    rw [upd_ne (Nat.ne_of_gt (I1.hok.lt ha))]
    exact I1.hok.fresh (Nat.le_refl _)
theorem same_thaw {H H2 : Hp} {a : Addr} {o : Obj} {u : HO} (ha : H a = some u) (s : Same (upd H a (.frz o u)) H2) : Same H (upd H2 a u) := fun b v e => by
  by_cases hb : b = a
  · subst hb
    rw [ha] at e
    cases e
    exact upd_same
  · rw [upd_ne hb]
    exact s b v (by rw [upd_ne hb]; exact e)
/-! ### two dicts that hold the same -/
section
variable {X : Cx}
end
end L2

/-! MY RULES: for k, v in d.items() with d of either kind of keys, d.setdefault, for c in text. -/
set_option linter.all false
set_option maxRecDepth 100000
namespace L2
open PySem PySem.Spec PyProof.Rows
section
variable {prog : Program} {w : World} {A : Around} {E : Value → Shared → Prop} {s : Shared}
theorem items_iter {v d : Addr} {od : Obj} {es : Array DictEntry} {ep : Nat} {Q : Value → Shared → Prop} (h1 : s.heap.IsItemsView v d) (h2 : s.heap.get? d = some od) (h3 : od.data = .dict es ep)
    (q : Q (.ref s.heap.objs.size) { s with heap := s.heap.push { cls := .type "dict_itemiterator", data := .fields #[.none, .bool false, .ref d, .int 0 0, .int es.size 0, .int ep 0, .none, .none] } }) :
    wpAny (model prog w) A (pyIter (.ref v)) Q E s := by
  obtain ⟨ov, g1, g2, g3⟩ := id h1
  refine wpAny_pyIter_slot h1.typeIs F.slot_dict_items_iter (wpAny_call_entry F.slot_dict_items_iter h1.typeIs F.entry_dict_items_iter ?_ (F.args_dict_items_iter_1 _)); unfold Builtin.«dict_items.__iter__»
  refine wpAny_bind (wpAny_pure (wpAny_bind ?_)); unfold Builtin.Dict_items.dictOf
  refine wpAny_bind (wpAny_field g1 g3 (x := .ref d) rfl (wpAny_pure (wpAny_bind ?_))); unfold Builtin.Dict_items.newIterator
  refine wpAny_bind (wpAny_dictEntries h2 h3 (wpAny_bind (wpAny_dictEpoch h2 h3 ?_)))
  simp only [show Builtin.Dict_items.ownsTuple "dict_itemiterator" = true by decide, if_true]
  refine wpAny_newObj_type (wpAny_pure ⟨_, rfl, "dict_itemiterator", _, ⟨_, Heap.get?_push_size _ rfl, rfl⟩, F.slot_dict_itemiterator_next.lookup, ?_⟩) (by
    simp only [sizeOk, Builtin.Dict_items.ownedTupleFields, List.size_toArray, List.length_append, List.length_cons, List.length_nil, sizeLine_eq]
    omega)
  simpa [rawInt, Builtin.Dict_items.ownedTupleFields] using q
theorem items_next {it d : Addr} {i n ep : Nat} {od : Obj} {es : Array DictEntry} {e : DictEntry} {x y : Value} {Q : Option Value → Shared → Prop}
    (h1 : IsItemIter s.heap it d i n ep x y) (h2 : s.heap.get? d = some od) (h3 : od.data = .dict es ep) (h4 : es.size = n) (h5 : es[i]? = some e)
    (q : ∀ h', IsItemIterOut h' it d (i + 1) n ep e.key e.val s.heap.objs.size → h'.get? s.heap.objs.size = some { cls := .type "tuple", data := .seq #[e.key, e.val] } →
      (∀ c u, c ≠ it → s.heap.get? c = some u → h'.get? c = some u) → Q (some (.ref s.heap.objs.size)) { s with heap := h' }) :
    wpAny (model prog w) A (pyNext (.ref it)) Q E s := by
  obtain ⟨hp, g, dr, tk, os⟩ := s
  have ty : Shared.TypeIs ⟨hp, g, dr, tk, os⟩ (.ref it) "dict_itemiterator" := ⟨_, h1, rfl⟩
  unfold pyNext
  refine wpAny_bind (wpAny_attempt (wpAny_callSpecial?_slot (name := Str.ofString "__next__") ty F.slot_dict_itemiterator_next (wpAny_call_entry F.slot_dict_itemiterator_next ty F.entry_dict_itemiterator_next ?_ (F.args_dict_itemiterator_next_1 _))))
  refine wpAny_bind (wpAny_pure (wpAny_bind (wpAny_bind ?_)))
  refine wpAny_bind (wpAny_typeNameOfWhole_itemiter ty (wpAny_pure (wpAny_bind (wpAny_fieldsOf h1 rfl ?_))))
  simp only [show Builtin.Dict_items.ownsTuple "dict_itemiterator" = true by decide, if_true]
  show wpAny _ _ (ite ((Value.ref d == Value.none) = true) _ _) _ _ _; rw [if_neg (show ¬ ((Value.ref d == Value.none) = true) from Bool.false_ne_true)]
  refine wpAny_bind (wpAny_pure (wpAny_bind (wpAny_dictEntries h2 h3 ?_)))
  rw [if_neg (by rw [h4]; simp)]
  refine wpAny_bind (wpAny_pure (wpAny_bind (wpAny_dictEpoch h2 h3 ?_)))
  rw [if_neg (by simp)]
  obtain ⟨lt, ee⟩ := Array.getElem?_eq_some_iff.mp h5
  refine wpAny_pure ?_
  simp only [show ¬ ((i : Int) < 0) from by omega, if_false, Int.toNat_natCast, h5]
  refine wpAny_bind (wpAny_bind (wpAny_typeNameOfWhole_itemiter ty (wpAny_pure (wpAny_bind (wpAny_isOneOf_itemiter ty ?_)))))
  show wpAny _ _ (setField (.ref it) 3 (rawInt ((i : Int) + 1)) >>= _) _ _ (⟨hp, g, dr, tk, os⟩ : Shared)
  refine wpAny_bind (wpAny_setField_rec h1 (by simp) fun k1 e1 s1 => ?_)
  replace s1 : Heap.SameBut it hp k1 := s1
  replace e1 : IsItemIter k1 it d (i + 1) n ep x y := by
    have z : ((i + 1 : Nat) : Int) = (i : Int) + 1 := by omega
    unfold IsItemIter
    rw [z]
    simpa [rawInt] using e1
  have ty1 : Shared.TypeIs ⟨k1, g, dr, tk, os⟩ (.ref it) "dict_itemiterator" := ⟨_, e1, rfl⟩
  refine wpAny_bind (wpAny_holding (wpAny_bind (wpAny_isOneOf_itemiter ty1 (wpAny_bind (wpAny_isOneOf_itemiter ty1 ?_)))))
  show wpAny _ _ (Builtin.Dict_items.pairFromOwner (.ref it) 6 e.key e.val) _ _ (⟨k1, g, dr, tk, os⟩ : Shared)
  unfold Builtin.Dict_items.pairFromOwner; refine wpAny_bind (wpAny_newTuple ?_)
  have z1 : k1.objs.size = hp.objs.size := s1.1
  have li : it < hp.objs.size := Heap.lt_size h1
  have e2 : IsItemIter (k1.push { cls := .type "tuple", data := .seq #[e.key, e.val] }) it d (i + 1) n ep x y := Heap.get?_push_of_some _ e1
  have t2 : (k1.push { cls := .type "tuple", data := .seq #[e.key, e.val] }).get? hp.objs.size = some { cls := .type "tuple", data := .seq #[e.key, e.val] } := by rw [← z1]; exact Heap.get?_push_size _ rfl
  have m2 : ∀ b o, b ≠ it → hp.get? b = some o → (k1.push { cls := .type "tuple", data := .seq #[e.key, e.val] }).get? b = some o := fun b o hb z => Heap.get?_push_of_some _ (s1.extBut b o hb z)
  generalize k1.push { cls := .type "tuple", data := .seq #[e.key, e.val] } = k2 at e2 t2 m2
  show wpAny _ _ (Builtin.Dict_items.ownedTupleIsFree (.ref it) >>= _) _ _ (⟨k2, g, dr, tk, os⟩ : Shared)
  rw [z1]
  clear e1 s1 ty1 z1 k1
  refine wpAny_bind ?_; unfold Builtin.Dict_items.ownedTupleIsFree
  refine wpAny_bind (wpAny_field e2 rfl (x := .none) rfl (wpAny_pure ?_))
  simp only [if_true]
  refine wpAny_bind (wpAny_field e2 rfl (x := x) rfl (wpAny_bind (wpAny_field e2 rfl (x := y) rfl (wpAny_bind (wpAny_setField_rec e2 (by simp) fun k3 e3 s3 => ?_)))))
  replace s3 : Heap.SameBut it k2 k3 := s3
  replace e3 : IsItemIter k3 it d (i + 1) n ep e.key y := e3
  refine wpAny_bind (wpAny_setField_rec e3 (by simp) fun k4 e4 s4 => ?_)
  replace s4 : Heap.SameBut it k3 k4 := s4
  replace e4 : IsItemIter k4 it d (i + 1) n ep e.key e.val := e4
  refine wpAny_bind (wpAny_setField_rec e4 (by simp) fun k5 e5 s5 => ?_)
  replace s5 : Heap.SameBut it k4 k5 := s5
  replace e5 : IsItemIterOut k5 it d (i + 1) n ep e.key e.val hp.objs.size := e5
  refine wpAny_bind (wpAny_setField_rec e5 (by simp) fun k6 e6 s6 => ?_)
  replace s6 : Heap.SameBut it k5 k6 := s6
  replace e6 : IsItemIterOut k6 it d (i + 1) n ep e.key e.val hp.objs.size := e6
  have all : ∀ b o, b ≠ it → k2.get? b = some o → k6.get? b = some o := fun b o hb z => s6.extBut b o hb (s5.extBut b o hb (s4.extBut b o hb (s3.extBut b o hb z)))
  exact wpAny_bind (wpAny_letGo (wpAny_pure (wpAny_pure ⟨_, rfl, wpAny_pure (q k6 e6 (all _ _ (Nat.ne_of_gt li) t2) fun b o hb z => all b o hb (m2 b o hb z))⟩)))
theorem items_end {it d : Addr} {i n ep : Nat} {od : Obj} {es : Array DictEntry} {x y : Value} {Q : Option Value → Shared → Prop} (hh : A.handled = none)
    (h1 : IsItemIter s.heap it d i n ep x y) (h2 : s.heap.get? d = some od) (h3 : od.data = .dict es ep) (h4 : es.size = n) (h5 : n ≤ i)
    (q : ∀ h', Heap.ExtBut it s.heap h' → Q none { s with heap := h' }) : wpAny (model prog w) A (pyNext (.ref it)) Q E s := by
  have ty : s.TypeIs (.ref it) "dict_itemiterator" := ⟨_, h1, rfl⟩
  unfold pyNext
  refine wpAny_bind (wpAny_attempt (wpAny_callSpecial?_slot (name := Str.ofString "__next__") ty F.slot_dict_itemiterator_next (wpAny_call_entry F.slot_dict_itemiterator_next ty F.entry_dict_itemiterator_next ?_ (F.args_dict_itemiterator_next_1 _))))
  refine wpAny_bind (wpAny_pure (wpAny_bind (wpAny_bind ?_)))
  refine wpAny_bind (wpAny_typeNameOfWhole_itemiter ty (wpAny_pure (wpAny_bind (wpAny_fieldsOf h1 rfl ?_))))
  simp only [show Builtin.Dict_items.ownsTuple "dict_itemiterator" = true by decide, if_true]
  show wpAny _ _ (ite ((Value.ref d == Value.none) = true) _ _) _ _ _; rw [if_neg (show ¬ ((Value.ref d == Value.none) = true) from Bool.false_ne_true)]
  refine wpAny_bind (wpAny_pure (wpAny_bind (wpAny_dictEntries h2 h3 ?_)))
  rw [if_neg (by rw [h4]; simp)]
  refine wpAny_bind (wpAny_pure (wpAny_bind (wpAny_dictEpoch h2 h3 ?_)))
  rw [if_neg (by simp)]
  refine wpAny_pure ?_
  simp only [show ¬ ((i : Int) < 0) from by omega, if_false, Int.toNat_natCast, Array.getElem?_eq_none (show es.size ≤ i by omega)]
  refine wpAny_bind (wpAny_bind (wpAny_typeNameOfWhole_itemiter ty (wpAny_pure ?_)))
  show wpAny _ _ (setField (.ref it) 2 .none >>= _) _ _ _
  refine wpAny_bind (wpAny_setField h1 rfl (by simp) ?_)
  show wpAny _ _ (newExc (.type "StopIteration") [] >>= _) _ _ (_ : Shared)
  refine wpAny_bind ?_
  simp only [newExc, newTuple]
  refine wpAny_bind (wpAny_newObj_type (wpAny_bind (m := firstArgMember _ _) (wpAny_of_eq (a := Value.none) (by first | rfl | (simp only [firstArgMember]; rfl)) (wpAny_newObj_type ?_ (by size_fits)))) (by size_fits))
  simp only [raiseNew]
  refine wpAny_bind (wpAny_handled ?_)
  rw [show A.in1.handled = none from hh]
  refine wpAny_bind (wpAny_pure (wpAny_throw ?_))
  refine wpAny_bind (wpAny_isInstance (T := "StopIteration") (b := true) ⟨_, Heap.get?_push_size _ rfl, rfl⟩ isSubtype_stop (wpAny_pure ?_))
  exact q _ (((Heap.SameBut.update ..).extBut.push _).push _)
theorem entry_iiter : entryFor table "dict_itemiterator.__iter__" = some Builtin.«dict_keyiterator.__iter__» := entryFor_alias (id' := "dict_keyiterator.__iter__") (by kernel_rfl) rfl (by decide +kernel) (by kernel_rfl)
theorem items_self {it d : Addr} {i n ep : Nat} {x y : Value} {Q : Value → Shared → Prop} (st : IsItemIter s.heap it d i n ep x y) (h : Q (.ref it) s) : wpAny (model prog w) A (pyIter (.ref it)) Q E s := by
  have ty : s.TypeIs (.ref it) "dict_itemiterator" := ⟨_, st, rfl⟩
  refine wpAny_pyIter_slot ty F.slot_dict_itemiterator_iter (wpAny_call_entry F.slot_dict_itemiterator_iter ty entry_iiter ?_ (F.args_dict_itemiterator_iter_1 _)); show wpAny _ _ (ret (.ref it)) _ _ s
  exact wpAny_pure ⟨_, rfl, "dict_itemiterator", _, ty, F.slot_dict_itemiterator_next.lookup, h⟩
/-- d.items(), the dict known by its type alone -/
theorem items_view (d : Addr) (hd : (d == sysModules) = false) :
    MeetsIn prog w (Builtin.«dict.items» ⟨[.ref d], []⟩) (fun _ R s => s.TypeIs (.ref d) "dict" ∧ R (.ok (.ret (.ref s.heap.objs.size))) { s with heap := s.heap.push { cls := .type "dict_items", data := .fields #[.ref d] } }) :=
  .of_wp fun A R s ⟨ty, q⟩ => by
    unfold Builtin.«dict.items»; refine wpAny_bind ?_; unfold Builtin.Dict.noArgs
    refine wpAny_bind (wpAny_notOrdered_dict ty ?_); show wpAny _ _ (pure d) _ _ s
    refine wpAny_pure ?_; show wpAny _ _ (Builtin.Dict.showsAll d >>= _) _ _ s
    unfold Builtin.Dict.showsAll; rw [if_neg (by rw [hd]; exact Bool.false_ne_true)]
    exact wpAny_bind (wpAny_pure (wpAny_bind (wpAny_newObj_type (wpAny_pure ⟨_, rfl, q⟩))))
end
section
variable {X : Cx}
/-- a dict of either kind of keys -/
def isD (u : HO) : Prop := (∃ kvs, u = .dK kvs) ∨ ∃ kvs, u = .dT kvs
/-- the view that d.items() gives -/
def viewO (v d : Addr) : HO := .ext fun h => h.IsItemsView v d
theorem viewO_ok {P : Program} {w : World} {H : Hp} {h : Heap} {v d : Addr} (e : h.IsItemsView v d) : ObjOk P w H h v (viewO v d) :=
  ⟨e, let ⟨o, e1, _⟩ := e; ⟨o, e1⟩, fun h1 h2 ⟨o, e1, e2⟩ k => ⟨o, k o e1, e2⟩⟩
theorem isD_obj {P : Program} {w : World} {H : Hp} {h : Heap} {a : Addr} {u : HO} (hu : isD u) (x : ObjOk P w H h a u) : (a == sysModules) = false ∧ ∃ o es ep, h.get? a = some o ∧ o.ExactDict ∧ o.data = .dict es ep := by
  rcases hu with ⟨kvs, rfl⟩ | ⟨kvs, rfl⟩
  · obtain ⟨hz, hs, vs, rel, o, es, ep, ho, hx, hd, r⟩ := x
    exact ⟨hs, o, es, ep, ho, hx, hd⟩
  · obtain ⟨hz, hs, vs, rel, o, es, ep, ho, hx, hd, r⟩ := x
    exact ⟨hs, o, es, ep, ho, hx, hd⟩
def rItems : V → List V → Hp → VK → Prop := fun x vs H Q => ∃ a u, x = .ref a ∧ vs = [] ∧ H a = some u ∧ isD u ∧ ∀ p, H p = none → Q (.ref p) (upd H p (viewO p a))
theorem mt_items : MtR X "dict.items" rItems := by
  intro pins s σ H x xs v us Q I rx rv h
  obtain ⟨a, u, rfl, rfl, ha, hu, q⟩ := h
  cases rx
  cases rv
  obtain ⟨hs, o, es, ep, ho, hx, hd⟩ := isD_obj hu (I.hok a u ha)
  have ty : s.TypeIs (.ref a) "dict" := ⟨o, ho, hx.1⟩
  refine call_meetsIn PySem.F.slot_dict_items ty PySem.F.entry_dict_items (PySem.F.args_dict_items_1 _) (items_view a hs) ⟨ty, ?_⟩
  exact ⟨.ref s.heap.objs.size, _, I.laid (t' := s.toks) (o := viewO s.heap.objs.size a) (fun b u e => Heap.get?_push_of_some _ e) (Nat.le_refl _) (viewO_ok ⟨_, Heap.get?_push_size _ rfl, rfl, rfl⟩), rfl, q _ (I.hok.fresh (Nat.le_refl _))⟩
/-! ### frozen and thawed, either kind -/
theorem Inv.frozenD {pins : List (Addr × Obj)} {σ : St} {H : Hp} {s : Shared} {a : Addr} {o : Obj} {u : HO} (I : Inv X pins σ H s) (ha : H a = some u) (hu : isD u) (ho : s.heap.get? a = some o) : Inv X pins σ (upd H a (.frz o u)) s := by
  have nt : ∀ b xs, H b = some (.tup xs) → upd H a (.frz o u) b = some (.tup xs) := fun b xs q => by
    rw [upd_ne (ne_of q ha (by rcases hu with ⟨_, rfl⟩ | ⟨_, rfl⟩ <;> intro z <;> cases z))]; exact q
  have no : ∀ b, H b = some (.own a) → upd H a (.frz o u) b = some (.own a) := fun b q => by
    rw [upd_ne (ne_of q ha (by rcases hu with ⟨_, rfl⟩ | ⟨_, rfl⟩ <;> intro z <;> cases z))]; exact q
  have new : ObjOk X.prog X.w (upd H a (.frz o u)) s.heap a (.frz o u) := ⟨ho, (I.hok a u ha).stay (fun _ _ _ q => q) no nt⟩
  exact I.write (t' := s.toks) (h' := s.heap) (e := a) (by rw [ha]; rcases hu with ⟨_, rfl⟩ | ⟨_, rfl⟩ <;> trivial) (.inl rfl) (fun _ _ _ e => e) ⟨o, ho⟩ new
theorem Inv.thawD {pins : List (Addr × Obj)} {σ : St} {H : Hp} {s : Shared} {a : Addr} {o : Obj} {u : HO} (I : Inv X pins σ H s) (ha : H a = some (.frz o u)) (hu : isD u) (h0 : ∀ o' u', X.H₀ a ≠ some (.frz o' u')) : Inv X pins σ (upd H a u) s := by
  have nf : ∀ b, H b = none → upd H a u b = none := fun b e => by rw [upd_ne (fun z => by subst z; rw [ha] at e; cases e)]; exact e
  have nt : ∀ b xs, H b = some (.tup xs) → upd H a u b = some (.tup xs) := fun b xs q => by rw [upd_ne (ne_of q ha (by intro z; cases z))]; exact q
  have no : ∀ b c, H b = some (.own c) → upd H a u b = some (.own c) := fun b c q => by rw [upd_ne (ne_of q ha (by intro z; cases z))]; exact q
  refine ⟨I.ok, I.os, I.bare, ⟨I.base.keep, I.base.slot, fun b ob e n hx => nf b (I.base.free b ob e n hx), I.base.there, fun b xs e => nt b xs (I.base.tups b xs e), fun b ob u' e => ?_, fun b ps e => ?_⟩, I.loc, I.cell, nf _ I.free, fun x c e => nf _ (I.freeC x c e),
    fun p hp => ⟨(I.pin p hp).1, nf _ (I.pin p hp).2.1, (I.pin p hp).2.2⟩, fun b v e => ?_, I.len⟩
  · have q := I.base.frzs b ob u' e
    rw [upd_ne (fun z => by subst z; exact h0 _ _ e)]; exact q
  · obtain ⟨more, q⟩ := I.base.tbls b ps e
    exact ⟨more, by rw [upd_ne (ne_of q ha (by intro z; cases z))]; exact q⟩
  · by_cases hb : b = a
    · subst hb
      rw [upd_same] at e
      cases e
      obtain ⟨_, q⟩ := (show ObjOk X.prog X.w H s.heap b (.frz o u) from I.hok b _ ha)
      exact q.stay (fun _ _ _ q => q) (fun c q => no c b q) fun c xs q => nt c xs q
    · rw [upd_ne hb] at e
      exact (I.hok b v e).stay (fun _ _ _ q => q) (fun c q => no c b q) fun c xs q => nt c xs q
def tThawD (X : Cx) (t : TS) : TS := fun D σ H => ∃ a o u, H a = some (.frz o u) ∧ isD u ∧ (∀ o' u', X.H₀ a ≠ some (.frz o' u')) ∧ t D σ (upd H a u)
theorem pss_thawD {sts : List Stmt} {t : TS} (h : PSs X sts t) : PSs X sts (tThawD X t) := by
  intro pins s σ H D I hw
  obtain ⟨a, o, u, ha, hu, h0, q⟩ := hw
  exact h pins s σ _ D (I.thawD ha hu h0) q
/-! ### for k, v in d.items() -/
/-- what the entries give, in order: key and value -/
abbrev Ents (es : Array DictEntry) (L : List (V × V)) : Prop := Paired (fun (e : DictEntry) (p : V × V) => RelV p.1 e.key ∧ RelV p.2 e.val) es.toList L
def Iti (a : Addr) (o : Obj) (u : HO) (L : List (V × V)) : It :=
  ⟨fun i H => H a = some (.frz o u) ∧ i < L.length, fun i H x H' => ∃ k v p, L[i]? = some (k, v) ∧ H p = none ∧ x = .ref p ∧ H' = upd H p (.tup [k, v]), fun i H => H a = some (.frz o u) ∧ i = L.length⟩
theorem paired_len {α β : Type} {F : α → β → Prop} : ∀ {l : List α} {m : List β}, Paired F l m → l.length = m.length
  | _, _, .nil => rfl
  | _, _, .cons _ t => by simp [paired_len t]
theorem paired_at {α β : Type} {F : α → β → Prop} : ∀ {l : List α} {m : List β}, Paired F l m → ∀ {i : Nat} {y : β}, m[i]? = some y → ∃ x, l[i]? = some x ∧ F x y
  | _, _, .nil, i, y, e => by simp at e
  | _, _, .cons r t, 0, y, e => by simp at e; subst e; exact ⟨_, rfl, r⟩
  | _, _, .cons r t, i + 1, y, e => by
    obtain ⟨x, e1, e2⟩ := paired_at t (i := i) (by simpa using e)
    exact ⟨x, by simpa using e1, e2⟩
theorem turn_items {P : Program} {w : World} {K : PySem.W.Frag} {elts : List Expr} {kk : Nat} {pos : Pos} (it a : Addr) (o : Obj) (u : HO) (L : List (V × V)) (es : Array DictEntry) (ep : Nat) (ho : o.data = .dict es ep) (rl : Ents es L) :
    Turn P w K (.Tuple elts kk pos) (Iti a o u L) [it] it (fun i h => ∃ x y, IsItemIter h it a i es.size ep x y) where
  mem := by simp
  obj := fun i h st b hb => by
    have e : b = it := by simpa using hb
    subst e
    obtain ⟨x, y, e⟩ := st
    exact ⟨_, e, fun v z => by cases (show Data.fields _ = Data.cell v from z)⟩
  keep := fun i h h' st k => let ⟨x, y, e⟩ := st; ⟨x, y, k it (by simp) _ e⟩
  item := by
    intro X hP hw hK hc i pins s σ H E I hf st hg
    subst hP hw hK
    obtain ⟨ha, hi⟩ := hg
    obtain ⟨x, y, st⟩ := st
    have hl : es.size = L.length := by have := paired_len rl; simpa using this
    obtain ⟨⟨k, v⟩, hkv⟩ : ∃ p, L[i]? = some p := ⟨L[i], by simp [hi]⟩
    obtain ⟨e, he, r1, r2⟩ := paired_at rl hkv
    obtain ⟨hob, _⟩ := (show ObjOk X.prog X.w H s.heap a (.frz o u) from I.hok a _ ha)
    refine items_next st hob ho rfl (e := e) (by simpa using he) fun h' z1 z2 kp => ?_
    refine ⟨_, rfl, wpAny_letOwnedTupleGo_items (s := { s with heap := h' }) z1 fun g zg sb => ?_⟩
    have nz : s.heap.objs.size ≠ it := Nat.ne_of_gt (Heap.lt_size st)
    have I1 : Inv X pins σ (upd H s.heap.objs.size (.tup [k, v])) { s with heap := g, toks := s.toks } := I.turnedNew (ts := [it]) (fun c o hc e => by
      have hc' : c ≠ it := by simpa using hc
      exact sb.extBut _ _ hc' (kp c o hc' e)) hf (Nat.le_refl _) ⟨by show 2 ≤ sizeLine; decide, [e.key, e.val], .cons r1 (.cons r2 .nil), ⟨_, sb.extBut _ _ nz z2, rfl, _, rfl⟩⟩
    refine ⟨.ref s.heap.objs.size, _, I1, rfl, ⟨k, v, _, hkv, I.hok.fresh (Nat.le_refl _), rfl, rfl⟩, ⟨_, _, zg⟩, fun c hc => ?_⟩
    have hcn : c = it := by simpa using hc
    subst hcn
    rw [upd_ne nz.symm]
    exact (hf c hc).1
  done := by
    intro X hP hw hK hc i pins s σ H E I hf st hg
    subst hP hw hK
    obtain ⟨ha, hi⟩ := hg
    obtain ⟨x, y, st⟩ := st
    have hl : es.size = L.length := by have := paired_len rl; simpa using this
    obtain ⟨hob, _⟩ := (show ObjOk X.prog X.w H s.heap a (.frz o u) from I.hok a _ ha)
    obtain ⟨f0, f1, f2, f3, f4, f5⟩ := hf it (by simp)
    exact items_end (I.ok.hd hc) st hob ho rfl (by omega) fun h' eb => ⟨rfl, I.turned (t' := s.toks) (fun b ob hb e => eb b ob hb e) f0 f1 f3 f4 f5⟩
  self := fun _ _ s _ _ st h => by
    obtain ⟨x, y, st⟩ := st
    exact items_self st h
end
end L2

/-! MY RULES: for k, v in d.items() (the loop), d.setdefault(k, v), for c in text. -/
set_option linter.all false
namespace L2
open PySem PySem.Spec PyProof.Rows
section
/-- the keys of a dict of tuples as the walk hands them out, with their values -/
abbrev KL (H : Hp) (kvs : List (List Key × V)) (L : List (V × V)) : Prop := Paired (fun (p : List Key × V) (q : V × V) => ∃ b, q.1 = .ref b ∧ H b = some (.tup (p.1.map kV)) ∧ q.2 = p.2) kvs L
theorem paired_of {α β : Type} {F : α → β → Prop} : ∀ {l : List α} {m : List β}, l.length = m.length → (∀ (i : Nat) (x : α) (y : β), l[i]? = some x → m[i]? = some y → F x y) → Paired F l m
  | [], [], _, _ => .nil
  | [], _ :: _, e, _ => by simp at e
  | _ :: _, [], e, _ => by simp at e
  | x :: l, y :: m, e, h => .cons (h 0 x y rfl rfl) (paired_of (by simpa using e) fun i a b p q => h (i + 1) a b (by simpa using p) (by simpa using q))
theorem ents_k {P : Program} {w : World} {kvs : List (Key × V)} {vs : List (Key × Value)} {es : Array DictEntry} (r : KV kvs vs) (p : Pairs (mixKind P w) es.toList vs) : Ents es (kvs.map fun q => (kV q.1, q.2)) := by
  refine paired_of (by rw [p.length, List.length_map]; exact r.length.symm) fun i e y he hy => ?_
  rw [List.getElem?_map] at hy
  obtain ⟨⟨k, v⟩, hk, rfl⟩ := Option.map_eq_some_iff.mp hy
  obtain ⟨u, hu, ru⟩ := r.at hk
  obtain ⟨h1, h2⟩ := p.get? he hu
  subst h2
  exact ⟨is_kV h1, ru⟩
theorem ents_t {P : Program} {w : World} {H : Hp} : ∀ {kvs : List (List Key × V)} {xs : List (List Key × Addr × Value)}, KT H kvs xs →
    ∃ L, Paired (fun (e : DictEntry) (p : V × V) => RelV p.1 e.key ∧ RelV p.2 e.val) (xs.map (entryOfKey (tupleKind (mixKind P w)))) L ∧ KL H kvs L
  | _, _, .nil => ⟨[], .nil, .nil⟩
  | _, _, @Paired.cons _ _ _ p q _ _ h t => by
    obtain ⟨L, h1, h2⟩ := ents_t (P := P) (w := w) t
    exact ⟨(.ref q.2.1, p.2) :: L, .cons ⟨rfl, h.2.2⟩ h1, .cons ⟨q.2.1, rfl, h.2.1, rfl⟩ h2⟩
def iItems (tl : TE) : TI := fun σ H R => tl σ H fun x H1 => ∃ v a u, x = .ref v ∧ H1 v = some (viewO v a) ∧ H1 a = some u ∧
  ((∃ kvs, u = .dK kvs ∧ ∀ o, R (Iti a o u (kvs.map fun q => (kV q.1, q.2))) (upd H1 a (.frz o u))) ∨ ∃ kvs, u = .dT kvs ∧ ∀ o L, KL H1 kvs L → R (Iti a o u L) (upd H1 a (.frz o u)))
theorem pi_items {X : Cx} {l : Expr} {tl : TE} {elts : List Expr} {kk : Nat} {pos : Pos} (hl : PE X l tl) : PI X (.Tuple elts kk pos) l (iItems tl) := by
  intro pins s σ H R I h
  refine thn (hl pins s σ H _ I h) fun y s1 ⟨x, H1, I1, rx, v, a, u, ex, hv, ha, q⟩ => ?_
  subst ex
  cases rx
  obtain ⟨vw, _⟩ := (show ObjOk X.prog X.w H1 s1.heap v (viewO v a) from I1.hok v _ hv)
  have go : ∀ (o : Obj) (es : Array DictEntry) (ep : Nat) (L : List (V × V)), s1.heap.get? a = some o → o.data = .dict es ep → isD u → Ents es L → R (Iti a o u L) (upd H1 a (.frz o u)) →
      wpAny (model X.prog X.w) X.A (pyIter (.ref v)) (PIE X pins σ (.Tuple elts kk pos) R) X.xe s1 := by
    intro o es ep L ho hd hu rl qq
    refine items_iter vw ho hd ?_
    have I2 : Inv X pins σ H1 { s1 with heap := s1.heap.push { cls := .type "dict_itemiterator", data := .fields #[.none, .bool false, .ref a, .int 0 0, .int es.size 0, .int ep 0, .none, .none] }, toks := s1.toks } := I1.kept fun b ob e => Heap.get?_push_of_some _ e
    have I3 := I2.frozenD ha hu (Heap.get?_push_of_some _ ho)
    refine ⟨_, [s1.heap.objs.size], _, _, _, rfl, I3, turn_items _ a o u L es ep hd rl, ⟨.none, .none, Heap.get?_push_size _ rfl⟩, fun b hb => ?_, qq⟩
    have e : b = s1.heap.objs.size := by simpa using hb
    subst e
    refine I1.fpOk (Nat.le_refl _) ?_
    rw [upd_ne (Nat.ne_of_gt (I1.hok.lt ha))]
    exact I1.hok.fresh (Nat.le_refl _)
  rcases q with ⟨kvs, rfl, q⟩ | ⟨kvs, rfl, q⟩
  · obtain ⟨hz, hs, vs, rel, o, es, ep, ho, hx, hd, _, r, _⟩ := dk_of I1.hok ha
    exact go o es ep _ ho hd (.inl ⟨_, rfl⟩) (ents_k rel r) (q o)
  · obtain ⟨hz, hs, xs, rel, o, es, ep, ho, hx, hd, he, _⟩ := (show ObjOk X.prog X.w H1 s1.heap a (.dT kvs) from I1.hok a _ ha)
    obtain ⟨L, h1, h2⟩ := ents_t (P := X.prog) (w := X.w) rel
    exact go o es ep L ho hd (.inr ⟨_, rfl⟩) (by unfold Ents; rw [he]; exact h1) (q o L h2)
theorem for_items {a : Addr} {o : Obj} {u : HO} {L : List (V × V)} {g : TG} {tb : TS} {D : Ends} {σ : St} {H : Hp} (Pv : Nat → St → Hp → Prop) (h0 : Pv 0 σ H) (hl : ∀ i σ H, Pv i σ H → H a = some (.frz o u))
    (hs : ∀ i k v p σ H, L[i]? = some (k, v) → H p = none → Pv i σ H → g (.ref p) σ (upd H p (.tup [k, v])) fun σ2 H2 => tb { D with nx := Pv (i + 1), ct := Pv (i + 1), bk := D.nx } σ2 H2) (hd : ∀ σ H, Pv L.length σ H → D.nx σ H) :
    ∃ W : Nat → Nat → St → Hp → Prop, (∃ m, W 0 m σ H) ∧ ∀ i m σ H, W i m σ H →
      ((Iti a o u L).stop i H ∧ D.nx σ H) ∨ ((Iti a o u L).go i H ∧ ∃ N : St → Hp → Prop, (∀ σ' H', N σ' H' → ∃ m', m' < m ∧ W (i + 1) m' σ' H') ∧ ∀ x H', (Iti a o u L).yld i H x H' → g x σ H' fun σ2 H2 => tb { D with nx := N, ct := N, bk := D.nx } σ2 H2) := by
  refine ⟨fun i m σ H => m = L.length - i ∧ i ≤ L.length ∧ Pv i σ H, ⟨L.length, by simp, Nat.zero_le _, h0⟩, ?_⟩
  rintro i m σ H ⟨rfl, hi, p⟩
  by_cases hlt : i < L.length
  · refine .inr ⟨⟨hl i σ H p, hlt⟩, Pv (i + 1), fun σ' H' p' => ⟨L.length - (i + 1), by omega, rfl, hlt, p'⟩, fun x H' y => ?_⟩
    obtain ⟨k, v, q, e1, e2, rfl, rfl⟩ := y
    exact hs i k v q σ _ e1 e2 p
  · have e : i = L.length := by omega
    subst e
    exact .inl ⟨⟨hl _ σ H p, rfl⟩, hd σ H p⟩
/-! ### d.setdefault(k, v) -/
/-! ### for c in text -/
/-! ### a rule that may go either way -/
end
end L2

/-! MY RULES: a dict's keys stand apart; a copy laid key by key. -/
set_option linter.all false
namespace L2
open PySem PySem.Spec PyProof.Rows
section
variable {X : Cx}
def Apart (H : Hp) : Prop := (∀ a kvs, H a = some (.dK kvs) → (kvs.map (·.1)).Nodup) ∧ ∀ a kvs, H a = some (.dT kvs) → (kvs.map (·.1)).Nodup
theorem kv_keys {kvs : List (Key × V)} {vs : List (Key × Value)} (r : KV kvs vs) : kvs.map (·.1) = vs.map (·.1) := by
  unfold KV at r
  induction r with
  | nil => rfl
  | cons h t ih => rw [List.map_cons, List.map_cons, ih, h.1]
theorem kt_keys {H : Hp} {kvs : List (List Key × V)} {xs : List (List Key × Addr × Value)} (r : KT H kvs xs) : kvs.map (·.1) = xs.map (·.1) := by
  induction r with
  | nil => rfl
  | cons h t ih => rw [List.map_cons, List.map_cons, ih, h.1]
theorem Inv.apart {pins : List (Addr × Obj)} {σ : St} {H : Hp} {s : Shared} (I : Inv X pins σ H s) : Apart H := by
  refine ⟨fun a kvs e => ?_, fun a kvs e => ?_⟩
  · obtain ⟨_, _, vs, rel, o, es, ep, _, _, _, _, _, n⟩ := dk_of I.hok e
    rw [kv_keys rel]
    exact n
  · obtain ⟨_, _, xs, rel, o, es, ep, _, _, _, _, n⟩ := (show ObjOk X.prog X.w H s.heap a (.dT kvs) from I.hok a _ e)
    rw [kt_keys rel]
    exact n
theorem pss_know {sts : List Stmt} {t : TS} (h : PSs X sts t) : PSs X sts (fun D σ H => Apart H → t D σ H) := fun pins s σ H D I q => h pins s σ H D I (q I.apart)
theorem put_next {κ : Type} [DecidableEq κ] {kvs : List (κ × V)} {i : Nat} {k : κ} {v : V} (n : (kvs.map (·.1)).Nodup) (h : kvs[i]? = some (k, v)) (ws : List (κ × V)) (e : ws.map (·.1) = (kvs.take i).map (·.1)) (u : V) : putK ws k u = ws ++ [(k, u)] := by
  unfold putK
  rw [if_neg]
  intro a
  obtain ⟨p, hp, ek⟩ := List.any_eq_true.mp a
  have ek : p.1 = k := by simpa using ek
  have hm : k ∈ ws.map (·.1) := List.mem_map.mpr ⟨p, hp, ek⟩
  rw [e] at hm
  obtain ⟨q, hq, eq⟩ := List.mem_map.mp hm
  obtain ⟨j, hj, ej⟩ := List.mem_iff_getElem.mp hq
  have hji : j < i := by have := List.length_take_le i kvs; omega
  rw [List.getElem_take] at ej
  obtain ⟨hi, ei⟩ := List.getElem?_eq_some_iff.mp h
  have hjl : j < kvs.length := by omega
  have h1 : (kvs.map fun x => x.1)[j]? = some k := by rw [List.getElem?_map, List.getElem?_eq_getElem hjl, ej]; exact congrArg some eq
  have h2 : (kvs.map fun x => x.1)[i]? = some k := by rw [List.getElem?_map, h]; rfl
  obtain ⟨l1, e1⟩ := List.getElem?_eq_some_iff.mp h1
  obtain ⟨l2, e2⟩ := List.getElem?_eq_some_iff.mp h2
  have : j = i := (List.getElem_inj n).mp (e1.trans e2.symm)
  omega
end
end L2

/-! MY RULES: a comprehension that takes several names over, dict(list of pairs), == and != of dicts that hold the same data. -/
set_option linter.all false
set_option maxRecDepth 100000
namespace L2
open PySem PySem.Spec PyProof.Rows
theorem entry_upd_loop : entryFor table "dict.update.loop" = some Builtin.«dict.update.loop» := entryFor_of_tree (by kernel_rfl)
theorem plain_upd_loop : plainId "dict.update.loop" = true := by decide +kernel
section
variable {prog : Program} {w : World} {K : Type} [DecidableEq K] {knd : KeyKind prog w K} {A : Around} {R : Result → Shared → Prop} {I l d : Addr} {items : Array Value} {rs : List (K × Value)} {h₀ : Heap} {g : Array GenState} {dr : Drawn} {os : OsState}
end
end L2
namespace L2
open PySem PySem.Spec PyProof.Rows
/-! ### a comprehension that takes several names over -/
def CellsIn (env : Env) : List (Str × Addr) → Prop
  | [] => True
  | p :: r => env.cells.lookup p.1 = some p.2 ∧ CellsIn env r
theorem CellsIn.get {env : Env} : ∀ {cl : List (Str × Addr)}, CellsIn env cl → ∀ {x : Str} {c : Addr}, cl.lookup x = some c → env.cells.lookup x = some c
  | [], _, _, _, h => by cases h
  | (y, d) :: r, h, x, c, e => by
    rw [List.lookup_cons] at e
    split at e
    · rename_i hb
      have hb' : x = y := by simpa using hb
      cases e
      subst hb'
      exact h.1
    · exact CellsIn.get h.2 e
theorem lookup_of_mem {x : Str} : ∀ {cl : List (Str × Addr)}, x ∈ cl.map (·.1) → ∃ c, cl.lookup x = some c
  | [], h => by cases h
  | (y, d) :: r, h => by
    rw [List.lookup_cons]
    cases hb : (x == y) with
    | true => exact ⟨d, rfl⟩
    | false =>
      have hne : x ≠ y := by simpa using hb
      rcases List.mem_cons.mp h with e | e
      · exact absurd e hne
      · exact lookup_of_mem e
theorem clok_many {X : Cx} {scope : Scope} {cl : List (Str × Addr)} {xs : List Str} (he : closureFor scope X.env = pure cl) (hc : CellsIn X.env cl) (hx : cl.map (·.1) = xs) (hk : scope.kind = .function) (hn : ∀ y ∈ scope.names, y.2 ≠ .cell ∧ (y.2 = .free → y.1 ∈ xs))
    (hl : ∀ y ∈ scope.names, y.2 = .local → scope.names.lookup y.1 = some .local) : ClOk X scope cl where
  eq := he
  sub := fun y d h => hc.get h
  has := fun y h => by
    have key : y ∈ xs := by
      have m : ∃ k, (y, k) ∈ (relabel scope X.env).names ∧ (k = .cell ∨ k = .free) := h.elim (fun z => ⟨_, lookup_mem z, .inl rfl⟩) fun z => ⟨_, lookup_mem z, .inr rfl⟩
      obtain ⟨k, hm, hk⟩ := m
      obtain ⟨⟨n, k0⟩, h0, e⟩ := List.mem_map.mp hm
      dsimp only at e
      by_cases hf : k0 = .free
      · have en : n = y := by
          split at e
          · exact congrArg Prod.fst e
          · exact congrArg Prod.fst e
        rw [← en]
        exact (hn _ h0).2 hf
      · have hb : (k0 == NameKind.free) = false := by simpa using hf
        simp only [hb, Bool.false_and, Bool.false_eq_true, if_false] at e
        have e2 : k0 = k := congrArg Prod.snd e
        subst e2
        rcases hk with hk | hk
        · exact absurd hk (hn _ h0).1
        · exact absurd hk hf
    rw [← hx] at key
    exact lookup_of_mem key
  kind := hk
  ncell := fun y hy => (hn y hy).1
  names := hl
def FreeOk (X : Cx) (scope : Scope) : List Str → List Nat → Prop
  | [], [] => True
  | x :: xs, j :: js => (X.N[j]? = some x ∧ (X.env.scope.names.lookup x = some .cell ∨ X.env.scope.names.lookup x = some .free) ∧ ((relabel scope X.env).names.lookup x = some .cell ∨ (relabel scope X.env).names.lookup x = some .free)) ∧ FreeOk X scope xs js
  | _, _ => False
theorem FreeOk.get {X : Cx} {scope : Scope} : ∀ {xs : List Str} {js : List Nat}, FreeOk X scope xs js → xs.length = js.length ∧ ∀ (i j : Nat), js[i]? = some j → ∃ x, xs[i]? = some x ∧ X.N[j]? = some x ∧ (X.env.scope.names.lookup x = some .cell ∨ X.env.scope.names.lookup x = some .free) ∧ ((relabel scope X.env).names.lookup x = some .cell ∨ (relabel scope X.env).names.lookup x = some .free)
  | [], [], _ => ⟨rfl, fun i j e => by simp at e⟩
  | x :: xs, j :: js, h => by
    obtain ⟨e, f⟩ := FreeOk.get h.2
    refine ⟨by simp [e], fun i k ek => ?_⟩
    cases i with
    | zero => simp at ek; subst ek; exact ⟨x, rfl, h.1⟩
    | succ i => exact f i k (by simpa using ek)
  | [], _ :: _, h => h.elim
  | _ :: _, [], h => h.elim
theorem ixok_many {X : Cx} {N0 xs : List Str} {js : List Nat} {scope : Scope} (h : FreeOk X scope xs js) : IxOk X (N0 ++ xs) scope (List.replicate N0.length none ++ js.map some) := by
  obtain ⟨hl, hf⟩ := h.get
  refine ⟨by simp [hl], fun i k e => ?_⟩
  by_cases hi : i < N0.length
  · rw [List.getElem?_append_left (by simpa using hi), List.getElem?_replicate] at e
    split at e <;> cases e
  · rw [List.getElem?_append_right (by simpa using hi), List.length_replicate, List.getElem?_map] at e
    obtain ⟨j, ej, ek⟩ := Option.map_eq_some_iff.mp e
    cases ek
    obtain ⟨x, h1, h2, h3, h4⟩ := hf _ _ ej
    exact ⟨x, by rw [List.getElem?_append_right (by omega)]; exact h1, h2, h3, h4⟩
/-! ### dict(l), l a list of pairs -/
section
variable {X : Cx}
/-! ### two dicts that hold the same data -/
end
end L2

/-! MY RULES: zip(list, list), a comprehension over anything, promises joined, dicts laid pair by pair. -/
set_option linter.all false
set_option maxRecDepth 100000
namespace L2
open PySem PySem.Spec PyProof.Rows
/-! ### zip(list, tuple) is made -/
/-! ### a comprehension over anything -/
section
variable {D : Addr} {g : TG} {te : TE} {QD : Hp → Prop} {σ₀ : St} {H : Hp}
theorem comp_genQ {J : It} (n : Nat) (Pv : Nat → List V → Hp → Prop) (h0 : Pv 0 [] (upd H D (.lst []))) (hgo : ∀ i ys H, i < n → Pv i ys H → J.go i H) (hst : ∀ ys H, Pv n ys H → J.stop n H)
    (hs : ∀ i ys H, i < n → Pv i ys H → ∀ x H3, J.yld i H x H3 → g x σ₀ H3 fun σ4 H4 => StKeep σ₀ σ4 ∧ te σ4 H4 fun y H5 => H5 D = some (.lst ys) ∧ ys.length < sizeLine ∧ Pv (i + 1) (ys ++ [y]) (upd H5 D (.lst (ys ++ [y])))) (hd : ∀ ys H, Pv n ys H → QD H) :
    ∃ W : Nat → Nat → Hp → Prop, (∃ m, W 0 m (upd H D (.lst []))) ∧ ∀ i m H2, W i m H2 →
      (J.stop i H2 ∧ QD H2) ∨ (J.go i H2 ∧ ∃ N : VK, (∀ y H5, N y H5 → ∃ xs, H5 D = some (.lst xs) ∧ xs.length < sizeLine ∧ ∃ m', m' < m ∧ W (i + 1) m' (upd H5 D (.lst (xs ++ [y])))) ∧
        ∀ x H3, J.yld i H2 x H3 → g x σ₀ H3 fun σ4 H4 => StKeep σ₀ σ4 ∧ te σ4 H4 N) := by
  refine ⟨fun i m H => m = n - i ∧ i ≤ n ∧ ∃ ys, Pv i ys H, ⟨n, by simp, Nat.zero_le _, [], h0⟩, ?_⟩
  rintro i m H2 ⟨rfl, hi, ys, p⟩
  by_cases hlt : i < n
  · exact .inr ⟨hgo i ys H2 hlt p, fun y H5 => H5 D = some (.lst ys) ∧ ys.length < sizeLine ∧ Pv (i + 1) (ys ++ [y]) (upd H5 D (.lst (ys ++ [y]))), fun y H5 z => ⟨ys, z.1, z.2.1, n - (i + 1), by omega, rfl, hlt, _, z.2.2⟩, fun x H3 z => hs i ys H2 hlt p x H3 z⟩
  · have e : i = n := by omega
    subst e
    exact .inl ⟨hst ys H2 p, hd ys H2 p⟩
end
/-! ### within a comprehension: the rules by the text's own K -/
/-! ### own classes and built-in ones; promises joined -/
theorem isi_bt {K : PySem.W.Frag} {C : Addr} {U : String} {b : Bool} (h : PySem.W.mroIn K C (.type U) = some b) (hm : PySem.W.kitMeta U = true) : ∀ u, RelV (.ty U) u → PySem.W.kitOne K (.ref C) u = some b := by
  intro u z
  cases (show u = Value.type U from z)
  unfold PySem.W.kitOne
  rw [if_neg (show ¬ (Value.ref C == Value.type U) = true from Bool.false_ne_true)]
  show (if PySem.W.kitMeta U = true then PySem.W.subIn K (.ref C) (.type U) else none) = some b
  rw [if_pos hm]
  exact h
theorem FnOk.or {P : Program} {w : World} {K : PySem.W.Frag} {mg : Str → Option Value} {base : Heap} {CX : CXT} {k : Nat} {f : Addr} {fd : FuncData} {ps : List Str} {sp sp' : Sp} (F : FnOk P w K mg base CX k f fd ps sp) (F' : FnOk P w K mg base CX k f fd ps sp') :
    FnOk P w K mg base CX k f fd ps (fun vs H Q E => sp vs H Q E ∨ sp' vs H Q E) :=
  ⟨fun vs H Q E q => q.elim (F.len vs H Q E) (F'.len vs H Q E), fun A outer s H args us vs Q E hr he hb hv q => q.elim (F.run A outer s H args us vs Q E hr he hb hv) (F'.run A outer s H args us vs Q E hr he hb hv)⟩
/-! ### dicts laid pair by pair -/
theorem mergeK_snoc (acc ws : List (Key × V)) (w : Key × V) : mergeK acc (ws ++ [w]) = putK (mergeK acc ws) w.1 w.2 := by unfold mergeK; rw [List.foldl_append]; rfl
theorem putK_mem {kvs : List (Key × V)} {k : Key} {v : V} {p : Key × V} (h : p ∈ putK kvs k v) : p ∈ kvs ∨ p = (k, v) := by
  unfold putK at h
  split at h
  · obtain ⟨q, hq, e⟩ := List.mem_map.mp h
    split at e
    · rename_i ek
      exact .inr (by rw [← e, ek])
    · exact .inl (e ▸ hq)
  · rcases List.mem_append.mp h with h | h
    · exact .inl h
    · exact .inr (by simpa using h)
end L2

/-! MY RULES: name = [..], where the store is exchanged with the letting go of the comprehension's own names. -/
set_option linter.all false
set_option maxRecDepth 100000
namespace L2
open PySem PySem.Spec PyProof.Rows
section
variable {X : Cx}
theorem ps_setC {i₀ : Nat} {x₀ : Str} {pos₀ spos : Pos} {elt iter tg : Expr} {scope : Scope} {pos : Pos} {N' : List Str} {ix : List (Option Nat)} {cl : List (Str × Addr)} {wi : TI} {g : TG} {te : TE} (hN₀ : X.N.Nodup) (hi₀ : X.N[i₀]? = some x₀) (hx₀ : Loc X.env.scope x₀) (hc : X.calm = true) (ck : ClOk X scope cl) (io : IxOk X N' scope ix) (hi : PI X tg iter wi)
    (hg : ∀ C s₀ H₀ fp, PG (blk X N' scope cl C s₀ H₀ fp) tg g) (he : ∀ C s₀ H₀ fp, PE (blk X N' scope cl C s₀ H₀ fp) elt te) (hs : ∀ x, foldedSetIterable iter X.env x = pure x := by intro _; rfl)
    (hsw : swapsWith (.ListComp elt [⟨tg, iter, [], 0⟩] scope pos) (some (.Name x₀ pos₀)) spos.line X.env = pure true := by rfl) (hf₀ : X.fn x₀ = true ∨ X.env.scope.names.lookup x₀ = some .local := by first | exact .inl rfl | exact .inr rfl | assumption) :
    PS X (.Assign [.Name x₀ pos₀] (.ListComp elt [⟨tg, iter, [], 0⟩] scope pos) spos) (tAsg (tComp ix wi g te) (gName i₀)) := by
  intro pins s σ H D₀ I h
  rw [exec_Assign_Name_used _ _ _ _ hsw]
  refine wpAny_bind (wpAny_standAt (wpAny_bind ?_))
  show wpAny _ X.A (do let _ ← comprehension (.ListComp elt [⟨tg, iter, [], 0⟩] scope pos) scope X.env _ (newList []) false (eval iter X.env) (some (assign (.Name x₀ pos₀) X.env))) _ _ s
  refine wpAny_bind (wpAny_mono (wpAny_comprehension_free (use := some (assign (.Name x₀ pos₀) X.env)) (Q := fun _ s' => ∃ σ' H', Inv X pins σ' H' s' ∧ D₀.nx σ' H') rfl hs ck.eq ck.kind ck.names (thn (hi pins s σ H _ I h) fun xv s1 h1 => thn h1 fun itv s2 h2 => ?_)) (fun _ s' hq => wpAny_pure (wpAny_pure hq)) fun _ _ e => e)
  obtain ⟨it, fp, tn, J, H1, rfl, I1, T, st1, f1, R⟩ := h2
  -- the list
  refine wpAny_newObj_type ?_
  have hD : H1 s2.heap.objs.size = none := I1.hok.fresh (Nat.le_refl _)
  obtain ⟨W, ⟨m0, w0⟩, turn⟩ := R _ hD
  have hfD : ∀ b ∈ fp, b < s2.heap.objs.size := fun b hb => let ⟨o, e, _⟩ := T.obj _ _ st1 b hb; Heap.lt_size e
  have I2 : Inv X pins σ (upd H1 s2.heap.objs.size (.lst [])) { s2 with heap := s2.heap.push { cls := .type "list", data := .seq ([] : List Value).toArray }, toks := s2.toks } := I1.lnew (its := []) .nil (Nat.zero_le _)
  have f2 : ∀ b ∈ fp, FpOk X pins (upd H1 s2.heap.objs.size (.lst [])) b := fun b hb => ⟨by rw [upd_ne (Nat.ne_of_lt (hfD b hb))]; exact (f1 b hb).1, (f1 b hb).2⟩
  have lt2 : ∀ b ∈ fp, b < (s2.heap.push { cls := .type "list", data := .seq ([] : List Value).toArray }).objs.size := fun b hb => by rw [Heap.size_push]; exact Nat.lt_succ_of_lt (hfD b hb)
  -- the block's own dict
  refine wpAny_newFunctionEnv ck.ncell (by intro y hy; simp at hy) (fun h3 hns sb3 => ?_) ck.kind
  dsimp only at hns sb3 ⊢
  have k3 : ∀ b o, (s2.heap.push { cls := .type "list", data := .seq ([] : List Value).toArray }).get? b = some o → h3.get? b = some o := fun b o e => (sb3.2 b (Nat.ne_of_lt (Heap.lt_size e))).trans (Heap.get?_push_of_some _ e)
  generalize hs2 : ({ s2 with heap := s2.heap.push { cls := .type "list", data := .seq ([] : List Value).toArray }, toks := s2.toks } : Shared) = s3 at I2
  have e3 : s2.heap.push { cls := .type "list", data := .seq ([] : List Value).toArray } = s3.heap := by rw [← hs2]
  rw [e3] at hns k3 lt2
  have I3 := blk_start (N' := N') (ix := ix) I2 ck io f2 lt2 (h' := h3) (t' := s2.toks + ([] : List (Str × Value)).length) hns k3
  have e4 : ({ s3 with heap := h3, toks := s2.toks + ([] : List (Str × Value)).length } : Shared) = { s2 with heap := h3, toks := s2.toks + ([] : List (Str × Value)).length } := by rw [← hs2]
  rw [e4] at I3
  have st3 : tn 0 h3 := T.keep _ _ _ st1 fun b hb o e => k3 b o (by rw [← e3]; exact Heap.get?_push_of_some _ e)
  have loop : ∀ s4 : Shared, s4 = { s2 with heap := h3, toks := s2.toks + ([] : List (Str × Value)).length } →
      codeAny (model X.prog X.w) X.A (.compLoop (.ListComp elt [⟨tg, iter, [], 0⟩] scope pos) 0 (.ref it) (.ref s2.heap.objs.size) (compEnvC scope cl s3.heap.objs.size X.env))
        (compPost (model X.prog X.w) X.A X.xe (some (assign (.Name x₀ pos₀) X.env)) (fun _ s' => ∃ σ' H', Inv X pins σ' H' s' ∧ D₀.nx σ' H') (.ref s2.heap.objs.size) s3.heap.objs.size) s4 := by
    rintro s4 rfl
    have stat : ∀ {H' : Hp}, (∀ b ∈ fp, H' b = none) → ∀ b ∈ fp, FpOk (blk X N' scope cl s3.heap.objs.size s3 (upd H1 s2.heap.objs.size (.lst [])) fp) [] H' b := fun hn b hb =>
      ⟨hn b hb, Nat.ne_of_lt (lt2 b hb), fun hs => I3.ok.exfs b hb hs, .inl hb, fun x c e => (f2 b hb).2.2.2.2.1 x c (ck.sub x c e), (fun p hp => by cases hp)⟩
    refine codeAny_loop rfl (fun n s' => ∃ i σ' H', Inv (blk X N' scope cl s3.heap.objs.size s3 (upd H1 s2.heap.objs.size (.lst [])) fp) [] σ' H' s' ∧ (∀ (j : Nat) v, (blkSt ix σ)[j]? = some (some v) → σ'[j]? = some (some v)) ∧ tn i s'.heap ∧ (∀ b ∈ fp, H' b = none) ∧ W i n H')
      (fun n s' hI => ?_) m0 ⟨0, _, _, I3, fun _ _ z => z, st3, fun b hb => (f2 b hb).1, w0⟩
    obtain ⟨i, σ5, H5, I5, wk, st5, fr5, w5⟩ := hI
    show wpAny _ _ ((compTurn (.ListComp elt [⟨tg, iter, [], 0⟩] scope pos) 0 (.ref it) (.ref s2.heap.objs.size) (compEnvC scope cl s3.heap.objs.size X.env)).onRaise (fun x => do noteFrame x (compEnvC scope cl s3.heap.objs.size X.env); theTreesLotGoes x)) _ _ s'
    refine wpAny_noted ?_
    rw [compTurn_list1]
    refine wpAny_bind (wpAny_standAt ?_)
    rcases turn i n H5 w5 with ⟨stop, qn⟩ | ⟨go, NN, hNN, step⟩
    · refine wpAny_bind (wpAny_mono (T.done (blk X N' scope cl s3.heap.objs.size s3 (upd H1 s2.heap.objs.size (.lst [])) fp) rfl rfl rfl hc i [] s' σ5 H5 (fun _ _ => False) I5 (stat fr5) st5 stop) (fun r s6 h6 => ?_) fun _ _ z => z.elim)
      obtain ⟨rfl, I6⟩ := h6
      refine wpAny_pure ?_
      obtain ⟨mm, hm, _⟩ := id I6.loc
      have fC : FpOk X pins H5 s3.heap.objs.size := I2.fpOk (Nat.le_refl _) I6.free
      have Io : Inv X pins σ H5 s6 := blk_end I2 f2 I6 (Heap.SameBut.refl _ _)
      show wpAny _ X.A (assign (.Name x₀ pos₀) X.env (.ref s2.heap.objs.size)) _ _ s6
      refine wpAny_assign_Name (store_ok2 Io hN₀ hi₀ hx₀ (v := .ref s2.heap.objs.size) rfl (fun s7 I7 sb7 => ?_) hf₀)
      obtain ⟨a, sb, ha⟩ := sb7
      have ca : s3.heap.objs.size ≠ a := by
        rcases ha with ha | ha
        · rw [ha]; exact fC.2.1
        · exact fun z => fC.2.2.2.2.1 _ _ ha z.symm
      obtain ⟨oC, es, ep, ho, r⟩ := hm
      exact ⟨mm, ⟨oC, es, ep, (sb.2 _ ca).trans ho, r⟩, fun h' sb' => ⟨_, H5, I7.turned (t' := s7.toks) (fun b o hb e => (sb'.2 b hb).trans e) fC.1 fC.2.1 fC.2.2.2.1 fC.2.2.2.2.1 fC.2.2.2.2.2, qn⟩⟩
    · refine wpAny_bind (wpAny_mono (T.item (blk X N' scope cl s3.heap.objs.size s3 (upd H1 s2.heap.objs.size (.lst [])) fp) rfl rfl rfl hc i [] s' σ5 H5 (fun _ _ => False) I5 (stat fr5) st5 go) (fun r s6 h6 => ?_) fun _ _ z => z.elim)
      obtain ⟨u, rfl, h6⟩ := h6
      refine wpAny_bind (wpAny_mono h6 (fun _ s7 h7 => ?_) fun _ _ z => z.elim)
      obtain ⟨x, H7, I7, r7, y7, st7, fr7⟩ := h7
      have I7w : Inv (blk X N' scope cl s3.heap.objs.size s3 (upd H1 s2.heap.objs.size (.lst [])) fp) [] (blkSt ix σ) H7 s7 := I7.weak (by rw [I7.len]; unfold blkSt; rw [List.length_map]; exact io.1) wk
      have I7p := I7w.pinned (stat fr7) (T.obj _ _ st7)
      refine wpAny_bind (wpAny_mono (hg _ _ _ _ _ s7 _ H7 x u _ I7p r7 (step x H7 y7)) (fun _ s8 h8 => ?_) fun _ _ z => z.elim)
      obtain ⟨σ8, H8, I8, kp8, q8⟩ := h8
      refine wpAny_bind (wpAny_bind (wpAny_mono (he _ _ _ _ _ s8 σ8 H8 _ I8 q8) (fun yv s9 h9 => ?_) fun _ _ z => z.elim))
      obtain ⟨y, H9, I9, r9, n9⟩ := h9
      obtain ⟨xs, hx9, hz9, m', hm', w9⟩ := hNN _ _ n9
      refine wpAny_bind (wpAny_mono (mt_append (X := blk X N' scope cl s3.heap.objs.size s3 (upd H1 s2.heap.objs.size (.lst [])) fp) _ s9 σ8 H9 (.ref s2.heap.objs.size) [y] (.ref s2.heap.objs.size) [yv] (fun _ H' => W (i + 1) m' H') I9 rfl (.cons r9 .nil) ⟨_, xs, y, rfl, rfl, hx9, hz9, w9⟩) (fun _ s10 h10 => ?_) fun _ _ z => z.elim)
      obtain ⟨_, H10, I10, _, w10⟩ := h10
      refine wpAny_pure (wpAny_pure ⟨rfl, m', hm', i + 1, σ8, H10, I10.unpinned, ?_, T.keep _ _ _ st7 fun b hb o e => (I10.pin (b, o) (List.mem_append_right _ (List.mem_append_right _ (mem_pinsAt hb e)))).1, fun b hb => ?_, w10⟩)
      · exact kp8.get
      · obtain ⟨o, e, d⟩ := T.obj _ _ st7 b hb
        exact (I10.pin (b, o) (List.mem_append_right _ (List.mem_append_right _ (mem_pinsAt hb e)))).2.1
  have e5 : s3.heap.objs.size = (s2.heap.push { cls := .type "list", data := .seq ([] : List Value).toArray }).objs.size := by rw [e3]
  rw [e5] at loop
  exact codeAny_compStart_list (loop _ rfl) (T.self X.A 0 _ _ _ st3 (loop _ rfl))
end
end L2

/-! MY RULES: a[lo::k], sum(list of ints), len within a comprehension. -/
set_option linter.all false
set_option maxRecDepth 100000
namespace L2
open PySem PySem.Spec PyProof.Rows
section
variable {X : Cx}
theorem vals_pick {xs : List V} {its : List Value} (r : Vals xs its) : ∀ js : List Nat, Vals (js.filterMap (xs[·]?)) (js.filterMap (its[·]?))
  | [] => .nil
  | j :: js => by
    have hl := r.length
    have t := vals_pick r js
    cases hx : xs[j]? with
    | none =>
      have hi : its[j]? = none := by rw [List.getElem?_eq_none_iff] at hx ⊢; omega
      rw [List.filterMap_cons_none hx, List.filterMap_cons_none hi]
      exact t
    | some x =>
      obtain ⟨u, hu, ru⟩ := r.get hx
      rw [List.filterMap_cons_some hx, List.filterMap_cons_some hu]
      exact .cons ru t
end
end L2

/-! MY RULES: != of tuples that hold alike things (data, dicts); a comprehension over a dict; d.clear(); list(..) within a comprehension. -/
set_option linter.all false
set_option maxRecDepth 100000
namespace L2
open PySem PySem.Spec PyProof.Rows
section
variable {X : Cx}
/-! ### a comprehension over a dict: what was walked is thawed -/
def tThawV (X : Cx) (t : TE) : TE := fun σ H Q => t σ H fun v H1 => ∃ a o kvs, H1 a = some (.frz o (.dK kvs)) ∧ (∀ o' u', X.H₀ a ≠ some (.frz o' u')) ∧ Q v (upd H1 a (.dK kvs))
theorem pe_thawV {e : Expr} {t : TE} (h : PE X e t) : PE X e (tThawV X t) := fun pins s σ H Q I q =>
  thn (h pins s σ H _ I q) fun u s1 ⟨v, H1, I1, rv, a, o, kvs, ha, h0, q1⟩ => ⟨v, _, I1.thaw ha ⟨kvs, rfl⟩ h0, rv, q1⟩
end
end L2

/-! MY RULES: a zip's draws where what it gave out lives on, dict(zip(list, tuple)). -/
set_option linter.all false
set_option maxRecDepth 100000
namespace L2
open PySem PySem.Spec PyProof.Rows
abbrev IsZipB (h : Heap) (z TI TO : Addr) (f0 : Value) (b : Bool) : Prop :=
  h.get? z = some { cls := .type "zip", dict := none, data := .fields #[f0, .bool b, .bool false, .ref TI, .ref TO], slots := #[] }
section
variable {prog : Program} {w : World} {A : Around} {E : Value → Shared → Prop} {s : Shared}
theorem wpAny_alive {a : Addr} {Q : Option Obj → Shared → Prop} (h : Q (s.heap.get? a) s) : wpAny (model prog w) A (loadIfAlive a) Q E s := fun Γ p _ => by
  show PySem.Sem.wp _ Γ (.loadIfAlive a .pure) _ _ p s
  rw [PySem.Sem.wp]
  exact h
/-- what the zip gave out still lives -/
theorem zip_notFree {z TI TO p : Addr} {o : Obj} {b : Bool} {Q : Bool → Shared → Prop} (hz : IsZipB s.heap z TI TO (rawInt (p : Int)) b) (hp : s.heap.get? p = some o)
    (q : ∀ h', IsZipB h' z TI TO (rawInt (p : Int)) true → Heap.SameBut z s.heap h' → Q false { s with heap := h' }) : wpAny (model prog w) A (Builtin.SmallTypes.ownedTupleIsFree (.ref z)) Q E s := by
  unfold Builtin.SmallTypes.ownedTupleIsFree
  refine wpAny_bind (wpAny_field hz rfl (x := rawInt (p : Int)) rfl ?_)
  show wpAny _ _ (loadIfAlive (Int.toNat (p : Int)) >>= _) _ _ _
  refine wpAny_bind (wpAny_alive ?_)
  rw [Int.toNat_natCast, hp]
  show wpAny _ _ (field (.ref z) 1 >>= _) _ _ _
  refine wpAny_bind (wpAny_field hz rfl (x := .bool b) rfl ?_)
  cases b with
  | true =>
    show wpAny _ _ (pure false) _ _ _
    exact wpAny_pure (q s.heap hz ⟨rfl, fun _ _ => rfl⟩)
  | false =>
    show wpAny _ _ (setField (.ref z) 1 (.bool true) >>= _) _ _ _
    refine wpAny_bind (wpAny_setField_rec hz (by simp) fun g1 z1 b1 => ?_)
    exact wpAny_pure (q g1 z1 b1)
end
section
variable {z TI TO i1 i2 l1 l2 : Addr} {st1 st2 : Nat → Heap → Prop} {src1 src2 : Array Value → Heap → Prop} {prog : Program} {w : World} {A : Around} {E : Value → Shared → Prop} {s : Shared}
/-- a zip's draw, what it gave out before lives on -/
theorem zip_more (N1 : Nx i1 l1 st1 src1) (N2 : Nx i2 l2 st2 src2) {k1 k2 : Nat} {xs ys : Array Value} {x y : Value} {p : Addr} {o : Obj} {b : Bool} {Q : Option Value → Shared → Prop} (D : ZipApart z TI TO i1 i2 l1 l2)
    (hz : IsZipB s.heap z TI TO (rawInt (p : Int)) b) (hp : s.heap.get? p = some o) (hTI : IsPair s.heap TI (.ref i1) (.ref i2)) (h1 : st1 k1 s.heap) (h2 : st2 k2 s.heap) (hl1 : src1 xs s.heap) (hl2 : src2 ys s.heap) (hx : xs[k1]? = some x) (hy : ys[k2]? = some y)
    (hQ : ∀ h', IsZipB h' z TI TO (rawInt (p : Int)) true → st1 (k1 + 1) h' → st2 (k2 + 1) h' → IsPair h' s.heap.objs.size x y →
      (∀ c o, c ≠ z → c ≠ i1 → c ≠ i2 → s.heap.get? c = some o → h'.get? c = some o) → Q (some (.ref s.heap.objs.size)) { s with heap := h' }) : wpAny (model prog w) A (pyNext (.ref z)) Q E s := by
  have hT : s.TypeIs (.ref z) "zip" := ⟨_, hz, rfl⟩
  unfold pyNext
  refine wpAny_bind (wpAny_attempt (wpAny_callSpecial?_slot (name := Str.ofString "__next__") hT F.slot_zip_next (wpAny_call_entry F.slot_zip_next hT F.entry_zip_next ?_ (F.args_zip_next_1 _))))
  show wpAny _ _ (field (.ref z) 2 >>= _) _ _ _
  refine wpAny_bind (wpAny_field hz rfl (x := .bool false) rfl ?_)
  show wpAny _ _ (field (.ref z) 3 >>= _) _ _ _
  refine wpAny_bind (wpAny_field hz rfl (x := .ref TI) rfl ?_)
  refine wpAny_bind (wpAny_seqItems hTI rfl ?_)
  show wpAny _ _ (Builtin.SmallTypes.ownedTupleIsFree (.ref z) >>= _) _ _ _
  refine wpAny_bind (zip_notFree hz hp fun g1 z1 b1 => ?_)
  simp only [Bool.false_eq_true, if_false]
  refine wpAny_bind ?_
  simp only [← Array.forIn_toList, List.forIn_cons, List.forIn_nil]
  refine wpAny_bind (wpAny_bind (wpAny_holding ?_))
  show wpAny _ _ (Builtin.SmallTypes.nextOf (.ref i1) >>= _) _ _ _
  refine wpAny_bind (N1.item (N1.mv h1 fun o e => b1.extBut _ _ D.i1z e) (N1.mvS hl1 fun o e => b1.extBut _ _ D.l1z e) hx fun g2 t2 b2 => wpAny_pure (wpAny_pure ?_))
  refine wpAny_bind (wpAny_bind (wpAny_holding ?_))
  show wpAny _ _ (Builtin.SmallTypes.nextOf (.ref i2) >>= _) _ _ _
  refine wpAny_bind (N2.item (N2.mv h2 fun o e => b2.extBut _ _ D.i12.symm (b1.extBut _ _ D.i2z e)) (N2.mvS hl2 fun o e => b2.extBut _ _ D.l2i1 (b1.extBut _ _ D.l2z e)) hy fun g3 t3 b3 => wpAny_pure (wpAny_pure (wpAny_pure ?_)))
  have hsz : g3.objs.size = s.heap.objs.size := by rw [b3.1, b2.1, b1.1]
  have zlt : z < g3.objs.size := by rw [hsz]; exact Heap.lt_size hz
  show wpAny _ _ (newTuple [x, y] >>= _) _ _ _
  refine wpAny_bind (wpAny_newTuple ?_)
  have z3 : IsZipB g3 z TI TO (rawInt (p : Int)) true := b3.extBut _ _ D.i2z.symm (b2.extBut _ _ D.i1z.symm z1)
  have k3 : ∀ c o, c ≠ z → c ≠ i1 → c ≠ i2 → s.heap.get? c = some o → g3.get? c = some o := fun c o c1 c3 c4 e => b3.extBut _ _ c4 (b2.extBut _ _ c3 (b1.extBut _ _ c1 e))
  have u1 : st1 (k1 + 1) g3 := N1.mv t2 fun o e => b3.extBut _ _ D.i12 e
  have pr : IsPair (g3.push { cls := .type "tuple", data := .seq #[x, y] }) g3.objs.size x y := Heap.get?_push_size _ rfl
  rw [hsz] at pr
  refine wpAny_pure ⟨_, rfl, wpAny_pure ?_⟩
  show Q (some (.ref g3.objs.size)) _
  rw [hsz]
  exact hQ _ (Heap.get?_push_of_some _ z3) (N1.mv u1 fun o e => Heap.get?_push_of_some _ e) (N2.mv t3 fun o e => Heap.get?_push_of_some _ e) pr fun c o c1 c3 c4 e => Heap.get?_push_of_some _ (k3 c o c1 c3 c4 e)
/-- .. and its end -/
theorem zip_fin (N1 : Nx i1 l1 st1 src1) (N2 : Nx i2 l2 st2 src2) {k1 k2 : Nat} {xs ys : Array Value} {p : Addr} {o : Obj} {b : Bool} {Q : Option Value → Shared → Prop} (hh : A.handled = none) (D : ZipApart z TI TO i1 i2 l1 l2)
    (hz : IsZipB s.heap z TI TO (rawInt (p : Int)) b) (hp : s.heap.get? p = some o) (hTI : IsPair s.heap TI (.ref i1) (.ref i2)) (h1 : st1 k1 s.heap) (h2 : st2 k2 s.heap) (hl1 : src1 xs s.heap) (hl2 : src2 ys s.heap) (hend : xs[k1]? = none ∨ ys[k2]? = none)
    (hQ : ∀ h', (∀ c o, c ≠ z → c ≠ i1 → c ≠ i2 → s.heap.get? c = some o → h'.get? c = some o) → Q none { s with heap := h' }) : wpAny (model prog w) A (pyNext (.ref z)) Q E s := by
  have hT : s.TypeIs (.ref z) "zip" := ⟨_, hz, rfl⟩
  unfold pyNext
  have fin : ∀ (h' : Heap) (e : Addr), (∀ c o, c ≠ z → c ≠ i1 → c ≠ i2 → s.heap.get? c = some o → h'.get? c = some o) → (∃ o, h'.get? e = some o ∧ o.cls = .type "StopIteration") →
      wpAny (model prog w) A (isInstance (.ref e) (.type "StopIteration") >>= fun b => if b = true then pure none else throw (.ref e)) Q E { s with heap := h' } := fun h' e hk ⟨o, ho, hc⟩ =>
    wpAny_bind (wpAny_isInstance (T := "StopIteration") (b := true) ⟨o, ho, hc⟩ isSubtype_stop (wpAny_pure (hQ _ hk)))
  refine wpAny_bind (wpAny_attempt (wpAny_callSpecial?_slot (name := Str.ofString "__next__") hT F.slot_zip_next (wpAny_call_entry F.slot_zip_next hT F.entry_zip_next ?_ (F.args_zip_next_1 _))))
  show wpAny _ _ (field (.ref z) 2 >>= _) _ _ _
  refine wpAny_bind (wpAny_field hz rfl (x := .bool false) rfl ?_)
  show wpAny _ _ (field (.ref z) 3 >>= _) _ _ _
  refine wpAny_bind (wpAny_field hz rfl (x := .ref TI) rfl ?_)
  refine wpAny_bind (wpAny_seqItems hTI rfl ?_)
  show wpAny _ _ (Builtin.SmallTypes.ownedTupleIsFree (.ref z) >>= _) _ _ _
  refine wpAny_bind (zip_notFree hz hp fun g1 z1 b1 => ?_)
  simp only [Bool.false_eq_true, if_false]
  refine wpAny_bind ?_
  simp only [← Array.forIn_toList, List.forIn_cons, List.forIn_nil]
  refine wpAny_bind (wpAny_bind (wpAny_holding ?_))
  show wpAny _ _ (Builtin.SmallTypes.nextOf (.ref i1) >>= _) _ _ _
  have u1 := N1.mv h1 fun o e => b1.extBut _ _ D.i1z e
  have v1 := N1.mvS hl1 fun o e => b1.extBut _ _ D.l1z e
  cases hx : xs[k1]? with
  | none =>
    refine wpAny_bind (N1.fin hh u1 v1 hx fun g2 e b2 he => ?_)
    exact fin g2 e (fun c o c1 c3 _ x => b2 _ _ c3 (b1.extBut _ _ c1 x)) he
  | some x =>
    have hy : ys[k2]? = none := by
      rcases hend with h | h
      · rw [hx] at h; cases h
      · exact h
    refine wpAny_bind (N1.item u1 v1 hx fun g2 t2 b2 => wpAny_pure (wpAny_pure ?_))
    refine wpAny_bind (wpAny_bind (wpAny_holding ?_))
    show wpAny _ _ (Builtin.SmallTypes.nextOf (.ref i2) >>= _) _ _ _
    refine wpAny_bind (N2.fin hh (N2.mv h2 fun o e => b2.extBut _ _ D.i12.symm (b1.extBut _ _ D.i2z e)) (N2.mvS hl2 fun o e => b2.extBut _ _ D.l2i1 (b1.extBut _ _ D.l2z e)) hy fun g4 e b4 he => ?_)
    exact fin g4 e (fun c o c1 c3 c4 x => b4 _ _ c4 (b2.extBut _ _ c3 (b1.extBut _ _ c1 x))) he
end
/-- how the zip stands before the i-th draw of a dict's making -/
def ZS (z TI TO i1 i2 a b d : Addr) (i : Nat) (h : Heap) : Prop := IsPair h TI (.ref i1) (.ref i2) ∧ h.IsListIter i1 a i ∧ h.IsTupleIter i2 b i ∧
  ((IsZip h z TI TO .none ∧ ∃ u v, IsPair h TO u v) ∨ ∃ (p : Addr) (o : Obj) (bb : Bool), IsZipB h z TI TO (rawInt (p : Int)) bb ∧ h.get? p = some o ∧ p ≠ z ∧ p ≠ i1 ∧ p ≠ i2 ∧ p ≠ d)
theorem ZS.at {z TI TO i1 i2 a b d : Addr} {i : Nat} {h h' : Heap} (x : ZS z TI TO i1 i2 a b d i h) (nz : z ≠ d) (n1 : TI ≠ d) (n2 : TO ≠ d) (n3 : i1 ≠ d) (n4 : i2 ≠ d) (f : ∀ c o, c ≠ d → h.get? c = some o → h'.get? c = some o) : ZS z TI TO i1 i2 a b d i h' := by
  obtain ⟨h1, h2, h3, h4⟩ := x
  refine ⟨f _ _ n1 h1, (nx_list i1 a).mv h2 fun o e => f _ _ n3 e, (nx_tuple i2 b).mv h3 fun o e => f _ _ n4 e, ?_⟩
  rcases h4 with ⟨h4, u, v, h5⟩ | ⟨p, o, bb, h4, h5, m1, m2, m3, m4⟩
  · exact .inl ⟨f _ _ nz h4, u, v, f _ _ n2 h5⟩
  · exact .inr ⟨p, o, bb, f _ _ nz h4, f _ _ m4 h5, m1, m2, m3, m4⟩
section
variable {z TI TO i1 i2 a b d : Addr} {prog : Program} {w : World} {A : Around} {E : Value → Shared → Prop} {s : Shared}
theorem zs_next {i : Nat} {xs ys : Array Value} {x y : Value} {Q : Option Value → Shared → Prop} (D : ZipApart z TI TO i1 i2 a b) (ld : d < s.heap.objs.size) (hz : ZS z TI TO i1 i2 a b d i s.heap) (hl : s.heap.IsList a xs) (ht : s.heap.IsTuple b ys) (hx : xs[i]? = some x) (hy : ys[i]? = some y)
    (hQ : ∀ h', ZS z TI TO i1 i2 a b d (i + 1) h' → IsPair h' s.heap.objs.size x y → (∀ c o, c ≠ z → c ≠ TO → c ≠ i1 → c ≠ i2 → s.heap.get? c = some o → h'.get? c = some o) → Q (some (.ref s.heap.objs.size)) { s with heap := h' }) :
    wpAny (model prog w) A (pyNext (.ref z)) Q E s := by
  obtain ⟨h1, h2, h3, h4⟩ := hz
  have n4 : i1 < s.heap.objs.size := let ⟨_, e, _⟩ := (nx_list i1 a).ob h2; Heap.lt_size e
  have n5 : i2 < s.heap.objs.size := let ⟨_, e, _⟩ := (nx_tuple i2 b).ob h3; Heap.lt_size e
  rcases h4 with ⟨h4, u, v, h5⟩ | ⟨p, o, bb, h4, h5, m1, m2, m3, m4⟩
  · have nz : z < s.heap.objs.size := Heap.lt_size h4
    refine zip_item (nx_list i1 a) (nx_tuple i2 b) D h4 h1 h5 h2 h3 hl ht hx hy fun h' z1 z2 z3 z4 z5 kp => ?_
    exact hQ h' ⟨kp _ _ D.TIz D.TITO D.TIi1 D.TIi2 h1, z3, z4, .inr ⟨s.heap.objs.size, _, false, z1, z5, Nat.ne_of_gt nz, Nat.ne_of_gt n4, Nat.ne_of_gt n5, Nat.ne_of_gt ld⟩⟩ z5 kp
  · refine zip_more (nx_list i1 a) (nx_tuple i2 b) D h4 h5 h1 h2 h3 hl ht hx hy fun h' z1 z3 z4 z5 kp => ?_
    exact hQ h' ⟨kp _ _ D.TIz D.TIi1 D.TIi2 h1, z3, z4, .inr ⟨p, o, true, z1, kp _ _ m1 m2 m3 h5, m1, m2, m3, m4⟩⟩ z5 fun c o c1 _ c3 c4 e => kp c o c1 c3 c4 e
theorem zs_end {i : Nat} {xs ys : Array Value} {Q : Option Value → Shared → Prop} (hh : A.handled = none) (D : ZipApart z TI TO i1 i2 a b) (hz : ZS z TI TO i1 i2 a b d i s.heap) (hl : s.heap.IsList a xs) (ht : s.heap.IsTuple b ys) (he : xs[i]? = none ∨ ys[i]? = none)
    (hQ : ∀ h', (∀ c o, c ≠ z → c ≠ TO → c ≠ i1 → c ≠ i2 → s.heap.get? c = some o → h'.get? c = some o) → Q none { s with heap := h' }) : wpAny (model prog w) A (pyNext (.ref z)) Q E s := by
  obtain ⟨h1, h2, h3, h4⟩ := hz
  rcases h4 with ⟨h4, u, v, h5⟩ | ⟨p, o, bb, h4, h5, m1, m2, m3, m4⟩
  · exact zip_end (nx_list i1 a) (nx_tuple i2 b) hh D h4 h1 h5 h2 h3 hl ht he hQ
  · exact zip_fin (nx_list i1 a) (nx_tuple i2 b) hh D h4 h5 h1 h2 h3 hl ht he fun h' kp => hQ h' fun c o c1 _ c3 c4 e => kp c o c1 c3 c4 e
end
section
variable {prog : Program} {w : World} {K : Type} [DecidableEq K] {knd : KeyKind prog w K} {A : Around} {R : Result → Shared → Prop} {z TI TO i1 i2 a b d : Addr} {xs ys : Array Value} {rs : List (K × Value)} {h₀ : Heap} {g : Array GenState} {dr : Drawn} {os : OsState}
theorem upd_loopZ (hh : A.handled = none) (D : ZipApart z TI TO i1 i2 a b) (nz : z ≠ d) (n1 : TI ≠ d) (n2 : TO ≠ d) (n3 : i1 ≠ d) (n4 : i2 ≠ d) (na : a ≠ d) (nb : b ≠ d) (hsz : rs.length ≤ sizeLine)
    (pa : ∀ (i : Nat) (k : K) (u : Value), rs[i]? = some (k, u) → ∃ kv, xs[i]? = some kv ∧ ys[i]? = some u ∧ knd.is k kv = true) (he : xs[rs.length]? = none ∨ ys[rs.length]? = none) (hl : h₀.IsList a xs) (ht : h₀.IsTuple b ys) (aTO : a ≠ TO) (a1 : a ≠ i1) (a2 : a ≠ i2) (az : a ≠ z) (bTO : b ≠ TO) (b1 : b ≠ i1) (b2 : b ≠ i2) (bz : b ≠ z)
    (fin : ∀ h' tk, h'.DictOf knd d (merged [] rs) → (∀ c o, c ≠ z → c ≠ TO → c ≠ i1 → c ≠ i2 → c ≠ d → h₀.get? c = some o → h'.get? c = some o) → R (.ok (.ret .none)) ⟨h', g, dr, tk, os⟩) :
    ∀ (k i : Nat) (h : Heap) (tk : Nat), rs.length - i = k → i ≤ rs.length → ZS z TI TO i1 i2 a b d i h → (∀ c o, c ≠ z → c ≠ TO → c ≠ i1 → c ≠ i2 → c ≠ d → h₀.get? c = some o → h.get? c = some o) → h.DictOf knd d (merged [] (rs.take i)) →
      codeAny (model prog w) A (.builtin "dict.update.loop" ⟨[.ref d, .ref z, rawInt i, .none], []⟩) R ⟨h, g, dr, tk, os⟩ := by
  intro k
  induction k with
  | zero =>
    intro i h tk hk hi hit kp hD
    have hin' : i = rs.length := by omega
    refine codeAny_builtin entry_upd_loop ?_
    rw [Around.under_plainId plain_upd_loop _]
    show wpAny _ A.in1 (pyNext (.ref z) >>= _) _ _ _
    refine wpAny_bind (zs_end (s := ⟨h, g, dr, tk, os⟩) (by simpa using hh) D hit (hl.at fun o e => kp a o az aTO a1 a2 na e) (let ⟨o, e, r⟩ := ht; ⟨o, kp b o bz bTO b1 b2 nb e, r⟩) (by rw [hin']; exact he) fun h' kp' => ?_)
    show wpAny _ A.in1 (Builtin.Dict.addKeywords d [] >>= fun _ => ret Value.none) _ _ _
    rw [hin', List.take_length] at hD
    obtain ⟨od, es, ep, ho, r⟩ := hD
    exact wpAny_bind (wpAny_pure (wpAny_pure (fin h' tk ⟨od, es, ep, kp' d od nz.symm n2.symm n3.symm n4.symm ho, r⟩ fun c o c1 c2 c3 c4 c5 e => kp' c o c1 c2 c3 c4 (kp c o c1 c2 c3 c4 c5 e))))
  | succ k ih =>
    intro i h tk hk hi hit kp hD
    have hlt : i < rs.length := by omega
    obtain ⟨⟨k', u⟩, hku⟩ : ∃ p, rs[i]? = some p := ⟨rs[i], List.getElem?_eq_getElem _⟩
    obtain ⟨kv, hx, hy, his⟩ := pa i k' u hku
    refine codeAny_builtin entry_upd_loop ?_
    rw [Around.under_plainId plain_upd_loop _]
    show wpAny _ A.in1 (pyNext (.ref z) >>= _) _ _ _
    have ld : d < h.objs.size := let ⟨_, _, _, e, _⟩ := hD; Heap.lt_size e
    refine wpAny_bind (zs_next (s := ⟨h, g, dr, tk, os⟩) D ld hit (hl.at fun o e => kp a o az aTO a1 a2 na e) (let ⟨o, e, r⟩ := ht; ⟨o, kp b o bz bTO b1 b2 nb e, r⟩) hx hy fun h' zs pr kp' => ?_)
    have pr : IsPair h' h.objs.size kv u := pr
    have hT : (⟨h', g, dr, tk, os⟩ : Shared).TypeIs (.ref h.objs.size) "tuple" := ⟨_, pr, rfl⟩
    show wpAny _ A.in1 (holding [Value.ref h.objs.size] _ >>= _) _ _ _
    refine wpAny_bind (wpAny_holding (wpAny_bind (wpAny_tryCatch ?_)))
    unfold Builtin.Dict.pairItems
    refine wpAny_bind (wpAny_typeOf hT ?_)
    rw [if_pos (by decide)]
    refine wpAny_bind (wpAny_seqItems pr rfl (wpAny_pure ?_))
    show wpAny _ A.in1 (holding [kv, u] (dictSet d kv u)) _ _ _
    have hD' : h'.DictOf knd d (merged [] (rs.take i)) := by
      obtain ⟨od, es, ep, ho, r⟩ := hD
      exact ⟨od, es, ep, kp' d od nz.symm n2.symm n3.symm n4.symm ho, r⟩
    have hlen : (merged [] (rs.take i)).length ≤ sizeLine := by
      have e1 := merged_length_le ([] : List (K × Value)) (rs.take i)
      have e2 : (rs.take i).length ≤ rs.length := by rw [List.length_take]; omega
      simp only [List.length_nil, Nat.zero_add] at e1
      omega
    refine wpAny_holding (wpAny_dictSet_pairs (hsz := hlen) (s := ⟨h', g, dr, tk, os⟩) his hD' fun h2 hD2 sb => ?_)
    rw [← merged_take_succ [] rs i (k', u) hku] at hD2
    refine wpAny_pure ⟨plainId_quiet plain_upd_loop _, ih (i + 1) h2 _ (by omega) (by omega) (zs.at nz n1 n2 n3 n4 fun c o hc e => (sb.2 c hc).trans e) ?_ hD2⟩
    intro c oc c1 c2 c3 c4 c5 e
    exact (sb.2 c c5).trans (kp' c oc c1 c2 c3 c4 (kp c oc c1 c2 c3 c4 c5 e))
end
end L2

/-! MY RULES: dict(zip(list, tuple)). -/
set_option linter.all false
set_option maxRecDepth 100000
namespace L2
open PySem PySem.Spec PyProof.Rows
theorem am_zip_getattr_none : typeLookup (.type "zip") "__getattr__" = pure none := by rw [typeLookup_type, builtinLookup_eq_fast]; kernel_rfl
theorem am_entry_zip_getattribute : entryFor table "zip.__getattribute__" = some Builtin.«object.__getattribute__» :=
  entryFor_alias (id' := "object.__getattribute__") (by kernel_rfl) (by decide +kernel) (by decide +kernel) (by kernel_rfl)
theorem miss_keysZ : typeLookup (.type "zip") "keys" = pure none := by rw [typeLookup_type, builtinLookup_eq_fast]; kernel_rfl
theorem meets_miss_zip (a : Addr) (fs : Array Value) (sl : Array (Option Value)) (name : Str) (u : Tok) (hmiss : typeLookup (.type "zip") name = pure none) (hname : (["__module__", "__name__", "__qualname__", "__doc__", "__annotations__"] : List Str).contains name = false) (hsz : name.length + 100 ≤ sizeLine := by size_fits) :
    Meets (Builtin.«object.__getattribute__» ⟨[.ref a, .str name u], []⟩) (fun A R s => s.heap.get? a = some { cls := .type "zip", dict := none, data := .fields fs, slots := sl } ∧ raisesAttr (.ref a) name A R s) :=
  Meets.of_wp fun prog w A R s hs => by
    obtain ⟨hp, g, d, tk, os⟩ := s
    obtain ⟨hx, hs⟩ := hs
    have hT : (⟨hp, g, d, tk, os⟩ : Shared).TypeIs (.ref a) "zip" := ⟨_, hx, rfl⟩
    unfold Builtin.«object.__getattribute__»
    repeat (any_goals (first | assumption | wp_step))
    simp only [hname, Bool.false_eq_true, if_false]
    repeat (any_goals (first | assumption | wp_step))
    exact wpAny_raiseAttrError hs.1 hs.2 (attrMsg_fits (by decide +kernel) hsz)
theorem keys_missZ {prog : Program} {w : World} {A : Around} {E : Value → Shared → Prop} {s : Shared} {a : Addr} {fs : Array Value} {sl : Array (Option Value)} {Q : Option Value → Shared → Prop}
    (hx : s.heap.get? a = some { cls := .type "zip", dict := none, data := .fields fs, slots := sl }) (hA : A.handled = none)
    (h : ∀ h' tk, (∀ b ob, s.heap.get? b = some ob → h'.get? b = some ob) → Q none { s with heap := h', toks := tk }) : wpAny (model prog w) A (getAttr? (.ref a) "keys") Q E s := by
  obtain ⟨hp, g, d, tk, os⟩ := s
  have hT : ∀ tk', (⟨hp, g, d, tk', os⟩ : Shared).TypeIs (.ref a) "zip" := fun _ => ⟨_, hx, rfl⟩
  have f1 := sub_AttributeError
  have f3 := F.slot_zip_getattribute.lookup
  have f4 := F.slot_zip_getattribute.bind (.ref a)
  have f5 := am_zip_getattr_none
  unfold getAttr? getAttrBy? getAttrBy
  repeat (any_goals (first | assumption | exact hT _ | ((with_reducible show wpAny _ _ (call (Value.builtin "zip.__getattribute__") _ _) _ _ _); refine call_meets F.slot_zip_getattribute (hT _) am_entry_zip_getattribute (F.args_zip_getattribute_2 _ _) (meets_miss_zip a fs sl "keys" _ miss_keysZ (by decide) (by decide)) ⟨hx, hA, fun h' tk' e hx' => ?_⟩) | wp_step))
  obtain ⟨t', u', he⟩ := hx'.there
  show wpAny _ _ (getattributeRaised _ _ _ _ _ _ _) _ _ _
  unfold getattributeRaised
  repeat (any_goals (first | assumption | wp_step))
  all_goals exact h _ _ hx'.1
end L2

/-! MY RULES: dict(zip(list, tuple)), whole. -/
set_option linter.all false
set_option maxRecDepth 100000
namespace L2
open PySem PySem.Spec PyProof.Rows
def tDZ (K : PySem.W.Frag) (ta : TA) : TE := fun σ H Q => ta σ H fun vs H1 => ∃ l t ks us, vs = [.ref l, .ref t] ∧ SqL K H1 l ((ks : List Key).map kV) ∧ SqT K H1 t us ∧ ks.length = us.length ∧ ∀ p, H1 p = none → Q (.ref p) (upd H1 p (.dK (mergeK [] (ks.zip us))))
theorem kv_zip : ∀ {ks : List Key} {us : List V} {vs : List Value}, ks.length = us.length → Vals us vs → KV (ks.zip us) (ks.zip vs)
  | [], [], _, _, .nil => .nil
  | k :: ks, u :: us, _, h, .cons r t => .cons ⟨rfl, r⟩ (kv_zip (by simpa using h) t)
theorem keys_raw {P : Program} {w : World} : ∀ {ks : List Key} {its : List Value}, Vals (ks.map kV) its → ∀ {i : Nat} {k : Key}, ks[i]? = some k → ∃ v, its[i]? = some v ∧ (mixKind P w).is k v = true
  | [], _, .nil, i, k, h => by simp at h
  | _ :: _, _, .cons r t, 0, k, h => by simp at h; subst h; exact ⟨_, rfl, kV_is r⟩
  | _ :: _, _, .cons r t, i + 1, k, h => by
    obtain ⟨v, e1, e2⟩ := keys_raw (P := P) (w := w) t (i := i) (k := k) (by simpa using h)
    exact ⟨v, by simpa using e1, e2⟩
section
variable {X : Cx}
theorem pe_dictzip {a b : Expr} {ta : TA} {p1 p2 pos1 pos2 : Pos} (hc : X.calm = true) (hgd : Gl X "dict") (hmd : X.mg "dict" = none) (hgz : Gl X "zip") (hmz : X.mg "zip" = none) (ha : PA X [a, b] ta)
    (hs0 : starEach [.Call (.Name "zip" p2) [a, b] [] pos2] X.env = (false, eval (.Call (.Name "zip" p2) [a, b] [] pos2) X.env) :: starEach [] X.env := by rfl)
    (hs : starEach [a, b] X.env = [(false, eval a X.env), (false, eval b X.env)] := by rfl) (hs2 : starEach [b] X.env = [(false, eval b X.env)] := by rfl) :
    PE X (.Call (.Name "dict" p1) [.Call (.Name "zip" p2) [a, b] [] pos2] [] pos1) (tDZ X.K ta) := by
  intro pins s σ H Q I h
  have hh : X.A.handled = none := I.ok.hd hc
  refine wpAny_Call_Name_kw (ld_blt I hgd hmd boot_dict ?_)
  refine PyProof.Rows.callWith_type1 ?_ hs0 (by rfl)
  rw [hs0]
  show wpAny _ _ (spliced ((false, eval _ X.env) :: backTo pos1 (starEach [] X.env))) _ _ s
  refine Calls.spliced_cons ?_
  refine Call_ (ld_blt I hgz hmz boot_zip (PyProof.Rows.callWith_type1 (thn (ha pos2 pins s σ H _ I h) fun us s1 ⟨vs, H1, I1, r1, q1⟩ => ?_) (by rw [hs, hs2]) (by rw [hs2]; rfl)))
  obtain ⟨l1, l2, ks, ws, e, hq1, hq2, hle, q⟩ := q1
  subst e
  obtain ⟨u, u2, rfl, ru, ru2⟩ := vals2 r1
  cases ru
  cases ru2
  obtain ⟨its, rv, p1', zk⟩ := I1.list hq1
  obtain ⟨its2, rv2, p2', _⟩ := I1.tuple hq2
  have t1 : l1 < s1.heap.objs.size := let ⟨_, e, _⟩ := p1'.isList; Heap.lt_size e
  have t2 : l2 < s1.heap.objs.size := p2'.lt
  have e1 := rv.length
  have e2 := rv2.length
  rw [List.length_map] at e1
  have hn := I1.hok.fresh (Nat.le_refl s1.heap.objs.size)
  refine call_zip_lt p1'.isList (show s1.heap.IsTuple l2 its2.toArray from p2') fun h' zs kp => Calls.spliced_nil ?_
  obtain ⟨hz, hTI, ⟨tu, tv, hTO⟩, hi1, hi2⟩ := zs
  have D := zipApart_new t1 t2
  have lz : s1.heap.objs.size + 4 < h'.objs.size := Heap.lt_size hz
  refine callType_codes (Q₁ := fun obj s₁ => obj = .ref h'.objs.size ∧ s₁ = { s1 with heap := h'.push { cls := .type "dict", data := .dict #[] } }) F.kt_called_dict (F.kt_typeCall_dict_1 _) F.entry_dict_init (kt_code_dict_new (s := { s1 with heap := h' }) _ ⟨rfl, rfl⟩) ?_
  rintro obj s₁ ⟨rfl, rfl⟩
  have hnew : (h'.push { cls := .type "dict", data := .dict #[] }).DictOf (mixKind X.prog X.w) h'.objs.size [] := Heap.DictOf.new h'
  have ez : (h'.push { cls := .type "dict", data := .dict #[] }).get? (s1.heap.objs.size + 4) = some _ := Heap.get?_push_of_some _ hz
  have hTz : Shared.TypeIs { s1 with heap := h'.push { cls := .type "dict", data := .dict #[] } } (.ref (s1.heap.objs.size + 4)) "zip" := ⟨_, ez, rfl⟩
  refine ⟨hnew.typeIs, F.args_dict_init_2 _ _, ?_⟩
  unfold Builtin.«dict.__init__»
  refine wpAny_bind ?_
  unfold Builtin.Dict.selfAndRest
  refine wpAny_bind (wpAny_notOrdered_dict hnew.typeIs ?_)
  show wpAny _ _ (pure (h'.objs.size, [Value.ref (s1.heap.objs.size + 4)])) _ _ _
  refine wpAny_pure ?_
  show wpAny _ _ (Builtin.Dict.updateFrom "dict.__init__" h'.objs.size (.ref (s1.heap.objs.size + 4)) [] .none) _ _ _
  unfold Builtin.Dict.updateFrom
  refine wpAny_bind (wpAny_typeOf hTz ?_)
  rw [if_pos (by decide)]
  refine wpAny_bind (keys_missZ ez (by simpa using hh) fun h1 tk1 kp1 => ?_)
  rw [if_pos (show (none : Option Value).isNone = true from rfl)]
  refine wpAny_bind (wpAny_rule ?_)
  refine wpAny_bind (wpAny_pyIter_zip (s := { s1 with heap := h1, toks := tk1 }) (kp1 _ _ ez) ?_)
  have up : ∀ c o, h'.get? c = some o → h1.get? c = some o := fun c o e => kp1 _ _ (Heap.get?_push_of_some _ e)
  have lr : (ks.zip its2).length = ks.length := by rw [List.length_zip]; omega
  have q1 : ∀ i : Nat, i ≤ 4 → s1.heap.objs.size + i ≠ h'.objs.size := fun i hi z => by omega
  have q2 : ∀ c : Nat, c < s1.heap.objs.size → c ≠ h'.objs.size := fun c hc z => by omega
  have q3 : ∀ c i : Nat, c < s1.heap.objs.size → c ≠ s1.heap.objs.size + i := fun c i hc z => by omega
  have le' : s1.heap.objs.size ≤ h'.objs.size := by omega
  have z1 : ks.length ≤ sizeLine := by rw [List.length_map] at zk; exact zk
  refine wpAny_pure ⟨plainId_quiet plain_upd_loop _, upd_loopZ (knd := mixKind X.prog X.w) (rs := ks.zip its2) (xs := its.toArray) (ys := its2.toArray) (h₀ := h1) (by simpa using hh) D (q1 4 (by decide)) (q1 2 (by decide)) (q1 3 (by decide)) (q1 0 (by decide)) (q1 1 (by decide)) (q2 _ t1) (q2 _ t2) (by rw [lr]; exact z1) (fun i k u hr => ?_) ?_ (p1'.isList.at fun o e => up _ _ (kp _ _ e)) (let ⟨o, e, r⟩ := p2'; ⟨o, up _ _ (kp _ _ e), r⟩) (q3 _ 3 t1) (q3 _ 0 t1) (q3 _ 1 t1) (q3 _ 4 t1) (q3 _ 3 t2) (q3 _ 0 t2) (q3 _ 1 t2) (q3 _ 4 t2) (fun h2 tk dd kp2 => ?_) (ks.zip its2).length 0 h1 _ (by omega) (Nat.zero_le _) ⟨up _ _ hTI, (nx_list _ l1).mv hi1 fun o e => up _ _ e, (nx_tuple _ l2).mv hi2 fun o e => up _ _ e, .inl ⟨up _ _ hz, tu, tv, up _ _ hTO⟩⟩ (fun _ _ _ _ _ _ _ z => z) ?_⟩
  · obtain ⟨g1, g2⟩ := List.getElem?_zip_eq_some.mp hr
    obtain ⟨kv, g3, g4⟩ := keys_raw (P := X.prog) (w := X.w) rv g1
    exact ⟨kv, by simpa using g3, by simpa using g2, g4⟩
  · left
    rw [lr]
    simp
    omega
  · have kv := kv_zip hle rv2
    refine ⟨rfl, .ref h'.objs.size, _, I1.laid (t' := tk) (o := .dK (mergeK [] (ks.zip ws))) (fun b u eb => ?_) le' ⟨?_, ?_, _, KV.merge kv .nil, dd⟩, rfl, q _ (I1.hok.fresh le')⟩
    · have lb := Heap.lt_size eb
      exact kp2 b u (q3 _ 4 lb) (q3 _ 3 lb) (q3 _ 0 lb) (q3 _ 1 lb) (q2 _ lb) (up _ _ (kp _ _ eb))
    · have := length_mergeK (ks.zip ws) []
      have lw : (ks.zip ws).length = ks.length := by rw [List.length_zip]; omega
      simp only [List.length_nil] at this
      omega
    · have := I1.big
      have hne : h'.objs.size ≠ sysModules := Nat.ne_of_gt (Nat.lt_of_lt_of_le this le')
      simpa using hne
  · obtain ⟨od, es, ep, g, r⟩ := hnew
    exact ⟨od, es, ep, kp1 _ _ g, r⟩
end
end L2

/-! MY RULES: t + u of tuples, either may be empty. -/
set_option linter.all false
set_option maxRecDepth 100000
set_option maxHeartbeats 2000000
namespace L2
open PySem PySem.Spec PyProof.Rows
section
variable {X : Cx}
def rCatT3 (K : PySem.W.Frag) : R2 := fun x y H Q => ∃ a b xs ys, x = .ref a ∧ y = .ref b ∧ SqT K H a xs ∧ SqT K H b ys ∧ xs.length + ys.length ≤ sizeLine ∧
  (xs = [] → Q (.ref b) H) ∧ (xs ≠ [] → ys = [] → Q (.ref a) H) ∧ (xs ≠ [] → ys ≠ [] → ∀ p, H p = none → Q (.ref p) (upd H p (.tup (xs ++ ys))))
theorem op_catT3 : OpR X (binaryOp .Add) (rCatT3 X.K) := by
  intro pins s σ H x y v u Q I rx ry h
  obtain ⟨a, b, xs, ys, rfl, rfl, ha, hb, hz, q1, q2, q3⟩ := h
  by_cases hx : xs = []
  · subst hx
    cases rx
    cases ry
    obtain ⟨its, r1, p1, _⟩ := I.tuple ha
    obtain ⟨its2, r2, p2, _⟩ := I.tuple hb
    have e1 : its = [] := r1.nil_iff.mpr rfl
    obtain ⟨⟨cls, dd, data, sl⟩, ho, hc, n, hd⟩ := id p1
    obtain ⟨⟨cls2, dd2, data2, sl2⟩, ho2, hc2, n2, hd2⟩ := id p2
    simp only at hc hd hc2 hd2
    subst hc hd hc2 hd2
    exact concat_meets ⟨_, ho, rfl⟩ ⟨_, ho2, rfl⟩ noFill_tuple_add seq_tuple_add PySem.F.slot_tuple_add PySem.F.entry_tuple_add (PySem.F.args_tuple_add_2 _ _)
      (tuple_addW0 a b its.toArray its2.toArray n n2 dd dd2 sl sl2 (by simp [e1])) ⟨ho, ho2, ⟨.ref b, H, I, rfl, q1 rfl⟩⟩
  · exact op_catT pins s σ H _ _ v u Q I rx ry ⟨a, b, xs, ys, rfl, rfl, ha, hb, hx, hz, fun z => q2 hx z, fun z => q3 hx z⟩
/-- the same, told in one word -/
def rCatT4 : R2 := fun x y H Q => ∃ a b xs ys, x = .ref a ∧ y = .ref b ∧ H a = some (.tup xs) ∧ H b = some (.tup ys) ∧ xs.length + ys.length ≤ sizeLine ∧ ∀ q H', Same H H' → H' q = some (.tup (xs ++ ys)) → Q (.ref q) H'
theorem op_catT4 : OpR X (binaryOp .Add) rCatT4 := fun pins s σ H x y v u Q I rx ry h => by
  obtain ⟨a, b, xs, ys, e1, e2, ha, hb, hz, q⟩ := h
  refine op_catT3 pins s σ H x y v u Q I rx ry ⟨a, b, xs, ys, e1, e2, SqT.of ha, SqT.of hb, hz, fun z => ?_, fun _ z => ?_, fun _ _ p hp => ?_⟩
  · subst z; exact q b H (Same.refl _) hb
  · subst z; exact q a H (Same.refl _) (by rw [List.append_nil]; exact ha)
  · exact q p _ (same_new hp) upd_same
end
end L2

/-! MY RULES: a[::-1]. -/
set_option linter.all false
set_option maxRecDepth 100000
namespace L2
open PySem PySem.Spec PyProof.Rows
section
variable {X : Cx}
/-- some of the items, as xs[::-1] picks them -/
def tSlR (K : PySem.W.Frag) (te : TE) (tl th : TO) (ts : TE) : TE := fun σ H Q => te σ H fun x H1 => tl σ H1 fun l H2 => th σ H2 fun u H3 => ts σ H3 fun y H4 => ∃ a xs, x = .ref a ∧ l = none ∧ u = none ∧ y = .int (-1) ∧ SqL K H4 a xs ∧ ∀ p zs, H4 p = none → zs.length ≤ xs.length → (∀ z ∈ zs, z ∈ xs) → Q (.ref p) (upd H4 p (.lst zs))
theorem pe_sliceR {e st : Expr} {lo hi : Option Expr} {te ts : TE} {tl th : TO} {p2 pos : Pos} (he : PE X e te) (hl : PO X lo tl) (hu : PO X hi th) (hst : PE X st ts) : PE X (.Subscript e (.Slice lo hi (some st) p2) pos) (tSlR X.K te tl th ts) := by
  intro pins s σ H Q I h
  refine Subscript_ (thn (he pins s σ H _ I h) fun v s1 ⟨x, H1, I1, r1, q1⟩ => ?_)
  refine wpAny_Slice (thn (hl pins s1 σ H1 _ I1 q1) fun vl s2 ⟨l, H2, I2, pl, q2⟩ => thn (hu pins s2 σ H2 _ I2 q2) fun vu s3 ⟨u, H3, I3, pu, q3⟩ => ?_)
  rw [evalPart_some]
  refine thn (hst pins s3 σ H3 _ I3 q3) fun vs s4 ⟨y, H4, I4, r4, q4⟩ => ?_
  obtain ⟨a, xs, rfl, rfl, rfl, rfl, hq, q⟩ := q4
  cases r1
  obtain ⟨tk, rfl⟩ := (show ∃ t, vs = Value.int (-1) t from r4)
  have I5 : Inv X pins σ H4 { s4 with heap := s4.heap.push { cls := .type "slice", data := .fields #[vl, vu, .int (-1) tk] } } := I4.kept (t' := s4.toks) fun b ob q => Heap.get?_push_of_some _ q
  obtain ⟨its, r, ht, hz⟩ := I5.list hq
  have hlen := r.length
  show wpAny (model X.prog X.w) X.A (subscriptTail e (.Slice lo hi (some st) p2) (.ref a) (.ref s4.heap.objs.size)) (EP X pins σ Q) X.xe { s4 with heap := s4.heap.push { cls := .type "slice", data := .fields #[vl, vu, .int (-1) tk] } }
  refine tail_any (ops := [.ref a, .ref s4.heap.objs.size]) (T := "list") ht.isList.typeIs slot_list_getitem.lookup ?_ (by with_unfolding_all rfl)
  refine wpAny_getItem_list_slice ht.isList (Heap.IsSliceOf.new ..) pl pu (.int (-1) tk) (by intro z; cases z) ?_ (by rw [List.size_toArray] <;> omega)
  generalize hjs : sliceRange (sliceBounds none none (some (-1)) its.toArray.size).1 (sliceBounds none none (some (-1)) its.toArray.size).2.1 (sliceBounds none none (some (-1)) its.toArray.size).2.2 = js
  have hp : slicePick its.toArray none none (some (-1)) = (js.filterMap (its[·]?)).toArray := by
    unfold slicePick
    rw [hjs]
    simp
  have hjl : js.length ≤ its.length := by
    rw [← hjs]
    have b1 : (sliceBounds none none (some (-1)) its.toArray.size).2.1 = -1 := by simp [sliceBounds]
    have b2 : (sliceBounds none none (some (-1)) its.toArray.size).2.2 = -1 := by simp [sliceBounds]
    have b3 : (sliceBounds none none (some (-1)) its.toArray.size).1 = (its.length : Int) - 1 := by simp [sliceBounds]
    rw [b1, b2, b3]
    unfold sliceRange
    rw [List.length_map, List.length_range]
    simp
    omega
  rw [hp]
  have hzl : (js.filterMap (xs[·]?)).length ≤ xs.length := by
    have := List.length_filterMap_le (xs[·]?) js
    omega
  refine ⟨.ref _, _, I5.laid (t' := s4.toks) (o := .lst (js.filterMap (xs[·]?))) (fun b ob q => Heap.get?_push_of_some _ q) (Nat.le_refl _) ?_, rfl, q _ _ (I5.hok.fresh (Nat.le_refl _)) hzl fun z hz' => ?_⟩
  · exact ⟨by omega, _, 0, vals_pick r js, Heap.get?_push_size _ rfl⟩
  · obtain ⟨j, _, e⟩ := List.mem_filterMap.mp hz'
    exact List.mem_of_getElem? e
end
end L2

set_option Elab.async false
set_option linter.all false
set_option maxRecDepth 100000
set_option maxHeartbeats 4000000
namespace My
open PySem L2
/-! ### the data of k07 -/
inductive Op3 | plus | minus | times
inductive Tm
  | num (z : Int) | place (x : Str) | read (a : Str) (ix : List (Str × Int)) | sum (x : Str) (b : Tm) | pair (k : Op3) (l r : Tm) | guard (x : Str) (lo hi : Int) (l r : Tm)
def encI (e : Str × Int) : PyData := .tuple [.str e.1, .int e.2]
def encIx (ix : List (Str × Int)) : PyData := .list (ix.map encI)
def dep : Tm → Nat
  | .sum _ b => dep b + 1
  | .pair _ l r => max (dep l) (dep r) + 1
  | .guard _ _ _ l r => max (dep l) (dep r) + 1
  | _ => 1
theorem dep_pos : ∀ t : Tm, 1 ≤ dep t
  | .num z => by simp [dep]
  | .place x => by simp [dep]
  | .read a ix => by simp [dep]
  | .sum x b => by simp [dep]
  | .pair k l r => by simp [dep]
  | .guard x lo hi l r => by simp [dep]
/-! ### equal data are equal trees -/
/-! ### shape -/
/-! ### texts -/
/-! ### trees with their weight and depth -/
def Axs (A : List Str) : Tm → Prop
  | .num _ => True
  | .place x => x ∈ A
  | .read _ ix => ∀ e ∈ ix, e.1 = "" ∨ e.1 ∈ A
  | .sum x b => x ∈ A ∧ Axs A b
  | .pair _ l r => Axs A l ∧ Axs A r
  | .guard x _ _ l r => x ∈ A ∧ Axs A l ∧ Axs A r
/-! ### good texts -/
abbrev abc : Str := "abcdefghijklmnopqrstuvwxyz"
theorem abc_len : abc.cps.toList.length = 26 := by decide +kernel
theorem abc_len' : abc.length = 26 := by decide +kernel
theorem abc_ok : ∀ c ∈ abc.cps.toList, c < 0x110000 := by decide +kernel
theorem ok_iff {x : Str} : PyData.strOk x = true ↔ ∀ c ∈ x.cps.toList, c < 0x110000 := by
  unfold PyData.strOk
  rw [← Array.all_toList, List.all_eq_true]
  simp
theorem ok_app {x y : Str} (hx : PyData.strOk x = true) (hy : PyData.strOk y = true) : PyData.strOk (x ++ y) = true := by
  rw [ok_iff] at *
  intro c hc
  rw [Str.cps_append, Array.toList_append] at hc
  rcases List.mem_append.mp hc with h | h
  · exact hx c h
  · exact hy c h
theorem ok_one {c : Nat} (h : c < 0x110000) : PyData.strOk ⟨#[c]⟩ = true := by
  rw [ok_iff]
  intro d hd
  simp at hd
  omega
theorem ok_slice {x : Str} {l u : Option Int} (hx : PyData.strOk x = true) : PyData.strOk (Txt.slice x l u) = true := by
  unfold Txt.slice
  split
  · exact hx
  · rw [ok_iff] at *
    intro c hc
    simp only [List.mem_filterMap] at hc
    obtain ⟨i, _, hi⟩ := hc
    refine hx c ?_
    rw [Array.getElem?_toList.symm] at hi
    exact List.mem_of_getElem? hi
theorem lenC (x : Str) : x.cps.toList.length = x.length := by rfl
/-! ### indexes -/
theorem ix_depth {ix : List (Str × Int)} : PyData.depth (encIx ix) ≤ 2 := by
  have h : ∀ l : List (Str × Int), PyData.depthAll (l.map encI) ≤ 1 := by
    intro l
    induction l with
    | nil => simp [PyData.depthAll]
    | cons e r ih => simp [encI, PyData.depthAll, PyData.depth] at *; omega
  have := h ix
  simp only [encIx, PyData.depth]
  omega
theorem ix_cnt {ix : List (Str × Int)} : cnt (encIx ix) ≤ 1 + 3 * ix.length := by
  have h : ∀ l : List (Str × Int), cntAll (l.map encI) ≤ 3 * l.length := by
    intro l
    induction l with
    | nil => simp [cntAll]
    | cons e r ih => simp only [encI, cntAll, cnt, List.map_cons, List.length_cons] at *; omega
  have := h ix
  simp only [encIx, cnt]
  omega
/-! ### how many pairs -/
/-! ### what a tree's tuple holds -/
section
variable {G : Hp} {v : V}
theorem inv_ix {e : Str × Int} (h : Rep G v (encI e)) : ∃ p, v = .ref p ∧ G p = some (.tup [.str e.1, .int e.2]) := by
  obtain ⟨p, xs, rfl, q, r⟩ := rep_tup (show Rep G v (.tuple [.str e.1, .int e.2]) from h)
  obtain ⟨a, r1, rfl, ha, r⟩ := reps_cons r
  obtain ⟨b, r2, rfl, hb, r⟩ := reps_cons r
  cases reps_nil r
  cases rep_str ha
  cases rep_int hb
  exact ⟨p, rfl, q⟩
end
end My

set_option Elab.async false
set_option linter.all false
set_option maxRecDepth 100000
set_option maxHeartbeats 4000000
namespace My
open PySem L2
/-! ### what a tree reads -/
def cellM (f : Str → Int) (ix : List (Str × Int)) : List Int := ix.map fun (e : Str × Int) => if e.1 = ("" : Str) then e.2 else f e.1 + e.2
def setA (f : Str → Int) (x : Str) (k : Int) : Str → Int := fun y => if y = x then k else f y
def rd (len : Str → Int) : Tm → (Str → Int) → List (Str × List Int)
  | .num _, _ => []
  | .place _, _ => []
  | .read a ix, f => [(a, cellM f ix)]
  | .sum x b, f => (List.range (len x).toNat).flatMap fun (k : Nat) => rd len b (setA f x (k : Int))
  | .pair _ l r, f => rd len l f ++ rd len r f
  | .guard x lo hi l r, f => if lo ≤ f x ∧ f x < hi then rd len l f else rd len r f
def Fv : Tm → Str → Prop
  | .num _, _ => False
  | .place x, y => y = x
  | .read _ ix, y => y ≠ "" ∧ ∃ e ∈ ix, e.1 = y
  | .sum x b, y => y ≠ x ∧ Fv b y
  | .pair _ l r, y => Fv l y ∨ Fv r y
  | .guard x _ _ l r, y => y = x ∨ Fv l y ∨ Fv r y
/-- the int that a dict holds at a text -/
def ai (kvs : List (Key × V)) (x : Str) : Int := match valV kvs (Sum.inr x) with | some (.int i) => i | _ => 0
theorem ai_of {kvs : List (Key × V)} {x : Str} {i : Int} (h : valV kvs (Sum.inr x) = some (.int i)) : ai kvs x = i := by unfold ai; rw [h]
theorem valV_mem {kvs : List (Key × V)} {k : Key} {v : V} (h : valV kvs k = some v) : ∃ p ∈ kvs, p.1 = k ∧ p.2 = v := by
  unfold valV at h
  obtain ⟨p, hp, rfl⟩ := Option.map_eq_some_iff.mp h
  exact ⟨p, List.mem_of_find?_eq_some hp, by simpa using List.find?_some hp, rfl⟩
/-- the axes that a tree asks for are there -/
def AtOk (kvs : List (Key × V)) (t : Tm) : Prop := ∀ x, Fv t x → valV kvs (Sum.inr x) = some (.int (ai kvs x))
def LenOk (A : List Str) (lk : List (Key × V)) : Prop := ∀ x ∈ A, valV lk (Sum.inr x) = some (.int (ai lk x)) ∧ 1 ≤ ai lk x ∧ ai lk x ≤ 60
/-! ### reads on the heap -/
def encR (e : Str × List Int) : PyData := .tuple [.str e.1, .tuple (e.2.map PyData.int)]
def TupR (H : Hp) (v : V) (e : Str × List Int) : Prop := ∃ p q, v = .ref p ∧ H p = some (.tup [.str e.1, .ref q]) ∧ H q = some (.tup (e.2.map V.int))
def Rds (H : Hp) : List V → List (Str × List Int) → Prop := Paired (TupR H)
theorem Rds.keep {H H' : Hp} {vs : List V} {rs : List (Str × List Int)} (h : Rds H vs rs) (f : ∀ p xs, H p = some (.tup xs) → H' p = some (.tup xs)) : Rds H' vs rs :=
  Paired.mapP h fun _ _ ⟨p, q, e, h1, h2⟩ => ⟨p, q, e, f _ _ h1, f _ _ h2⟩
theorem Rds.same {H H' : Hp} {vs : List V} {rs : List (Str × List Int)} (h : Rds H vs rs) (s : Same H H') : Rds H' vs rs := h.keep fun _ _ e => s _ _ e
theorem Paired.app {α β : Type} {F : α → β → Prop} : ∀ {a c : List α} {b d : List β}, Paired F a b → Paired F c d → Paired F (a ++ c) (b ++ d)
  | _, _, _, _, .nil, h => h
  | _, _, _, _, .cons r t, h => .cons r (Paired.app t h)
theorem reps_ints {H : Hp} : ∀ ns : List Int, Reps H (ns.map V.int) (ns.map PyData.int)
  | [] => .nil
  | n :: r => .cons (.int n) (reps_ints r)
theorem TupR.rep {H : Hp} {v : V} {e : Str × List Int} (h : TupR H v e) : Rep H v (encR e) := by
  obtain ⟨p, q, rfl, h1, h2⟩ := h
  exact .tup h1 (.cons (.str _) (.cons (.tup h2 (reps_ints _)) .nil))
theorem encR_ints : ∀ ns : List Int, PyData.canLayAll0 (ns.map PyData.int) = true ∧ PyData.depthAll (ns.map PyData.int) = 0 ∧ PyData.eqvAll (ns.map PyData.int) (ns.map PyData.int) = true
  | [] => ⟨rfl, rfl, rfl⟩
  | n :: r => by
    obtain ⟨h1, h2, h3⟩ := encR_ints r
    simp [PyData.canLayAll0, PyData.canLay0, PyData.depthAll, PyData.depth, PyData.eqvAll, PyData.eqv, h1, h2, h3]
theorem encR_shaped {e : Str × List Int} (h : PyData.strOk e.1 = true) : SeqAt.shaped (encR e) = true := by
  obtain ⟨h1, h2, _⟩ := encR_ints e.2
  simp [SeqAt.shaped, encR, PyData.canLay0, PyData.canLayAll0, PyData.depth, PyData.depthAll, h, h1, h2]
theorem encR_eqv (e : Str × List Int) : PyData.eqv (encR e) (encR e) = true := by
  obtain ⟨_, _, h3⟩ := encR_ints e.2
  simp [encR, PyData.eqv, PyData.eqvAll, h3]
end My

set_option Elab.async false
set_option linter.all false
set_option maxRecDepth 100000
set_option maxHeartbeats 4000000
namespace My
open PySem L2
def top (i : Nat) : Stmt := PySem.Challenge.pw_arrayloom_k56_reads_of_steps.main.body.getD i (.Pass ⟨0, 0, 0, 0⟩)
abbrev s_copied : Stmt := top 2
abbrev s_copied_dict : Stmt := top 3
abbrev s_read_by : Stmt := top 5
abbrev s_written_by : Stmt := top 6
abbrev s_Line_init : Stmt := inClass (top 8) 0
abbrev s_Cloth_init : Stmt := inClass (top 9) 0
abbrev s_Number_init : Stmt := inClass (top 12) 0
abbrev s_Number_reads : Stmt := inClass (top 12) 2
abbrev s_Read_init : Stmt := inClass (top 13) 0
abbrev s_Read_cell_at : Stmt := inClass (top 13) 1
abbrev s_Read_reads : Stmt := inClass (top 13) 3
abbrev s_index_at : Stmt := top 14
abbrev s_Pair_init : Stmt := inClass (top 15) 0
abbrev s_Pair_reads : Stmt := inClass (top 15) 2
abbrev s_Guard_init : Stmt := inClass (top 19) 0
abbrev s_Guard_lets_in : Stmt := inClass (top 19) 1
abbrev s_Guard_looked_at : Stmt := inClass (top 19) 3
abbrev s_Guard_reads : Stmt := inClass (top 19) 5
abbrev s_l_cell_at : Stmt := top 21
abbrev s_l_whole : Stmt := top 22
abbrev s_l_mix : Stmt := top 23
abbrev s_l_index_by : Stmt := top 24
abbrev s_l_piece_by : Stmt := top 25
abbrev s_l_term_of : Stmt := top 26
abbrev s_l_line_by : Stmt := top 27
abbrev s_l_names_by : Stmt := top 28
abbrev s_l_cells : Stmt := top 29
abbrev s_l_steps_by : Stmt := top 30
abbrev s_l_due_of : Stmt := top 31
abbrev s_l_is_spot : Stmt := top 32
abbrev s_l_all_told : Stmt := top 33
abbrev s_l_cloth_of : Stmt := top 34
abbrev s_law : Stmt := top 35
/-- what isinstance asks of an own class -/
structure TyC (K : PySem.W.Frag) (C : Addr) : Prop where
  ha : PySem.W.findIn K (.ref C) "__class__" = some (some (.builtin "object.__class__"))
  hn : PySem.W.specialIn K (.builtin "object.__class__") "__get__" = some (some (.builtin "getset_descriptor.__get__"))
  htk : PySem.W.takesIn K (.builtin "object.__class__") = some true
  hm : PySem.W.mroIn K C (.type "object") = some true
structure Adr where
  C_Line : Addr
  C_Cloth : Addr
  C_Term : Addr
  C_Number : Addr
  C_Read : Addr
  C_Pair : Addr
  C_Plus : Addr
  C_Minus : Addr
  C_Times : Addr
  C_Guard : Addr
  f_copied : Addr
  d_copied : FuncData
  f_copied_dict : Addr
  d_copied_dict : FuncData
  f_read_by : Addr
  d_read_by : FuncData
  f_written_by : Addr
  d_written_by : FuncData
  f_Line_init : Addr
  d_Line_init : FuncData
  f_Cloth_init : Addr
  d_Cloth_init : FuncData
  f_Number_init : Addr
  d_Number_init : FuncData
  f_Number_reads : Addr
  d_Number_reads : FuncData
  f_Read_init : Addr
  d_Read_init : FuncData
  f_Read_cell_at : Addr
  d_Read_cell_at : FuncData
  f_Read_reads : Addr
  d_Read_reads : FuncData
  f_index_at : Addr
  d_index_at : FuncData
  f_Pair_init : Addr
  d_Pair_init : FuncData
  f_Pair_reads : Addr
  d_Pair_reads : FuncData
  f_Guard_init : Addr
  d_Guard_init : FuncData
  f_Guard_lets_in : Addr
  d_Guard_lets_in : FuncData
  f_Guard_looked_at : Addr
  d_Guard_looked_at : FuncData
  f_Guard_reads : Addr
  d_Guard_reads : FuncData
  f_l_cell_at : Addr
  d_l_cell_at : FuncData
  f_l_whole : Addr
  d_l_whole : FuncData
  f_l_mix : Addr
  d_l_mix : FuncData
  f_l_index_by : Addr
  d_l_index_by : FuncData
  f_l_piece_by : Addr
  d_l_piece_by : FuncData
  f_l_term_of : Addr
  d_l_term_of : FuncData
  f_l_line_by : Addr
  d_l_line_by : FuncData
  f_l_names_by : Addr
  d_l_names_by : FuncData
  f_l_cells : Addr
  d_l_cells : FuncData
  f_l_steps_by : Addr
  d_l_steps_by : FuncData
  f_l_due_of : Addr
  d_l_due_of : FuncData
  f_l_is_spot : Addr
  d_l_is_spot : FuncData
  f_l_all_told : Addr
  d_l_all_told : FuncData
  f_l_cloth_of : Addr
  d_l_cloth_of : FuncData
  f_law : Addr
  d_law : FuncData
structure Txt (K : PySem.W.Frag) (mg : Str → Option Value) (t : Adr) : Prop where
  F_copied : Fun K "copied" "copied" s_copied t.f_copied t.d_copied
  m_copied : mg "copied" = some (.ref t.f_copied)
  b_copied : Binds K t.d_copied ["value"] []
  F_copied_dict : Fun K "copied_dict" "copied_dict" s_copied_dict t.f_copied_dict t.d_copied_dict
  m_copied_dict : mg "copied_dict" = some (.ref t.f_copied_dict)
  b_copied_dict : Binds K t.d_copied_dict ["value"] []
  F_read_by : Fun K "read_by" "read_by" s_read_by t.f_read_by t.d_read_by
  m_read_by : mg "read_by" = some (.ref t.f_read_by)
  b_read_by : Binds K t.d_read_by ["cloth", "step"] []
  F_written_by : Fun K "written_by" "written_by" s_written_by t.f_written_by t.d_written_by
  m_written_by : mg "written_by" = some (.ref t.f_written_by)
  b_written_by : Binds K t.d_written_by ["cloth", "step"] []
  F_Line_init : Fun K "__init__" "Line.__init__" s_Line_init t.f_Line_init t.d_Line_init
  b_Line_init : Binds K t.d_Line_init ["self", "name", "axes", "sums", "term"] []
  F_Cloth_init : Fun K "__init__" "Cloth.__init__" s_Cloth_init t.f_Cloth_init t.d_Cloth_init
  b_Cloth_init : Binds K t.d_Cloth_init ["self", "wheel", "lengths", "arrays", "tables", "lines", "outs"] []
  F_Number_init : Fun K "__init__" "Number.__init__" s_Number_init t.f_Number_init t.d_Number_init
  b_Number_init : Binds K t.d_Number_init ["self", "number"] []
  F_Number_reads : Fun K "reads" "Number.reads" s_Number_reads t.f_Number_reads t.d_Number_reads
  b_Number_reads : Binds K t.d_Number_reads ["self", "at", "lengths"] []
  F_Read_init : Fun K "__init__" "Read.__init__" s_Read_init t.f_Read_init t.d_Read_init
  b_Read_init : Binds K t.d_Read_init ["self", "array", "indexes"] []
  F_Read_cell_at : Fun K "cell_at" "Read.cell_at" s_Read_cell_at t.f_Read_cell_at t.d_Read_cell_at
  b_Read_cell_at : Binds K t.d_Read_cell_at ["self", "at"] []
  F_Read_reads : Fun K "reads" "Read.reads" s_Read_reads t.f_Read_reads t.d_Read_reads
  b_Read_reads : Binds K t.d_Read_reads ["self", "at", "lengths"] []
  F_index_at : Fun K "index_at" "index_at" s_index_at t.f_index_at t.d_index_at
  m_index_at : mg "index_at" = some (.ref t.f_index_at)
  b_index_at : Binds K t.d_index_at ["axis", "shift", "at"] []
  F_Pair_init : Fun K "__init__" "Pair.__init__" s_Pair_init t.f_Pair_init t.d_Pair_init
  b_Pair_init : Binds K t.d_Pair_init ["self", "left", "right"] []
  F_Pair_reads : Fun K "reads" "Pair.reads" s_Pair_reads t.f_Pair_reads t.d_Pair_reads
  b_Pair_reads : Binds K t.d_Pair_reads ["self", "at", "lengths"] []
  F_Guard_init : Fun K "__init__" "Guard.__init__" s_Guard_init t.f_Guard_init t.d_Guard_init
  b_Guard_init : Binds K t.d_Guard_init ["self", "axis", "low", "high", "inner", "outer"] []
  F_Guard_lets_in : Fun K "lets_in" "Guard.lets_in" s_Guard_lets_in t.f_Guard_lets_in t.d_Guard_lets_in
  b_Guard_lets_in : Binds K t.d_Guard_lets_in ["self", "at"] []
  F_Guard_looked_at : Fun K "looked_at" "Guard.looked_at" s_Guard_looked_at t.f_Guard_looked_at t.d_Guard_looked_at
  b_Guard_looked_at : Binds K t.d_Guard_looked_at ["self", "at"] []
  F_Guard_reads : Fun K "reads" "Guard.reads" s_Guard_reads t.f_Guard_reads t.d_Guard_reads
  b_Guard_reads : Binds K t.d_Guard_reads ["self", "at", "lengths"] []
  F_l_cell_at : Fun K "_law_cell_at" "_law_cell_at" s_l_cell_at t.f_l_cell_at t.d_l_cell_at
  m_l_cell_at : mg "_law_cell_at" = some (.ref t.f_l_cell_at)
  b_l_cell_at : Binds K t.d_l_cell_at ["_law_script", "_law_k"] []
  F_l_whole : Fun K "_law_whole" "_law_whole" s_l_whole t.f_l_whole t.d_l_whole
  m_l_whole : mg "_law_whole" = some (.ref t.f_l_whole)
  b_l_whole : Binds K t.d_l_whole ["_law_found"] []
  F_l_mix : Fun K "_law_mix" "_law_mix" s_l_mix t.f_l_mix t.d_l_mix
  m_l_mix : mg "_law_mix" = some (.ref t.f_l_mix)
  b_l_mix : Binds K t.d_l_mix ["_law_cell", "_law_k"] []
  F_l_index_by : Fun K "_law_index_by" "_law_index_by" s_l_index_by t.f_l_index_by t.d_l_index_by
  m_l_index_by : mg "_law_index_by" = some (.ref t.f_l_index_by)
  b_l_index_by : Binds K t.d_l_index_by ["_law_two", "_law_bound", "_law_length", "_law_lengths"] []
  F_l_piece_by : Fun K "_law_piece_by" "_law_piece_by" s_l_piece_by t.f_l_piece_by t.d_l_piece_by
  m_l_piece_by : mg "_law_piece_by" = some (.ref t.f_l_piece_by)
  b_l_piece_by : Binds K t.d_l_piece_by ["_law_cell", "_law_arrays", "_law_lengths", "_law_line"] []
  F_l_term_of : Fun K "_law_term_of" "_law_term_of" s_l_term_of t.f_l_term_of t.d_l_term_of
  m_l_term_of : mg "_law_term_of" = some (.ref t.f_l_term_of)
  b_l_term_of : Binds K t.d_l_term_of ["_law_pieces", "_law_cell"] []
  F_l_line_by : Fun K "_law_line_by" "_law_line_by" s_l_line_by t.f_l_line_by t.d_l_line_by
  m_l_line_by : mg "_law_line_by" = some (.ref t.f_l_line_by)
  b_l_line_by : Binds K t.d_l_line_by ["_law_cell", "_law_name", "_law_axes", "_law_lengths", "_law_arrays"] []
  F_l_names_by : Fun K "_law_names_by" "_law_names_by" s_l_names_by t.f_l_names_by t.d_l_names_by
  m_l_names_by : mg "_law_names_by" = some (.ref t.f_l_names_by)
  b_l_names_by : Binds K t.d_l_names_by ["_law_cell", "_law_many"] []
  F_l_cells : Fun K "_law_cells" "_law_cells" s_l_cells t.f_l_cells t.d_l_cells
  m_l_cells : mg "_law_cells" = some (.ref t.f_l_cells)
  b_l_cells : Binds K t.d_l_cells ["_law_axes", "_law_lengths"] []
  F_l_steps_by : Fun K "_law_steps_by" "_law_steps_by" s_l_steps_by t.f_l_steps_by t.d_l_steps_by
  m_l_steps_by : mg "_law_steps_by" = some (.ref t.f_l_steps_by)
  b_l_steps_by : Binds K t.d_l_steps_by ["_law_k", "_law_line", "_law_lengths"] []
  F_l_due_of : Fun K "_law_due_of" "_law_due_of" s_l_due_of t.f_l_due_of t.d_l_due_of
  m_l_due_of : mg "_law_due_of" = some (.ref t.f_l_due_of)
  b_l_due_of : Binds K t.d_l_due_of ["_law_step", "_law_line"] []
  F_l_is_spot : Fun K "_law_is_spot" "_law_is_spot" s_l_is_spot t.f_l_is_spot t.d_l_is_spot
  m_l_is_spot : mg "_law_is_spot" = some (.ref t.f_l_is_spot)
  b_l_is_spot : Binds K t.d_l_is_spot ["_law_found", "_law_due"] []
  F_l_all_told : Fun K "_law_all_told" "_law_all_told" s_l_all_told t.f_l_all_told t.d_l_all_told
  m_l_all_told : mg "_law_all_told" = some (.ref t.f_l_all_told)
  b_l_all_told : Binds K t.d_l_all_told ["_law_found", "_law_due"] []
  F_l_cloth_of : Fun K "_law_cloth_of" "_law_cloth_of" s_l_cloth_of t.f_l_cloth_of t.d_l_cloth_of
  m_l_cloth_of : mg "_law_cloth_of" = some (.ref t.f_l_cloth_of)
  b_l_cloth_of : Binds K t.d_l_cloth_of ["_law_script", "_law_rows", "_law_arrays", "_law_lengths", "_law_tables"] []
  F_law : Fun K "law" "law" s_law t.f_law t.d_law
  m_law : mg "law" = some (.ref t.f_law)
  b_law : Binds K t.d_law ["_law_script"] []
  m_Line : mg "Line" = some (.ref t.C_Line)
  m_Cloth : mg "Cloth" = some (.ref t.C_Cloth)
  m_Number : mg "Number" = some (.ref t.C_Number)
  m_Read : mg "Read" = some (.ref t.C_Read)
  m_Plus : mg "Plus" = some (.ref t.C_Plus)
  m_Minus : mg "Minus" = some (.ref t.C_Minus)
  m_Times : mg "Times" = some (.ref t.C_Times)
  m_Guard : mg "Guard" = some (.ref t.C_Guard)
  cl_Cloth : Cls K t.C_Cloth
  mk_Cloth : Mk K t.C_Cloth t.f_Cloth_init
  na_Cloth_wheel : NoAttr K t.C_Cloth "wheel"
  na_Cloth_lengths : NoAttr K t.C_Cloth "lengths"
  na_Cloth_arrays : NoAttr K t.C_Cloth "arrays"
  na_Cloth_tables : NoAttr K t.C_Cloth "tables"
  na_Cloth_lines : NoAttr K t.C_Cloth "lines"
  na_Cloth_outs : NoAttr K t.C_Cloth "outs"
  ty_Cloth : TyC K t.C_Cloth
  cl_Guard : Cls K t.C_Guard
  mk_Guard : Mk K t.C_Guard t.f_Guard_init
  na_Guard_axis : NoAttr K t.C_Guard "axis"
  na_Guard_low : NoAttr K t.C_Guard "low"
  na_Guard_high : NoAttr K t.C_Guard "high"
  na_Guard_inner : NoAttr K t.C_Guard "inner"
  na_Guard_outer : NoAttr K t.C_Guard "outer"
  me_Guard_lets_in : Meth K t.C_Guard "lets_in" t.f_Guard_lets_in
  me_Guard_looked_at : Meth K t.C_Guard "looked_at" t.f_Guard_looked_at
  me_Guard_reads : Meth K t.C_Guard "reads" t.f_Guard_reads
  ty_Guard : TyC K t.C_Guard
  cl_Line : Cls K t.C_Line
  mk_Line : Mk K t.C_Line t.f_Line_init
  na_Line_name : NoAttr K t.C_Line "name"
  na_Line_axes : NoAttr K t.C_Line "axes"
  na_Line_sums : NoAttr K t.C_Line "sums"
  na_Line_term : NoAttr K t.C_Line "term"
  ty_Line : TyC K t.C_Line
  mb_Line_list : PySem.W.mroIn K t.C_Line (.type "list") = some false
  mb_Line_tuple : PySem.W.mroIn K t.C_Line (.type "tuple") = some false
  mb_Line_dict : PySem.W.mroIn K t.C_Line (.type "dict") = some false
  cl_Minus : Cls K t.C_Minus
  mk_Minus : Mk K t.C_Minus t.f_Pair_init
  na_Minus_left : NoAttr K t.C_Minus "left"
  na_Minus_right : NoAttr K t.C_Minus "right"
  me_Minus_reads : Meth K t.C_Minus "reads" t.f_Pair_reads
  ty_Minus : TyC K t.C_Minus
  cl_Number : Cls K t.C_Number
  mk_Number : Mk K t.C_Number t.f_Number_init
  na_Number_number : NoAttr K t.C_Number "number"
  me_Number_reads : Meth K t.C_Number "reads" t.f_Number_reads
  ty_Number : TyC K t.C_Number
  cl_Plus : Cls K t.C_Plus
  mk_Plus : Mk K t.C_Plus t.f_Pair_init
  na_Plus_left : NoAttr K t.C_Plus "left"
  na_Plus_right : NoAttr K t.C_Plus "right"
  me_Plus_reads : Meth K t.C_Plus "reads" t.f_Pair_reads
  ty_Plus : TyC K t.C_Plus
  cl_Read : Cls K t.C_Read
  mk_Read : Mk K t.C_Read t.f_Read_init
  na_Read_array : NoAttr K t.C_Read "array"
  na_Read_indexes : NoAttr K t.C_Read "indexes"
  me_Read_cell_at : Meth K t.C_Read "cell_at" t.f_Read_cell_at
  me_Read_reads : Meth K t.C_Read "reads" t.f_Read_reads
  ty_Read : TyC K t.C_Read
  cl_Times : Cls K t.C_Times
  mk_Times : Mk K t.C_Times t.f_Pair_init
  na_Times_left : NoAttr K t.C_Times "left"
  na_Times_right : NoAttr K t.C_Times "right"
  me_Times_reads : Meth K t.C_Times "reads" t.f_Pair_reads
  ty_Times : TyC K t.C_Times
  z_isinstance : mg "isinstance" = none
  z_list : mg "list" = none
  z_tuple : mg "tuple" = none
  z_dict : mg "dict" = none
  z_zip : mg "zip" = none
  z_len : mg "len" = none
  z_bool : mg "bool" = none
  z_int : mg "int" = none
  z_range : mg "range" = none
  z_reversed : mg "reversed" = none
  z_str : mg "str" = none
  z_min : mg "min" = none
theorem sc_copied : FnScope ["value"] ["value"] (defScope s_copied) := ⟨rfl, rfl, rfl, by decide +kernel, rfl, by decide +kernel, by decide +kernel⟩
theorem sc_copied_dict : FnScope ["value", "fresh", "key", "member"] ["value"] (defScope s_copied_dict) := ⟨rfl, rfl, rfl, by decide +kernel, rfl, by decide +kernel, by decide +kernel⟩
theorem sc_read_by : FnScope ["cloth", "step", "number", "word", "cell", "turn", "line", "at"] ["cloth", "step"] (defScope s_read_by) := ⟨rfl, rfl, rfl, by decide +kernel, rfl, by decide +kernel, by decide +kernel⟩
theorem sc_written_by : FnScope ["cloth", "step", "number", "word", "cell", "turn"] ["cloth", "step"] (defScope s_written_by) := ⟨rfl, rfl, rfl, by decide +kernel, rfl, by decide +kernel, by decide +kernel⟩
theorem sc_Line_init : FnScope ["self", "name", "axes", "sums", "term"] ["self", "name", "axes", "sums", "term"] (defScope s_Line_init) := ⟨rfl, rfl, rfl, by decide +kernel, rfl, by decide +kernel, by decide +kernel⟩
theorem sc_Cloth_init : FnScope ["self", "wheel", "lengths", "arrays", "tables", "lines", "outs"] ["self", "wheel", "lengths", "arrays", "tables", "lines", "outs"] (defScope s_Cloth_init) := ⟨rfl, rfl, rfl, by decide +kernel, rfl, by decide +kernel, by decide +kernel⟩
theorem sc_Number_init : FnScope ["self", "number"] ["self", "number"] (defScope s_Number_init) := ⟨rfl, rfl, rfl, by decide +kernel, rfl, by decide +kernel, by decide +kernel⟩
theorem sc_Number_reads : FnScope ["self", "at", "lengths"] ["self", "at", "lengths"] (defScope s_Number_reads) := ⟨rfl, rfl, rfl, by decide +kernel, rfl, by decide +kernel, by decide +kernel⟩
theorem sc_Read_init : FnScope ["self", "array", "indexes"] ["self", "array", "indexes"] (defScope s_Read_init) := ⟨rfl, rfl, rfl, by decide +kernel, rfl, by decide +kernel, by decide +kernel⟩
theorem sc_Read_cell_at : FnScope ["self", "at"] ["self", "at"] (defScope s_Read_cell_at) := ⟨rfl, rfl, rfl, by decide +kernel, rfl, by decide +kernel, by decide +kernel⟩
theorem sc_Read_reads : FnScope ["self", "at", "lengths"] ["self", "at", "lengths"] (defScope s_Read_reads) := ⟨rfl, rfl, rfl, by decide +kernel, rfl, by decide +kernel, by decide +kernel⟩
theorem sc_index_at : FnScope ["axis", "shift", "at"] ["axis", "shift", "at"] (defScope s_index_at) := ⟨rfl, rfl, rfl, by decide +kernel, rfl, by decide +kernel, by decide +kernel⟩
theorem sc_Pair_init : FnScope ["self", "left", "right"] ["self", "left", "right"] (defScope s_Pair_init) := ⟨rfl, rfl, rfl, by decide +kernel, rfl, by decide +kernel, by decide +kernel⟩
theorem sc_Pair_reads : FnScope ["self", "at", "lengths"] ["self", "at", "lengths"] (defScope s_Pair_reads) := ⟨rfl, rfl, rfl, by decide +kernel, rfl, by decide +kernel, by decide +kernel⟩
theorem sc_Guard_init : FnScope ["self", "axis", "low", "high", "inner", "outer"] ["self", "axis", "low", "high", "inner", "outer"] (defScope s_Guard_init) := ⟨rfl, rfl, rfl, by decide +kernel, rfl, by decide +kernel, by decide +kernel⟩
theorem sc_Guard_lets_in : FnScope ["self", "at"] ["self", "at"] (defScope s_Guard_lets_in) := ⟨rfl, rfl, rfl, by decide +kernel, rfl, by decide +kernel, by decide +kernel⟩
theorem sc_Guard_looked_at : FnScope ["self", "at"] ["self", "at"] (defScope s_Guard_looked_at) := ⟨rfl, rfl, rfl, by decide +kernel, rfl, by decide +kernel, by decide +kernel⟩
theorem sc_Guard_reads : FnScope ["self", "at", "lengths"] ["self", "at", "lengths"] (defScope s_Guard_reads) := ⟨rfl, rfl, rfl, by decide +kernel, rfl, by decide +kernel, by decide +kernel⟩
theorem sc_l_cell_at : FnScope ["_law_script", "_law_k"] ["_law_script", "_law_k"] (defScope s_l_cell_at) := ⟨rfl, rfl, rfl, by decide +kernel, rfl, by decide +kernel, by decide +kernel⟩
theorem sc_l_whole : FnScope ["_law_found"] ["_law_found"] (defScope s_l_whole) := ⟨rfl, rfl, rfl, by decide +kernel, rfl, by decide +kernel, by decide +kernel⟩
theorem sc_l_mix : FnScope ["_law_cell", "_law_k", "_law_one"] ["_law_cell", "_law_k"] (defScope s_l_mix) := ⟨rfl, rfl, rfl, by decide +kernel, rfl, by decide +kernel, by decide +kernel⟩
theorem sc_l_index_by : FnScope ["_law_two", "_law_bound", "_law_length", "_law_lengths", "_law_axis"] ["_law_two", "_law_bound", "_law_length", "_law_lengths"] (defScope s_l_index_by) := ⟨rfl, rfl, rfl, by decide +kernel, rfl, by decide +kernel, by decide +kernel⟩
theorem sc_l_piece_by : FnScope ["_law_cell", "_law_arrays", "_law_lengths", "_law_line", "_law_one", "_law_array", "_law_axes", "_law_fixed", "_law_indexes", "_law_guards", "_law_k", "_law_two", "_law_length", "_law_axis", "_law_shift"] ["_law_cell", "_law_arrays", "_law_lengths", "_law_line"] (defScope s_l_piece_by) := ⟨rfl, rfl, rfl, by decide +kernel, rfl, by decide +kernel, by decide +kernel⟩
theorem sc_l_term_of : FnScope ["_law_pieces", "_law_cell", "_law_term", "_law_k", "_law_array", "_law_indexes", "_law_guards", "_law_one", "_law_axis", "_law_low", "_law_high"] ["_law_pieces", "_law_cell"] (defScope s_l_term_of) := ⟨rfl, rfl, rfl, by decide +kernel, rfl, by decide +kernel, by decide +kernel⟩
theorem sc_l_line_by : FnScope ["_law_cell", "_law_name", "_law_axes", "_law_lengths", "_law_arrays", "_law_rest", "_law_sides", "_law_worth", "_law_turned", "_law_k", "_law_side", "_law_line"] ["_law_cell", "_law_name", "_law_axes", "_law_lengths", "_law_arrays"] (defScope s_l_line_by) := ⟨rfl, rfl, rfl, by decide +kernel, rfl, by decide +kernel, by decide +kernel⟩
theorem sc_l_names_by : FnScope ["_law_cell", "_law_many", "_law_some", "_law_rest", "_law_word", "_law_k", "_law_spot", "_law_made", "_law_sign", "_law_name"] ["_law_cell", "_law_many"] (defScope s_l_names_by) := ⟨rfl, rfl, rfl, by decide +kernel, rfl, by decide +kernel, by decide +kernel⟩
theorem sc_l_cells : FnScope ["_law_axes", "_law_lengths", "_law_made", "_law_axis", "_law_longer", "_law_cell"] ["_law_axes", "_law_lengths"] (defScope s_l_cells) := ⟨rfl, rfl, rfl, by decide +kernel, rfl, by decide +kernel, by decide +kernel⟩
theorem sc_l_steps_by : FnScope ["_law_k", "_law_line", "_law_lengths", "_law_steps", "_law_cell"] ["_law_k", "_law_line", "_law_lengths"] (defScope s_l_steps_by) := ⟨rfl, rfl, rfl, by decide +kernel, rfl, by decide +kernel, by decide +kernel⟩
theorem sc_l_due_of : FnScope ["_law_step", "_law_line", "_law_at", "_law_axis", "_law_number", "_law_due", "_law_array", "_law_indexes", "_law_guards", "_law_inside", "_law_low", "_law_high"] ["_law_step", "_law_line"] (defScope s_l_due_of) := ⟨rfl, rfl, rfl, by decide +kernel, rfl, by decide +kernel, by decide +kernel⟩
theorem sc_l_is_spot : FnScope ["_law_found", "_law_due", "_law_number"] ["_law_found", "_law_due"] (defScope s_l_is_spot) := ⟨rfl, rfl, rfl, by decide +kernel, rfl, by decide +kernel, by decide +kernel⟩
theorem sc_l_all_told : FnScope ["_law_found", "_law_due", "_law_k"] ["_law_found", "_law_due"] (defScope s_l_all_told) := ⟨rfl, rfl, rfl, by decide +kernel, rfl, by decide +kernel, by decide +kernel⟩
theorem sc_l_cloth_of : FnScope ["_law_script", "_law_rows", "_law_arrays", "_law_lengths", "_law_tables", "_law_lines", "_law_k", "_law_term"] ["_law_script", "_law_rows", "_law_arrays", "_law_lengths", "_law_tables"] (defScope s_l_cloth_of) := ⟨rfl, rfl, rfl, by decide +kernel, rfl, by decide +kernel, by decide +kernel⟩
theorem sc_law : FnScope ["_law_script", "_law_head", "_law_names", "_law_axes", "_law_lengths", "_law_k", "_law_arrays", "_law_tables", "_law_rows", "_law_left", "_law_cell", "_law_line", "_law_cloth", "_law_step", "_law_due", "_law_found"] ["_law_script"] (defScope s_law) := ⟨rfl, rfl, rfl, by decide +kernel, rfl, by decide +kernel, by decide +kernel⟩
theorem nd_comp_0 : (["member"] : List Str).Nodup := by decide +kernel
theorem nd_comp_1 : (["axis", "shift", "at"] : List Str).Nodup := by decide +kernel
theorem nd_comp_2 : (["_law_name"] : List Str).Nodup := by decide +kernel
theorem nd_comp_3 : (["_law_axis"] : List Str).Nodup := by decide +kernel
theorem nd_comp_4 : (["_law_count", "_law_cell"] : List Str).Nodup := by decide +kernel
theorem nd_comp_5 : (["_law_turn", "_law_cell", "_law_k"] : List Str).Nodup := by decide +kernel
theorem nd_comp_6 : (["_law_axis", "_law_shift", "_law_at"] : List Str).Nodup := by decide +kernel
theorem nd_comp_7 : (["_law_name"] : List Str).Nodup := by decide +kernel
theorem nd_comp_8 : (["_law_name"] : List Str).Nodup := by decide +kernel
theorem FnOk.none {P : Program} {w : World} {K : PySem.W.Frag} {mg : Str → Option Value} {base : Heap} {CX : CXT} {k : Nat} {f : Addr} {fd : FuncData} {ps : List Str} {sp : Sp} (h : ∀ vs H Q E, ¬ sp vs H Q E) : FnOk P w K mg base CX k f fd ps sp :=
  ⟨fun vs H Q E q => (h vs H Q E q).elim, fun _ _ _ H _ _ vs Q E _ _ _ _ q => (h vs H Q E q).elim⟩
/-! ### data -/
def encT (e : Str × List Str) : PyData := .tuple [.str e.1, .list (e.2.map PyData.str)]
def encTb (ts : List (Str × List Str)) : PyData := .list (ts.map encT)
def encS (xs : List Str) : PyData := .list (xs.map PyData.str)
def OkS (xs : List Str) : Prop := ∀ x ∈ xs, PyData.strOk x = true
theorem ds_strs : ∀ xs : List Str, PyData.depthAll (xs.map PyData.str) = 0 ∧ cntAll (xs.map PyData.str) = xs.length
  | [] => ⟨rfl, rfl⟩
  | x :: r => by
    obtain ⟨h2, h3⟩ := ds_strs r
    refine ⟨?_, ?_⟩
    · simp [PyData.depthAll, PyData.depth, h2]
    · simp [cntAll, cnt, h3]; omega
theorem lay_strs : ∀ {xs : List Str}, OkS xs → PyData.canLayAll0 (xs.map PyData.str) = true
  | [], _ => rfl
  | x :: r, h => by
    have h1 := lay_strs (xs := r) fun y hy => h y (.tail _ hy)
    simp [PyData.canLayAll0, PyData.canLay0, h1, h x (.head _)]
theorem encS_ok (xs : List Str) : (encS xs).depth ≤ 1 ∧ cnt (encS xs) ≤ 1 + xs.length := by
  obtain ⟨h2, h3⟩ := ds_strs xs
  refine ⟨?_, ?_⟩
  · simp [encS, PyData.depth, h2]
  · simp only [encS, cnt, h3]; omega
theorem encS_lay {xs : List Str} (h : OkS xs) : (encS xs).canLay0 = true := by simp [encS, PyData.canLay0, lay_strs h]
theorem ds_tb {n : Nat} : ∀ ts : List (Str × List Str), (∀ e ∈ ts, e.2.length ≤ n) → PyData.depthAll (ts.map encT) ≤ 2 ∧ cntAll (ts.map encT) ≤ ts.length * (n + 4)
  | [], _ => ⟨by simp [PyData.depthAll], by simp [cntAll]⟩
  | e :: r, h => by
    obtain ⟨h2, h3⟩ := ds_tb r fun x hx => h x (.tail _ hx)
    obtain ⟨g2, g3⟩ := ds_strs e.2
    have hl := h e (.head _)
    refine ⟨?_, ?_⟩
    · simp only [List.map_cons, encT, PyData.depthAll, PyData.depth, g2]
      omega
    · simp only [List.map_cons, encT, cntAll, cnt, g3, List.length_cons, Nat.add_mul, Nat.one_mul]
      omega
theorem encTb_ok {n : Nat} (ts : List (Str × List Str)) (h : ∀ e ∈ ts, e.2.length ≤ n) : (encTb ts).depth ≤ 3 ∧ cnt (encTb ts) ≤ 1 + ts.length * (n + 4) := by
  obtain ⟨h2, h3⟩ := ds_tb ts h
  refine ⟨?_, ?_⟩
  · simp only [encTb, PyData.depth]; omega
  · simp only [encTb, cnt]; omega
theorem lay_tb : ∀ {ts : List (Str × List Str)}, (∀ e ∈ ts, PyData.strOk e.1 = true ∧ OkS e.2) → PyData.canLayAll0 (ts.map encT) = true
  | [], _ => rfl
  | e :: r, h => by
    have h1 := lay_tb (ts := r) fun y hy => h y (.tail _ hy)
    have h2 := h e (.head _)
    simp [encT, PyData.canLayAll0, PyData.canLay0, h1, h2.1, lay_strs h2.2]
theorem encTb_lay {ts : List (Str × List Str)} (h : ∀ e ∈ ts, PyData.strOk e.1 = true ∧ OkS e.2) : (encTb ts).canLay0 = true := by simp [encTb, PyData.canLay0, lay_tb h]
theorem ds_ix : ∀ ts : List (Str × Int), PyData.depthAll (ts.map encI) ≤ 1
  | [] => by simp [PyData.depthAll]
  | e :: r => by
    have h2 := ds_ix r
    simp only [List.map_cons, encI, PyData.depthAll, PyData.depth]; omega
theorem encIx_ok (ts : List (Str × Int)) : (encIx ts).depth ≤ 2 := by
  have h2 := ds_ix ts
  simp only [encIx, PyData.depth]; omega
theorem lay_ix : ∀ {ts : List (Str × Int)}, (∀ e ∈ ts, PyData.strOk e.1 = true) → PyData.canLayAll0 (ts.map encI) = true
  | [], _ => rfl
  | e :: r, h => by
    have h1 := lay_ix (ts := r) fun y hy => h y (.tail _ hy)
    simp [encI, PyData.canLayAll0, PyData.canLay0, h1, h e (.head _)]
theorem encIx_lay {ts : List (Str × Int)} (h : ∀ e ∈ ts, PyData.strOk e.1 = true) : (encIx ts).canLay0 = true := by simp [encIx, PyData.canLay0, lay_ix h]
theorem shaped_of {d : PyData} (h : d.canLay0 = true) (hd : d.depth ≤ 60) : SeqAt.shaped d = true := by
  unfold SeqAt.shaped
  rw [h, Bool.true_and]
  exact decide_eq_true (by omega)
theorem reps_strs {H : Hp} : ∀ {ys : List Str} {xs : List V}, Reps H xs (ys.map PyData.str) → xs = ys.map V.str
  | [], _, r => by cases r; rfl
  | y :: ys, _, r => by
    rw [List.map_cons] at r
    cases r with
    | cons a r =>
      cases a
      rw [List.map_cons, reps_strs r]
theorem rep_S {H : Hp} {v : V} {ys : List Str} (h : Rep H v (encS ys)) : ∃ p, v = .ref p ∧ H p = some (.lst (ys.map V.str)) := by
  obtain ⟨p, xs, rfl, e, r⟩ := rep_lst (show Rep H v (.list (ys.map PyData.str)) from h)
  rw [reps_strs r] at e
  exact ⟨p, rfl, e⟩
theorem S_rep {H : Hp} {p : Addr} {ys : List Str} (e : H p = some (.lst (ys.map V.str))) : Rep H (.ref p) (encS ys) := .lst e (Reps.strs ys)
theorem rep_T {H : Hp} {v : V} {e : Str × List Str} (h : Rep H v (encT e)) : ∃ b c, v = .ref b ∧ H b = some (.tup [.str e.1, .ref c]) ∧ H c = some (.lst (e.2.map V.str)) := by
  unfold encT at h
  cases h with
  | @tup b xs _ eb r =>
    cases r with
    | cons a r =>
      cases r with
      | cons a2 r =>
        cases r
        cases a
        obtain ⟨c, rfl, ec⟩ := rep_S a2
        exact ⟨b, c, rfl, eb, ec⟩
theorem T_rep {H : Hp} {b c : Addr} {e : Str × List Str} (eb : H b = some (.tup [.str e.1, .ref c])) (ec : H c = some (.lst (e.2.map V.str))) : Rep H (.ref b) (encT e) := .tup eb (.cons (.str _) (.cons (S_rep ec) .nil))
theorem rep_I {H : Hp} {v : V} {e : Str × Int} (h : Rep H v (encI e)) : ∃ b, v = .ref b ∧ H b = some (.tup [.str e.1, .int e.2]) := by
  unfold encI at h
  cases h with
  | @tup b xs _ eb r =>
    cases r with
    | cons a r =>
      cases r with
      | cons a2 r =>
        cases r
        cases a
        cases a2
        exact ⟨b, rfl, eb⟩
/-- one of a list of data -/
theorem reps_of {α : Type} {H : Hp} {f : α → PyData} {ts : List α} {xs : List V} (r : Reps H xs (ts.map f)) {i : Nat} {x : V} (hx : xs[i]? = some x) : ∃ e, ts[i]? = some e ∧ Rep H x (f e) := by
  obtain ⟨d, hd, rx⟩ := r.get2 hx
  rw [List.getElem?_map] at hd
  obtain ⟨e, he, rfl⟩ := Option.map_eq_some_iff.mp hd
  exact ⟨e, he, rx⟩
/-! ### objects -/
theorem pget {α β : Type} {F : α → β → Prop} : ∀ {l : List α} {m : List β}, Paired F l m → ∀ {i : Nat} {x : α}, l[i]? = some x → ∃ y, m[i]? = some y ∧ F x y
  | _, _, .nil, i, x, e => by simp at e
  | _, _, .cons r t, 0, x, e => by simp at e; subst e; exact ⟨_, rfl, r⟩
  | _, _, .cons r t, i + 1, x, e => by
    obtain ⟨y, e1, e2⟩ := pget t (i := i) (by simpa using e)
    exact ⟨y, by simpa using e1, e2⟩
theorem papp {α β : Type} {F : α → β → Prop} : ∀ {a c : List α} {b d : List β}, Paired F a b → Paired F c d → Paired F (a ++ c) (b ++ d)
  | _, _, _, _, .nil, h => h
  | _, _, _, _, .cons r t, h => .cons r (papp t h)
theorem get_map {α : Type} {f : α → V} {xs : List α} {i : Nat} {v : V} (h : (xs.map f)[i]? = some v) : ∃ x, xs[i]? = some x ∧ v = f x := by
  rw [List.getElem?_map] at h
  cases e : xs[i]? with
  | none => rw [e] at h; cases h
  | some x => rw [e] at h; exact ⟨x, rfl, (Option.some.inj h).symm⟩
/-- all tuples stay -/
def KT (H H' : Hp) : Prop := ∀ p xs, H p = some (.tup xs) → H' p = some (.tup xs)
theorem KT.same {H H' : Hp} (s : Same H H') : KT H H' := fun p xs e => s _ _ e
theorem KT.at {H : Hp} {l : Addr} {u o : HO} (e : H l = some u) (n : ∀ xs, u ≠ .tup xs) : KT H (upd H l o) := fun p xs z => by rw [upd_ne (ne_of z e (n xs).symm)]; exact z
theorem KT.trans {H H' H2 : Hp} (a : KT H H') (b : KT H' H2) : KT H H2 := fun p xs e => b _ _ (a _ _ e)
def clsOf (A : Adr) : Op3 → Addr
  | .plus => A.C_Plus
  | .minus => A.C_Minus
  | .times => A.C_Times
inductive Ob (A : Adr) (H : Hp) : V → Tm → Prop
  | num {a dx : Addr} {z : Int} : H a = some (.ins A.C_Number dx [("number", .int z)]) → Ob A H (.ref a) (.num z)
  | read {a dx l : Addr} {x : Str} {ix : List (Str × Int)} : H a = some (.ins A.C_Read dx [("array", .str x), ("indexes", .ref l)]) → Rep H (.ref l) (encIx ix) → Ob A H (.ref a) (.read x ix)
  | pair {a dx : Addr} {k : Op3} {u w : V} {l r : Tm} : H a = some (.ins (clsOf A k) dx [("left", u), ("right", w)]) → Ob A H u l → Ob A H w r → Ob A H (.ref a) (.pair k l r)
  | guard {a dx : Addr} {x : Str} {lo hi : Int} {u w : V} {l r : Tm} : H a = some (.ins A.C_Guard dx [("axis", .str x), ("low", .int lo), ("high", .int hi), ("inner", u), ("outer", w)]) → Ob A H u l → Ob A H w r → Ob A H (.ref a) (.guard x lo hi l r)
theorem Ob.imp {A : Adr} {H H' : Hp} (f : Same H H') {v : V} {t : Tm} (h : Ob A H v t) : Ob A H' v t := by
  induction h with
  | num e => exact .num (f _ _ e)
  | read e r => exact .read (f _ _ e) (r.same f)
  | pair e _ _ i1 i2 => exact .pair (f _ _ e) i1 i2
  | guard e _ _ i1 i2 => exact .guard (f _ _ e) i1 i2
end My

set_option Elab.async false
set_option linter.all false
set_option maxRecDepth 100000
set_option maxHeartbeats 4000000
namespace My
open PySem L2
local macro_rules | `(tactic| walk_at "lk") => `(tactic| first | with_reducible exact lk0 | (refine lk1 (by decide +kernel) ?_; walk_at "lk") | rfl)
def sp_init1 (K : PySem.W.Frag) (f : Str) : Sp := fun vs H Q _ => ∃ (p C dx : Addr) (v : V), vs = [.ref p, v] ∧ H p = some (.ins C dx []) ∧ Cls K C ∧ NoAttr K C f ∧ Q .non (upd H p (.ins C dx [(f, v)]))
def sp_init2 (K : PySem.W.Frag) (f g : Str) : Sp := fun vs H Q _ => ∃ (p C dx : Addr) (v u : V), vs = [.ref p, v, u] ∧ H p = some (.ins C dx []) ∧ Cls K C ∧ NoAttr K C f ∧ NoAttr K C g ∧ Q .non (upd H p (.ins C dx [(f, v), (g, u)]))
def sp_initG (A : Adr) : Sp := fun vs H Q _ => ∃ (p dx : Addr) (a b c d e : V), vs = [.ref p, a, b, c, d, e] ∧ H p = some (.ins A.C_Guard dx []) ∧ Q .non (upd H p (.ins A.C_Guard dx [("axis", a), ("low", b), ("high", c), ("inner", d), ("outer", e)]))
def sp_initR (A : Adr) : Sp := fun vs H Q _ => ∃ (p dx l : Addr) (x : Str) (ix : List (Str × Int)), vs = [.ref p, .str x, .ref l] ∧ H p = some (.ins A.C_Read dx []) ∧ Rep H (.ref l) (encIx ix) ∧ ix.length ≤ 1000 ∧
  ∀ (l' : Addr) (H' : Hp), H' p = some (.ins A.C_Read dx [("array", .str x), ("indexes", .ref l')]) → Rep (restr (fun a => H a = none) H') (.ref l') (encIx ix) → (∀ b o, b ≠ p → H b = some o → H' b = some o) → Q .non H'
def sp_cop (n : Nat) : Sp := fun vs H Q _ => ∃ (v : V) (d : PyData), vs = [v] ∧ Rep H v d ∧ PyData.depth d ≤ n ∧ cnt d ≤ 100000 ∧ ∀ (v' : V) (H' : Hp), Same H H' → Rep (restr (fun a => H a = none) H') v' d → Q v' H'
def sp_cpI (A : Adr) : Sp := fun vs H Q _ => ∃ (a dx : Addr) (fs : List (Str × V)), vs = [.ref a] ∧ H a = some (.ins A.C_Line dx fs) ∧ Q (.ref a) H
def sp_cpL (A : Adr) : Sp := fun vs H Q _ => ∃ (p : Addr) (xs : List V), vs = [.ref p] ∧ H p = some (.lst xs) ∧ xs.length ≤ 1000 ∧ (∀ x ∈ xs, ∃ a dx fs, x = .ref a ∧ H a = some (.ins A.C_Line dx fs)) ∧ ∀ (D : Addr) (H' : Hp), H D = none → Same H H' → H' D = some (.lst xs) → Q (.ref D) H'
/-- copied of a dict: ds are the data of its values -/
def sp_cd : Sp := fun vs H Q _ => ∃ (d : Addr) (kvs : List (Key × V)) (ds : List PyData), vs = [.ref d] ∧ H d = some (.dK kvs) ∧ kvs.length ≤ 100000 ∧ Paired (fun (a : Key × V) (x : PyData) => Rep H a.2 x ∧ PyData.depth x ≤ 1 ∧ cnt x ≤ 100000) kvs ds ∧
  ∀ (p : Addr) (kvs' : List (Key × V)) (H' : Hp), H p = none → Same H H' → H' p = some (.dK kvs') → kvs'.map (·.1) = kvs.map (·.1) → Paired (fun (b : Key × V) (x : PyData) => Rep (restr (fun a => H a = none) H') b.2 x) kvs' ds → Q (.ref p) H'
section
variable {P : Program} {w : World} {K : PySem.W.Frag} {mg : Str → Option Value} {base : Heap} {t : Adr}
theorem ok_Number_init (T : Txt K mg t) : FnOk P w K mg base CX0 1 t.f_Number_init t.d_Number_init ["self", "number"] (sp_init1 K "number") := by
  refine T.F_Number_init.ok sc_Number_init (fun vs H Q E h => ?_) (fun cdv A outer s H vs Q E hr h => ?_)
  · obtain ⟨p, C, dx, v, rfl, _⟩ := h
    rfl
  · obtain ⟨p, C, dx, v, rfl, hp, cl, na, k⟩ := h
    exact ⟨_, (pss_one (ps_fld (pv 0) (pv 1) rfl)), _, rfl, _, rfl, p, C, dx, [], rfl, hp, cl, na, (by decide), k⟩
/-! ### copied -/
theorem ok_Pair_init (T : Txt K mg t) : FnOk P w K mg base CX0 1 t.f_Pair_init t.d_Pair_init ["self", "left", "right"] (sp_init2 K "left" "right") := by
  refine T.F_Pair_init.ok sc_Pair_init (fun vs H Q E h => ?_) (fun cdv A outer s H vs Q E hr h => ?_)
  · obtain ⟨p, C, dx, v, u, rfl, _⟩ := h
    rfl
  · obtain ⟨p, C, dx, v, u, rfl, hp, cl, n1, n2, k⟩ := h
    refine ⟨_, (pss_cons (ps_fld (pv 0) (pv 1) rfl)
      (pss_one (ps_fld (pv 0) (pv 2) rfl))), _, rfl, _, rfl, p, C, dx, [], rfl, hp, cl, n1, (by decide), _, rfl, _, rfl, p, C, dx, _, rfl, upd_same, cl, n2, (by show 1 < 1000; decide), ?_⟩
    show Q V.non (upd (upd H p _) p (.ins C dx (putF "right" u (putF "left" v []))))
    rw [upd_upd, putF_nil, putF_ne (by decide +kernel), putF_nil]
    exact k
theorem ok_Guard_init (T : Txt K mg t) : FnOk P w K mg base CX0 1 t.f_Guard_init t.d_Guard_init ["self", "axis", "low", "high", "inner", "outer"] (sp_initG t) := by
  refine T.F_Guard_init.ok sc_Guard_init (fun vs H Q E h => ?_) (fun cdv A outer s H vs Q E hr h => ?_)
  · obtain ⟨p, dx, a, b, c, d, e, rfl, _⟩ := h
    rfl
  · obtain ⟨p, dx, a, b, c, d, e, rfl, hp, k⟩ := h
    have e1 : putF "low" b (putF "axis" a []) = ([("axis", a), ("low", b)] : List (Str × V)) := by rw [putF_nil, putF_ne (by decide +kernel), putF_nil]
    have e2 : putF "high" c ([("axis", a), ("low", b)] : List (Str × V)) = ([("axis", a), ("low", b), ("high", c)] : List (Str × V)) := by rw [putF_ne (by decide +kernel), putF_ne (by decide +kernel), putF_nil]
    have e3 : putF "inner" d ([("axis", a), ("low", b), ("high", c)] : List (Str × V)) = ([("axis", a), ("low", b), ("high", c), ("inner", d)] : List (Str × V)) := by rw [putF_ne (by decide +kernel), putF_ne (by decide +kernel), putF_ne (by decide +kernel), putF_nil]
    have e4 : putF "outer" e ([("axis", a), ("low", b), ("high", c), ("inner", d)] : List (Str × V)) = ([("axis", a), ("low", b), ("high", c), ("inner", d), ("outer", e)] : List (Str × V)) := by rw [putF_ne (by decide +kernel), putF_ne (by decide +kernel), putF_ne (by decide +kernel), putF_ne (by decide +kernel), putF_nil]
    refine ⟨_, (pss_cons (ps_fld (pv 0) (pv 1) rfl)
      (pss_cons (ps_fld (pv 0) (pv 2) rfl)
      (pss_cons (ps_fld (pv 0) (pv 3) rfl)
      (pss_cons (ps_fld (pv 0) (pv 4) rfl)
      (pss_one (ps_fld (pv 0) (pv 5) rfl)))))), _, rfl, _, rfl, p, _, dx, [], rfl, hp, T.cl_Guard, T.na_Guard_axis, (by decide), _, rfl, _, rfl, p, _, dx, _, rfl, upd_same, T.cl_Guard, T.na_Guard_low, (by show 1 < 1000; decide), ?_⟩
    rw [upd_upd, e1]
    refine ⟨_, rfl, _, rfl, p, _, dx, _, rfl, upd_same, T.cl_Guard, T.na_Guard_high, (by show 2 < 1000; decide), ?_⟩
    rw [upd_upd, e2]
    refine ⟨_, rfl, _, rfl, p, _, dx, _, rfl, upd_same, T.cl_Guard, T.na_Guard_inner, (by show 3 < 1000; decide), ?_⟩
    rw [upd_upd, e3]
    refine ⟨_, rfl, _, rfl, p, _, dx, _, rfl, upd_same, T.cl_Guard, T.na_Guard_outer, (by show 4 < 1000; decide), ?_⟩
    show Q V.non (upd (upd H p _) p _)
    rw [upd_upd, e4]
    exact k
/-! ### copied -/
theorem isi_no_list {T : String} (h : T = "NoneType" ∨ T = "bool" ∨ T = "int" ∨ T = "str" ∨ T = "tuple") : ∀ u, RelV (.ty "list") u → PySem.W.kitOne K (.type T) u = some false := by
  rcases h with rfl | rfl | rfl | rfl | rfl <;> exact isi_by (by decide +kernel) (by decide +kernel) (by decide +kernel)
theorem isi_no_tuple {T : String} (h : T = "NoneType" ∨ T = "bool" ∨ T = "int" ∨ T = "str") : ∀ u, RelV (.ty "tuple") u → PySem.W.kitOne K (.type T) u = some false := by
  rcases h with rfl | rfl | rfl | rfl <;> exact isi_by (by decide +kernel) (by decide +kernel) (by decide +kernel)
theorem isi_no_dict {T : String} (h : T = "NoneType" ∨ T = "bool" ∨ T = "int" ∨ T = "str") : ∀ u, RelV (.ty "dict") u → PySem.W.kitOne K (.type T) u = some false := by
  rcases h with rfl | rfl | rfl | rfl <;> exact isi_by (by decide +kernel) (by decide +kernel) (by decide +kernel)
theorem cop_step (T : Txt K mg t) {m n : Nat} {sp' : Sp} (G_copied : FnOk P w K mg base CX0 m t.f_copied t.d_copied ["value"] sp')
    (hs : ∀ (v : V) (d : PyData) (H : Hp) (Q : VK), Rep H v d → PyData.depth d + 1 ≤ n → cnt d ≤ 100000 → (∀ (v' : V) (H' : Hp), Same H H' → Rep (restr (fun a => H a = none) H') v' d → Q v' H') → sp' [v] H Q E0) :
    FnOk P w K mg base CX0 (m + 1) t.f_copied t.d_copied ["value"] (sp_cop n) := by
  refine T.F_copied.ok sc_copied (fun vs H Q E h => ?_) (fun cdv A outer s H vs Q E hr h => ?_)
  · obtain ⟨v, d, rfl, _⟩ := h
    rfl
  · obtain ⟨v, d, rfl, rp, hd, hc, k⟩ := h
    have G_copied_dict : FnOk P w K mg base CX0 0 t.f_copied_dict t.d_copied_dict ["value"] (fun _ _ _ _ => False) := FnOk.none fun _ _ _ _ h => h
    refine ⟨_, (pss_cons (ps_if (pt_val (pe_callB call_isinst (by rfl) T.z_isinstance PyProof.Rows.boot_isinstance (pa_cons (pv 0) (pa_cons (pe_bltn (v := V.ty "list") rfl T.z_list PyProof.Rows.boot_list rfl) pa_nil))))
        (pss_one (ps_ret (pe_comp (N' := ["member"]) (ix := (List.replicate 1 none)) rfl (clok_none rfl (by decide +kernel) (by decide +kernel)) (ixok_none rfl) (pi_seq (pv 0)) (fun _ _ _ _ => (pg_name (i := 0) nd_comp_0 rfl (Or.inl rfl) (Or.inr rfl))) (fun _ _ _ _ => (pe_call G_copied (hr.mono (by omega)) rfl T.m_copied T.F_copied.kp T.b_copied .nil pass0 (pa_cons (pv 0) pa_nil))))))
        pss_nil)
      (pss_cons (ps_if (pt_val (pe_callB call_isinst (by rfl) T.z_isinstance PyProof.Rows.boot_isinstance (pa_cons (pv 0) (pa_cons (pe_bltn (v := V.ty "tuple") rfl T.z_tuple PyProof.Rows.boot_tuple rfl) pa_nil))))
        (pss_one (ps_ret (pe_callTy call_tuple_of (by rfl) T.z_tuple PyProof.Rows.boot_tuple (pa_cons (pe_comp (N' := ["member"]) (ix := (List.replicate 1 none)) rfl (clok_none rfl (by decide +kernel) (by decide +kernel)) (ixok_none rfl) (pi_seq (pv 0)) (fun _ _ _ _ => (pg_name (i := 0) nd_comp_0 rfl (Or.inl rfl) (Or.inr rfl))) (fun _ _ _ _ => (pe_call G_copied (hr.mono (by omega)) rfl T.m_copied T.F_copied.kp T.b_copied .nil pass0 (pa_cons (pv 0) pa_nil)))) pa_nil))))
        pss_nil)
      (pss_cons (ps_if (pt_val (pe_callB call_isinst (by rfl) T.z_isinstance PyProof.Rows.boot_isinstance (pa_cons (pv 0) (pa_cons (pe_bltn (v := V.ty "dict") rfl T.z_dict PyProof.Rows.boot_dict rfl) pa_nil))))
        (pss_one (ps_ret (pe_call G_copied_dict (hr.mono (by omega)) rfl T.m_copied_dict T.F_copied_dict.kp T.b_copied_dict .nil pass0 (pa_cons (pv 0) pa_nil))))
        pss_nil)
      (pss_one (ps_ret (pv 0)))))), ?_⟩
    cases rp with
    | non =>
      refine ⟨_, rfl, _, _, _, _, rfl, .non, isi_no_list (.inl rfl), false, rfl, iteF ?_⟩
      refine ⟨_, rfl, _, _, _, _, rfl, .non, isi_no_tuple (.inl rfl), false, rfl, iteF ?_⟩
      exact ⟨_, rfl, _, _, _, _, rfl, .non, isi_no_dict (.inl rfl), false, rfl, iteF ⟨_, rfl, k _ _ (Same.refl _) .non⟩⟩
    | bl b =>
      refine ⟨_, rfl, _, _, _, _, rfl, .bl b, isi_no_list (.inr (.inl rfl)), false, rfl, iteF ?_⟩
      refine ⟨_, rfl, _, _, _, _, rfl, .bl b, isi_no_tuple (.inr (.inl rfl)), false, rfl, iteF ?_⟩
      exact ⟨_, rfl, _, _, _, _, rfl, .bl b, isi_no_dict (.inr (.inl rfl)), false, rfl, iteF ⟨_, rfl, k _ _ (Same.refl _) (.bl b)⟩⟩
    | int b =>
      refine ⟨_, rfl, _, _, _, _, rfl, .int b, isi_no_list (.inr (.inr (.inl rfl))), false, rfl, iteF ?_⟩
      refine ⟨_, rfl, _, _, _, _, rfl, .int b, isi_no_tuple (.inr (.inr (.inl rfl))), false, rfl, iteF ?_⟩
      exact ⟨_, rfl, _, _, _, _, rfl, .int b, isi_no_dict (.inr (.inr (.inl rfl))), false, rfl, iteF ⟨_, rfl, k _ _ (Same.refl _) (.int b)⟩⟩
    | str b =>
      refine ⟨_, rfl, _, _, _, _, rfl, .str b, isi_no_list (.inr (.inr (.inr (.inl rfl)))), false, rfl, iteF ?_⟩
      refine ⟨_, rfl, _, _, _, _, rfl, .str b, isi_no_tuple (.inr (.inr (.inr rfl))), false, rfl, iteF ?_⟩
      exact ⟨_, rfl, _, _, _, _, rfl, .str b, isi_no_dict (.inr (.inr (.inr rfl))), false, rfl, iteF ⟨_, rfl, k _ _ (Same.refl _) (.str b)⟩⟩
    | @lst p xs ds e r =>
      have hl1 := r.len
      have hl2 := cnt_len ds
      have hc' : cntAll ds + 1 ≤ 100000 := hc
      have hd' : PyData.depthAll ds + 1 ≤ n := hd
      refine ⟨_, rfl, _, _, _, _, rfl, .lst e, isi_same "list", true, rfl, iteT ?_⟩
      refine .inl ⟨_, rfl, p, rfl, ⟨_, SqL.of e⟩, fun D hD => ?_⟩
      refine comp_listQ (K := K) (a := p) (D := D) (xs := xs) (fun i ys H2 => Same H H2 ∧ H2 D = some (.lst ys) ∧ Reps (restr (fun a => H a = none ∧ a ≠ D) H2) ys (ds.take i) ∧ ys.length = i)
        ⟨same_new hD, upd_same, (by rw [List.take_zero]; exact .nil), rfl⟩ (fun i ys H2 ⟨s2, _⟩ => SqL.of (s2 _ _ e)) ?_ ?_
      · rintro i x ys H2 hx ⟨s2, hD2, rs, hyl⟩
        obtain ⟨d, hdi, rx⟩ := r.get2 hx
        obtain ⟨c1, c2⟩ := cnt_at hdi
        have hi : i < xs.length := (List.getElem?_eq_some_iff.mp hx).1
        refine ⟨True.intro, _, rfl, hs x d H2 _ (rx.same s2) (by omega) (by omega) fun v' H5 s5 rp5 => ?_⟩
        have hnS : ¬ (H D = none ∧ D ≠ D) := fun z => z.2 rfl
        refine ⟨s5 _ _ hD2, line_lt (by omega), same_fresh (s2.trans s5) hD, upd_same, ?_, by simp [hyl]⟩
        rw [List.take_add_one, hdi]
        show Reps _ (ys ++ [v']) (ds.take i ++ [d])
        refine (rs.same (restr_upd (restr_same s5) hnS)).snoc (rp5.same ((restr_imp (Same.refl _) fun a o _ ha => ⟨s2.free ha, fun z => ?_⟩).trans (restr_upd (Same.refl _) hnS)))
        subst z
        rw [hD2] at ha
        cases ha
      · rintro ys H2 ⟨s2, hD2, rs, hyl⟩
        refine k (.ref D) H2 s2 (.lst (restr_mk hD hD2) ?_)
        rw [hl1, List.take_length] at rs
        exact rs.same (restr_imp (Same.refl _) fun a o _ h => h.1)
    | @tup p xs ds e r =>
      have hl1 := r.len
      have hl2 := cnt_len ds
      have hc' : cntAll ds + 1 ≤ 100000 := hc
      have hd' : PyData.depthAll ds + 1 ≤ n := hd
      refine ⟨_, rfl, _, _, _, _, rfl, .tup e, isi_no_list (.inr (.inr (.inr (.inr rfl)))), false, rfl, iteF ?_⟩
      refine ⟨_, rfl, _, _, _, _, rfl, .tup e, isi_same "tuple", true, rfl, iteT ?_⟩
      refine .inr ⟨_, rfl, p, rfl, ⟨_, SqT.of e⟩, fun D hD => ?_⟩
      refine comp_tupQ (K := K) (a := p) (D := D) (xs := xs) (fun i ys H2 => Same H H2 ∧ H2 D = some (.lst ys) ∧ Reps (restr (fun a => H a = none ∧ a ≠ D) H2) ys (ds.take i) ∧ ys.length = i)
        ⟨same_new hD, upd_same, (by rw [List.take_zero]; exact .nil), rfl⟩ (fun i ys H2 ⟨s2, _⟩ => SqT.of (s2 _ _ e)) ?_ ?_
      · rintro i x ys H2 hx ⟨s2, hD2, rs, hyl⟩
        obtain ⟨d, hdi, rx⟩ := r.get2 hx
        obtain ⟨c1, c2⟩ := cnt_at hdi
        have hi : i < xs.length := (List.getElem?_eq_some_iff.mp hx).1
        refine ⟨True.intro, _, rfl, hs x d H2 _ (rx.same s2) (by omega) (by omega) fun v' H5 s5 rp5 => ?_⟩
        have hnS : ¬ (H D = none ∧ D ≠ D) := fun z => z.2 rfl
        refine ⟨s5 _ _ hD2, line_lt (by omega), same_fresh (s2.trans s5) hD, upd_same, ?_, by simp [hyl]⟩
        rw [List.take_add_one, hdi]
        show Reps _ (ys ++ [v']) (ds.take i ++ [d])
        refine (rs.same (restr_upd (restr_same s5) hnS)).snoc (rp5.same ((restr_imp (Same.refl _) fun a o _ ha => ⟨s2.free ha, fun z => ?_⟩).trans (restr_upd (Same.refl _) hnS)))
        subst z
        rw [hD2] at ha
        cases ha
      · rintro ys H2 ⟨s2, hD2, rs, hyl⟩
        refine ⟨D, ys, rfl, .inl ⟨SqL.of hD2, fun l hl => ?_⟩⟩
        refine k (.ref l) _ (s2.trans (same_new hl)) (.tup (restr_mk (s2.free hl) upd_same) ?_)
        rw [hl1, List.take_length] at rs
        exact rs.same ((restr_imp (Same.refl _) fun a o _ h => h.1).trans (restr_same (same_new hl)))
theorem ok_copied (T : Txt K mg t) : ∀ n : Nat, FnOk P w K mg base CX0 (n + 1) t.f_copied t.d_copied ["value"] (sp_cop n)
  | 0 => cop_step T (sp' := fun _ _ _ _ => False) (m := 0) (FnOk.none fun _ _ _ _ h => h) fun v d H Q _ h => absurd h (by omega)
  | n + 1 => cop_step T (ok_copied T n) fun v d H Q rp hd hc k => ⟨v, d, rfl, rp, by omega, hc, k⟩
theorem ok_copI (T : Txt K mg t) : FnOk P w K mg base CX0 1 t.f_copied t.d_copied ["value"] (sp_cpI t) := by
  refine T.F_copied.ok sc_copied (fun vs H Q E h => ?_) (fun cdv A outer s H vs Q E hr h => ?_)
  · obtain ⟨a, dx, fs, rfl, _⟩ := h
    rfl
  · obtain ⟨a, dx, fs, rfl, e, k⟩ := h
    have G_copied : FnOk P w K mg base CX0 0 t.f_copied t.d_copied ["value"] (fun _ _ _ _ => False) := FnOk.none fun _ _ _ _ h => h
    have ty : TyOf K H (.ref a) (.ref t.C_Line) := .ins e T.cl_Line T.ty_Line.ha T.ty_Line.hn T.ty_Line.htk T.ty_Line.hm
    have G_copied_dict : FnOk P w K mg base CX0 0 t.f_copied_dict t.d_copied_dict ["value"] (fun _ _ _ _ => False) := FnOk.none fun _ _ _ _ h => h
    refine ⟨_, (pss_cons (ps_if (pt_val (pe_callB call_isinst (by rfl) T.z_isinstance PyProof.Rows.boot_isinstance (pa_cons (pv 0) (pa_cons (pe_bltn (v := V.ty "list") rfl T.z_list PyProof.Rows.boot_list rfl) pa_nil))))
        (pss_one (ps_ret (pe_comp (N' := ["member"]) (ix := (List.replicate 1 none)) rfl (clok_none rfl (by decide +kernel) (by decide +kernel)) (ixok_none rfl) (pi_seq (pv 0)) (fun _ _ _ _ => (pg_name (i := 0) nd_comp_0 rfl (Or.inl rfl) (Or.inr rfl))) (fun _ _ _ _ => (pe_call G_copied (hr.mono (by omega)) rfl T.m_copied T.F_copied.kp T.b_copied .nil pass0 (pa_cons (pv 0) pa_nil))))))
        pss_nil)
      (pss_cons (ps_if (pt_val (pe_callB call_isinst (by rfl) T.z_isinstance PyProof.Rows.boot_isinstance (pa_cons (pv 0) (pa_cons (pe_bltn (v := V.ty "tuple") rfl T.z_tuple PyProof.Rows.boot_tuple rfl) pa_nil))))
        (pss_one (ps_ret (pe_callTy call_tuple_of (by rfl) T.z_tuple PyProof.Rows.boot_tuple (pa_cons (pe_comp (N' := ["member"]) (ix := (List.replicate 1 none)) rfl (clok_none rfl (by decide +kernel) (by decide +kernel)) (ixok_none rfl) (pi_seq (pv 0)) (fun _ _ _ _ => (pg_name (i := 0) nd_comp_0 rfl (Or.inl rfl) (Or.inr rfl))) (fun _ _ _ _ => (pe_call G_copied (hr.mono (by omega)) rfl T.m_copied T.F_copied.kp T.b_copied .nil pass0 (pa_cons (pv 0) pa_nil)))) pa_nil))))
        pss_nil)
      (pss_cons (ps_if (pt_val (pe_callB call_isinst (by rfl) T.z_isinstance PyProof.Rows.boot_isinstance (pa_cons (pv 0) (pa_cons (pe_bltn (v := V.ty "dict") rfl T.z_dict PyProof.Rows.boot_dict rfl) pa_nil))))
        (pss_one (ps_ret (pe_call G_copied_dict (hr.mono (by omega)) rfl T.m_copied_dict T.F_copied_dict.kp T.b_copied_dict .nil pass0 (pa_cons (pv 0) pa_nil))))
        pss_nil)
      (pss_one (ps_ret (pv 0)))))), ?_⟩
    refine ⟨_, rfl, _, _, _, _, rfl, ty, isi_bt T.mb_Line_list (by decide +kernel), false, rfl, iteF ?_⟩
    refine ⟨_, rfl, _, _, _, _, rfl, ty, isi_bt T.mb_Line_tuple (by decide +kernel), false, rfl, iteF ?_⟩
    exact ⟨_, rfl, _, _, _, _, rfl, ty, isi_bt T.mb_Line_dict (by decide +kernel), false, rfl, iteF ⟨_, rfl, k⟩⟩
theorem ok_copL (T : Txt K mg t) : FnOk P w K mg base CX0 2 t.f_copied t.d_copied ["value"] (sp_cpL t) := by
  have G_copied := ok_copI (P := P) (w := w) (base := base) T
  refine T.F_copied.ok sc_copied (fun vs H Q E h => ?_) (fun cdv A outer s H vs Q E hr h => ?_)
  · obtain ⟨p, xs, rfl, _⟩ := h
    rfl
  · obtain ⟨p, xs, rfl, e, hl, hx, k⟩ := h
    have G_copied_dict : FnOk P w K mg base CX0 0 t.f_copied_dict t.d_copied_dict ["value"] (fun _ _ _ _ => False) := FnOk.none fun _ _ _ _ h => h
    refine ⟨_, (pss_cons (ps_if (pt_val (pe_callB call_isinst (by rfl) T.z_isinstance PyProof.Rows.boot_isinstance (pa_cons (pv 0) (pa_cons (pe_bltn (v := V.ty "list") rfl T.z_list PyProof.Rows.boot_list rfl) pa_nil))))
        (pss_one (ps_ret (pe_comp (N' := ["member"]) (ix := (List.replicate 1 none)) rfl (clok_none rfl (by decide +kernel) (by decide +kernel)) (ixok_none rfl) (pi_seq (pv 0)) (fun _ _ _ _ => (pg_name (i := 0) nd_comp_0 rfl (Or.inl rfl) (Or.inr rfl))) (fun _ _ _ _ => (pe_call G_copied (hr.mono (by omega)) rfl T.m_copied T.F_copied.kp T.b_copied .nil pass0 (pa_cons (pv 0) pa_nil))))))
        pss_nil)
      (pss_cons (ps_if (pt_val (pe_callB call_isinst (by rfl) T.z_isinstance PyProof.Rows.boot_isinstance (pa_cons (pv 0) (pa_cons (pe_bltn (v := V.ty "tuple") rfl T.z_tuple PyProof.Rows.boot_tuple rfl) pa_nil))))
        (pss_one (ps_ret (pe_callTy call_tuple_of (by rfl) T.z_tuple PyProof.Rows.boot_tuple (pa_cons (pe_comp (N' := ["member"]) (ix := (List.replicate 1 none)) rfl (clok_none rfl (by decide +kernel) (by decide +kernel)) (ixok_none rfl) (pi_seq (pv 0)) (fun _ _ _ _ => (pg_name (i := 0) nd_comp_0 rfl (Or.inl rfl) (Or.inr rfl))) (fun _ _ _ _ => (pe_call G_copied (hr.mono (by omega)) rfl T.m_copied T.F_copied.kp T.b_copied .nil pass0 (pa_cons (pv 0) pa_nil)))) pa_nil))))
        pss_nil)
      (pss_cons (ps_if (pt_val (pe_callB call_isinst (by rfl) T.z_isinstance PyProof.Rows.boot_isinstance (pa_cons (pv 0) (pa_cons (pe_bltn (v := V.ty "dict") rfl T.z_dict PyProof.Rows.boot_dict rfl) pa_nil))))
        (pss_one (ps_ret (pe_call G_copied_dict (hr.mono (by omega)) rfl T.m_copied_dict T.F_copied_dict.kp T.b_copied_dict .nil pass0 (pa_cons (pv 0) pa_nil))))
        pss_nil)
      (pss_one (ps_ret (pv 0)))))), ?_⟩
    refine ⟨_, rfl, _, _, _, _, rfl, .lst e, isi_same "list", true, rfl, iteT ?_⟩
    refine .inl ⟨_, rfl, p, rfl, ⟨_, SqL.of e⟩, fun D hD => ?_⟩
    refine comp_listQ (K := K) (a := p) (D := D) (xs := xs) (fun i ys H2 => Same H H2 ∧ H2 D = some (.lst ys) ∧ ys = xs.take i)
      ⟨same_new hD, upd_same, rfl⟩ (fun i ys H2 ⟨s2, _⟩ => SqL.of (s2 _ _ e)) ?_ ?_
    · rintro i x ys H2 hxi ⟨s2, hD2, rfl⟩
      obtain ⟨a, dx, fs, rfl, ea⟩ := hx x (List.mem_of_getElem? hxi)
      have hlt : (xs.take i).length ≤ xs.length := by rw [List.length_take]; omega
      refine ⟨True.intro, _, rfl, a, dx, fs, rfl, s2 _ _ ea, hD2, line_lt (by omega), same_fresh s2 hD, upd_same, ?_⟩
      rw [List.take_add_one, hxi]
      rfl
    · rintro ys H2 ⟨s2, hD2, rfl⟩
      rw [List.take_length] at hD2
      exact k D H2 hD s2 hD2
theorem ok_copied_dict (T : Txt K mg t) : FnOk P w K mg base CX0 3 t.f_copied_dict t.d_copied_dict ["value"] sp_cd := by
  have G_copied := ok_copied (P := P) (w := w) (base := base) T 1
  refine T.F_copied_dict.ok sc_copied_dict (fun vs H Q E h => ?_) (fun cdv A outer s H vs Q E hr h => ?_)
  · obtain ⟨d, kvs, ds, rfl, _⟩ := h
    rfl
  · obtain ⟨d, kvs, ds, rfl, hd, hl, src, k⟩ := h
    have hu := hu_of hr
    refine ⟨_, (pss_know (pss_cons (ps_set (i := 1) sc_copied_dict.nd rfl (Or.inl rfl) pe_dnewK)
      (pss_cons (ps_for PassesOwn.never rfl (pi_items (pe_bm0 PySem.F.plainAttrs_dict PySem.F.slot_dict_items PySem.F.type_dict_items mt_items (pv 0))) (pg_tup (n := 2) rfl (pgs_cons (pg_name (i := 2) sc_copied_dict.nd rfl (Or.inl rfl) (Or.inl rfl)) (pgs_cons (pg_name (i := 3) sc_copied_dict.nd rfl (Or.inl rfl) (Or.inl rfl)) pgs_nil)))
        (pss_one (ps_dput hu (pv 1) (pv 2) (pe_call G_copied (hr.mono (by omega)) rfl T.m_copied T.F_copied.kp T.b_copied .nil pass0 (pa_cons (pv 3) pa_nil)) rfl)))
      (pss_thawD (pss_one (ps_ret (pv 1))))))), ?_⟩
    intro ap
    have nd := ap.1 d kvs hd
    refine fun p hp => ?_
    have dp : d ≠ p := ne_of_none hd hp
    have hd1 : upd H p (.dK []) d = some (.dK kvs) := by rw [upd_ne dp]; exact hd
    refine ⟨_, rfl, .inr (.inr (.inl ⟨rfl, .inl ⟨_, hd1⟩⟩)), d, _, rfl, rfl, hd1, .inl ⟨_, rfl⟩, fun vw hvw => ?_⟩
    have vp : p ≠ vw := ne_of_none upd_same hvw
    have dv : d ≠ vw := ne_of_none hd1 hvw
    refine ⟨vw, d, _, rfl, upd_same, (by rw [upd_ne dv]; exact hd1), .inl ⟨kvs, rfl, fun o => ?_⟩⟩
    have hv0 : H vw = none := by rw [upd_ne vp.symm] at hvw; exact hvw
    have g0 : Same (upd H d (.frz o (.dK kvs))) (upd (upd (upd H p (.dK [])) vw (viewO vw d)) d (.frz o (.dK kvs))) := fun b v e => by
      by_cases hb : b = d
      · subst hb; rw [upd_same] at e ⊢; exact e
      · rw [upd_ne hb] at e ⊢
        rw [upd_ne (ne_of_none e hv0), upd_ne (ne_of_none e hp)]; exact e
    have hpG : upd H d (.frz o (.dK kvs)) p = none := by rw [upd_ne dp.symm]; exact hp
    have nd0 : ∀ b, upd H d (.frz o (.dK kvs)) b = none → H b = none := fun b e => by
      by_cases hb : b = d
      · subst hb; rw [upd_same] at e; cases e
      · rw [upd_ne hb] at e; exact e
    refine for_items (L := kvs.map fun q => (kV q.1, q.2)) (fun i σ H4 => ∃ (o2 o3 : Option V) (ws : List (Key × V)), σ = [some (.ref d), some (.ref p), o2, o3] ∧ Same (upd H d (.frz o (.dK kvs))) H4 ∧ H4 p = some (.dK ws) ∧ ws.map (·.1) = (kvs.take i).map (·.1) ∧ Paired (fun (b : Key × V) (x : PyData) => Rep (restr (fun a => H a = none ∧ a ≠ p) H4) b.2 x) ws (ds.take i))
      ⟨none, none, [], rfl, g0, (by rw [upd_ne dp.symm, upd_ne vp, upd_same]), rfl, .nil⟩ (fun i σ H4 ⟨_, _, _, _, s4, _⟩ => s4 _ _ upd_same) ?_ ?_
    · rintro i kx vx q σ H4 hx hq ⟨o2, o3, ws, rfl, s4, h4, ks, cp⟩
      rw [List.getElem?_map] at hx
      obtain ⟨⟨k', v⟩, hk, e⟩ := Option.map_eq_some_iff.mp hx
      cases e
      obtain ⟨x, hxd, rv, dv1, cv1⟩ := pget src hk
      have sq : Same H4 (upd H4 q (.tup [kV k', v])) := same_new hq
      have rv4 : Rep (upd H4 q (.tup [kV k', v])) v x := (rv.imp2 (fun b ys z => s4 _ _ (by rw [upd_ne (ne_of z hd (by intro w; cases w))]; exact z)) fun b ys z => s4 _ _ (by rw [upd_ne (ne_of z hd (by intro w; cases w))]; exact z)).same sq
      refine ⟨q, _, rfl, SqT.of upd_same, rfl, _, _, rfl, _, _, rfl, rfl, _, rfl, v, x, rfl, rv4, dv1, cv1, fun v' H6 s6 r6 => ?_⟩
      have h6 := s6 _ _ (sq _ _ h4)
      have lw : ws.length = (kvs.take i).length := by have := congrArg List.length ks; simpa using this
      have lt2 : (kvs.take i).length ≤ kvs.length := by rw [List.length_take]; omega
      refine ⟨_, rfl, _, rfl, p, _, rfl, DPut.k (k := k') h6 (line_lt (by omega)), ?_⟩
      have hnS : ¬ (H p = none ∧ p ≠ p) := fun z => z.2 rfl
      refine ⟨_, _, _, rfl, same_fresh (s4.trans (sq.trans s6)) hpG, upd_same, ?_, ?_⟩
      · rw [put_next nd hk ws ks v', List.take_add_one, hk, List.map_append, List.map_append, ks]
        rfl
      · rw [put_next nd hk ws ks v', List.take_add_one, hxd]
        refine papp (Paired.mapP cp fun _ _ z => z.same (restr_upd (restr_same (sq.trans s6)) hnS)) (.cons (r6.same ((restr_imp (Same.refl _) fun a ob ea ha => ⟨?_, fun z => ?_⟩).trans (restr_upd (Same.refl _) hnS))) .nil)
        · exact nd0 a (s4.free (sq.free ha))
        · subst z
          rw [sq _ _ h4] at ha
          cases ha
    · rintro σ H4 ⟨o2, o3, ws, rfl, s4, h4, ks, cp⟩
      have ld := Paired.length src
      rw [List.length_map, List.take_length] at ks
      rw [List.length_map, ld, List.take_length] at cp
      have hd4 : H4 d = some (.frz o (.dK kvs)) := s4 _ _ upd_same
      refine ⟨d, o, _, hd4, .inl ⟨_, rfl⟩, (fun o' u' z => by have z : H d = some (.frz o' u') := z; rw [hd] at z; cases z), _, rfl, ?_⟩
      have hnd : ¬ (H d = none ∧ d ≠ p) := fun z => by rw [hd] at z; cases z.1
      exact k p ws _ hp (same_thaw hd s4) (by rw [upd_ne dp.symm]; exact h4) ks (Paired.mapP cp fun _ _ z => z.same ((restr_upd (Same.refl _) hnd).trans (restr_imp (Same.refl _) fun a ob _ h => h.1)))
theorem ok_copD (T : Txt K mg t) : FnOk P w K mg base CX0 4 t.f_copied t.d_copied ["value"] sp_cd := by
  have G_copied_dict := ok_copied_dict (P := P) (w := w) (base := base) T
  have G_copied : FnOk P w K mg base CX0 0 t.f_copied t.d_copied ["value"] (fun _ _ _ _ => False) := FnOk.none fun _ _ _ _ h => h
  refine T.F_copied.ok sc_copied (fun vs H Q E h => ?_) (fun cdv A outer s H vs Q E hr h => ?_)
  · obtain ⟨d, kvs, ds, rfl, _⟩ := h
    rfl
  · have h0 := h
    obtain ⟨d, kvs, ds, rfl, hd, _⟩ := h
    refine ⟨_, (pss_cons (ps_if (pt_val (pe_callB call_isinst (by rfl) T.z_isinstance PyProof.Rows.boot_isinstance (pa_cons (pv 0) (pa_cons (pe_bltn (v := V.ty "list") rfl T.z_list PyProof.Rows.boot_list rfl) pa_nil))))
        (pss_one (ps_ret (pe_comp (N' := ["member"]) (ix := (List.replicate 1 none)) rfl (clok_none rfl (by decide +kernel) (by decide +kernel)) (ixok_none rfl) (pi_seq (pv 0)) (fun _ _ _ _ => (pg_name (i := 0) nd_comp_0 rfl (Or.inl rfl) (Or.inr rfl))) (fun _ _ _ _ => (pe_call G_copied (hr.mono (by omega)) rfl T.m_copied T.F_copied.kp T.b_copied .nil pass0 (pa_cons (pv 0) pa_nil))))))
        pss_nil)
      (pss_cons (ps_if (pt_val (pe_callB call_isinst (by rfl) T.z_isinstance PyProof.Rows.boot_isinstance (pa_cons (pv 0) (pa_cons (pe_bltn (v := V.ty "tuple") rfl T.z_tuple PyProof.Rows.boot_tuple rfl) pa_nil))))
        (pss_one (ps_ret (pe_callTy call_tuple_of (by rfl) T.z_tuple PyProof.Rows.boot_tuple (pa_cons (pe_comp (N' := ["member"]) (ix := (List.replicate 1 none)) rfl (clok_none rfl (by decide +kernel) (by decide +kernel)) (ixok_none rfl) (pi_seq (pv 0)) (fun _ _ _ _ => (pg_name (i := 0) nd_comp_0 rfl (Or.inl rfl) (Or.inr rfl))) (fun _ _ _ _ => (pe_call G_copied (hr.mono (by omega)) rfl T.m_copied T.F_copied.kp T.b_copied .nil pass0 (pa_cons (pv 0) pa_nil)))) pa_nil))))
        pss_nil)
      (pss_cons (ps_if (pt_val (pe_callB call_isinst (by rfl) T.z_isinstance PyProof.Rows.boot_isinstance (pa_cons (pv 0) (pa_cons (pe_bltn (v := V.ty "dict") rfl T.z_dict PyProof.Rows.boot_dict rfl) pa_nil))))
        (pss_one (ps_ret (pe_call G_copied_dict (hr.mono (by omega)) rfl T.m_copied_dict T.F_copied_dict.kp T.b_copied_dict .nil pass0 (pa_cons (pv 0) pa_nil))))
        pss_nil)
      (pss_one (ps_ret (pv 0)))))), ?_⟩
    refine ⟨_, rfl, _, _, _, _, rfl, .dK hd, isi_by (by decide +kernel) (by decide +kernel) (by decide +kernel), false, rfl, iteF ?_⟩
    refine ⟨_, rfl, _, _, _, _, rfl, .dK hd, isi_by (by decide +kernel) (by decide +kernel) (by decide +kernel), false, rfl, iteF ?_⟩
    exact ⟨_, rfl, _, _, _, _, rfl, .dK hd, isi_same "dict", true, rfl, iteT ⟨_, rfl, h0⟩⟩
/-- copied of data, of a list of lines, of a dict -/
def sp_all (A : Adr) : Sp := fun vs H Q E => (sp_cop 2 vs H Q E ∨ sp_cpL A vs H Q E) ∨ sp_cd vs H Q E
theorem ok_cop (T : Txt K mg t) : FnOk P w K mg base CX0 4 t.f_copied t.d_copied ["value"] (sp_all t) := FnOk.or (FnOk.or ((ok_copied T 2).mono (by omega)) ((ok_copL T).mono (by omega))) (ok_copD T)
theorem ok_Read_init (T : Txt K mg t) : FnOk P w K mg base CX0 5 t.f_Read_init t.d_Read_init ["self", "array", "indexes"] (sp_initR t) := by
  have G_copied := ok_cop (P := P) (w := w) (base := base) T
  refine T.F_Read_init.ok sc_Read_init (fun vs H Q E h => ?_) (fun cdv A outer s H vs Q E hr h => ?_)
  · obtain ⟨p, dx, l, x, ix, rfl, _⟩ := h
    rfl
  · obtain ⟨p, dx, l, x, ix, rfl, hp, rp, hix, k⟩ := h
    have hcn := ix_cnt (ix := ix)
    refine ⟨_, (pss_cons (ps_fld (pv 0) (pv 1) rfl)
      (pss_one (ps_fld (pv 0) (pe_call G_copied (hr.mono (by omega)) rfl T.m_copied T.F_copied.kp T.b_copied .nil pass0 (pa_cons (pv 2) pa_nil)) rfl))), _, rfl, _, rfl, p, _, dx, [], rfl, hp, T.cl_Read, T.na_Read_array, (by decide), ?_⟩
    refine ⟨_, rfl, .inl (.inl ⟨.ref l, encIx ix, rfl, rp.ins hp, ix_depth, by omega, fun v' H2 s2 rp2 => ?_⟩)⟩
    have hp2 := s2 _ _ (upd_same (H := H) (a := p))
    obtain ⟨l', xs, rfl, el, rs⟩ := rep_lst (show Rep _ v' (.list (ix.map encI)) from rp2)
    refine ⟨_, rfl, p, _, dx, _, rfl, hp2, T.cl_Read, T.na_Read_indexes, (by show 1 < 1000; decide), ?_⟩
    show Q V.non (upd H2 p (.ins t.C_Read dx (putF "indexes" (.ref l') (putF "array" (.str x) []))))
    rw [putF_nil, putF_ne (by decide +kernel), putF_nil]
    refine k l' _ upd_same (rp2.same fun b o e => ?_) fun b o hb e => ?_
    · obtain ⟨hb, e2⟩ := restr_some e
      have hb : upd H p _ b = none := hb
      have bp : b ≠ p := fun z => by rw [z, upd_same] at hb; cases hb
      rw [upd_ne bp] at hb
      exact restr_mk hb (by rw [upd_ne bp]; exact e2)
    rw [upd_ne hb]
    exact s2 _ _ (by rw [upd_ne hb]; exact e)
end
end My

set_option Elab.async false
set_option linter.all false
set_option maxRecDepth 100000
set_option maxHeartbeats 4000000
namespace My
open PySem L2
local macro_rules | `(tactic| walk_at "lk") => `(tactic| first | with_reducible exact lk0 | (refine lk1 (by decide +kernel) ?_; walk_at "lk") | rfl)
/-- all but p stays -/
def KB (p : Addr) (H H' : Hp) : Prop := ∀ b o, b ≠ p → H b = some o → H' b = some o
theorem KB.upd {p : Addr} {H H' : Hp} {o : HO} (k : KB p H H') : KB p H (upd H' p o) := fun b u hb e => by rw [upd_ne hb]; exact k b u hb e
theorem KB.refl {p : Addr} {H : Hp} : KB p H H := fun _ _ _ e => e
theorem KB.trans {p : Addr} {H H' H2 : Hp} (a : KB p H H') (b : KB p H' H2) : KB p H H2 := fun c o hc e => b c o hc (a c o hc e)
theorem KB.of {p : Addr} {H H' : Hp} (s : Same H H') : KB p H H' := fun b o _ e => s _ _ e
theorem KB.free {p b : Addr} {H H' : Hp} {u : HO} (k : KB p H H') (hp : H' p = some u) (hb : H' b = none) : H b = none := by
  cases e : H b with
  | none => rfl
  | some o =>
    have hne : b ≠ p := fun z => by subst z; rw [hp] at hb; cases hb
    rw [k b o hne e] at hb
    cases hb
theorem KB.same {p : Addr} {H H2 H' : Hp} (s : Same H H2) (k : KB p H2 H') (hp : H p = none) : Same H H' := fun b o e => k b o (ne_of_none e hp) (s _ _ e)
/-- the arrays: each with a list in S -/
abbrev AR (S : Addr → Prop) (H : Hp) (kvs : List (Key × V)) (es : List (Str × List Str)) : Prop := Paired (fun (p : Key × V) (e : Str × List Str) => p.1 = Sum.inr e.1 ∧ ∃ b, p.2 = .ref b ∧ S b ∧ H b = some (.lst (e.2.map V.str))) kvs es
theorem AR.imp {S S' : Addr → Prop} {H H' : Hp} {kvs : List (Key × V)} {es : List (Str × List Str)} (h : AR S H kvs es) (f : ∀ b xs, S b → H b = some (.lst xs) → S' b ∧ H' b = some (.lst xs)) : AR S' H' kvs es :=
  Paired.mapP h fun _ _ ⟨z1, b, z2, z3, z4⟩ => ⟨z1, b, z2, (f b _ z3 z4).1, (f b _ z3 z4).2⟩
theorem AR.same {S : Addr → Prop} {H H' : Hp} {kvs : List (Key × V)} {es : List (Str × List Str)} (h : AR S H kvs es) (s : Same H H') : AR S H' kvs es := h.imp fun b xs z e => ⟨z, s _ _ e⟩
theorem AR.src {S : Addr → Prop} {H : Hp} : ∀ {kvs : List (Key × V)} {es : List (Str × List Str)}, AR S H kvs es → (∀ e ∈ es, e.2.length ≤ 100) → Paired (fun (a : Key × V) (x : PyData) => Rep H a.2 x ∧ PyData.depth x ≤ 1 ∧ cnt x ≤ 100000) kvs (es.map fun e => encS e.2)
  | _, _, .nil, _ => .nil
  | _, _, @Paired.cons _ _ _ p e _ _ ⟨_, b, z2, _, z4⟩ t, h => by
    obtain ⟨c2, c3⟩ := encS_ok e.2
    have := h e (.head _)
    exact .cons ⟨by rw [z2]; exact S_rep z4, c2, (by show cnt (encS e.2) ≤ 100000; omega)⟩ (AR.src t fun x hx => h x (.tail _ hx))
theorem ar_of {S S' : Addr → Prop} {H H' : Hp} : ∀ {kvs kvs' : List (Key × V)} {es : List (Str × List Str)}, AR S H kvs es → kvs'.map (·.1) = kvs.map (·.1) → Paired (fun (b : Key × V) (x : PyData) => Rep (restr S' H') b.2 x) kvs' (es.map fun e => encS e.2) → AR S' H' kvs' es
  | _, [], _, .nil, _, _ => .nil
  | _, _ :: _, _, .nil, ks, _ => by cases ks
  | _, [], _, .cons _ _, ks, _ => by cases ks
  | _, q :: r, _, @Paired.cons _ _ _ p e _ _ ⟨z1, _⟩ t, ks, pr => by
    rw [List.map_cons, List.map_cons] at ks
    injection ks with k1 k2
    rw [List.map_cons] at pr
    cases pr with
    | cons a pr =>
      obtain ⟨b, e1, e2⟩ := rep_S a
      exact .cons ⟨k1.trans z1, b, e1, (restr_some e2).1, (restr_some e2).2⟩ (ar_of t k2 pr)
abbrev Ints' (kvs : List (Key × V)) (is : List Int) : Prop := Paired (fun (p : Key × V) (i : Int) => p.2 = .int i) kvs is
theorem ints_src {H : Hp} : ∀ {kvs : List (Key × V)} {is : List Int}, Ints' kvs is → Paired (fun (a : Key × V) (x : PyData) => Rep H a.2 x ∧ PyData.depth x ≤ 1 ∧ cnt x ≤ 100000) kvs (is.map PyData.int)
  | _, _, .nil => .nil
  | _, _, .cons a t => .cons ⟨by rw [a]; exact .int _, by simp [PyData.depth], by simp [cnt]⟩ (ints_src t)
theorem ints_of {S : Addr → Prop} {H : Hp} : ∀ {kvs kvs' : List (Key × V)} {is : List Int}, Ints' kvs is → kvs'.map (·.1) = kvs.map (·.1) → Paired (fun (b : Key × V) (x : PyData) => Rep (restr S H) b.2 x) kvs' (is.map PyData.int) → kvs' = kvs
  | _, [], _, .nil, _, _ => rfl
  | _, _ :: _, _, .nil, ks, _ => by cases ks
  | _, [], _, .cons _ _, ks, _ => by cases ks
  | _, q :: r, _, @Paired.cons _ _ _ p i _ _ a t, ks, pr => by
    rw [List.map_cons, List.map_cons] at ks
    injection ks with k1 k2
    rw [List.map_cons] at pr
    cases pr with
    | cons b pr =>
      rw [ints_of t k2 pr]
      have hb := rep_int b
      have : q = p := Prod.ext k1 (hb.trans a.symm)
      rw [this]
def sp_initLn (A : Adr) : Sp := fun vs H Q _ => ∃ (p dx l m : Addr) (n : V) (x : Str) (ys zs : List Str), vs = [.ref p, .str x, .ref l, .ref m, n] ∧ H p = some (.ins A.C_Line dx []) ∧ H l = some (.lst (ys.map V.str)) ∧ H m = some (.lst (zs.map V.str)) ∧ ys.length ≤ 1000 ∧ zs.length ≤ 1000 ∧
  ∀ (c u : Addr) (H' : Hp), H c = none → H u = none → H' p = some (.ins A.C_Line dx [("name", .str x), ("axes", .ref c), ("sums", .ref u), ("term", n)]) → H' c = some (.lst (ys.map V.str)) → H' u = some (.lst (zs.map V.str)) → KB p H H' → Q .non H'
/-- the fields of a cloth -/
abbrev clo (A : Adr) (dx : Addr) (wh : Int) (l a tb ln o : Addr) : HO := .ins A.C_Cloth dx [("wheel", .int wh), ("lengths", .ref l), ("arrays", .ref a), ("tables", .ref tb), ("lines", .ref ln), ("outs", .ref o)]
def sp_initC (A : Adr) : Sp := fun vs H Q _ => ∃ (p dx ld ad tl lv ol : Addr) (wh : Int) (lk ak : List (Key × V)) (is : List Int) (es : List (Str × List Str)) (tb os : List Str) (xs : List V) (S : Addr → Prop), vs = [.ref p, .int wh, .ref ld, .ref ad, .ref tl, .ref lv, .ref ol] ∧ H p = some (.ins A.C_Cloth dx []) ∧
  H ld = some (.dK lk) ∧ Ints' lk is ∧ lk.length ≤ 1000 ∧ H ad = some (.dK ak) ∧ AR S H ak es ∧ es.length ≤ 1000 ∧ (∀ e ∈ es, e.2.length ≤ 100) ∧ H tl = some (.lst (tb.map V.str)) ∧ tb.length ≤ 1000 ∧ H lv = some (.lst xs) ∧ xs.length ≤ 1000 ∧ (∀ x ∈ xs, ∃ a dx fs, x = .ref a ∧ a ≠ p ∧ H a = some (.ins A.C_Line dx fs)) ∧ H ol = some (.lst (os.map V.str)) ∧ os.length ≤ 1000 ∧
  ∀ (l' a' t' v' o' : Addr) (ak' : List (Key × V)) (H' : Hp), H' p = some (clo A dx wh l' a' t' v' o') → H l' = none → H' l' = some (.dK lk) → H a' = none → H' a' = some (.dK ak') → AR (fun b => H b = none) H' ak' es → H t' = none → H' t' = some (.lst (tb.map V.str)) → H v' = none → H' v' = some (.lst xs) → H o' = none → H' o' = some (.lst (os.map V.str)) → KB p H H' → Q .non H'
section
variable {P : Program} {w : World} {K : PySem.W.Frag} {mg : Str → Option Value} {base : Heap} {t : Adr}
theorem ok_Line_init (T : Txt K mg t) : FnOk P w K mg base CX0 5 t.f_Line_init t.d_Line_init ["self", "name", "axes", "sums", "term"] (sp_initLn t) := by
  have G_copied := ok_cop (P := P) (w := w) (base := base) T
  refine T.F_Line_init.ok sc_Line_init (fun vs H Q E h => ?_) (fun cdv A outer s H vs Q E hr h => ?_)
  · obtain ⟨p, dx, l, m, n, x, ys, zs, rfl, _⟩ := h
    rfl
  · obtain ⟨p, dx, l, m, n, x, ys, zs, rfl, hp, hl, hm, ly, lz, k⟩ := h
    obtain ⟨c2, c3⟩ := encS_ok ys
    obtain ⟨d2, d3⟩ := encS_ok zs
    have lp : l ≠ p := ne_of hl hp (by intro z; cases z)
    have mp : m ≠ p := ne_of hm hp (by intro z; cases z)
    have e1 : ∀ v : V, putF "axes" v [("name", .str x)] = ([("name", .str x), ("axes", v)] : List (Str × V)) := fun v => by rw [putF_ne (by decide +kernel), putF_nil]
    have e2 : ∀ u v : V, putF "sums" v [("name", .str x), ("axes", u)] = ([("name", .str x), ("axes", u), ("sums", v)] : List (Str × V)) := fun u v => by rw [putF_ne (by decide +kernel), putF_ne (by decide +kernel), putF_nil]
    have e3 : ∀ u1 u v : V, putF "term" v [("name", .str x), ("axes", u1), ("sums", u)] = ([("name", .str x), ("axes", u1), ("sums", u), ("term", v)] : List (Str × V)) := fun u1 u v => by rw [putF_ne (by decide +kernel), putF_ne (by decide +kernel), putF_ne (by decide +kernel), putF_nil]
    refine ⟨_, (pss_cons (ps_fld (pv 0) (pv 1) rfl)
      (pss_cons (ps_fld (pv 0) (pe_call G_copied (hr.mono (by omega)) rfl T.m_copied T.F_copied.kp T.b_copied .nil pass0 (pa_cons (pv 2) pa_nil)) rfl)
      (pss_cons (ps_fld (pv 0) (pe_call G_copied (hr.mono (by omega)) rfl T.m_copied T.F_copied.kp T.b_copied .nil pass0 (pa_cons (pv 3) pa_nil)) rfl)
      (pss_one (ps_fld (pv 0) (pv 4) rfl))))), _, rfl, _, rfl, p, _, dx, [], rfl, hp, T.cl_Line, T.na_Line_name, (by decide), ?_⟩
    rw [putF_nil]
    have k1 : KB p H (upd H p (.ins t.C_Line dx [("name", .str x)])) := KB.refl.upd
    refine ⟨_, rfl, .inl (.inl ⟨.ref l, encS ys, rfl, S_rep (k1 _ _ lp hl), by omega, by omega, fun v' H2 s2 rp2 => ?_⟩)⟩
    have hp2 := s2 _ _ (upd_same (H := H) (a := p))
    obtain ⟨c, rfl, ec⟩ := rep_S rp2
    obtain ⟨hc1, ec⟩ := restr_some ec
    have hcn : H c = none := k1.free upd_same hc1
    have cp : c ≠ p := fun z => by subst z; rw [hp] at hcn; cases hcn
    refine ⟨_, rfl, p, _, dx, _, rfl, hp2, T.cl_Line, T.na_Line_axes, (by show 1 < 1000; decide), ?_⟩
    rw [e1]
    have k2 : KB p H (upd H2 p (.ins t.C_Line dx [("name", .str x), ("axes", .ref c)])) := (k1.trans (KB.of s2)).upd
    refine ⟨_, rfl, .inl (.inl ⟨.ref m, encS zs, rfl, S_rep (k2 _ _ mp hm), by omega, by omega, fun v'' H3 s3 rp3 => ?_⟩)⟩
    have hp3 := s3 _ _ (upd_same (H := H2) (a := p))
    obtain ⟨u, rfl, eu⟩ := rep_S rp3
    obtain ⟨hu1, eu⟩ := restr_some eu
    have hun : H u = none := k2.free upd_same hu1
    have up : u ≠ p := fun z => by subst z; rw [hp] at hun; cases hun
    refine ⟨_, rfl, p, _, dx, _, rfl, hp3, T.cl_Line, T.na_Line_sums, (by show 2 < 1000; decide), ?_⟩
    rw [e2]
    refine ⟨_, rfl, _, rfl, p, _, dx, _, rfl, upd_same, T.cl_Line, T.na_Line_term, (by show 3 < 1000; decide), ?_⟩
    show Q V.non (upd (upd H3 p _) p _)
    rw [upd_upd, e3]
    exact k c u _ hcn hun upd_same (by rw [upd_ne cp]; exact s3 _ _ (by rw [upd_ne cp]; exact ec)) (by rw [upd_ne up]; exact eu) (k2.trans (KB.of s3)).upd
theorem ok_Cloth_init (T : Txt K mg t) : FnOk P w K mg base CX0 5 t.f_Cloth_init t.d_Cloth_init ["self", "wheel", "lengths", "arrays", "tables", "lines", "outs"] (sp_initC t) := by
  have G_copied := ok_cop (P := P) (w := w) (base := base) T
  refine T.F_Cloth_init.ok sc_Cloth_init (fun vs H Q E h => ?_) (fun cdv A outer s H vs Q E hr h => ?_)
  · obtain ⟨p, dx, ld, ad, tl, lv, ol, wh, lk, ak, is, es, tb, os, xs, S, rfl, _⟩ := h
    rfl
  · obtain ⟨p, dx, ld, ad, tl, lv, ol, wh, lk, ak, is, es, tb, os, xs, S, rfl, hp, hld, il, ll, had, ar, les, les2, htl, ltb, hlv, lxs, hxs, hol, los, k⟩ := h
    have f1 : ∀ v : V, putF "lengths" v [("wheel", .int wh)] = ([("wheel", .int wh), ("lengths", v)] : List (Str × V)) := fun v => by rw [putF_ne (by decide +kernel), putF_nil]
    have f2 : ∀ u v : V, putF "arrays" v [("wheel", .int wh), ("lengths", u)] = ([("wheel", .int wh), ("lengths", u), ("arrays", v)] : List (Str × V)) := fun u v => by rw [putF_ne (by decide +kernel), putF_ne (by decide +kernel), putF_nil]
    have f3 : ∀ u1 u v : V, putF "tables" v [("wheel", .int wh), ("lengths", u1), ("arrays", u)] = ([("wheel", .int wh), ("lengths", u1), ("arrays", u), ("tables", v)] : List (Str × V)) := fun u1 u v => by rw [putF_ne (by decide +kernel), putF_ne (by decide +kernel), putF_ne (by decide +kernel), putF_nil]
    have f4 : ∀ u1 u2 u v : V, putF "lines" v [("wheel", .int wh), ("lengths", u1), ("arrays", u2), ("tables", u)] = ([("wheel", .int wh), ("lengths", u1), ("arrays", u2), ("tables", u), ("lines", v)] : List (Str × V)) := fun u1 u2 u v => by rw [putF_ne (by decide +kernel), putF_ne (by decide +kernel), putF_ne (by decide +kernel), putF_ne (by decide +kernel), putF_nil]
    have f5 : ∀ u1 u2 u3 u v : V, putF "outs" v [("wheel", .int wh), ("lengths", u1), ("arrays", u2), ("tables", u3), ("lines", u)] = ([("wheel", .int wh), ("lengths", u1), ("arrays", u2), ("tables", u3), ("lines", u), ("outs", v)] : List (Str × V)) := fun u1 u2 u3 u v => by rw [putF_ne (by decide +kernel), putF_ne (by decide +kernel), putF_ne (by decide +kernel), putF_ne (by decide +kernel), putF_ne (by decide +kernel), putF_nil]
    have np : ∀ {b : Addr} {u : HO}, H b = some u → (∀ C d fs, u ≠ .ins C d fs) → b ≠ p := fun e n z => by subst z; rw [hp] at e; cases e; exact n _ _ _ rfl
    have nn : ∀ {b : Addr}, H b = none → b ≠ p := fun e z => by subst z; rw [hp] at e; cases e
    refine ⟨_, (pss_cons (ps_fld (pv 0) (pv 1) rfl)
      (pss_cons (ps_fld (pv 0) (pe_call G_copied (hr.mono (by omega)) rfl T.m_copied T.F_copied.kp T.b_copied .nil pass0 (pa_cons (pv 2) pa_nil)) rfl)
      (pss_cons (ps_fld (pv 0) (pe_call G_copied (hr.mono (by omega)) rfl T.m_copied T.F_copied.kp T.b_copied .nil pass0 (pa_cons (pv 3) pa_nil)) rfl)
      (pss_cons (ps_fld (pv 0) (pe_call G_copied (hr.mono (by omega)) rfl T.m_copied T.F_copied.kp T.b_copied .nil pass0 (pa_cons (pv 4) pa_nil)) rfl)
      (pss_cons (ps_fld (pv 0) (pe_call G_copied (hr.mono (by omega)) rfl T.m_copied T.F_copied.kp T.b_copied .nil pass0 (pa_cons (pv 5) pa_nil)) rfl)
      (pss_one (ps_fld (pv 0) (pe_call G_copied (hr.mono (by omega)) rfl T.m_copied T.F_copied.kp T.b_copied .nil pass0 (pa_cons (pv 6) pa_nil)) rfl))))))), _, rfl, _, rfl, p, _, dx, [], rfl, hp, T.cl_Cloth, T.na_Cloth_wheel, (by decide), ?_⟩
    rw [putF_nil]
    obtain ⟨G0, hG0⟩ : ∃ G0, G0 = upd H p (.ins t.C_Cloth dx [("wheel", .int wh)]) := ⟨_, rfl⟩
    rw [← hG0]
    have p0 : G0 p = some (.ins t.C_Cloth dx [("wheel", .int wh)]) := by rw [hG0]; exact upd_same
    have k0 : KB p H G0 := by rw [hG0]; exact KB.refl.upd
    -- lengths
    refine ⟨_, rfl, .inr ⟨ld, lk, is.map PyData.int, rfl, k0 _ _ (np hld (by intros; intro z; cases z)) hld, by omega, ints_src il, fun l' lk' H1 hl' s1 h1 ks cp => ?_⟩⟩
    have ek := ints_of il ks cp
    subst ek
    have nl : H l' = none := k0.free p0 hl'
    refine ⟨_, rfl, p, _, dx, _, rfl, s1 _ _ p0, T.cl_Cloth, T.na_Cloth_lengths, (by show 1 < 1000; decide), ?_⟩
    rw [f1]
    obtain ⟨G1, hG1⟩ : ∃ G1, G1 = upd H1 p (.ins t.C_Cloth dx [("wheel", .int wh), ("lengths", .ref l')]) := ⟨_, rfl⟩
    rw [← hG1]
    have p1 : G1 p = some (.ins t.C_Cloth dx [("wheel", .int wh), ("lengths", .ref l')]) := by rw [hG1]; exact upd_same
    have k1 : KB p H G1 := by rw [hG1]; exact (k0.trans (KB.of s1)).upd
    have gl1 : G1 l' = some (.dK lk') := by rw [hG1, upd_ne (nn nl)]; exact h1
    -- arrays
    have ar1 : AR (fun b => S b) G1 ak es := ar.imp fun b ys z e => ⟨z, k1 _ _ (np e (by intros; intro z; cases z)) e⟩
    refine ⟨_, rfl, .inr ⟨ad, ak, _, rfl, k1 _ _ (np had (by intros; intro z; cases z)) had, by have := Paired.length ar; omega, ar1.src les2, fun a' ak' H2 ha' s2 h2 ks2 cp2 => ?_⟩⟩
    have arc := ar_of ar1 ks2 cp2
    have na : H a' = none := k1.free p1 ha'
    refine ⟨_, rfl, p, _, dx, _, rfl, s2 _ _ p1, T.cl_Cloth, T.na_Cloth_arrays, (by show 2 < 1000; decide), ?_⟩
    rw [f2]
    obtain ⟨G2, hG2⟩ : ∃ G2, G2 = upd H2 p (.ins t.C_Cloth dx [("wheel", .int wh), ("lengths", .ref l'), ("arrays", .ref a')]) := ⟨_, rfl⟩
    rw [← hG2]
    have p2 : G2 p = some (.ins t.C_Cloth dx [("wheel", .int wh), ("lengths", .ref l'), ("arrays", .ref a')]) := by rw [hG2]; exact upd_same
    have j2 : KB p G1 G2 := by rw [hG2]; exact (KB.of s2).upd
    have k2 := k1.trans j2
    have ga2 : G2 a' = some (.dK ak') := by rw [hG2, upd_ne (nn na)]; exact h2
    have ar2 : AR (fun b => H b = none) G2 ak' es := arc.imp fun b ys z e => ⟨k1.free p1 z, by rw [hG2, upd_ne (nn (k1.free p1 z))]; exact e⟩
    -- tables
    obtain ⟨c2, c3⟩ := encS_ok tb
    refine ⟨_, rfl, .inl (.inl ⟨.ref tl, encS tb, rfl, S_rep (k2 _ _ (np htl (by intros; intro z; cases z)) htl), by omega, by omega, fun vt H3 s3 rp3 => ?_⟩)⟩
    obtain ⟨t', rfl, et⟩ := rep_S rp3
    obtain ⟨ht1, et⟩ := restr_some et
    have nt : H t' = none := k2.free p2 ht1
    refine ⟨_, rfl, p, _, dx, _, rfl, s3 _ _ p2, T.cl_Cloth, T.na_Cloth_tables, (by show 3 < 1000; decide), ?_⟩
    rw [f3]
    obtain ⟨G3, hG3⟩ : ∃ G3, G3 = upd H3 p (.ins t.C_Cloth dx [("wheel", .int wh), ("lengths", .ref l'), ("arrays", .ref a'), ("tables", .ref t')]) := ⟨_, rfl⟩
    rw [← hG3]
    have p3 : G3 p = some (.ins t.C_Cloth dx [("wheel", .int wh), ("lengths", .ref l'), ("arrays", .ref a'), ("tables", .ref t')]) := by rw [hG3]; exact upd_same
    have j3 : KB p G2 G3 := by rw [hG3]; exact (KB.of s3).upd
    have k3 := k2.trans j3
    have gt3 : G3 t' = some (.lst (tb.map V.str)) := by rw [hG3, upd_ne (nn nt)]; exact et
    -- lines
    refine ⟨_, rfl, .inl (.inr ⟨lv, xs, rfl, k3 _ _ (np hlv (by intros; intro z; cases z)) hlv, lxs, fun x hx => ?_, fun v' H4 hv' s4 hv4 => ?_⟩)⟩
    · obtain ⟨b, db, fs, rfl, nb, eb⟩ := hxs x hx
      exact ⟨b, db, fs, rfl, k3 _ _ nb eb⟩
    have nv : H v' = none := k3.free p3 hv'
    refine ⟨_, rfl, p, _, dx, _, rfl, s4 _ _ p3, T.cl_Cloth, T.na_Cloth_lines, (by show 4 < 1000; decide), ?_⟩
    rw [f4]
    obtain ⟨G4, hG4⟩ : ∃ G4, G4 = upd H4 p (.ins t.C_Cloth dx [("wheel", .int wh), ("lengths", .ref l'), ("arrays", .ref a'), ("tables", .ref t'), ("lines", .ref v')]) := ⟨_, rfl⟩
    rw [← hG4]
    have p4 : G4 p = some (.ins t.C_Cloth dx [("wheel", .int wh), ("lengths", .ref l'), ("arrays", .ref a'), ("tables", .ref t'), ("lines", .ref v')]) := by rw [hG4]; exact upd_same
    have j4 : KB p G3 G4 := by rw [hG4]; exact (KB.of s4).upd
    have k4 := k3.trans j4
    have gv4 : G4 v' = some (.lst xs) := by rw [hG4, upd_ne (nn nv)]; exact hv4
    -- outs
    obtain ⟨o2, o3⟩ := encS_ok os
    refine ⟨_, rfl, .inl (.inl ⟨.ref ol, encS os, rfl, S_rep (k4 _ _ (np hol (by intros; intro z; cases z)) hol), by omega, by omega, fun vo H5 s5 rp5 => ?_⟩)⟩
    obtain ⟨o', rfl, eo⟩ := rep_S rp5
    obtain ⟨ho1, eo⟩ := restr_some eo
    have no : H o' = none := k4.free p4 ho1
    refine ⟨_, rfl, p, _, dx, _, rfl, s5 _ _ p4, T.cl_Cloth, T.na_Cloth_outs, (by show 5 < 1000; decide), ?_⟩
    show Q V.non (upd H5 p _)
    rw [f5]
    have j5 : KB p G4 (upd H5 p (clo t dx wh l' a' t' v' o')) := (KB.of s5).upd
    have up := fun {b : Addr} (hb : H b = none) {u : HO} (e : G4 b = some u) => j5 _ _ (nn hb) e
    exact k l' a' t' v' o' ak' _ upd_same nl (up nl (j4 _ _ (nn nl) (j3 _ _ (nn nl) (j2 _ _ (nn nl) gl1)))) na (up na (j4 _ _ (nn na) (j3 _ _ (nn na) ga2))) (ar2.imp fun b ys z e => ⟨z, up z (j4 _ _ (nn z) (j3 _ _ (nn z) e))⟩) nt (up nt (j4 _ _ (nn nt) gt3)) nv (up nv gv4) no (by rw [upd_ne (nn no)]; exact eo) (k4.trans j5)
end
end My

set_option Elab.async false
set_option linter.all false
set_option maxRecDepth 100000
set_option maxHeartbeats 4000000
namespace My
open PySem L2
local macro_rules | `(tactic| walk_at "lk") => `(tactic| first | with_reducible exact lk0 | (refine lk1 (by decide +kernel) ?_; walk_at "lk") | rfl)
/-- the terms here -/
def Gd : Tm → Prop
  | .read _ ix => ix.length ≤ 100
  | .sum _ b => Gd b
  | .pair _ l r => Gd l ∧ Gd r
  | .guard _ _ _ l r => Gd l ∧ Gd r
  | _ => True
/-- what a tree is asked with -/
structure AskD (n : Nat) (u : Tm) (H : Hp) (d l : Addr) (kvs lk : List (Key × V)) : Prop where
  good : Gd u
  deep : dep u ≤ n
  hd : H d = some (.dK kvs)
  at_ : AtOk kvs u
  hl : H l = some (.dK lk)
  ax : ∃ AX, Axs AX u ∧ LenOk AX lk
  few : kvs.length + n ≤ 1000
  most : (rd (ai lk) u (ai kvs)).length ≤ 100000
theorem AskD.same {n : Nat} {u : Tm} {H H' : Hp} {d l : Addr} {kvs lk : List (Key × V)} (h : AskD n u H d l kvs lk) (s : Same H H') : AskD n u H' d l kvs lk := ⟨h.good, h.deep, s _ _ h.hd, h.at_, s _ _ h.hl, h.ax, h.few, h.most⟩
theorem AskD.left {n : Nat} {o : Op3} {a b : Tm} {H : Hp} {d l : Addr} {kvs lk : List (Key × V)} (h : AskD (n + 1) (.pair o a b) H d l kvs lk) : AskD n a H d l kvs lk := by
  obtain ⟨AX, a1, a2⟩ := h.ax
  have hdep := h.deep
  have hfew := h.few
  have hmost := h.most
  simp only [dep] at hdep
  simp only [rd, List.length_append] at hmost
  exact ⟨h.good.1, by omega, h.hd, fun x hx => h.at_ x (.inl hx), h.hl, ⟨AX, a1.1, a2⟩, by omega, by omega⟩
theorem AskD.right {n : Nat} {o : Op3} {a b : Tm} {H : Hp} {d l : Addr} {kvs lk : List (Key × V)} (h : AskD (n + 1) (.pair o a b) H d l kvs lk) : AskD n b H d l kvs lk := by
  obtain ⟨AX, a1, a2⟩ := h.ax
  have hdep := h.deep
  have hfew := h.few
  have hmost := h.most
  simp only [dep] at hdep
  simp only [rd, List.length_append] at hmost
  exact ⟨h.good.2, by omega, h.hd, fun x hx => h.at_ x (.inr hx), h.hl, ⟨AX, a1.2, a2⟩, by omega, by omega⟩
theorem AskD.inner {n : Nat} {x : Str} {lo hi : Int} {a b : Tm} {H : Hp} {d l : Addr} {kvs lk : List (Key × V)} (h : AskD (n + 1) (.guard x lo hi a b) H d l kvs lk) (c : lo ≤ ai kvs x ∧ ai kvs x < hi) : AskD n a H d l kvs lk ∧ rd (ai lk) (.guard x lo hi a b) (ai kvs) = rd (ai lk) a (ai kvs) := by
  obtain ⟨AX, a1, a2⟩ := h.ax
  have hdep := h.deep
  have hfew := h.few
  have hmost := h.most
  have e : rd (ai lk) (.guard x lo hi a b) (ai kvs) = rd (ai lk) a (ai kvs) := by simp only [rd]; rw [if_pos c]
  rw [e] at hmost
  simp only [dep] at hdep
  exact ⟨⟨h.good.1, by omega, h.hd, fun x hx => h.at_ x (.inr (.inl hx)), h.hl, ⟨AX, a1.2.1, a2⟩, by omega, hmost⟩, e⟩
theorem AskD.outer {n : Nat} {x : Str} {lo hi : Int} {a b : Tm} {H : Hp} {d l : Addr} {kvs lk : List (Key × V)} (h : AskD (n + 1) (.guard x lo hi a b) H d l kvs lk) (c : ¬ (lo ≤ ai kvs x ∧ ai kvs x < hi)) : AskD n b H d l kvs lk ∧ rd (ai lk) (.guard x lo hi a b) (ai kvs) = rd (ai lk) b (ai kvs) := by
  obtain ⟨AX, a1, a2⟩ := h.ax
  have hdep := h.deep
  have hfew := h.few
  have hmost := h.most
  have e : rd (ai lk) (.guard x lo hi a b) (ai kvs) = rd (ai lk) b (ai kvs) := by simp only [rd]; rw [if_neg c]
  rw [e] at hmost
  simp only [dep] at hdep
  exact ⟨⟨h.good.2, by omega, h.hd, fun x hx => h.at_ x (.inr (.inr hx)), h.hl, ⟨AX, a1.2.2, a2⟩, by omega, hmost⟩, e⟩
theorem AskD.gat {n : Nat} {x : Str} {lo hi : Int} {a b : Tm} {H : Hp} {d l : Addr} {kvs lk : List (Key × V)} (h : AskD n (.guard x lo hi a b) H d l kvs lk) {H' : Hp} (s : Same H H') : DGet H' d (.str x) (some (.int (ai kvs x))) := by
  have g := DGet.k (H := H') (a := d) (k := Sum.inr x) (s _ _ h.hd)
  rw [h.at_ x (.inl rfl)] at g
  exact g
/-- a list of reads comes -/
def RdQ (H : Hp) (rs : List (Str × List Int)) (Q : VK) : Prop := ∀ (p : Addr) (es : List V) (H' : Hp), H p = none → Same H H' → H' p = some (.lst es) → Rds H' es rs → Q (.ref p) H'
def sp_index_at : Sp := fun vs H Q _ => ∃ (x : Str) (z : Int) (d : Addr) (kvs : List (Key × V)), vs = [.str x, .int z, .ref d] ∧ H d = some (.dK kvs) ∧ (¬ x = "" → valV kvs (Sum.inr x) = some (.int (ai kvs x))) ∧ Q (.int (if x = "" then z else ai kvs x + z)) H
def sp_cell_at (A : Adr) : Sp := fun vs H Q _ => ∃ (o dx d l : Addr) (a : Str) (ix : List (Str × Int)) (kvs : List (Key × V)), vs = [.ref o, .ref d] ∧ H o = some (.ins A.C_Read dx [("array", .str a), ("indexes", .ref l)]) ∧ Rep H (.ref l) (encIx ix) ∧ ix.length ≤ 100 ∧ H d = some (.dK kvs) ∧
  (∀ e ∈ ix, ¬ e.1 = "" → valV kvs (Sum.inr e.1) = some (.int (ai kvs e.1))) ∧ ∀ (p : Addr) (H' : Hp), H p = none → Same H H' → H' p = some (.tup ((cellM (ai kvs) ix).map V.int)) → Q (.ref p) H'
def sp_looked (A : Adr) : Sp := fun vs H Q _ => ∃ (o dx d : Addr) (x : Str) (lo hi : Int) (u v : V) (kvs : List (Key × V)), vs = [.ref o, .ref d] ∧ H o = some (.ins A.C_Guard dx [("axis", .str x), ("low", .int lo), ("high", .int hi), ("inner", u), ("outer", v)]) ∧ DGet H d (.str x) (some (.int (ai kvs x))) ∧
  (lo ≤ ai kvs x ∧ ai kvs x < hi → Q u H) ∧ (¬ (lo ≤ ai kvs x ∧ ai kvs x < hi) → Q v H)
def sp_R (A : Adr) (n : Nat) (is : Tm → Prop) : Sp := fun vs H Q _ => ∃ (v : V) (u : Tm) (d l : Addr) (kvs lk : List (Key × V)), vs = [v, .ref d, .ref l] ∧ is u ∧ Ob A H v u ∧ AskD n u H d l kvs lk ∧ RdQ H (rd (ai lk) u (ai kvs)) Q
section
variable {P : Program} {w : World} {K : PySem.W.Frag} {mg : Str → Option Value} {base : Heap} {t : Adr}
theorem ok_index_at (T : Txt K mg t) : FnOk P w K mg base CX0 1 t.f_index_at t.d_index_at ["axis", "shift", "at"] sp_index_at := by
  refine T.F_index_at.ok sc_index_at (fun vs H Q E h => ?_) (fun cdv A outer s H vs Q E hr h => ?_)
  · obtain ⟨x, z, d, kvs, rfl, _⟩ := h
    rfl
  · obtain ⟨x, z, d, kvs, rfl, hd, hx, k⟩ := h
    have hu := hu_of hr
    refine ⟨_, (pss_cons (ps_if (pt_cmpR op_eq (pv 0) pe_str (nomark _))
        (pss_one (ps_ret (pv 1)))
        pss_nil)
      (pss_one (ps_ret (pe_op op_add (pe_dget hu (pv 2) (pv 0) (fun _ _ => rfl)) (pv 1))))), ?_⟩
    refine ⟨_, rfl, rfl, _, rfl, iteD (fun h => ?_) (fun h => ?_)⟩
    · rw [if_pos (by injection h)] at k
      exact ⟨_, rfl, k⟩
    · have hn : ¬ x = "" := fun e => h (by rw [e])
      rw [if_neg hn] at k
      have g := DGet.k (H := H) (a := d) (k := Sum.inr x) hd
      rw [hx hn] at g
      exact ⟨_, rfl, _, rfl, d, _, rfl, g, _, rfl, _, _, rfl, rfl, k⟩
theorem ok_Read_cell_at (T : Txt K mg t) : FnOk P w K mg base CX0 2 t.f_Read_cell_at t.d_Read_cell_at ["self", "at"] (sp_cell_at t) := by
  have G_index_at := ok_index_at (P := P) (w := w) (base := base) T
  refine T.F_Read_cell_at.ok sc_Read_cell_at (fun vs H Q E h => ?_) (fun cdv A outer s H vs Q E hr h => ?_)
  · obtain ⟨o, dx, d, l, a, ix, kvs, rfl, _⟩ := h
    rfl
  · obtain ⟨o, dx, d, l, a, ix, kvs, rfl, ho, rp, hix, hd, hx, k⟩ := h
    obtain ⟨_, es, q, el, rs⟩ := rep_lst (show Rep H (.ref l) (.list (ix.map encI)) from rp)
    cases q
    have hl := rs.len
    rw [List.length_map] at hl
    refine ⟨_, (pss_one (ps_ret (pe_callTy call_tuple_of (by rfl) T.z_tuple PyProof.Rows.boot_tuple (pa_cons (pe_comp (N' := ["axis", "shift", "at"]) (ix := (List.replicate 2 none ++ [some 1])) (g := gTup K 2 (gCons (gName 0) (gCons (gName 1) gNil))) rfl (clok_one (x := "at") rfl rfl rfl (by decide +kernel) (by decide +kernel)) (ixok_last (N0 := ["axis", "shift"]) rfl (Or.inl rfl) (by first | exact Or.inl rfl | exact Or.inr rfl | (simp [relabel]; rfl) | (with_unfolding_all exact Or.inl rfl) | (with_unfolding_all exact Or.inr rfl) | (with_unfolding_all decide))) (pi_list (pe_fld (pv 0) rfl)) (fun _ _ _ _ => (pg_tup (n := 2) rfl (pgs_cons (pg_name (i := 0) nd_comp_1 rfl (Or.inl rfl) (Or.inr rfl)) (pgs_cons (pg_name (i := 1) nd_comp_1 rfl (Or.inl rfl) (Or.inr rfl)) pgs_nil)))) (fun _ _ _ _ => (pe_call G_index_at (hr.mono (by omega)) rfl T.m_index_at T.F_index_at.kp T.b_index_at .nil pass0 (pa_cons (pv 0) (pa_cons (pv 1) (pa_cons (pv 2) pa_nil)))))) pa_nil)))), ?_⟩
    refine ⟨_, rfl, o, _, dx, _, _, rfl, ho, T.cl_Read, T.na_Read_indexes, (by walk_at "lk"), l, rfl, ⟨_, SqL.of el⟩, fun D hD => ?_⟩
    refine comp_listQ (K := K) (a := l) (D := D) (xs := es) (fun i ys H2 => Same H H2 ∧ H2 D = some (.lst ys) ∧ ys = (cellM (ai kvs) (ix.take i)).map V.int) ⟨same_new hD, upd_same, rfl⟩ (fun i ys H2 ⟨s2, _⟩ => SqL.of (s2 _ _ el)) ?_ ?_
    · rintro i x ys H2 hx' ⟨s2, hD2, rfl⟩
      have hi : i < ix.length := by have := (List.getElem?_eq_some_iff.mp hx').1; omega
      obtain ⟨dd, hdd, rx⟩ := rs.get2 hx'
      have hie : ix[i]? = some ix[i] := List.getElem?_eq_getElem hi
      rw [List.getElem?_map, hie] at hdd
      cases hdd
      obtain ⟨q, rfl, eq⟩ := inv_ix rx
      refine ⟨q, _, rfl, SqT.of (s2 _ _ eq), rfl, _, _, rfl, _, _, rfl, rfl, ⟨rfl, True.intro⟩, _, rfl, _, rfl, _, rfl, ix[i].1, ix[i].2, d, kvs, rfl, s2 _ _ hd, hx _ (List.mem_of_getElem? hie), ?_⟩
      refine ⟨hD2, line_lt (by simp [cellM]; omega), same_fresh s2 hD, upd_same, ?_⟩
      rw [List.take_add_one, hie, Option.toList_some]
      unfold cellM
      rw [List.map_append, List.map_append]
      rfl
    · rintro ys H2 ⟨s2, hD2, rfl⟩
      rw [hl, List.take_length] at hD2
      exact ⟨D, _, rfl, .inl ⟨SqL.of hD2, fun p hp => k p _ (s2.free hp) (s2.trans (same_new hp)) upd_same⟩⟩
def sp_lets (A : Adr) : Sp := fun vs H Q _ => ∃ (o dx d : Addr) (x : Str) (lo hi : Int) (u v : V) (kvs : List (Key × V)), vs = [.ref o, .ref d] ∧ H o = some (.ins A.C_Guard dx [("axis", .str x), ("low", .int lo), ("high", .int hi), ("inner", u), ("outer", v)]) ∧ DGet H d (.str x) (some (.int (ai kvs x))) ∧ Q (.bl (decide (lo ≤ ai kvs x ∧ ai kvs x < hi))) H
theorem ok_Guard_lets_in (T : Txt K mg t) : FnOk P w K mg base CX0 1 t.f_Guard_lets_in t.d_Guard_lets_in ["self", "at"] (sp_lets t) := by
  refine T.F_Guard_lets_in.ok sc_Guard_lets_in (fun vs H Q E h => ?_) (fun cdv A outer s H vs Q E hr h => ?_)
  · obtain ⟨o, dx, d, x, lo, hi, u, v, kvs, rfl, _⟩ := h
    rfl
  · obtain ⟨o, dx, d, x, lo, hi, u, v, kvs, rfl, ho, g, k⟩ := h
    have hu := hu_of hr
    refine ⟨_, (pss_one (ps_ret (pe_chain op_le op_lt (pe_fld (pv 0) rfl) (pe_dget hu (pv 1) (pe_fld (pv 0) rfl) (fun _ _ => rfl)) (pe_fld (pv 0) rfl)))), ?_⟩
    refine ⟨_, rfl, o, _, dx, _, _, rfl, ho, T.cl_Guard, T.na_Guard_low, (by walk_at "lk"), _, rfl, _, rfl, o, _, dx, _, _, rfl, ho, T.cl_Guard, T.na_Guard_axis, (by walk_at "lk"), d, _, rfl, g, _, _, rfl, rfl, _, rfl, iteD (fun h1 => ?_) (fun h1 => ?_)⟩
    · have h1 : lo ≤ ai kvs x := h1
      refine ⟨_, rfl, o, _, dx, _, _, rfl, ho, T.cl_Guard, T.na_Guard_high, (by walk_at "lk"), _, _, rfl, rfl, ?_⟩
      have e : decide (lo ≤ ai kvs x ∧ ai kvs x < hi) = decide (ai kvs x < hi) := by simp [h1]
      rw [e] at k
      exact k
    · have h1 : ¬ lo ≤ ai kvs x := h1
      have e : decide (lo ≤ ai kvs x ∧ ai kvs x < hi) = false := decide_eq_false fun z => h1 z.1
      rw [e] at k
      exact k
theorem ok_Guard_looked_at (T : Txt K mg t) : FnOk P w K mg base CX0 2 t.f_Guard_looked_at t.d_Guard_looked_at ["self", "at"] (sp_looked t) := by
  have G := ok_Guard_lets_in (P := P) (w := w) (base := base) T
  refine T.F_Guard_looked_at.ok sc_Guard_looked_at (fun vs H Q E h => ?_) (fun cdv A outer s H vs Q E hr h => ?_)
  · obtain ⟨o, dx, d, x, lo, hi, u, v, kvs, rfl, _⟩ := h
    rfl
  · obtain ⟨o, dx, d, x, lo, hi, u, v, kvs, rfl, ho, g, k1, k2⟩ := h
    refine ⟨_, (pss_cons (ps_if (pt_val (pe_methD (pv 0) (pa_cons (pv 1) pa_nil)))
        (pss_one (ps_ret (pe_fld (pv 0) rfl)))
        pss_nil)
      (pss_one (ps_ret (pe_fld (pv 0) rfl)))), ?_⟩
    refine ⟨_, rfl, o, _, dx, _, 1, t.f_Guard_lets_in, t.d_Guard_lets_in, _, _, rfl, ho, T.cl_Guard, T.me_Guard_lets_in, (by walk_at "lk"), G, hr.mono (by omega), T.b_Guard_lets_in, _, rfl, o, dx, d, x, lo, hi, u, v, kvs, rfl, ho, g, _, rfl, iteD (fun h1 => ?_) (fun h1 => ?_)⟩
    · exact ⟨_, rfl, o, _, dx, _, _, rfl, ho, T.cl_Guard, T.na_Guard_inner, (by walk_at "lk"), k1 h1⟩
    · exact ⟨_, rfl, o, _, dx, _, _, rfl, ho, T.cl_Guard, T.na_Guard_outer, (by walk_at "lk"), k2 h1⟩
theorem ok_Number_reads (T : Txt K mg t) (n : Nat) : FnOk P w K mg base CX0 1 t.f_Number_reads t.d_Number_reads ["self", "at", "lengths"] (sp_R t n fun u => ∃ z, u = .num z) := by
  refine T.F_Number_reads.ok sc_Number_reads (fun vs H Q E h => ?_) (fun cdv A outer s H vs Q E hr h => ?_)
  · obtain ⟨v, u, d, l, kvs, lk, rfl, _⟩ := h
    rfl
  · obtain ⟨v, u, d, l, kvs, lk, rfl, ⟨z, rfl⟩, ob, ask, k⟩ := h
    exact ⟨_, (pss_one (ps_ret (pe_lst pa_nil))), line_le (by simp), fun p hp => k p [] _ hp (same_new hp) upd_same .nil⟩
theorem ok_Read_reads (T : Txt K mg t) (n : Nat) : FnOk P w K mg base CX0 3 t.f_Read_reads t.d_Read_reads ["self", "at", "lengths"] (sp_R t n fun u => ∃ z ix, u = .read z ix) := by
  have G := ok_Read_cell_at (P := P) (w := w) (base := base) T
  refine T.F_Read_reads.ok sc_Read_reads (fun vs H Q E h => ?_) (fun cdv A outer s H vs Q E hr h => ?_)
  · obtain ⟨v, u, d, l, kvs, lk, rfl, _⟩ := h
    rfl
  · obtain ⟨v, u, d, l, kvs, lk, rfl, ⟨z, ix, rfl⟩, ob, ask, k⟩ := h
    cases ob with
    | @read a dx li _ _ e rp =>
      refine ⟨_, (pss_one (ps_ret (pe_lst (pa_cons (pe_tup (pa_cons (pe_fld (pv 0) rfl) (pa_cons (pe_methD (pv 0) (pa_cons (pv 1) pa_nil)) pa_nil))) pa_nil)))), ?_⟩
      refine ⟨_, rfl, a, _, dx, _, _, rfl, e, T.cl_Read, T.na_Read_array, (by walk_at "lk"), _, rfl, a, _, dx, _, 2, t.f_Read_cell_at, t.d_Read_cell_at, _, _, rfl, e, T.cl_Read, T.me_Read_cell_at, (by walk_at "lk"), G, hr.mono (by omega), T.b_Read_cell_at, _, rfl,
        a, dx, d, li, z, ix, kvs, rfl, e, rp, ask.good, ask.hd, fun e he hn => ask.at_ e.1 ⟨hn, e, he, rfl⟩, fun q H2 hq s2 h2 => ?_⟩
      refine ⟨line_le (by simp), fun r hr' => ⟨line_le (by simp), fun p hp => ?_⟩⟩
      have s3 := s2.trans (same_new (o := .tup [.str z, .ref q]) hr')
      exact k p [.ref r] _ (s3.free hp) (s3.trans (same_new hp)) upd_same (.cons ⟨r, q, rfl, upd_keep hp upd_same, upd_keep hp (upd_keep hr' h2)⟩ .nil)
/-- a term's reads() can be called -/
def ROk (P : Program) (w : World) (K : PySem.W.Frag) (mg : Str → Option Value) (base : Heap) (A : Adr) (n : Nat) : Prop := ∀ (H : Hp) (v : V) (u : Tm), Ob A H v u → dep u ≤ n →
  ∃ (a C dx : Addr) (fs : List (Str × V)) (k : Nat) (f : Addr) (fd : FuncData) (ps : List Str) (sp : Sp), v = .ref a ∧ H a = some (.ins C dx fs) ∧ Cls K C ∧ Meth K C "reads" f ∧ fs.lookup ("reads" : Str) = none ∧ FnOk P w K mg base CX0 k f fd ps sp ∧ k ≤ n + 3 ∧ Binds K fd ps [] ∧
    ∀ (H' : Hp) (d l : Addr) (kvs lk : List (Key × V)) (Q : VK), Same H H' → AskD n u H' d l kvs lk → RdQ H' (rd (ai lk) u (ai kvs)) Q → sp [v, .ref d, .ref l] H' Q E0
theorem pairCl (T : Txt K mg t) (k : Op3) : Cls K (clsOf t k) := by cases k with
  | plus => exact T.cl_Plus
  | minus => exact T.cl_Minus
  | times => exact T.cl_Times
theorem pairL (T : Txt K mg t) (k : Op3) : NoAttr K (clsOf t k) "left" := by cases k with
  | plus => exact T.na_Plus_left
  | minus => exact T.na_Minus_left
  | times => exact T.na_Times_left
theorem pairR (T : Txt K mg t) (k : Op3) : NoAttr K (clsOf t k) "right" := by cases k with
  | plus => exact T.na_Plus_right
  | minus => exact T.na_Minus_right
  | times => exact T.na_Times_right
theorem pairRd (T : Txt K mg t) (k : Op3) : Meth K (clsOf t k) "reads" t.f_Pair_reads := by cases k with
  | plus => exact T.me_Plus_reads
  | minus => exact T.me_Minus_reads
  | times => exact T.me_Times_reads
theorem ok_Pair_reads (T : Txt K mg t) {n : Nat} (W : ROk P w K mg base t n) : FnOk P w K mg base CX0 (n + 4) t.f_Pair_reads t.d_Pair_reads ["self", "at", "lengths"] (sp_R t (n + 1) fun u => ∃ o x b, u = .pair o x b) := by
  refine T.F_Pair_reads.ok sc_Pair_reads (fun vs H Q E h => ?_) (fun cdv A outer s H vs Q E hr h => ?_)
  · obtain ⟨v, u, d, l, kvs, lk, rfl, _⟩ := h
    rfl
  · obtain ⟨v, u, d, l, kvs, lk, rfl, ⟨o, x, y, rfl⟩, ob, ask, k⟩ := h
    cases ob with
    | @pair a dx _ u v _ _ e ob1 ob2 =>
      have a1 := ask.left
      have a2 := ask.right
      have hm := ask.most
      simp only [rd, List.length_append] at hm
      refine ⟨_, (pss_one (ps_ret (pe_op op_cat (pe_methD (pe_fld (pv 0) rfl) (pa_cons (pv 1) (pa_cons (pv 2) pa_nil))) (pe_methD (pe_fld (pv 0) rfl) (pa_cons (pv 1) (pa_cons (pv 2) pa_nil)))))), ?_⟩
      refine ⟨_, rfl, a, _, dx, _, _, rfl, e, pairCl T o, pairL T o, (by walk_at "lk"), ?_⟩
      obtain ⟨a', C', dx', fs', k', f', fd', ps', sp', rfl, e', c', m', l', F', hk', b', q'⟩ := W H u x ob1 a1.deep
      refine ⟨a', C', dx', fs', k', f', fd', ps', sp', rfl, e', c', m', l', F', hr.mono (by omega), b', _, rfl, _, rfl, q' H d l kvs lk _ (Same.refl _) a1 fun p1 es1 H1 hp1 s1 h1 r1 => ?_⟩
      refine ⟨_, rfl, a, _, dx, _, _, rfl, s1 _ _ e, pairCl T o, pairR T o, (by walk_at "lk"), ?_⟩
      obtain ⟨a', C', dx', fs', k', f', fd', ps', sp', rfl, e', c', m', l', F', hk', b', q'⟩ := W H1 v y (ob2.imp s1) a2.deep
      refine ⟨a', C', dx', fs', k', f', fd', ps', sp', rfl, e', c', m', l', F', hr.mono (by omega), b', _, rfl, _, rfl, q' H1 d l kvs lk _ (Same.refl _) (a2.same s1) fun p2 es2 H2 hp2 s2 h2 r2 => ?_⟩
      have l1 := Paired.length r1
      have l2 := Paired.length r2
      refine ⟨p1, p2, _, _, rfl, rfl, s2 _ _ h1, h2, line_le (by omega), fun p hp => ?_⟩
      have s3 := s1.trans (s2.trans (same_new (o := .lst (es1 ++ es2)) hp))
      exact k p _ _ (s1.free (s2.free hp)) s3 upd_same (Paired.app (r1.same (s2.trans (same_new hp))) (r2.same (same_new hp)))
theorem ok_Guard_reads (T : Txt K mg t) {n : Nat} (W : ROk P w K mg base t n) : FnOk P w K mg base CX0 (n + 4) t.f_Guard_reads t.d_Guard_reads ["self", "at", "lengths"] (sp_R t (n + 1) fun u => ∃ x lo hi l r, u = .guard x lo hi l r) := by
  have G := ok_Guard_looked_at (P := P) (w := w) (base := base) T
  refine T.F_Guard_reads.ok sc_Guard_reads (fun vs H Q E h => ?_) (fun cdv A outer s H vs Q E hr h => ?_)
  · obtain ⟨v, u, d, l, kvs, lk, rfl, _⟩ := h
    rfl
  · obtain ⟨v, u, d, l, kvs, lk, rfl, ⟨x, lo, hi, y, z, rfl⟩, ob, ask, k⟩ := h
    cases ob with
    | @guard a dx _ _ _ u v _ _ e ob1 ob2 =>
      refine ⟨_, (pss_one (ps_ret (pe_methD (pe_methD (pv 0) (pa_cons (pv 1) pa_nil)) (pa_cons (pv 1) (pa_cons (pv 2) pa_nil))))), ?_⟩
      refine ⟨_, rfl, a, _, dx, _, 2, t.f_Guard_looked_at, t.d_Guard_looked_at, _, _, rfl, e, T.cl_Guard, T.me_Guard_looked_at, (by walk_at "lk"), G, hr.mono (by omega), T.b_Guard_looked_at, _, rfl,
        a, dx, d, x, lo, hi, u, v, kvs, rfl, e, ask.gat (Same.refl _), fun c => ?_, fun c => ?_⟩
      · obtain ⟨a1, eq⟩ := ask.inner c
        rw [eq] at k
        obtain ⟨a', C', dx', fs', k', f', fd', ps', sp', rfl, e', c', m', l', F', hk', b', q'⟩ := W H u y ob1 a1.deep
        exact ⟨a', C', dx', fs', k', f', fd', ps', sp', rfl, e', c', m', l', F', hr.mono (by omega), b', _, rfl, _, rfl, q' H d l kvs lk _ (Same.refl _) a1 k⟩
      · obtain ⟨a1, eq⟩ := ask.outer c
        rw [eq] at k
        obtain ⟨a', C', dx', fs', k', f', fd', ps', sp', rfl, e', c', m', l', F', hk', b', q'⟩ := W H v z ob2 a1.deep
        exact ⟨a', C', dx', fs', k', f', fd', ps', sp', rfl, e', c', m', l', F', hr.mono (by omega), b', _, rfl, _, rfl, q' H d l kvs lk _ (Same.refl _) a1 k⟩
theorem rok (T : Txt K mg t) : ∀ n : Nat, ROk P w K mg base t n
  | 0 => fun H v u ob hd => absurd hd (by have := dep_pos u; omega)
  | n + 1 => fun H v u ob hd => by
    have W := rok T n
    cases id ob with
    | num e => exact ⟨_, _, _, _, _, _, _, _, _, rfl, e, T.cl_Number, T.me_Number_reads, (by walk_at "lk"), ok_Number_reads T (n + 1), by omega, T.b_Number_reads, fun H' d l kvs lk Q s a k => ⟨_, _, d, l, kvs, lk, rfl, ⟨_, rfl⟩, ob.imp s, a, k⟩⟩
    | read e r => exact ⟨_, _, _, _, _, _, _, _, _, rfl, e, T.cl_Read, T.me_Read_reads, (by walk_at "lk"), ok_Read_reads T (n + 1), by omega, T.b_Read_reads, fun H' d l kvs lk Q s a k => ⟨_, _, d, l, kvs, lk, rfl, ⟨_, _, rfl⟩, ob.imp s, a, k⟩⟩
    | @pair _ _ o _ _ _ _ e o1 o2 => exact ⟨_, _, _, _, _, _, _, _, _, rfl, e, pairCl T o, pairRd T o, (by walk_at "lk"), ok_Pair_reads T W, by omega, T.b_Pair_reads, fun H' d l kvs lk Q s a k => ⟨_, _, d, l, kvs, lk, rfl, ⟨_, _, _, rfl⟩, ob.imp s, a, k⟩⟩
    | guard e o1 o2 => exact ⟨_, _, _, _, _, _, _, _, _, rfl, e, T.cl_Guard, T.me_Guard_reads, (by walk_at "lk"), ok_Guard_reads T W, by omega, T.b_Guard_reads, fun H' d l kvs lk Q s a k => ⟨_, _, d, l, kvs, lk, rfl, ⟨_, _, _, _, _, rfl⟩, ob.imp s, a, k⟩⟩
end
end My

set_option Elab.async false
set_option linter.all false
set_option maxRecDepth 100000
set_option maxHeartbeats 4000000
namespace My
open PySem L2
local macro_rules | `(tactic| walk_at "lk") => `(tactic| first | with_reducible exact lk0 | (refine lk1 (by decide +kernel) ?_; walk_at "lk") | rfl)
/-- a line with its term; its lists are not among M -/
structure LnM where
  nm : Str
  own : List Str
  sums : List Str
  tm : Tm
def LineAt (A : Adr) (M : List Addr) (H : Hp) (v : V) (e : LnM) : Prop := ∃ (a dx c u : Addr) (n : V), v = .ref a ∧ H a = some (.ins A.C_Line dx [("name", .str e.nm), ("axes", .ref c), ("sums", .ref u), ("term", n)]) ∧ c ∉ M ∧ H c = some (.lst (e.own.map V.str)) ∧ u ∉ M ∧ H u = some (.lst (e.sums.map V.str)) ∧ Ob A (restr (fun b => b ∉ M) H) n e.tm
abbrev LinesAt (A : Adr) (M : List Addr) (H : Hp) (xs : List V) (rows : List LnM) : Prop := Paired (LineAt A M H) xs rows
theorem LineAt.same {A : Adr} {M : List Addr} {H H' : Hp} {v : V} {e : LnM} (h : LineAt A M H v e) (s : Same H H') : LineAt A M H' v e := by
  obtain ⟨a, dx, c, u, n, rfl, e1, m1, e2, m2, e3, ob⟩ := h
  exact ⟨a, dx, c, u, n, rfl, s _ _ e1, m1, s _ _ e2, m2, s _ _ e3, ob.imp (restr_same s)⟩
/-- a step -/
structure StM where
  k : Nat
  wd : Str
  ce : List Int
  tu : List Int
def StAt (H : Hp) (v : V) (s : StM) : Prop := ∃ b c u, v = .ref b ∧ H b = some (.tup [.int (s.k : Nat), .str s.wd, .ref c, .ref u]) ∧ H c = some (.tup (s.ce.map V.int)) ∧ H u = some (.tup (s.tu.map V.int))
theorem StAt.same {H H' : Hp} {v : V} {s : StM} (h : StAt H v s) (sm : Same H H') : StAt H' v s := by
  obtain ⟨b, c, u, rfl, h1, h2, h3⟩ := h
  exact ⟨b, c, u, rfl, sm _ _ h1, sm _ _ h2, sm _ _ h3⟩
/-- where a step stands -/
def atM (e : LnM) (s : StM) : List (Key × V) := mergeK [] (((e.own ++ e.sums).map (Sum.inr : Str → Key)).zip ((s.ce ++ s.tu).map V.int))
structure RdAsk (lk : List (Key × V)) (e : LnM) (s : StM) : Prop where
  lc : s.ce.length = e.own.length
  lt : s.tu.length = e.sums.length
  l8 : e.own.length + e.sums.length ≤ 8
  good : Gd e.tm
  deep : dep e.tm ≤ 10
  at_ : AtOk (atM e s) e.tm
  ax : ∃ AX, Axs AX e.tm ∧ LenOk AX lk
  most : (rd (ai lk) e.tm (ai (atM e s))).length ≤ 100000
/-- the fields of a cloth are there -/
def sp_read_by (A : Adr) : Sp := fun vs H Q _ => ∃ (p dx l a tb ln o st : Addr) (wh : Int) (lk : List (Key × V)) (xs : List V) (M : List Addr) (rows : List LnM) (e : LnM) (s : StM), vs = [.ref p, .ref st] ∧ H p = some (clo A dx wh l a tb ln o) ∧ H l = some (.dK lk) ∧ H ln = some (.lst xs) ∧ LinesAt A M H xs rows ∧ StAt H (.ref st) s ∧ rows[s.k]? = some e ∧
  (s.wd = "start" → RdQ H [] Q) ∧ (s.wd ≠ "start" → RdAsk lk e s ∧ RdQ H (rd (ai lk) e.tm (ai (atM e s))) Q)
def sp_written_by (A : Adr) : Sp := fun vs H Q _ => ∃ (p dx l a tb ln o st : Addr) (wh : Int) (xs : List V) (M : List Addr) (rows : List LnM) (e : LnM) (s : StM), vs = [.ref p, .ref st] ∧ H p = some (clo A dx wh l a tb ln o) ∧ H ln = some (.lst xs) ∧ LinesAt A M H xs rows ∧ StAt H (.ref st) s ∧ rows[s.k]? = some e ∧
  ∀ (q : Addr) (H' : Hp), Same H H' → TupR H' (.ref q) (e.nm, s.ce) → Q (.ref q) H'
theorem merge_le (acc : List (Key × V)) : ∀ ws : List (Key × V), (mergeK acc ws).length ≤ acc.length + ws.length := by
  intro ws
  unfold mergeK
  induction ws generalizing acc with
  | nil => simp
  | cons w r ih =>
    rw [List.foldl_cons]
    refine Nat.le_trans (ih _) ?_
    have := length_putK acc w.1 w.2
    rw [List.length_cons]
    omega
section
variable {P : Program} {w : World} {K : PySem.W.Frag} {mg : Str → Option Value} {base : Heap} {t : Adr}
theorem ok_written_by (T : Txt K mg t) : FnOk P w K mg base CX0 1 t.f_written_by t.d_written_by ["cloth", "step"] (sp_written_by t) := by
  refine T.F_written_by.ok sc_written_by (fun vs H Q E h => ?_) (fun cdv A outer s H vs Q E hr h => ?_)
  · obtain ⟨p, dx, l, a, tb, ln, o, st, wh, xs, M, rows, e, sp, rfl, _⟩ := h
    rfl
  · obtain ⟨p, dx, l, a, tb, ln, o, st, wh, xs, M, rows, e, sp, rfl, hp, hln, lis, ⟨b, c, u, eb, hb, hc, hu⟩, hk, k⟩ := h
    cases eb
    have lxs := Paired.length lis
    have hlt : sp.k < xs.length := by rw [lxs]; exact (List.getElem?_eq_some_iff.mp hk).1
    have hxk : xs[sp.k]? = some xs[sp.k] := List.getElem?_eq_getElem hlt
    obtain ⟨e', he', al, da, ca, cu, n, eal, h1, _⟩ := pget lis hxk
    rw [hk] at he'
    cases he'
    refine ⟨_, (pss_cons (ps_asg (pv 1) (pg_tup (n := 4) rfl (pgs_cons (pg_name (i := 2) sc_written_by.nd rfl (Or.inl rfl) (Or.inl rfl)) (pgs_cons (pg_name (i := 3) sc_written_by.nd rfl (Or.inl rfl) (Or.inl rfl)) (pgs_cons (pg_name (i := 4) sc_written_by.nd rfl (Or.inl rfl) (Or.inl rfl)) (pgs_cons (pg_name (i := 5) sc_written_by.nd rfl (Or.inl rfl) (Or.inl rfl)) pgs_nil))))))
      (pss_one (ps_ret (pe_tup (pa_cons (pe_fld (pe_ix ix_list (pe_fld (pv 0) rfl) (pv 2) (fun _ _ => rfl)) rfl) (pa_cons (pv 4) pa_nil)))))), ?_⟩
    refine ⟨_, rfl, st, _, rfl, SqT.of hb, rfl, _, _, rfl, _, _, rfl, _, _, rfl, _, _, rfl, rfl, ?_⟩
    have e0 : atI xs ((sp.k : Nat) : Int) = some (.ref al) := atI_nat (by rw [hxk, eal])
    refine ⟨_, rfl, p, _, dx, _, _, rfl, hp, T.cl_Cloth, T.na_Cloth_lines, (by walk_at "lk"), _, rfl, ln, _, _, _, rfl, rfl, SqL.of hln, e0, al, _, da, _, _, rfl, h1, T.cl_Line, T.na_Line_name, (by walk_at "lk"), _, rfl, line_le (by simp), fun q hq => ?_⟩
    have t1 := same_new (o := .tup [.str e.nm, .ref c]) hq
    exact k q _ t1 ⟨q, c, rfl, upd_same, t1 _ _ hc⟩
theorem ok_read_by (T : Txt K mg t) : FnOk P w K mg base CX0 15 t.f_read_by t.d_read_by ["cloth", "step"] (sp_read_by t) := by
  refine T.F_read_by.ok sc_read_by (fun vs H Q E h => ?_) (fun cdv A outer s H vs Q E hr h => ?_)
  · obtain ⟨p, dx, l, a, tb, ln, o, st, wh, lk, xs, M, rows, e, sp, rfl, _⟩ := h
    rfl
  · obtain ⟨p, dx, l, a, tb, ln, o, st, wh, lk, xs, M, rows, e, sp, rfl, hp, hl, hln, lis, ⟨b, c, u, eb, hb, hc, hu⟩, hk, k1, k2⟩ := h
    cases eb
    have lxs := Paired.length lis
    have hlt : sp.k < xs.length := by rw [lxs]; exact (List.getElem?_eq_some_iff.mp hk).1
    have hxk : xs[sp.k]? = some xs[sp.k] := List.getElem?_eq_getElem hlt
    obtain ⟨e', he', al, da, ca, cu, n, eal, h1, m1, h2, m2, h3, ob⟩ := pget lis hxk
    rw [hk] at he'
    cases he'
    refine ⟨_, (pss_cons (ps_asg (pv 1) (pg_tup (n := 4) rfl (pgs_cons (pg_name (i := 2) sc_read_by.nd rfl (Or.inl rfl) (Or.inl rfl)) (pgs_cons (pg_name (i := 3) sc_read_by.nd rfl (Or.inl rfl) (Or.inl rfl)) (pgs_cons (pg_name (i := 4) sc_read_by.nd rfl (Or.inl rfl) (Or.inl rfl)) (pgs_cons (pg_name (i := 5) sc_read_by.nd rfl (Or.inl rfl) (Or.inl rfl)) pgs_nil))))))
      (pss_cons (ps_if (pt_cmpR op_eq (pv 3) pe_str (nomark _))
        (pss_one (ps_ret (pe_lst pa_nil)))
        pss_nil)
      (pss_cons (ps_set (i := 6) sc_read_by.nd rfl (Or.inl rfl) (pe_ix ix_list (pe_fld (pv 0) rfl) (pv 2) (fun _ _ => rfl)))
      (pss_cons (ps_set (i := 7) sc_read_by.nd rfl (Or.inl rfl) (pe_dictzip rfl (by rfl) T.z_dict (by rfl) T.z_zip (pa_cons (pe_op op_cat (pe_fld (pv 6) rfl) (pe_fld (pv 6) rfl)) (pa_cons (pe_op op_catT4 (pv 4) (pv 5)) pa_nil))))
      (pss_one (ps_ret (pe_methD (pe_fld (pv 6) rfl) (pa_cons (pv 7) (pa_cons (pe_fld (pv 0) rfl) pa_nil))))))))), ?_⟩
    refine ⟨_, rfl, st, _, rfl, SqT.of hb, rfl, _, _, rfl, _, _, rfl, _, _, rfl, _, _, rfl, rfl, ?_⟩
    refine ⟨_, rfl, rfl, _, rfl, iteD (fun hw => ?_) (fun hw => ?_)⟩
    · have hw : sp.wd = "start" := by injection hw
      exact ⟨line_le (by simp), fun q hq => k1 hw q [] _ hq (same_new hq) upd_same .nil⟩
    have hw : sp.wd ≠ "start" := fun z => hw (by rw [z])
    obtain ⟨ask, kq⟩ := k2 hw
    have e0 : atI xs ((sp.k : Nat) : Int) = some (.ref al) := atI_nat (by rw [hxk, eal])
    refine ⟨_, rfl, p, _, dx, _, _, rfl, hp, T.cl_Cloth, T.na_Cloth_lines, (by walk_at "lk"), _, rfl, ln, _, _, _, rfl, rfl, SqL.of hln, e0, ?_⟩
    have lc := ask.lc
    have lt := ask.lt
    have l8 := ask.l8
    refine ⟨_, rfl, al, _, da, _, _, rfl, h1, T.cl_Line, T.na_Line_axes, (by walk_at "lk"), _, rfl, al, _, da, _, _, rfl, h1, T.cl_Line, T.na_Line_sums, (by walk_at "lk"), ca, cu, _, _, rfl, rfl, h2, h3, line_le (by rw [List.length_map, List.length_map]; omega), fun kl hkl => ?_⟩
    have t1 : Same H (upd H kl (.lst (e.own.map V.str ++ e.sums.map V.str))) := same_new hkl
    have hkl1 : upd H kl (.lst (e.own.map V.str ++ e.sums.map V.str)) kl = some (.lst ((e.own ++ e.sums).map V.str)) := by rw [upd_same, List.map_append]
    generalize upd H kl (.lst (e.own.map V.str ++ e.sums.map V.str)) = H1 at t1 hkl1 ⊢
    refine ⟨_, rfl, _, rfl, c, u, _, _, rfl, rfl, t1 _ _ hc, t1 _ _ hu, line_le (by rw [List.length_map, List.length_map]; omega), fun tt G s2 htt => ?_⟩
    have htt : G tt = some (.tup ((sp.ce ++ sp.tu).map V.int)) := by rw [List.map_append]; exact htt
    have s12 := t1.trans s2
    refine ⟨kl, tt, (e.own ++ e.sums).map (Sum.inr : Str → Key), (sp.ce ++ sp.tu).map V.int, rfl, (by rw [List.map_map]; exact SqL.of (s2 _ _ hkl1)), SqT.of htt, (by rw [List.length_map, List.length_map, List.length_append, List.length_append]; omega), fun d hd => ?_⟩
    have t3 : Same G (upd G d (.dK (mergeK [] (((e.own ++ e.sums).map (Sum.inr : Str → Key)).zip ((sp.ce ++ sp.tu).map V.int))))) := same_new hd
    have hd3 : upd G d (.dK (mergeK [] (((e.own ++ e.sums).map (Sum.inr : Str → Key)).zip ((sp.ce ++ sp.tu).map V.int)))) d = some (.dK (atM e sp)) := upd_same
    have s03 := s12.trans t3
    generalize upd G d (.dK (mergeK [] (((e.own ++ e.sums).map (Sum.inr : Str → Key)).zip ((sp.ce ++ sp.tu).map V.int)))) = G3 at t3 hd3 s03 ⊢
    refine ⟨_, rfl, al, _, da, _, _, rfl, s03 _ _ h1, T.cl_Line, T.na_Line_term, (by walk_at "lk"), ?_⟩
    have ob3 : Ob t G3 n e.tm := (ob.imp restr_sub).imp s03
    obtain ⟨a', C', dx', fs', k', f', fd', ps', sp', rfl, e', c', m', l', F', hk', b', q'⟩ := rok (P := P) (w := w) (base := base) T 10 G3 n e.tm ob3 ask.deep
    have lat := merge_le [] (((e.own ++ e.sums).map (Sum.inr : Str → Key)).zip ((sp.ce ++ sp.tu).map V.int))
    rw [List.length_zip, List.length_map, List.length_map, List.length_append] at lat
    refine ⟨a', C', dx', fs', k', f', fd', ps', sp', rfl, e', c', m', l', F', hr.mono (by omega), b', _, rfl, _, rfl, p, _, dx, _, _, rfl, s03 _ _ hp, T.cl_Cloth, T.na_Cloth_lengths, (by walk_at "lk"), q' G3 d l (atM e sp) lk _ (Same.refl _) ⟨ask.good, ask.deep, hd3, ask.at_, s03 _ _ hl, ask.ax, ?_, ask.most⟩ fun p1 es1 H1' hp1 s1' h1' r1 => kq p1 es1 H1' (s03.free hp1) (s03.trans s1') h1' r1⟩
    show (atM e sp).length + 10 ≤ 1000
    unfold atM
    simp only [List.length_nil] at lat
    omega
end
end My

set_option Elab.async false
set_option linter.all false
set_option maxRecDepth 100000
set_option maxHeartbeats 4000000
namespace My
open PySem L2
local macro_rules | `(tactic| walk_at "lk") => `(tactic| first | with_reducible exact lk0 | (refine lk1 (by decide +kernel) ?_; walk_at "lk") | rfl)
/-! ### tuples alone -/
def TH (H : Hp) : Hp := fun a => match H a with | some (.tup xs) => some (.tup xs) | _ => none
theorem th_of {H : Hp} {p : Addr} {xs : List V} (e : H p = some (.tup xs)) : TH H p = some (.tup xs) := by unfold TH; rw [e]
theorem th_some {H : Hp} {p : Addr} {o : HO} (e : TH H p = some o) : ∃ xs, o = .tup xs ∧ H p = some (.tup xs) := by
  unfold TH at e
  split at e
  · rename_i xs h
    exact ⟨xs, (Option.some.inj e).symm, h⟩
  · cases e
theorem th_kt {H H' : Hp} (k : KT H H') : Same (TH H) (TH H') := fun b o e => by
  obtain ⟨xs, rfl, h⟩ := th_some e
  exact th_of (k _ _ h)
theorem th_same (H : Hp) : Same (TH H) H := fun b o e => by
  obtain ⟨xs, rfl, h⟩ := th_some e
  exact h
theorem th_sm {H H' : Hp} (s : Same H H') : Same (TH H) (TH H') := th_kt (KT.same s)

theorem eqv_nil (xs : List Str) : PyData.eqv (encS xs) (encS []) = decide (xs = []) := by
  cases xs with
  | nil => rfl
  | cons x r => rfl
def OkN (xs : List Str) : Prop := ∀ x ∈ xs, PyData.strOk x = true ∧ 1 ≤ x.length
def sp_l_cell_at (K : PySem.W.Frag) : Sp := fun vs H Q _ => ∃ (a : Addr) (ns : List Int) (k : Int), vs = [.ref a, .int k] ∧ SqL K H a (ns.map V.int) ∧ 0 ≤ k ∧ ∀ z : Int, Q (.int z) H
def sp_l_whole : Sp := fun vs H Q _ => ∃ z : Int, vs = [.int z] ∧ Q (.bl true) H
def sp_l_names_by : Sp := fun vs H Q _ => ∃ c : Int, vs = [.int c, .int 20] ∧ ∀ (p : Addr) (nm : List Str) (H' : Hp), H p = none → Same H H' → H' p = some (.lst (nm.map V.str)) → nm.length = 20 → OkN nm → Q (.ref p) H'
def sp_l_mix : Sp := fun vs H Q _ => ∃ (c k : Int), vs = [.int c, .int k] ∧ 0 ≤ k ∧ k ≤ 100 ∧ ∀ z : Int, 0 ≤ z → z < 99989 → Q (.int z) H
def sp_l_index_by : Sp := fun vs H Q _ => ∃ (two ln : Int) (bl ld : Addr) (bd : List Str), vs = [.int two, .ref bl, .int ln, .ref ld] ∧ H bl = some (.lst (bd.map V.str)) ∧ 1 ≤ ln ∧ ln ≤ 60 ∧ OkS bd ∧ bd.length ≤ 100 ∧
  ∀ (q : Addr) (x : Str) (z : Int) (H' : Hp), Same H H' → H' q = some (.tup [.str x, .int z]) → (x = "" ∨ x ∈ bd) → Q (.ref q) H'
def sp_l_is_spot : Sp := fun vs H Q _ => ∃ (v u : V) (e : Str × List Int), vs = [v, u] ∧ TupR H v e ∧ TupR H u e ∧ PyData.strOk e.1 = true ∧ Q (.bl true) H
def sp_l_all_told : Sp := fun vs H Q _ => ∃ (f d : Addr) (xs ys : List V) (es : List (Str × List Int)), vs = [.ref f, .ref d] ∧ H f = some (.lst xs) ∧ H d = some (.lst ys) ∧ Rds H xs es ∧ Rds H ys es ∧ (∀ e ∈ es, PyData.strOk e.1 = true) ∧ es.length ≤ 1000 ∧ Q (.bl true) H
section
variable {P : Program} {w : World} {K : PySem.W.Frag} {mg : Str → Option Value} {base : Heap} {t : Adr}
theorem ok_l_cell_at (T : Txt K mg t) : FnOk P w K mg base CX0 1 t.f_l_cell_at t.d_l_cell_at ["_law_script", "_law_k"] (sp_l_cell_at K) := by
  refine T.F_l_cell_at.ok sc_l_cell_at (fun vs H Q E h => ?_) (fun cdv A outer s H vs Q E hr h => ?_)
  · obtain ⟨a, ns, k, rfl, _⟩ := h
    rfl
  · obtain ⟨a, ns, k, rfl, hS, k0, q⟩ := h
    refine ⟨_, (pss_cons (ps_if (pt_cmpR op_lt (pv 1) (pe_callB call_len_seq (by rfl) T.z_len PySem.boot_len (pa_cons (pv 0) pa_nil)) (nomark _))
        (pss_one (ps_ret (pe_ix ix_list (pv 0) (pv 1) (fun _ _ => rfl))))
        pss_nil)
      (pss_one (ps_ret pe_int))), ?_⟩
    refine ⟨_, rfl, _, rfl, a, _, rfl, .inl hS, _, _, rfl, rfl, _, rfl, ?_⟩
    refine iteD (fun hk => ?_) (fun _ => q 0)
    obtain ⟨z, _, e⟩ := at_mapV (f := V.int) (xs := ns) k0 (by simpa using hk)
    exact ⟨_, rfl, _, rfl, a, _, _, _, rfl, rfl, hS, e, q _⟩
theorem ok_l_whole (T : Txt K mg t) : FnOk P w K mg base CX0 1 t.f_l_whole t.d_l_whole ["_law_found"] sp_l_whole := by
  refine T.F_l_whole.ok sc_l_whole (fun vs H Q E h => ?_) (fun cdv A outer s H vs Q E hr h => ?_)
  · obtain ⟨z, rfl, _⟩ := h
    rfl
  · obtain ⟨z, rfl, q⟩ := h
    refine ⟨_, (pss_one (ps_ret (pe_and (pe_callB call_isinst (by rfl) T.z_isinstance PyProof.Rows.boot_isinstance (pa_cons (pv 0) (pa_cons (pe_bltn (v := V.ty "int") rfl T.z_int PyProof.Rows.boot_int rfl) pa_nil))) (pe_one (pe_not (pe_callB call_isinst (by rfl) T.z_isinstance PyProof.Rows.boot_isinstance (pa_cons (pv 0) (pa_cons (pe_bltn (v := V.ty "bool") rfl T.z_bool PyProof.Rows.boot_bool rfl) pa_nil)))))))), ?_⟩
    refine ⟨_, rfl, _, _, _, _, rfl, TyOf.int z, isi_same "int", true, rfl, iteT ?_⟩
    exact ⟨_, rfl, _, _, _, _, rfl, TyOf.int z, isi_by (by decide +kernel) (by decide +kernel) (by decide +kernel), false, rfl, q⟩
theorem ok_l_names_by (T : Txt K mg t) : FnOk P w K mg base CX0 1 t.f_l_names_by t.d_l_names_by ["_law_cell", "_law_many"] sp_l_names_by := by
  refine T.F_l_names_by.ok sc_l_names_by (fun vs H Q E h => ?_) (fun cdv A outer s H vs Q E hr h => ?_)
  · obtain ⟨c, rfl, _⟩ := h
    rfl
  · obtain ⟨c, rfl, k⟩ := h
    refine ⟨_, (pss_cons (ps_set (i := 2) sc_l_names_by.nd rfl (Or.inl rfl) pe_str)
      (pss_cons (ps_set (i := 3) sc_l_names_by.nd rfl (Or.inl rfl) (pe_op op_fdiv (pv 0) pe_int))
      (pss_cons (ps_set (i := 4) sc_l_names_by.nd rfl (Or.inl rfl) pe_str)
      (pss_cons (ps_for PassesOwn.never rfl (pi_range1 rfl T.z_range (pa_cons (pe_op op_add pe_int (pe_op op_mod (pv 0) pe_int)) pa_nil)) (pg_name (i := 5) sc_l_names_by.nd rfl (Or.inl rfl) (Or.inl rfl))
        (pss_cons (ps_set (i := 4) sc_l_names_by.nd rfl (Or.inl rfl) (pe_op op_add_str (pv 4) (pe_ix ix_str (pv 2) (pe_op op_mod (pv 3) pe_int) (fun _ _ => rfl))))
        (pss_one (ps_set (i := 3) sc_l_names_by.nd rfl (Or.inl rfl) (pe_op op_fdiv (pv 3) pe_int)))))
      (pss_cons (ps_set (i := 6) sc_l_names_by.nd rfl (Or.inl rfl) (pe_op op_mod (pe_op op_fdiv (pv 0) pe_int) (pe_callB call_len_str (by rfl) T.z_len PySem.boot_len (pa_cons (pv 4) pa_nil))))
      (pss_cons (ps_set (i := 7) sc_l_names_by.nd rfl (Or.inl rfl) (pe_lst pa_nil))
      (pss_cons (ps_for PassesOwn.never rfl (pi_range1 rfl T.z_range (pa_cons (pv 1) pa_nil)) (pg_name (i := 5) sc_l_names_by.nd rfl (Or.inl rfl) (Or.inl rfl))
        (pss_cons (ps_set (i := 8) sc_l_names_by.nd rfl (Or.inl rfl) (pe_ix ix_str (pv 2) (pe_op op_mod (pe_op op_add (pe_bm PySem.F.plainAttrs_str PySem.F.slot_str_find PySem.F.type_str_find mt_find (pv 2) (pa_cons (pe_ix ix_str (pv 4) (pv 6) (fun _ _ => rfl)) pa_nil)) (pv 5)) pe_int) (fun _ _ => rfl)))
        (pss_cons (ps_set (i := 9) sc_l_names_by.nd rfl (Or.inl rfl) (pe_op op_add_str (pe_op op_add_str (pe_slice sl_str (pv 4) po_none (po_some (pv 6))) (pv 8)) (pe_slice sl_str (pv 4) (po_some (pe_op op_add (pv 6) pe_int)) po_none)))
        (pss_cut (ps_if (PW.pt (pw_or (pt_cmpR op_eq (pv 9) pe_str (nomark _)) (pw_or1 (pt_cmpR op_eq (pv 9) pe_str (nomark _)))))
          (pss_one (ps_set (i := 9) sc_l_names_by.nd rfl (Or.inl rfl) (pe_op op_add_str (pv 9) pe_str)))
          pss_nil)
        (pss_one (ps_expr (pe_bm PySem.F.plainAttrs_list PySem.F.slot_list_append PySem.F.type_list_append mt_append (pv 7) (pa_cons (pv 9) pa_nil))))))))
      (pss_one (ps_ret (pv 7)))))))))), ?_⟩
    have c1 : 1 ≤ 1 + c % 8 ∧ 1 + c % 8 ≤ 8 := by omega
    refine ⟨_, rfl, _, _, rfl, rfl, ⟨by decide, by decide⟩, _, rfl, _, _, rfl, rfl, (by show (0 : Int) < 8; decide), _, _, rfl, rfl, _, rfl, by omega, by omega, ?_⟩
    refine for_range (n := (1 + c % 8).toNat) (fun i σ H2 => H = H2 ∧ ∃ (wd : Str) (r : Int) (o5 : Option V), σ = [some (.int c), some (.int 20), some (.str abc), some (.int r), some (.str wd), o5, none, none, none, none] ∧ wd.length = i ∧ PyData.strOk wd = true)
      ⟨rfl, _, _, none, rfl, rfl, by decide +kernel⟩ ?_ ?_
    · rintro i σ H2 hi ⟨rfl, wd, r, o5, rfl, hl, ho⟩
      obtain ⟨ch, e1, e2⟩ := atI_ok (xs := abc.cps.toList) (i := r % 26) (by omega) (by rw [abc_len]; omega)
      have hc : ch < 0x110000 := abc_ok ch (List.mem_of_getElem? e1)
      have l1 : (⟨#[ch]⟩ : Str).length = 1 := rfl
      refine ⟨_, rfl, _, rfl, _, rfl, _, _, rfl, rfl, (by show (0 : Int) < 26; decide), _, _, ch, rfl, rfl, line_le (by rw [abc_len']; decide), e2, _, _, rfl, rfl, line_le (by omega), ?_⟩
      refine ⟨_, rfl, _, _, rfl, rfl, ⟨by decide, by decide⟩, rfl, wd ++ ⟨#[ch]⟩, _, _, rfl, by rw [Str.length_append, l1, hl], ok_app ho (ok_one hc)⟩
    rintro σ H2 ⟨rfl, wd, r, o5, rfl, hl, ho⟩
    have hl1 : 1 ≤ wd.length ∧ wd.length ≤ 8 := by omega
    -- spot
    refine ⟨_, rfl, _, _, rfl, rfl, ⟨by decide, by decide⟩, _, rfl, wd, rfl, line_le (by omega), _, _, rfl, rfl, (by show (0 : Int) < (wd.length : Int); omega), line_le (by simp), fun l hl => ?_⟩
    have s0 : 0 ≤ c / 3 % (wd.length : Int) := Int.emod_nonneg _ (by omega)
    have s1 : c / 3 % (wd.length : Int) < wd.length := Int.emod_lt_of_pos _ (by omega)
    obtain ⟨cs, f1, f2⟩ := atI_ok (xs := wd.cps.toList) s0 (by rw [lenC]; exact s1)
    refine ⟨_, rfl, 20, rfl, by decide, by decide, for_range (n := 20) (fun i σ H2 => ∃ (nm : List Str) (o5 o8 o9 : Option V), σ = [some (.int c), some (.int 20), some (.str abc), some (.int r), some (.str wd), o5, some (.int (c / 3 % (wd.length : Int))), some (.ref l), o8, o9] ∧ Same H H2 ∧
      H2 l = some (.lst (nm.map V.str)) ∧ nm.length = i ∧ OkN nm) ⟨[], o5, none, none, rfl, same_new hl, upd_same, rfl, by intro x hx; cases hx⟩ ?_ ?_⟩
    · rintro i σ H2 hi ⟨nm, o5, o8, o9, rfl, s2, h2, hn, hx⟩
      obtain ⟨ch, e1, e2⟩ := atI_ok (xs := abc.cps.toList) (i := (Txt.find abc ⟨#[cs]⟩ + (0 + (i : Int))) % 26) (by omega) (by rw [abc_len]; omega)
      have hc : ch < 0x110000 := abc_ok ch (List.mem_of_getElem? e1)
      have l1 : (⟨#[ch]⟩ : Str).length = 1 := rfl
      have la := Txt.slice_le wd none (some (c / 3 % (wd.length : Int)))
      have lb := Txt.slice_le wd (some (c / 3 % (wd.length : Int) + 1)) none
      refine ⟨_, rfl, _, rfl, rfl, _, rfl, _, rfl, _, _, cs, rfl, rfl, line_le (by omega), f2, _, _, rfl, rfl, _, rfl, _, _, rfl, rfl, _, _, rfl, rfl, (by show (0 : Int) < 26; decide), _, _, ch, rfl, rfl, line_le (by rw [abc_len']; decide), e2, ?_⟩
      refine ⟨_, rfl, _, rfl, _, rfl, wd, rfl, line_le (by omega), _, rfl, _, _, rfl, rfl, line_le (by omega), _, rfl, _, rfl, _, _, rfl, rfl, _, rfl, wd, rfl, line_le (by omega), _, _, rfl, rfl, line_le (by rw [Str.length_append]; omega), ?_⟩
      have okm : PyData.strOk (Txt.slice wd none (some (c / 3 % (wd.length : Int))) ++ ⟨#[ch]⟩ ++ Txt.slice wd (some (c / 3 % (wd.length : Int) + 1)) none) = true := ok_app (ok_app (ok_slice ho) (ok_one hc)) (ok_slice ho)
      have lm1 : 1 ≤ (Txt.slice wd none (some (c / 3 % (wd.length : Int))) ++ ⟨#[ch]⟩ ++ Txt.slice wd (some (c / 3 % (wd.length : Int) + 1)) none).length := by rw [Str.length_append, Str.length_append]; omega
      have lm : (Txt.slice wd none (some (c / 3 % (wd.length : Int))) ++ ⟨#[ch]⟩ ++ Txt.slice wd (some (c / 3 % (wd.length : Int) + 1)) none).length ≤ 17 := by rw [Str.length_append, Str.length_append]; omega
      have ls : ("s" : Str).length = 1 := by decide +kernel
      generalize (Txt.slice wd none (some (c / 3 % (wd.length : Int))) ++ ⟨#[ch]⟩ ++ Txt.slice wd (some (c / 3 % (wd.length : Int) + 1)) none) = md at okm lm lm1
      refine ⟨fun σ H3 => H2 = H3 ∧ ∃ x, (PyData.strOk x = true ∧ 1 ≤ x.length) ∧ σ = [some (.int c), some (.int 20), some (.str abc), some (.int r), some (.str wd), some (.int (0 + (i : Int))), some (.int (c / 3 % (wd.length : Int))), some (.ref l), some (.str ⟨#[ch]⟩), some (.str x)], ?_, ?_⟩
      · have yes : PyData.strOk (md ++ "s") = true ∧ 1 ≤ (md ++ "s").length := ⟨ok_app okm (by decide +kernel), by rw [Str.length_append]; omega⟩
        refine ⟨_, rfl, rfl, _, rfl, ite2 (fun _ => iteT ⟨_, rfl, _, _, rfl, rfl, line_le (by omega), rfl, _, yes, rfl⟩) (fun _ => ?_)⟩
        exact ⟨_, rfl, rfl, _, rfl, ite2 (fun _ => ⟨_, rfl, _, _, rfl, rfl, line_le (by omega), rfl, _, yes, rfl⟩) (fun _ => ⟨rfl, _, ⟨okm, lm1⟩, rfl⟩)⟩
      rintro σ H3 ⟨rfl, x, okx, rfl⟩
      refine ⟨_, rfl, .inl ⟨rfl, _, SqL.of h2⟩, _, rfl, l, _, _, rfl, rfl, h2, line_lt (by simp; omega), nm ++ [x], _, _, _, rfl, same_fresh s2 hl, by rw [upd_same, List.map_append]; rfl, by simp [hn], fun y hy => ?_⟩
      rcases List.mem_append.mp hy with hy | hy
      · exact hx y hy
      · have : y = x := by simpa using hy
        subst this
        exact okx
    · rintro σ H2 ⟨nm, o5, o8, o9, rfl, s2, h2, hn, hx⟩
      exact ⟨_, rfl, k l nm H2 hl s2 h2 hn hx⟩
theorem ok_l_mix (T : Txt K mg t) : FnOk P w K mg base CX0 1 t.f_l_mix t.d_l_mix ["_law_cell", "_law_k"] sp_l_mix := by
  refine T.F_l_mix.ok sc_l_mix (fun vs H Q E h => ?_) (fun cdv A outer s H vs Q E hr h => ?_)
  · obtain ⟨c, k, rfl, _⟩ := h
    rfl
  · obtain ⟨c, k, rfl, k0, k1, q⟩ := h
    refine ⟨_, (pss_cons (ps_set (i := 2) sc_l_mix.nd rfl (Or.inl rfl) (pe_op op_mod (pe_op op_add (pe_op op_add (pe_op op_mul (pv 0) (pe_op op_add pe_int (pe_op op_mul pe_int (pv 1)))) (pe_op op_mul pe_int (pv 1))) pe_int) pe_int))
      (pss_one (ps_ret (pe_op op_mod (pe_op op_mul (pv 2) (pe_op op_add (pe_op op_add (pv 2) pe_int) (pv 1))) pe_int)))), ?_⟩
    refine ⟨_, rfl, _, rfl, _, _, rfl, rfl, .inl ⟨by decide, by decide⟩, _, _, rfl, rfl, _, _, rfl, rfl, .inr ⟨by omega, by omega⟩, _, rfl, _, _, rfl, rfl, .inl ⟨by decide, by decide⟩, _, _, rfl, rfl, _, _, rfl, rfl, _, _, rfl, rfl, (by show (0 : Int) < 99991; decide), ?_⟩
    refine ⟨_, rfl, _, rfl, _, _, rfl, rfl, _, rfl, _, _, rfl, rfl, _, _, rfl, rfl, .inl ⟨by omega, by omega⟩, _, _, rfl, rfl, (by show (0 : Int) < 99989; decide), ?_⟩
    exact q _ (Int.emod_nonneg _ (by decide)) (Int.emod_lt_of_pos _ (by decide))
theorem ok_l_index_by (T : Txt K mg t) : FnOk P w K mg base CX0 1 t.f_l_index_by t.d_l_index_by ["_law_two", "_law_bound", "_law_length", "_law_lengths"] sp_l_index_by := by
  refine T.F_l_index_by.ok sc_l_index_by (fun vs H Q E h => ?_) (fun cdv A outer s H vs Q E hr h => ?_)
  · obtain ⟨two, ln, bl, ld, bd, rfl, _⟩ := h
    rfl
  · obtain ⟨two, ln, bl, ld, bd, rfl, hbl, l1, l60, okb, lb, k⟩ := h
    refine ⟨_, (pss_cons (ps_set (i := 4) sc_l_index_by.nd rfl (Or.inl rfl) pe_str)
      (pss_cut (ps_if (PW.pt (pw_and (pt_cmpR (op_neD hr.units) (pv 1) (pe_lst pa_nil) (nomark _)) (pw_and1 (pt_cmpR op_ne (pe_op op_mod (pv 0) pe_int) pe_int (nomark _)))))
        (pss_one (ps_set (i := 4) sc_l_index_by.nd rfl (Or.inl rfl) (pe_ix ix_list (pv 1) (pe_op op_mod (pe_op op_fdiv (pv 0) pe_int) (pe_callB call_len_seq (by rfl) T.z_len PySem.boot_len (pa_cons (pv 1) pa_nil))) (fun _ _ => rfl))))
        pss_nil)
      (pss_cons (ps_if (pt_cmpR op_eq (pv 4) pe_str (nomark _))
        (pss_one (ps_ret (pe_tup (pa_cons (pv 4) (pa_cons (pe_op op_mod (pe_op op_fdiv (pv 0) pe_int) (pv 2)) pa_nil)))))
        pss_nil)
      (pss_cons (ps_if (pt_cmpR op_eq (pe_op op_mod (pe_op op_fdiv (pv 0) pe_int) pe_int) pe_int (nomark _))
        (pss_one (ps_ret (pe_tup (pa_cons (pv 4) (pa_cons (pe_op op_sub (pe_op op_mod (pe_op op_fdiv (pv 0) pe_int) (pe_op op_add (pe_op op_mul pe_int (pv 2)) pe_int)) (pv 2)) pa_nil)))))
        pss_nil)
      (pss_one (ps_ret (pe_tup (pa_cons (pv 4) (pa_cons (pe_op op_sub (pe_op op_mod (pe_op op_fdiv (pv 0) pe_int) pe_int) pe_int) pa_nil))))))))), ?_⟩
    refine ⟨fun σ G => ∃ x : Str, σ = [some (.int two), some (.ref bl), some (.int ln), some (.ref ld), some (.str x)] ∧ Same H G ∧ (x = "" ∨ x ∈ bd), ?_, ?_⟩
    · refine ⟨_, rfl, line_le (by simp), fun z hz => ?_⟩
      have t1 : Same H (upd H z (.lst [])) := same_new hz
      have hz1 : upd H z (.lst []) z = some (.lst (([] : List Str).map V.str)) := upd_same
      generalize upd H z (.lst []) = H1 at t1 hz1 ⊢
      refine ⟨encS bd, encS [], S_rep (t1 _ _ hbl), S_rep hz1, shaped_of (encS_lay okb) (by have := (encS_ok bd).1; omega), rfl, _, rfl, ?_⟩
      rw [eqv_nil]
      refine iteND (fun hne => ?_) (fun _ => iteF ⟨_, rfl, t1, .inl rfl⟩)
      have hpos : 0 < bd.length := by
        rcases bd with _ | _
        · exact absurd rfl hne
        · simp
      refine ⟨_, rfl, _, _, rfl, rfl, (by show (0 : Int) < 4; decide), rfl, _, rfl, iteND (fun _ => ?_) (fun _ => ⟨_, rfl, t1, .inl rfl⟩)⟩
      obtain ⟨x, xm, e⟩ := at_mapV (f := V.str) (xs := bd) (i := two / 4 % ((bd.map V.str).length : Int)) (Int.emod_nonneg _ (by rw [List.length_map]; omega)) (by rw [List.length_map]; exact Int.emod_lt_of_pos _ (by omega))
      exact ⟨_, rfl, _, rfl, _, _, rfl, rfl, ⟨by decide, by decide⟩, _, rfl, bl, _, rfl, .inl (SqL.of (t1 _ _ hbl)), _, _, rfl, rfl, (by show (0 : Int) < ((bd.map V.str).length : Int); rw [List.length_map]; omega), bl, _, _, _, rfl, rfl, SqL.of (t1 _ _ hbl), e, x, rfl, t1, .inr (List.mem_of_getElem? xm)⟩
    rintro σ G ⟨x, rfl, sG, hx⟩
    refine ⟨_, rfl, rfl, _, rfl, iteD (fun _ => ?_) (fun _ => ?_)⟩
    · exact ⟨_, rfl, _, rfl, _, _, rfl, rfl, ⟨by decide, by decide⟩, _, rfl, _, _, rfl, rfl, (by show (0 : Int) < ln; omega), line_le (by simp), fun q hq => k q x _ _ (sG.trans (same_new hq)) upd_same hx⟩
    refine ⟨_, rfl, _, _, rfl, rfl, ⟨by decide, by decide⟩, _, _, rfl, rfl, (by show (0 : Int) < 3; decide), rfl, _, rfl, iteD (fun _ => ?_) (fun _ => ?_)⟩
    · exact ⟨_, rfl, _, rfl, _, _, rfl, rfl, ⟨by decide, by decide⟩, _, rfl, _, _, rfl, rfl, .inl ⟨by decide, by decide⟩, _, _, rfl, rfl, _, _, rfl, rfl, (by show (0 : Int) < 2 * ln + 1; omega), _, rfl, _, _, rfl, rfl, line_le (by simp), fun q hq => k q x _ _ (sG.trans (same_new hq)) upd_same hx⟩
    · exact ⟨_, rfl, _, rfl, _, _, rfl, rfl, ⟨by decide, by decide⟩, _, _, rfl, rfl, (by show (0 : Int) < 5; decide), _, _, rfl, rfl, line_le (by simp), fun q hq => k q x _ _ (sG.trans (same_new hq)) upd_same hx⟩
theorem ok_l_is_spot (T : Txt K mg t) : FnOk P w K mg base CX0 2 t.f_l_is_spot t.d_l_is_spot ["_law_found", "_law_due"] sp_l_is_spot := by
  have G_l_whole := ok_l_whole (P := P) (w := w) (base := base) T
  refine T.F_l_is_spot.ok sc_l_is_spot (fun vs H Q E h => ?_) (fun cdv A outer s H vs Q E hr h => ?_)
  · obtain ⟨v, u, e, rfl, _⟩ := h
    rfl
  · obtain ⟨v, u, e, rfl, tv, tu, oke, k⟩ := h
    have rv := tv.rep
    have ru := tu.rep
    obtain ⟨p, q, rfl, hp, hq⟩ := tv
    refine ⟨_, (pss_cons (ps_if (PW.pt (pw_or (pt_not (pt_val (pe_callB call_isinst (by rfl) T.z_isinstance PyProof.Rows.boot_isinstance (pa_cons (pv 0) (pa_cons (pe_bltn (v := V.ty "tuple") rfl T.z_tuple PyProof.Rows.boot_tuple rfl) pa_nil))))) (pw_or (pt_cmpR op_ne (pe_callB call_len_seq (by rfl) T.z_len PySem.boot_len (pa_cons (pv 0) pa_nil)) pe_int (nomark _)) (pw_or1 (pt_not (pt_val (pe_callB call_isinst (by rfl) T.z_isinstance PyProof.Rows.boot_isinstance (pa_cons (pe_ix ix_tup (pv 0) pe_int (fun _ _ => rfl)) (pa_cons (pe_bltn (v := V.ty "str") rfl T.z_str PyProof.Rows.boot_str rfl) pa_nil)))))))))
        (pss_one (ps_ret pe_bl))
        pss_nil)
      (pss_cons (ps_if (PW.pt (pw_or (pt_not (pt_val (pe_callB call_isinst (by rfl) T.z_isinstance PyProof.Rows.boot_isinstance (pa_cons (pe_ix ix_tup (pv 0) pe_int (fun _ _ => rfl)) (pa_cons (pe_bltn (v := V.ty "tuple") rfl T.z_tuple PyProof.Rows.boot_tuple rfl) pa_nil))))) (pw_or1 (pt_cmpR (op_neD hr.units) (pv 0) (pv 1) (nomark _)))))
        (pss_one (ps_ret pe_bl))
        pss_nil)
      (pss_cons (ps_for PassesOwn.never rfl (pi_tup (pe_ix ix_tup (pv 0) pe_int (fun _ _ => rfl))) (pg_name (i := 2) sc_l_is_spot.nd rfl (Or.inl rfl) (Or.inl rfl))
        (pss_one (ps_if (pt_not (pt_val (pe_call G_l_whole (hr.mono (by omega)) rfl T.m_l_whole T.F_l_whole.kp T.b_l_whole .nil pass0 (pa_cons (pv 2) pa_nil))))
          (pss_one (ps_ret pe_bl))
          pss_nil)))
      (pss_one (ps_ret pe_bl))))), ?_⟩
    refine ⟨_, rfl, _, _, _, _, rfl, .tup hp, isi_same "tuple", true, rfl, iteF ?_⟩
    refine ⟨_, rfl, p, _, rfl, .inr (SqT.of hp), rfl, _, rfl, iteNS rfl ?_⟩
    refine ⟨_, rfl, p, _, _, _, rfl, rfl, SqT.of hp, atI_nat (j := 0) rfl, _, _, _, _, rfl, .str _, isi_same "str", true, rfl, iteF ?_⟩
    refine ⟨_, rfl, p, _, _, _, rfl, rfl, SqT.of hp, atI_nat (j := 1) rfl, _, _, _, _, rfl, .tup hq, isi_same "tuple", true, rfl, iteF ?_⟩
    refine ⟨_, rfl, _, rfl, encR e, encR e, rv, ru, encR_shaped oke, encR_shaped oke, _, rfl, ?_⟩
    rw [encR_eqv]
    refine iteF ?_
    refine ⟨_, rfl, p, _, _, _, rfl, rfl, SqT.of hp, atI_nat (j := 1) rfl, q, rfl, ⟨_, SqT.of hq⟩, ?_⟩
    refine for_tup (K := K) (a := q) (xs := e.2.map V.int) (fun i σ H2 => ∃ o2 : Option V, σ = [some (.ref p), some u, o2] ∧ H2 = H) ⟨none, rfl, rfl⟩ (fun i σ H2 _ ⟨_, _, z⟩ => by subst z; exact SqT.of hq) ?_ ?_
    · rintro i x σ H2 hx ⟨o2, rfl, rfl⟩
      obtain ⟨z, _, rfl⟩ := get_map hx
      exact ⟨_, rfl, z, rfl, true, rfl, iteF ⟨_, rfl, rfl⟩⟩
    · rintro σ H2 ⟨o2, rfl, rfl⟩
      exact k
theorem ok_l_all_told (T : Txt K mg t) : FnOk P w K mg base CX0 3 t.f_l_all_told t.d_l_all_told ["_law_found", "_law_due"] sp_l_all_told := by
  have G_l_is_spot := ok_l_is_spot (P := P) (w := w) (base := base) T
  refine T.F_l_all_told.ok sc_l_all_told (fun vs H Q E h => ?_) (fun cdv A outer s H vs Q E hr h => ?_)
  · obtain ⟨f, d, xs, ys, es, rfl, _⟩ := h
    rfl
  · obtain ⟨f, d, xs, ys, es, rfl, hf, hd, rx, ry, oke, le, k⟩ := h
    have lx := Paired.length rx
    have ly := Paired.length ry
    refine ⟨_, (pss_cons (ps_if (PW.pt (pw_or (pt_not (pt_val (pe_callB call_isinst (by rfl) T.z_isinstance PyProof.Rows.boot_isinstance (pa_cons (pv 0) (pa_cons (pe_bltn (v := V.ty "list") rfl T.z_list PyProof.Rows.boot_list rfl) pa_nil))))) (pw_or1 (pt_cmpR op_ne (pe_callB call_len_seq (by rfl) T.z_len PySem.boot_len (pa_cons (pv 0) pa_nil)) (pe_callB call_len_seq (by rfl) T.z_len PySem.boot_len (pa_cons (pv 1) pa_nil)) (nomark _)))))
        (pss_one (ps_ret pe_bl))
        pss_nil)
      (pss_cons (ps_for PassesOwn.never rfl (pi_range1 rfl T.z_range (pa_cons (pe_callB call_len_seq (by rfl) T.z_len PySem.boot_len (pa_cons (pv 1) pa_nil)) pa_nil)) (pg_name (i := 2) sc_l_all_told.nd rfl (Or.inl rfl) (Or.inl rfl))
        (pss_one (ps_if (pt_not (pt_val (pe_call G_l_is_spot (hr.mono (by omega)) rfl T.m_l_is_spot T.F_l_is_spot.kp T.b_l_is_spot .nil pass0 (pa_cons (pe_ix ix_list (pv 0) (pv 2) (fun _ _ => rfl)) (pa_cons (pe_ix ix_list (pv 1) (pv 2) (fun _ _ => rfl)) pa_nil)))))
          (pss_one (ps_ret pe_bl))
          pss_nil)))
      (pss_one (ps_ret pe_bl)))), ?_⟩
    refine ⟨_, rfl, _, _, _, _, rfl, .lst hf, isi_same "list", true, rfl, iteF ?_⟩
    refine ⟨_, rfl, f, _, rfl, .inl (SqL.of hf), _, rfl, d, _, rfl, .inl (SqL.of hd), rfl, _, rfl, iteNS (by rw [lx, ly]) ?_⟩
    refine ⟨_, rfl, d, _, rfl, .inl (SqL.of hd), _, rfl, by omega, by omega, ?_⟩
    refine for_range (n := ys.length) (fun i σ H2 => ∃ o2 : Option V, σ = [some (.ref f), some (.ref d), o2] ∧ H2 = H) ⟨none, rfl, rfl⟩ ?_ ?_
    · rintro i σ H2 hi ⟨o2, rfl, rfl⟩
      have hyi : ys[i]? = some ys[i] := List.getElem?_eq_getElem hi
      have hxi : xs[i]? = some (xs[i]'(by omega)) := List.getElem?_eq_getElem (by omega)
      obtain ⟨e, he, ty⟩ := pget ry hyi
      obtain ⟨e', he', tx⟩ := pget rx hxi
      rw [he] at he'
      cases he'
      have ex : atI xs (0 + (i : Int)) = some (xs[i]'(by omega)) := by rw [Int.zero_add]; exact atI_nat hxi
      have ey : atI ys (0 + (i : Int)) = some ys[i] := by rw [Int.zero_add]; exact atI_nat hyi
      exact ⟨_, rfl, _, rfl, f, _, _, _, rfl, rfl, SqL.of hf, ex, _, rfl, _, rfl, d, _, _, _, rfl, rfl, SqL.of hd, ey, _, _, e, rfl, tx, ty, oke e (List.mem_of_getElem? he), true, rfl, iteF ⟨_, rfl, rfl⟩⟩
    · rintro σ H2 ⟨o2, rfl, rfl⟩
      exact k
end
end My

set_option Elab.async false
set_option linter.all false
set_option maxRecDepth 100000
set_option maxHeartbeats 4000000
namespace My
open PySem L2
local macro_rules | `(tactic| walk_at "lk") => `(tactic| first | with_reducible exact lk0 | (refine lk1 (by decide +kernel) ?_; walk_at "lk") | rfl)
/-! ### pieces and lines of the law -/
structure Pc where
  arr : Str
  ix : List (Str × Int)
  gs : List (Str × Int × Int)
def encG (g : Str × Int × Int) : PyData := .tuple [.str g.1, .int g.2.1, .int g.2.2]
theorem rep_G {H : Hp} {v : V} {g : Str × Int × Int} (h : Rep H v (encG g)) : ∃ b, v = .ref b ∧ H b = some (.tup [.str g.1, .int g.2.1, .int g.2.2]) := by
  unfold encG at h
  cases h with
  | @tup b xs _ eb r =>
    cases r with
    | cons a r =>
      cases r with
      | cons a2 r =>
        cases r with
        | cons a3 r =>
          cases r
          cases a
          cases a2
          cases a3
          exact ⟨b, rfl, eb⟩
def PcAt (M : List Addr) (H : Hp) (v : V) (p : Pc) : Prop := ∃ (q il gl : Addr) (iv gv : List V), v = .ref q ∧ H q = some (.tup [.str p.arr, .ref il, .ref gl]) ∧ il ∉ M ∧ H il = some (.lst iv) ∧ gl ∉ M ∧ H gl = some (.lst gv) ∧ Reps (TH H) iv (p.ix.map encI) ∧ Reps (TH H) gv (p.gs.map encG)
theorem PcAt.imp {M M' : List Addr} {H H' : Hp} {v : V} {p : Pc} (h : PcAt M H v p) (f : KT H H') (g : ∀ c xs, c ∉ M → H c = some (.lst xs) → c ∉ M' ∧ H' c = some (.lst xs)) : PcAt M' H' v p := by
  obtain ⟨q, il, gl, iv, gv, rfl, e1, m1, e2, m2, e3, r1, r2⟩ := h
  exact ⟨q, il, gl, iv, gv, rfl, f _ _ e1, (g _ _ m1 e2).1, (g _ _ m1 e2).2, (g _ _ m2 e3).1, (g _ _ m2 e3).2, r1.same (th_kt f), r2.same (th_kt f)⟩
theorem PcAt.same {M : List Addr} {H H' : Hp} {v : V} {p : Pc} (h : PcAt M H v p) (s : Same H H') : PcAt M H' v p := h.imp (KT.same s) fun _ _ m z => ⟨m, s _ _ z⟩
structure Lw where
  nm : Str
  own : List Str
  sums : List Str
  ps : List Pc
  wo : Int
def LwAt (M : List Addr) (H : Hp) (v : V) (e : Lw) : Prop := ∃ (q O S Pl : Addr) (pv : List V), v = .ref q ∧ H q = some (.tup [.str e.nm, .ref O, .ref S, .ref Pl, .int e.wo]) ∧ O ∉ M ∧ H O = some (.lst (e.own.map V.str)) ∧ S ∉ M ∧ H S = some (.lst (e.sums.map V.str)) ∧ Pl ∉ M ∧ H Pl = some (.lst pv) ∧ Paired (PcAt M H) pv e.ps
theorem LwAt.imp {M M' : List Addr} {H H' : Hp} {v : V} {e : Lw} (h : LwAt M H v e) (f : KT H H') (g : ∀ c xs, c ∉ M → H c = some (.lst xs) → c ∉ M' ∧ H' c = some (.lst xs)) : LwAt M' H' v e := by
  obtain ⟨q, O, S, Pl, pv, rfl, e1, m1, e2, m2, e3, m3, e4, ps⟩ := h
  exact ⟨q, O, S, Pl, pv, rfl, f _ _ e1, (g _ _ m1 e2).1, (g _ _ m1 e2).2, (g _ _ m2 e3).1, (g _ _ m2 e3).2, (g _ _ m3 e4).1, (g _ _ m3 e4).2, Paired.mapP ps fun _ _ z => z.imp f g⟩
theorem LwAt.same {M : List Addr} {H H' : Hp} {v : V} {e : Lw} (h : LwAt M H v e) (s : Same H H') : LwAt M H' v e := h.imp (KT.same s) fun _ _ m z => ⟨m, s _ _ z⟩
/-- a piece speaks of bound axes alone -/
structure PcIn (BD : List Str) (p : Pc) : Prop where
  ix : ∀ e ∈ p.ix, e.1 = "" ∨ e.1 ∈ BD
  gs : ∀ g ∈ p.gs, g.1 ∈ BD
  lx : p.ix.length ≤ 8
  lg : p.gs.length ≤ 4
  ok : PyData.strOk p.arr = true
def gIn (f : Str → Int) (g : Str × Int × Int) : Prop := g.2.1 ≤ f g.1 ∧ f g.1 < g.2.2
instance (f : Str → Int) (g : Str × Int × Int) : Decidable (gIn f g) := inferInstanceAs (Decidable (_ ∧ _))
def allG (f : Str → Int) (gs : List (Str × Int × Int)) : Bool := gs.all fun g => decide (gIn f g)
theorem allG_snoc (f : Str → Int) (gs : List (Str × Int × Int)) (g : Str × Int × Int) : allG f (gs ++ [g]) = (allG f gs && decide (gIn f g)) := by simp [allG]
def rdP (f : Str → Int) (p : Pc) : List (Str × List Int) := if allG f p.gs = true then [(p.arr, cellM f p.ix)] else []
/-! ### sizes -/
def prN : List Int → Nat
  | [] => 1
  | n :: r => n.toNat * prN r
theorem prN_app : ∀ (a b : List Int), prN (a ++ b) = prN a * prN b
  | [], b => by simp [prN]
  | n :: r, b => by rw [List.cons_append, prN, prN, prN_app, Nat.mul_assoc]
theorem prN_pos : ∀ {ls : List Int}, (∀ n ∈ ls, 1 ≤ n) → 1 ≤ prN ls
  | [], _ => Nat.le_refl _
  | n :: r, h => by
    have h1 := h n (.head _)
    have h2 := prN_pos (ls := r) fun m hm => h m (.tail _ hm)
    rw [prN]
    have : 1 * 1 ≤ n.toNat * prN r := Nat.mul_le_mul (by omega) h2
    omega
theorem prN_take {ls : List Int} (h : ∀ n ∈ ls, 1 ≤ n) (i : Nat) : prN (ls.take i) ≤ prN ls := by
  have e := prN_app (ls.take i) (ls.drop i)
  rw [List.take_append_drop] at e
  have := prN_pos (ls := ls.drop i) fun n hn => h n (List.mem_of_mem_drop hn)
  rw [e]
  exact Nat.le_mul_of_pos_right _ this
/-- tuples of n numbers -/
abbrev CsAt (H : Hp) (vs : List V) (n : Nat) : Prop := ∀ v ∈ vs, ∃ (p : Addr) (c : List Int), v = .ref p ∧ H p = some (.tup (c.map V.int)) ∧ c.length = n
def sp_l_cells : Sp := fun vs H Q _ => ∃ (l d : Addr) (ys : List Str) (lk : List (Key × V)) (ls : List Int), vs = [.ref l, .ref d] ∧ H l = some (.lst (ys.map V.str)) ∧ H d = some (.dK lk) ∧ Paired (fun (y : Str) (n : Int) => valV lk (Sum.inr y) = some (.int n)) ys ls ∧ (∀ n ∈ ls, 1 ≤ n ∧ n ≤ 60) ∧ prN ls ≤ 200 ∧ ys.length ≤ 8 ∧
  ∀ (q : Addr) (cv : List V) (H' : Hp), H q = none → Same H H' → H' q = some (.lst cv) → CsAt H' cv ys.length → cv.length ≤ 200 → Q (.ref q) H'
theorem CsAt.kt {H H' : Hp} {vs : List V} {n : Nat} (h : CsAt H vs n) (k : KT H H') : CsAt H' vs n := fun v hv => by
  obtain ⟨p, c, rfl, e, l⟩ := h v hv
  exact ⟨p, c, rfl, k _ _ e, l⟩
section
variable {P : Program} {w : World} {K : PySem.W.Frag} {mg : Str → Option Value} {base : Heap} {t : Adr}
theorem ok_l_cells (T : Txt K mg t) : FnOk P w K mg base CX0 1 t.f_l_cells t.d_l_cells ["_law_axes", "_law_lengths"] sp_l_cells := by
  refine T.F_l_cells.ok sc_l_cells (fun vs H Q E h => ?_) (fun cdv A outer s H vs Q E hr h => ?_)
  · obtain ⟨l, d, ys, lk, ls, rfl, _⟩ := h
    rfl
  · obtain ⟨a, d, ys, lk, ls, rfl, ha, hd, sz, pos, pr, l8, k⟩ := h
    have hu := hu_of hr
    have lys := Paired.length sz
    have p1 : ∀ n ∈ ls, 1 ≤ n := fun n hn => (pos n hn).1
    refine ⟨_, (pss_cons (ps_set (i := 2) sc_l_cells.nd rfl (Or.inl rfl) (pe_lst (pa_cons (pe_tup pa_nil) pa_nil)))
      (pss_cons (ps_for PassesOwn.never rfl (pi_list (pv 0)) (pg_name (i := 3) sc_l_cells.nd rfl (Or.inl rfl) (Or.inl rfl))
        (pss_cons (ps_set (i := 4) sc_l_cells.nd rfl (Or.inl rfl) (pe_lst pa_nil))
        (pss_cons (ps_for PassesOwn.never rfl (pi_list (pv 2)) (pg_name (i := 5) sc_l_cells.nd rfl (Or.inr rfl) (Or.inl rfl))
          (pss_one (ps_expr (pe_bm PySem.F.plainAttrs_list PySem.F.slot_list_extend PySem.F.type_list_extend mt_extend (pv 4) (pa_cons (pe_comp (N' := ["_law_count", "_law_cell"]) (ix := (List.replicate 1 none ++ [some 5])) rfl (clok_one (x := "_law_cell") rfl rfl rfl (by decide +kernel) (by decide +kernel)) (ixok_last (N0 := ["_law_count"]) rfl (Or.inl rfl) (by first | exact Or.inl rfl | exact Or.inr rfl | (simp [relabel]; rfl) | (with_unfolding_all exact Or.inl rfl) | (with_unfolding_all exact Or.inr rfl) | (with_unfolding_all decide))) (pi_range1 rfl T.z_range (pa_cons (pe_dget hu (pv 1) (pv 3) (fun _ _ => rfl)) pa_nil)) (fun _ _ _ _ => (pg_name (i := 0) nd_comp_4 rfl (Or.inl rfl) (Or.inr rfl))) (fun _ _ _ _ => (pe_op op_catT4 (pv 1) (pe_tup (pa_cons (pv 0) pa_nil))))) pa_nil)))))
        (pss_one (ps_set (i := 2) sc_l_cells.nd rfl (Or.inl rfl) (pv 4))))))
      (pss_one (ps_ret (pv 2))))), ?_⟩
    refine ⟨line_le (by simp), fun e he => ⟨line_le (by simp), fun q hq => ?_⟩⟩
    have hq0 : H q = none := (same_new he).free hq
    have s1 : Same H (upd (upd H e (.tup [])) q (.lst [V.ref e])) := (same_new he).trans (same_new hq)
    have he1 : upd (upd H e (.tup [])) q (.lst [V.ref e]) e = some (.tup (([] : List Int).map V.int)) := by rw [upd_ne (ne_of_none upd_same hq)]; exact upd_same
    refine ⟨_, rfl, a, rfl, ⟨_, SqL.of (s1 _ _ ha)⟩, ?_⟩
    refine for_list (K := K) (a := a) (xs := ys.map V.str) (fun i σ H2 => ∃ (o3 o4 o5 : Option V) (q : Addr) (cv : List V), σ = [some (.ref a), some (.ref d), some (.ref q), o3, o4, o5] ∧ Same H H2 ∧ H q = none ∧ H2 q = some (.lst cv) ∧ CsAt H2 cv i ∧ cv.length ≤ prN (ls.take i))
      ⟨none, none, none, q, [.ref e], rfl, s1, hq0, upd_same, (fun v hv => ⟨e, [], by simpa using hv, he1, rfl⟩), by simp [prN]⟩ (fun i σ H2 _ ⟨_, _, _, _, _, _, s2, _⟩ => SqL.of (s2 _ _ ha)) ?_ ?_
    · rintro i y σ H2 hi ⟨o3, o4, o5, q, cv, rfl, s2, hq, hcv, cs, lcv⟩
      obtain ⟨nm, hn', rfl⟩ := get_map hi
      obtain ⟨n, hn, vn⟩ := pget sz hn'
      have gp := pos n (List.mem_of_getElem? hn)
      have hi' : i < ls.length := (List.getElem?_eq_some_iff.mp hn).1
      have pt := prN_take p1 i
      have pt1 := prN_take p1 (i + 1)
      have es : prN (ls.take (i + 1)) = prN (ls.take i) * n.toNat := by rw [List.take_add_one, hn, Option.toList_some, prN_app]; simp [prN]
      refine ⟨line_le (by simp), fun L hL => ?_⟩
      have t1 : Same H2 (upd H2 L (.lst [])) := same_new hL
      have hL1 : upd H2 L (.lst []) L = some (.lst []) := upd_same
      have L0 : H L = none := s2.free hL
      have qL : q ≠ L := ne_of_none hcv hL
      generalize upd H2 L (.lst []) = H3 at t1 hL1 ⊢
      refine ⟨_, rfl, q, rfl, ⟨_, SqL.of (t1 _ _ hcv)⟩, ?_⟩
      refine for_list (K := K) (a := q) (xs := cv) (fun j σ G => ∃ (o5 : Option V) (zv : List V), σ = [some (.ref a), some (.ref d), some (.ref q), some (.str nm), some (.ref L), o5] ∧ Same H2 G ∧ G L = some (.lst zv) ∧ CsAt G zv (i + 1) ∧ zv.length = j * n.toNat)
        ⟨_, [], rfl, t1, hL1, (by intro v hv; cases hv), by simp⟩ (fun j σ G _ ⟨_, _, _, sg, _⟩ => SqL.of (sg _ _ hcv)) ?_ ?_
      · rintro j x σ G hj ⟨o5', zv, rfl, sg, hLg, csg, lz⟩
        obtain ⟨pc, c, rfl, hpc, lc⟩ := cs x (List.mem_of_getElem? hj)
        have hj' : j < cv.length := (List.getElem?_eq_some_iff.mp hj).1
        have gd := DGet.k (H := G) (a := d) (k := Sum.inr nm) ((s2.trans sg) _ _ hd)
        rw [vn] at gd
        have bz : (j + 1) * n.toNat ≤ 200 := by
          have : (j + 1) * n.toNat ≤ prN (ls.take i) * n.toNat := Nat.mul_le_mul_right _ (by omega)
          omega
        rw [Nat.add_mul, Nat.one_mul] at bz
        refine ⟨_, rfl, .inl ⟨rfl, _, SqL.of hLg⟩, _, rfl, _, rfl, d, _, rfl, gd, _, rfl, by omega, by omega, fun D hD => ?_⟩
        have DL : D ≠ L := fun z => by rw [z, hLg] at hD; cases hD
        refine comp_genQ (D := D) n.toNat (fun m ys H4 => Same G H4 ∧ H4 D = some (.lst ys) ∧ CsAt H4 ys (i + 1) ∧ ys.length = m) ⟨same_new hD, upd_same, (by intro v hv; cases hv), rfl⟩ (fun m ys H4 hm _ => hm) (fun ys H4 _ => Nat.le_refl _) ?_ ?_
        · rintro m ys' H4 hm ⟨s4, h4, c4, l4⟩ x H5 ⟨rfl, rfl⟩
          refine ⟨⟨rfl, True.intro⟩, _, rfl, _, rfl, line_le (by simp), fun u hu' => ?_⟩
          have v1 : Same H5 (upd H5 u (.tup [.int (0 + (m : Int))])) := same_new hu'
          refine ⟨pc, u, _, _, rfl, rfl, v1 _ _ (s4 _ _ (sg _ _ hpc)), upd_same, line_le (by rw [List.length_map, lc]; simp; omega), fun q5 H6 s6 hq6 => ?_⟩
          have v6 := v1.trans s6
          refine ⟨v6 _ _ h4, line_lt (by omega), same_fresh (s4.trans v6) hD, upd_same, ?_, by simp [l4]⟩
          have kt : KT H6 (upd H6 D (.lst (ys' ++ [.ref q5]))) := KT.at (v6 _ _ h4) (by intro xs z; cases z)
          intro v hv
          rcases List.mem_append.mp hv with hv | hv
          · exact (c4.kt ((KT.same v6).trans kt)) v hv
          · rw [List.mem_singleton.mp hv]
            exact ⟨q5, c ++ [0 + (m : Int)], rfl, kt _ _ (by rw [hq6, List.map_append]; rfl), by simp [lc]⟩
        · rintro ys' H4 ⟨s4, h4, c4, l4⟩
          refine ⟨L, D, _, _, rfl, rfl, s4 _ _ hLg, h4, line_le (by omega), ?_⟩
          have kt : KT H4 (upd H4 L (.lst (zv ++ ys'))) := KT.at (s4 _ _ hLg) (by intro xs z; cases z)
          refine ⟨_, zv ++ ys', rfl, same_fresh (sg.trans s4) hL, upd_same, ?_, by rw [List.length_append, l4, lz, Nat.add_mul, Nat.one_mul]⟩
          intro v hv
          rcases List.mem_append.mp hv with hv | hv
          · exact (csg.kt ((KT.same s4).trans kt)) v hv
          · exact (c4.kt kt) v hv
      · rintro σ G ⟨o5', zv, rfl, sg, hLg, csg, lz⟩
        refine ⟨_, rfl, _, _, _, L, zv, rfl, s2.trans sg, L0, hLg, csg, ?_⟩
        rw [lz, es]
        exact Nat.mul_le_mul_right _ lcv
    · rintro σ H2 ⟨o3, o4, o5, q, cv, rfl, s2, hq, hcv, cs, lcv⟩
      rw [List.length_map] at cs lcv
      rw [lys, List.take_length] at lcv
      exact ⟨_, rfl, k q cv H2 hq s2 hcv cs (by omega)⟩
end
end My

set_option Elab.async false
set_option linter.all false
set_option maxRecDepth 100000
set_option maxHeartbeats 4000000
namespace My
open PySem L2
local macro_rules | `(tactic| walk_at "lk") => `(tactic| first | with_reducible exact lk0 | (refine lk1 (by decide +kernel) ?_; walk_at "lk") | rfl)
/-! ### dicts by pairs -/
theorem merge_same {k : Key} : ∀ {ws acc acc' : List (Key × V)}, (k ∈ ws.map (·.1) ∨ valV acc k = valV acc' k) → valV (mergeK acc ws) k = valV (mergeK acc' ws) k
  | [], acc, acc', h => by
    rcases h with h | h
    · cases h
    · exact h
  | w :: r, acc, acc', h => by
    show valV (mergeK (putK acc w.1 w.2) r) k = valV (mergeK (putK acc' w.1 w.2) r) k
    refine merge_same ?_
    by_cases hk : k = w.1
    · right
      rw [valV_put, valV_put, hk]
      simp
    · rcases h with h | h
      · rw [List.map_cons, List.mem_cons] at h
        exact .inl (h.resolve_left hk)
      · right
        rw [valV_put, valV_put, h]
theorem merge_int {k : Key} : ∀ {ws acc : List (Key × V)}, (∀ w ∈ ws, ∃ i : Int, w.2 = .int i) → (k ∈ ws.map (·.1) ∨ ∃ i : Int, valV acc k = some (.int i)) → ∃ i : Int, valV (mergeK acc ws) k = some (.int i)
  | [], acc, _, h => by
    rcases h with h | h
    · cases h
    · exact h
  | w :: r, acc, hi, h => by
    show ∃ i : Int, valV (mergeK (putK acc w.1 w.2) r) k = some (.int i)
    refine merge_int (fun x hx => hi x (.tail _ hx)) ?_
    by_cases hk : k = w.1
    · obtain ⟨i, ei⟩ := hi w (.head _)
      right
      refine ⟨i, ?_⟩
      rw [valV_put, hk, ei]
      simp
    · rcases h with h | ⟨i, h⟩
      · rw [List.map_cons, List.mem_cons] at h
        exact .inl (h.resolve_left hk)
      · right
        refine ⟨i, ?_⟩
        rw [valV_put]
        split
        · rename_i z
          first
          | exact absurd z hk
          | exact absurd z.symm hk
        · exact h
theorem merge_out {k : Key} : ∀ {ws acc : List (Key × V)}, k ∉ ws.map (·.1) → valV (mergeK acc ws) k = valV acc k
  | [], acc, _ => rfl
  | w :: r, acc, h => by
    rw [List.map_cons, List.mem_cons, not_or] at h
    show valV (mergeK (putK acc w.1 w.2) r) k = _
    rw [merge_out h.2, valV_put]
    split
    · rename_i z
      first
      | exact absurd z h.1
      | exact absurd z.symm h.1
    · rfl
/-- the pairs of a step -/
def prs (own sums : List Str) (s : StM) : List (Key × V) := ((own ++ sums).map (Sum.inr : Str → Key)).zip ((s.ce ++ s.tu).map V.int)
def atW (own sums : List Str) (s : StM) : List (Key × V) := mergeK [(Sum.inr (("" : Str)), .int 0)] (prs own sums s)
theorem prs_keys {own sums : List Str} {s : StM} (h1 : s.ce.length = own.length) (h2 : s.tu.length = sums.length) : (prs own sums s).map (·.1) = (own ++ sums).map (Sum.inr : Str → Key) := by
  unfold prs
  show List.map Prod.fst _ = _
  rw [List.map_fst_zip (by rw [List.length_map, List.length_map, List.length_append, List.length_append]; omega)]
theorem prs_int {own sums : List Str} {s : StM} : ∀ w ∈ prs own sums s, ∃ i : Int, w.2 = .int i := fun w hw => by
  unfold prs at hw
  have := (List.of_mem_zip hw).2
  obtain ⟨i, _, e⟩ := List.mem_map.mp this
  exact ⟨i, e.symm⟩
theorem atW_in {own sums : List Str} {s : StM} (h1 : s.ce.length = own.length) (h2 : s.tu.length = sums.length) {x : Str} (hx : x ∈ own ++ sums) : valV (atW own sums s) (Sum.inr x) = some (.int (ai (atW own sums s) x)) := by
  obtain ⟨i, e⟩ := merge_int (k := Sum.inr x) (acc := [(Sum.inr (("" : Str)), .int 0)]) (prs_int (own := own) (sums := sums) (s := s)) (.inl (by rw [prs_keys h1 h2]; exact List.mem_map.mpr ⟨x, hx, rfl⟩))
  have e : valV (atW own sums s) (Sum.inr x) = some (.int i) := e
  rw [e, ai_of e]
theorem atW_nil {own sums : List Str} {s : StM} (h1 : s.ce.length = own.length) (h2 : s.tu.length = sums.length) (ok : OkN (own ++ sums)) : valV (atW own sums s) (Sum.inr (("" : Str))) = some (.int 0) := by
  unfold atW
  rw [merge_out]
  · rfl
  · rw [prs_keys h1 h2]
    intro m
    obtain ⟨x, hx, e⟩ := List.mem_map.mp m
    have := (ok x hx).2
    have e : x = ("" : Str) := by injection e
    rw [e] at this
    exact absurd this (by decide +kernel)
theorem atW_atM {own sums : List Str} {s : StM} (h1 : s.ce.length = own.length) (h2 : s.tu.length = sums.length) {x : Str} (hx : x ∈ own ++ sums) : ai (mergeK [] (prs own sums s)) x = ai (atW own sums s) x ∧ valV (mergeK [] (prs own sums s)) (Sum.inr x) = some (.int (ai (mergeK [] (prs own sums s)) x)) := by
  have e : valV (mergeK [] (prs own sums s)) (Sum.inr x) = valV (atW own sums s) (Sum.inr x) := merge_same (.inl (by rw [prs_keys h1 h2]; exact List.mem_map.mpr ⟨x, hx, rfl⟩))
  have e2 := atW_in h1 h2 hx
  rw [e2] at e
  have e3 := ai_of e
  exact ⟨e3, by rw [e3]; exact e⟩
def dueL (e : Lw) (s : StM) : List (Str × List Int) := if s.wd = "start" then [] else e.ps.flatMap (rdP (ai (atW e.own e.sums s)))
def sp_l_due_of : Sp := fun vs H Q _ => ∃ (v u : V) (e : Lw) (s : StM) (M : List Addr), vs = [v, u] ∧ StAt H v s ∧ LwAt M H u e ∧ (s.wd ≠ "start" → s.ce.length = e.own.length ∧ s.tu.length = e.sums.length) ∧ e.own.length + e.sums.length ≤ 8 ∧ OkN (e.own ++ e.sums) ∧ (∀ p ∈ e.ps, PcIn (e.own ++ e.sums) p) ∧ e.ps.length ≤ 3 ∧
  ∀ (D : Addr) (xs : List V) (H' : Hp), H D = none → Same H H' → H' D = some (.lst xs) → Rds H' xs (dueL e s) → Q (.ref D) H'
theorem rdP_len (f : Str → Int) (p : Pc) : (rdP f p).length ≤ 1 := by
  unfold rdP
  split <;> simp
theorem flat_len1 (f : Str → Int) : ∀ ps : List Pc, (ps.flatMap (rdP f)).length ≤ ps.length
  | [] => by simp
  | p :: r => by
    rw [List.flatMap_cons, List.length_append, List.length_cons]
    have := flat_len1 f r
    have := rdP_len f p
    omega
section
variable {P : Program} {w : World} {K : PySem.W.Frag} {mg : Str → Option Value} {base : Heap} {t : Adr}
theorem ok_l_due_of (T : Txt K mg t) : FnOk P w K mg base CX0 1 t.f_l_due_of t.d_l_due_of ["_law_step", "_law_line"] sp_l_due_of := by
  refine T.F_l_due_of.ok sc_l_due_of (fun vs H Q E h => ?_) (fun cdv A outer s H vs Q E hr h => ?_)
  · obtain ⟨v, u, e, sp, M, rfl, _⟩ := h
    rfl
  · obtain ⟨v, u, e, sp, M, rfl, ⟨sb, sc, su, rfl, hsb, hsc, hsu⟩, ⟨q, O, S, Pl, pvs, rfl, hq, _, hO, _, hS, _, hP, pcs⟩, lens, l8, okn, pin, lps, k⟩ := h
    have hu := hu_of hr
    have lpv := Paired.length pcs
    refine ⟨_, (pss_cons (ps_if (pt_cmpR op_eq (pe_ix ix_tup (pv 0) pe_int (fun _ _ => rfl)) pe_str (nomark _))
        (pss_one (ps_ret (pe_lst pa_nil)))
        pss_nil)
      (pss_cons (ps_set (i := 2) sc_l_due_of.nd rfl (Or.inr rfl) (pe_disp (pps_cons pe_str pe_int pps_nil) rfl rfl (by simp) (by decide)))
      (pss_cons (ps_for PassesOwn.never rfl (pi_zipLT rfl T.z_zip (pa_cons (pe_op op_cat (pe_ix ix_tup (pv 1) pe_int (fun _ _ => rfl)) (pe_ix ix_tup (pv 1) pe_int (fun _ _ => rfl))) (pa_cons (pe_op op_catT4 (pe_ix ix_tup (pv 0) pe_int (fun _ _ => rfl)) (pe_ix ix_tup (pv 0) pe_int (fun _ _ => rfl))) pa_nil))) (pg_tup (n := 2) rfl (pgs_cons (pg_name (i := 3) sc_l_due_of.nd rfl (Or.inl rfl) (Or.inl rfl)) (pgs_cons (pg_name (i := 4) sc_l_due_of.nd rfl (Or.inl rfl) (Or.inl rfl)) pgs_nil)))
        (pss_one (ps_dput hu (pv 2) (pv 3) (pv 4) rfl)))
      (pss_cons (ps_set (i := 5) sc_l_due_of.nd rfl (Or.inl rfl) (pe_lst pa_nil))
      (pss_cons (ps_for PassesOwn.never rfl (pi_list (pe_ix ix_tup (pv 1) pe_int (fun _ _ => rfl))) (pg_tup (n := 3) rfl (pgs_cons (pg_name (i := 6) sc_l_due_of.nd rfl (Or.inl rfl) (Or.inl rfl)) (pgs_cons (pg_name (i := 7) sc_l_due_of.nd rfl (Or.inl rfl) (Or.inl rfl)) (pgs_cons (pg_name (i := 8) sc_l_due_of.nd rfl (Or.inl rfl) (Or.inl rfl)) pgs_nil))))
        (pss_cons (ps_set (i := 9) sc_l_due_of.nd rfl (Or.inl rfl) pe_bl)
        (pss_cons (ps_for PassesOwn.never rfl (pi_list (pv 8)) (pg_tup (n := 3) rfl (pgs_cons (pg_name (i := 3) sc_l_due_of.nd rfl (Or.inl rfl) (Or.inl rfl)) (pgs_cons (pg_name (i := 10) sc_l_due_of.nd rfl (Or.inl rfl) (Or.inl rfl)) (pgs_cons (pg_name (i := 11) sc_l_due_of.nd rfl (Or.inl rfl) (Or.inl rfl)) pgs_nil))))
          (pss_one (ps_set (i := 9) sc_l_due_of.nd rfl (Or.inl rfl) (pe_and (pv 9) (pe_one (pe_chain op_le op_lt (pv 10) (pe_dget hu (pv 2) (pv 3) (fun _ _ => rfl)) (pv 11)))))))
        (pss_one (ps_if (pt_val (pv 9))
          (pss_one (ps_expr (pe_bm PySem.F.plainAttrs_list PySem.F.slot_list_append PySem.F.type_list_append mt_append (pv 5) (pa_cons (pe_tup (pa_cons (pv 6) (pa_cons (pe_callTy call_tuple_of (by rfl) T.z_tuple PyProof.Rows.boot_tuple (pa_cons (pe_comp (N' := ["_law_axis", "_law_shift", "_law_at"]) (ix := (List.replicate 2 none ++ [some 2])) (g := gTup K 2 (gCons (gName 0) (gCons (gName 1) gNil))) rfl (clok_one (x := "_law_at") rfl rfl rfl (by decide +kernel) (by decide +kernel)) (ixok_last (N0 := ["_law_axis", "_law_shift"]) rfl (Or.inl rfl) (by first | exact Or.inl rfl | exact Or.inr rfl | (simp [relabel]; rfl) | (with_unfolding_all exact Or.inl rfl) | (with_unfolding_all exact Or.inr rfl) | (with_unfolding_all decide))) (pi_list (pv 7)) (fun _ _ _ _ => (pg_tup (n := 2) rfl (pgs_cons (pg_name (i := 0) nd_comp_6 rfl (Or.inl rfl) (Or.inr rfl)) (pgs_cons (pg_name (i := 1) nd_comp_6 rfl (Or.inl rfl) (Or.inr rfl)) pgs_nil)))) (fun _ _ _ _ => (pe_op op_add (pe_dget hu (pv 2) (pv 0) (fun _ _ => rfl)) (pv 1)))) pa_nil)) pa_nil))) pa_nil))))
          pss_nil)))))
      (pss_one (ps_ret (pv 5)))))))), ?_⟩
    refine ⟨_, rfl, sb, _, _, _, rfl, rfl, SqT.of hsb, atI_nat (j := 1) rfl, rfl, _, rfl, iteD (fun hw => ?_) (fun hw => ?_)⟩
    · have hw : sp.wd = "start" := by injection hw
      refine ⟨line_le (by simp), fun D hD => k D [] _ hD (same_new hD) upd_same ?_⟩
      unfold dueL
      rw [if_pos hw]
      exact .nil
    have hw : sp.wd ≠ "start" := fun z => hw (by rw [z])
    obtain ⟨lc, lt⟩ := lens hw
    refine fun at' hat => ⟨upd_same, [(Sum.inr (("" : Str)), .int 0)], rfl, by decide, ?_⟩
    rw [upd_upd]
    have t1 : Same H (upd H at' (.dK (mergeK [] [(Sum.inr (("" : Str)), .int 0)]))) := same_new hat
    have hat1 : upd H at' (.dK (mergeK [] [(Sum.inr (("" : Str)), .int 0)])) at' = some (.dK [(Sum.inr (("" : Str)), .int 0)]) := upd_same
    generalize upd H at' (.dK (mergeK [] [(Sum.inr (("" : Str)), .int 0)])) = H1 at t1 hat1 ⊢
    refine ⟨_, rfl, q, _, _, _, rfl, rfl, SqT.of (t1 _ _ hq), atI_nat (j := 1) rfl, _, rfl, q, _, _, _, rfl, rfl, SqT.of (t1 _ _ hq), atI_nat (j := 2) rfl, O, S, _, _, rfl, rfl, t1 _ _ hO, t1 _ _ hS, line_le (by rw [List.length_map, List.length_map]; omega), fun kl hkl => ?_⟩
    have t2 : Same H1 (upd H1 kl (.lst (e.own.map V.str ++ e.sums.map V.str))) := same_new hkl
    have hkl2 : upd H1 kl (.lst (e.own.map V.str ++ e.sums.map V.str)) kl = some (.lst (((e.own ++ e.sums).map (Sum.inr : Str → Key)).map kV)) := by rw [upd_same, ← List.map_append, List.map_map]; rfl
    generalize upd H1 kl (.lst (e.own.map V.str ++ e.sums.map V.str)) = H2 at t2 hkl2 ⊢
    have t12 := t1.trans t2
    refine ⟨_, rfl, sb, _, _, _, rfl, rfl, SqT.of (t12 _ _ hsb), atI_nat (j := 2) rfl, _, rfl, sb, _, _, _, rfl, rfl, SqT.of (t12 _ _ hsb), atI_nat (j := 3) rfl, sc, su, _, _, rfl, rfl, t12 _ _ hsc, t12 _ _ hsu, line_le (by rw [List.length_map, List.length_map]; omega), fun tt H3 t3 htt => ?_⟩
    have htt : H3 tt = some (.tup ((sp.ce ++ sp.tu).map V.int)) := by rw [List.map_append]; exact htt
    have s3 := t12.trans t3
    have hat3 := (t2.trans t3) _ _ hat1
    have llen : (((e.own ++ e.sums).map (Sum.inr : Str → Key)).map kV).length = ((sp.ce ++ sp.tu).map V.int).length := by rw [List.length_map, List.length_map, List.length_map, List.length_append, List.length_append]; omega
    refine ⟨kl, tt, _, _, rfl, SqL.of (t3 _ _ hkl2), SqT.of htt, ?_⟩
    refine for_zip (K := K) (a := kl) (b := tt) (xs := ((e.own ++ e.sums).map (Sum.inr : Str → Key)).map kV) (ys := (sp.ce ++ sp.tu).map V.int) (fun i σ G => ∃ (o3 o4 : Option V), σ = [some (.ref sb), some (.ref q), some (.ref at'), o3, o4, none, none, none, none, none, none, none] ∧ Same H G ∧ G kl = some (.lst (((e.own ++ e.sums).map (Sum.inr : Str → Key)).map kV)) ∧ G tt = some (.tup ((sp.ce ++ sp.tu).map V.int)) ∧ G at' = some (.dK (mergeK [(Sum.inr (("" : Str)), .int 0)] ((prs e.own e.sums sp).take i))))
      ⟨none, none, rfl, s3, t3 _ _ hkl2, htt, hat3⟩ (fun i σ G ⟨_, _, _, _, g1, g2, _⟩ => ⟨SqL.of g1, SqT.of g2⟩) llen ?_ ?_
    · rintro i x y σ G p hx hy ⟨o3, o4, rfl, sg, g1, g2, g3⟩ hp
      obtain ⟨kx, hkx, rfl⟩ := get_map hx
      obtain ⟨xx, hxx, rfl⟩ : ∃ xx, (e.own ++ e.sums)[i]? = some xx ∧ kx = Sum.inr xx := by
        rw [List.getElem?_map] at hkx
        obtain ⟨xx, h1, h2⟩ := Option.map_eq_some_iff.mp hkx
        exact ⟨xx, h1, h2.symm⟩
      obtain ⟨yy, hyy, rfl⟩ := get_map hy
      have v1 : Same G (upd G p (.tup [kV (Sum.inr xx), .int yy])) := same_new hp
      have hp1 : upd G p (.tup [kV (Sum.inr xx), .int yy]) p = some (.tup [.str xx, .int yy]) := upd_same
      generalize upd G p (.tup [kV (Sum.inr xx), .int yy]) = G1 at v1 hp1 ⊢
      have hz : (prs e.own e.sums sp)[i]? = some (Sum.inr xx, .int yy) := by
        unfold prs
        rw [List.getElem?_zip_eq_some]
        exact ⟨hkx, hy⟩
      have lm := merge_le [(Sum.inr (("" : Str)), .int 0)] ((prs e.own e.sums sp).take i)
      have lp : (prs e.own e.sums sp).length ≤ 8 := by unfold prs; rw [List.length_zip, List.length_map, List.length_append]; omega
      have lpt : ((prs e.own e.sums sp).take i).length ≤ 8 := by rw [List.length_take]; omega
      refine ⟨p, _, rfl, SqT.of hp1, rfl, _, _, rfl, _, _, rfl, rfl, ?_⟩
      refine ⟨_, rfl, _, rfl, _, rfl, at', _, rfl, DPut.k (k := Sum.inr xx) (v1 _ _ g3) (line_lt (by simp only [List.length_singleton] at lm; omega)), ?_⟩
      have na : ∀ {b : Addr} {o : HO}, G1 b = some o → (∀ kvs, o ≠ .dK kvs) → b ≠ at' := fun eb n z => by rw [z, v1 _ _ g3] at eb; cases eb; exact n _ rfl
      refine ⟨_, _, rfl, same_fresh (sg.trans v1) hat, ?_, ?_, ?_⟩
      · rw [upd_ne (na (v1 _ _ g1) (by intro k z; cases z))]; exact v1 _ _ g1
      · rw [upd_ne (na (v1 _ _ g2) (by intro k z; cases z))]; exact v1 _ _ g2
      · rw [upd_same, List.take_add_one, hz, Option.toList_some, mergeK_snoc]
    rintro σ G ⟨o3, o4, rfl, sg, g1, g2, g3⟩
    have hatG : G at' = some (.dK (atW e.own e.sums sp)) := by
      rw [g3]
      unfold atW
      rw [List.take_of_length_le (by unfold prs; rw [List.length_zip]; simp only [List.length_map]; omega)]
    generalize hf : ai (atW e.own e.sums sp) = f
    have look : ∀ (G' : Hp) (x : Str), G' at' = some (.dK (atW e.own e.sums sp)) → x ∈ e.own ++ e.sums → DGet G' at' (.str x) (some (.int (f x))) := fun G' x h hx => by
      have g := DGet.k (H := G') (a := at') (k := Sum.inr x) h
      rw [atW_in lc lt hx, hf] at g
      exact g
    have look0 : ∀ (G' : Hp), G' at' = some (.dK (atW e.own e.sums sp)) → DGet G' at' (.str ("" : Str)) (some (.int 0)) := fun G' h => by
      have g := DGet.k (H := G') (a := at') (k := Sum.inr (("" : Str))) h
      rw [atW_nil lc lt okn] at g
      exact g
    refine ⟨line_le (by simp), fun D hD => ?_⟩
    have D0 : H D = none := sg.free hD
    have v1 : Same G (upd G D (.lst [])) := same_new hD
    have hD1 : upd G D (.lst []) D = some (.lst []) := upd_same
    have aD : at' ≠ D := ne_of_none hatG hD
    generalize upd G D (.lst []) = G1 at v1 hD1 ⊢
    refine ⟨_, rfl, q, _, _, _, rfl, rfl, SqT.of ((sg.trans v1) _ _ hq), atI_nat (j := 3) rfl, Pl, rfl, ⟨_, SqL.of ((sg.trans v1) _ _ hP)⟩, ?_⟩
    refine for_list (K := K) (a := Pl) (xs := pvs) (fun j σ X => ∃ (o3 o4 o6 o7 o8 o9 o10 o11 : Option V) (xs : List V), σ = [some (.ref sb), some (.ref q), some (.ref at'), o3, o4, some (.ref D), o6, o7, o8, o9, o10, o11] ∧ Same H X ∧ X at' = some (.dK (atW e.own e.sums sp)) ∧ X D = some (.lst xs) ∧ Rds X xs ((e.ps.take j).flatMap (rdP f)))
      ⟨_, _, none, none, none, none, none, none, [], rfl, sg.trans v1, v1 _ _ hatG, hD1, .nil⟩ (fun j σ X _ ⟨_, _, _, _, _, _, _, _, _, _, sx, _⟩ => SqL.of (sx _ _ hP)) ?_ ?_
    · rintro j x σ X hx ⟨o3, o4, o6, o7, o8, o9, o10, o11, xs, rfl, sx, hax, hDx, rx⟩
      obtain ⟨p, hp, pq, il, gl, iv, gv, rfl, hpq, _, hil, _, hgl, ri, rg⟩ := pget pcs hx
      have pi := pin p (List.mem_of_getElem? hp)
      have lgx := pi.lx
      have lgv := rg.len
      have liv := ri.len
      rw [List.length_map] at lgv liv
      refine ⟨pq, _, rfl, SqT.of (sx _ _ hpq), rfl, _, _, rfl, _, _, rfl, _, _, rfl, rfl, ?_⟩
      have e0 : allG f (p.gs.take 0) = true := rfl
      refine ⟨_, rfl, gl, rfl, ⟨_, SqL.of (sx _ _ hgl)⟩, ?_⟩
      refine for_list (K := K) (a := gl) (xs := gv) (fun m σ Y => ∃ (o3 o10 o11 : Option V), σ = [some (.ref sb), some (.ref q), some (.ref at'), o3, o4, some (.ref D), some (.str p.arr), some (.ref il), some (.ref gl), some (.bl (allG f (p.gs.take m))), o10, o11] ∧ Y = X)
        ⟨o3, o10, o11, by rw [e0]; rfl, rfl⟩ (fun m σ Y _ ⟨_, _, _, _, z⟩ => by rw [z]; exact SqL.of (sx _ _ hgl)) ?_ ?_
      · rintro m y σ Y hy ⟨o3', o10', o11', rfl, rfl⟩
        obtain ⟨gg, hgg, ry⟩ := reps_of rg hy
        obtain ⟨gb, rfl, hgb⟩ := rep_G (ry.same (th_same H))
        have gl' := look Y gg.1 hax (pi.gs gg (List.mem_of_getElem? hgg))
        refine ⟨gb, _, rfl, SqT.of (sx _ _ hgb), rfl, _, _, rfl, _, _, rfl, _, _, rfl, rfl, ?_⟩
        have step : ∀ b : Bool, b = allG f (p.gs.take (m + 1)) → ∃ (o3 o10 o11 : Option V), [some (V.ref sb), some (.ref q), some (.ref at'), some (.str gg.1), o4, some (.ref D), some (.str p.arr), some (.ref il), some (.ref gl), some (.bl b), some (.int gg.2.1), some (.int gg.2.2)] = [some (.ref sb), some (.ref q), some (.ref at'), o3, o4, some (.ref D), some (.str p.arr), some (.ref il), some (.ref gl), some (.bl (allG f (p.gs.take (m + 1)))), o10, o11] ∧ Y = Y := fun b hb => ⟨some (.str gg.1), some (.int gg.2.1), some (.int gg.2.2), by rw [hb], rfl⟩
        have tk : p.gs.take (m + 1) = p.gs.take m ++ [gg] := by rw [List.take_add_one, hgg, Option.toList_some]
        cases hall : allG f (p.gs.take m) with
        | true =>
          refine ⟨_, rfl, true, rfl, iteT ?_⟩
          refine ⟨_, rfl, _, rfl, _, rfl, at', _, rfl, gl', _, _, rfl, rfl, _, rfl, iteD (fun h1 => ?_) (fun h1 => ?_)⟩
          · have h1 : gg.2.1 ≤ f gg.1 := h1
            refine ⟨_, rfl, _, _, rfl, rfl, step _ ?_⟩
            show decide (f gg.1 < gg.2.2) = _
            rw [tk, allG_snoc, hall, Bool.true_and]
            by_cases h2 : f gg.1 < gg.2.2
            · rw [decide_eq_true h2, decide_eq_true (show gIn f gg from ⟨h1, h2⟩)]
            · rw [decide_eq_false h2, decide_eq_false (fun z : gIn f gg => h2 z.2)]
          · have h1 : ¬ gg.2.1 ≤ f gg.1 := h1
            refine step false ?_
            rw [tk, allG_snoc, hall, Bool.true_and, decide_eq_false (fun z : gIn f gg => h1 z.1)]
        | false =>
          refine ⟨_, rfl, false, rfl, iteF (step false ?_)⟩
          rw [tk, allG_snoc, hall, Bool.false_and]
      rintro σ Y ⟨o3', o10', o11', rfl, rfl⟩
      rw [lgv, List.take_length]
      have lx1 := Paired.length rx
      have lx2 := flat_len1 f (e.ps.take j)
      have lx3 : (e.ps.take j).length ≤ 3 := by rw [List.length_take]; omega
      have tkp : (e.ps.take (j + 1)).flatMap (rdP f) = (e.ps.take j).flatMap (rdP f) ++ rdP f p := by rw [List.take_add_one, hp, Option.toList_some, List.flatMap_append, List.flatMap_singleton]
      by_cases hall : allG f p.gs = true
      · refine ⟨_, rfl, true, by rw [hall], iteT ?_⟩
        refine ⟨_, rfl, .inl ⟨rfl, _, SqL.of hDx⟩, _, rfl, _, rfl, il, rfl, ⟨_, SqL.of (sx _ _ hil)⟩, fun C hC => ?_⟩
        refine comp_listQ (K := K) (a := il) (D := C) (xs := iv) (fun i zs H2 => Same Y H2 ∧ H2 C = some (.lst zs) ∧ zs = (cellM f (p.ix.take i)).map V.int) ⟨same_new hC, upd_same, rfl⟩ (fun i zs H2 ⟨s2, _⟩ => SqL.of (s2 _ _ (sx _ _ hil))) ?_ ?_
        · rintro i z zs H4 hz ⟨s4, hC4, rfl⟩
          obtain ⟨ie, hie, rz⟩ := reps_of ri hz
          obtain ⟨ib, rfl, hib⟩ := rep_I (rz.same (th_same H))
          have hi : i < p.ix.length := (List.getElem?_eq_some_iff.mp hie).1
          have lcm : (cellM f (p.ix.take i)).length ≤ 8 := by unfold cellM; rw [List.length_map, List.length_take]; omega
          have fin : ∀ r : Int, r = (if ie.1 = ("" : Str) then ie.2 else f ie.1 + ie.2) → H4 C = some (.lst ((cellM f (p.ix.take i)).map V.int)) ∧ ((cellM f (p.ix.take i)).map V.int).length < sizeLine ∧ Same Y (upd H4 C (.lst ((cellM f (p.ix.take i)).map V.int ++ [.int r]))) ∧ upd H4 C (.lst ((cellM f (p.ix.take i)).map V.int ++ [.int r])) C = some (.lst ((cellM f (p.ix.take i)).map V.int ++ [.int r])) ∧ (cellM f (p.ix.take i)).map V.int ++ [.int r] = (cellM f (p.ix.take (i + 1))).map V.int := fun r hr' => by
            refine ⟨hC4, line_lt (by rw [List.length_map]; omega), same_fresh s4 hC, upd_same, ?_⟩
            rw [List.take_add_one, hie, Option.toList_some, hr']
            unfold cellM
            rw [List.map_append, List.map_append]
            rfl
          refine ⟨ib, _, rfl, SqT.of ((sx.trans s4) _ _ hib), rfl, _, _, rfl, _, _, rfl, rfl, ⟨rfl, True.intro⟩, ?_⟩
          rcases pi.ix ie (List.mem_of_getElem? hie) with hn | hn
          · have g0 := look0 H4 (s4 _ _ hax)
            rw [← hn] at g0
            refine ⟨_, rfl, _, rfl, at', _, rfl, g0, _, rfl, _, _, rfl, rfl, fin _ ?_⟩
            rw [if_pos hn, Int.zero_add]
          · have g0 := look H4 ie.1 (s4 _ _ hax) hn
            refine ⟨_, rfl, _, rfl, at', _, rfl, g0, _, rfl, _, _, rfl, rfl, fin _ ?_⟩
            have hne : ie.1 ≠ ("" : Str) := fun z => by
              have := (okn _ hn).2
              rw [z] at this
              exact absurd this (by decide +kernel)
            rw [if_neg hne]
        · rintro zs H4 ⟨s4, hC4, rfl⟩
          rw [liv, List.take_length] at hC4
          refine ⟨C, _, rfl, .inl ⟨SqL.of hC4, fun ct hct => ⟨line_le (by simp), fun b hb => ?_⟩⟩⟩
          have w1 : Same H4 (upd H4 ct (.tup ((cellM f p.ix).map V.int))) := same_new hct
          have hct1 : upd H4 ct (.tup ((cellM f p.ix).map V.int)) ct = some (.tup ((cellM f p.ix).map V.int)) := upd_same
          generalize upd H4 ct (.tup ((cellM f p.ix).map V.int)) = H5 at w1 hct1 hb ⊢
          have w2 : Same H5 (upd H5 b (.tup [.str p.arr, .ref ct])) := same_new hb
          have hb1 : upd H5 b (.tup [.str p.arr, .ref ct]) b = some (.tup [.str p.arr, .ref ct]) := upd_same
          generalize upd H5 b (.tup [.str p.arr, .ref ct]) = H6 at w2 hb1 ⊢
          have w46 := s4.trans (w1.trans w2)
          have hD6 := w46 _ _ hDx
          refine ⟨D, _, _, rfl, rfl, hD6, line_lt (by omega), ?_⟩
          have kt : ∀ p' ys', H6 p' = some (.tup ys') → upd H6 D (.lst (xs ++ [.ref b])) p' = some (.tup ys') := fun p' ys' z => by rw [upd_ne (ne_of z hD6 (by intro w; cases w))]; exact z
          refine ⟨_, _, _, _, _, _, _, _, xs ++ [.ref b], rfl, same_fresh (sx.trans w46) D0, by rw [upd_ne aD]; exact w46 _ _ hax, upd_same, ?_⟩
          rw [tkp]
          unfold rdP
          rw [if_pos hall]
          exact Paired.app (Rds.keep (rx.same w46) kt) (.cons ⟨b, ct, rfl, kt _ _ hb1, kt _ _ (w2 _ _ hct1)⟩ .nil)
      · have hall' : allG f p.gs = false := by simpa using hall
        refine ⟨_, rfl, false, by rw [hall'], iteF ?_⟩
        refine ⟨_, _, _, _, _, _, _, _, xs, rfl, sx, hax, hDx, ?_⟩
        rw [tkp]
        have : rdP f p = [] := by unfold rdP; rw [if_neg hall]
        rw [this, List.append_nil]
        exact rx
    · rintro σ X ⟨o3, o4, o6, o7, o8, o9, o10, o11, xs, rfl, sx, hax, hDx, rx⟩
      rw [lpv, List.take_length] at rx
      refine ⟨_, rfl, k D xs X D0 sx hDx ?_⟩
      unfold dueL
      rw [if_neg hw, hf]
      exact rx
end
end My

set_option Elab.async false
set_option linter.all false
set_option maxRecDepth 100000
set_option maxHeartbeats 4000000
namespace My
open PySem L2
local macro_rules | `(tactic| walk_at "lk") => `(tactic| first | with_reducible exact lk0 | (refine lk1 (by decide +kernel) ?_; walk_at "lk") | rfl)
/-! ### terms of pieces -/
structure TmOk (BD : List Str) (T : Tm) (n : Nat) : Prop where
  gd : Gd T
  dp : dep T ≤ n
  fv : ∀ x, Fv T x → x ∈ BD
  ax : Axs BD T
/-- a term that reads just the pieces -/
structure TmR (BD : List Str) (T : Tm) (n : Nat) (ps : List Pc) : Prop extends TmOk BD T n where
  rds : ∀ len f, rd len T f = ps.flatMap (rdP f)
theorem TmOk.num (BD : List Str) (z : Int) {n : Nat} (h : 1 ≤ n) : TmOk BD (.num z) n := ⟨True.intro, h, fun x hx => hx.elim, True.intro⟩
/-- a piece with some of its guards -/
structure TmG (BD : List Str) (T : Tm) (p : Pc) (j : Nat) : Prop extends TmOk BD T (j + 1) where
  rds : ∀ len f, rd len T f = if allG f (p.gs.take j) = true then [(p.arr, cellM f p.ix)] else []
theorem TmG.start {BD : List Str} {p : Pc} (h : PcIn BD p) : TmG BD (.read p.arr p.ix) p 0 where
  gd := by have := h.lx; show p.ix.length ≤ 100; omega
  dp := Nat.le_refl _
  fv := fun x ⟨hn, e, he, ex⟩ => by
    rcases h.ix e he with z | z
    · rw [ex] at z; exact absurd z hn
    · rw [← ex]; exact z
  ax := h.ix
  rds := fun len f => by rw [List.take_zero]; rfl
theorem TmG.step {BD : List Str} {T : Tm} {p : Pc} {j : Nat} {g : Str × Int × Int} (h : PcIn BD p) (t : TmG BD T p j) (hg : p.gs[j]? = some g) (z : Int) : TmG BD (.guard g.1 g.2.1 g.2.2 T (.num z)) p (j + 1) where
  gd := ⟨t.gd, True.intro⟩
  dp := by
    have := t.dp
    show max (dep T) 1 + 1 ≤ j + 1 + 1
    omega
  fv := fun x hx => by
    rcases hx with e | hx | hx
    · rw [e]; exact h.gs g (List.mem_of_getElem? hg)
    · exact t.fv x hx
    · exact hx.elim
  ax := ⟨h.gs g (List.mem_of_getElem? hg), t.ax, True.intro⟩
  rds := fun len f => by
    show (if g.2.1 ≤ f g.1 ∧ f g.1 < g.2.2 then rd len T f else []) = _
    rw [List.take_add_one, hg, Option.toList_some, allG_snoc, t.rds]
    by_cases hi : g.2.1 ≤ f g.1 ∧ f g.1 < g.2.2
    · rw [if_pos hi, decide_eq_true (show gIn f g from hi), Bool.and_true]
    · rw [if_neg hi, decide_eq_false (show ¬ gIn f g from hi), Bool.and_false]
      rfl
theorem TmG.full {BD : List Str} {T : Tm} {p : Pc} (h : TmG BD T p p.gs.length) : ∀ len f, rd len T f = rdP f p := fun len f => by
  rw [h.rds, List.take_length]
  rfl
theorem TmOk.le {BD : List Str} {T : Tm} {n m : Nat} (h : TmOk BD T n) (l : n ≤ m) : TmOk BD T m := ⟨h.gd, Nat.le_trans h.dp l, h.fv, h.ax⟩
theorem TmOk.pair {BD : List Str} {T U : Tm} {n : Nat} (o : Op3) (h : TmOk BD T n) (g : TmOk BD U n) : TmOk BD (.pair o T U) (n + 1) :=
  ⟨⟨h.gd, g.gd⟩, by have := h.dp; have := g.dp; show max (dep T) (dep U) + 1 ≤ n + 1; omega, fun x hx => hx.elim (h.fv x) (g.fv x), ⟨h.ax, g.ax⟩⟩
def sp_l_term_of (A : Adr) : Sp := fun vs H Q _ => ∃ (Pl : Addr) (pvs : List V) (ps : List Pc) (c : Int) (M : List Addr) (BD : List Str), vs = [.ref Pl, .int c] ∧ H Pl = some (.lst pvs) ∧ Paired (PcAt M H) pvs ps ∧ ps.length ≤ 3 ∧ (∀ p ∈ ps, PcIn BD p) ∧
  ∀ (v : V) (T : Tm) (H' : Hp), Same H H' → Ob A (restr (fun b => H b = none) H') v T → TmR BD T 10 ps → Q v H'
def StOk (kk : Nat) (e : Lw) (s : StM) : Prop := s.k = kk ∧ s.ce.length = e.own.length ∧ (s.wd ≠ "start" → s.tu.length = e.sums.length)
section
variable {P : Program} {w : World} {K : PySem.W.Frag} {mg : Str → Option Value} {base : Heap} {t : Adr}
theorem ok_l_term_of (T : Txt K mg t) : FnOk P w K mg base CX0 7 t.f_l_term_of t.d_l_term_of ["_law_pieces", "_law_cell"] (sp_l_term_of t) := by
  have G_Guard_init := ok_Guard_init (P := P) (w := w) (base := base) T
  have G_Number_init := ok_Number_init (P := P) (w := w) (base := base) T
  have G_Pair_init := ok_Pair_init (P := P) (w := w) (base := base) T
  have G_Read_init := ok_Read_init (P := P) (w := w) (base := base) T
  refine T.F_l_term_of.ok sc_l_term_of (fun vs H Q E h => ?_) (fun cdv A outer s H vs Q E hr h => ?_)
  · obtain ⟨Pl, pvs, ps, c, M, BD, rfl, _⟩ := h
    rfl
  · obtain ⟨Pl, pvs, ps, c, M, BD, rfl, hP, pcs, l3, pin, k⟩ := h
    have lpv := Paired.length pcs
    refine ⟨_, (pss_cons (ps_set (i := 2) sc_l_term_of.nd rfl (Or.inl rfl) (pe_make T.mk_Number G_Number_init (hr.mono (by omega)) rfl T.m_Number T.b_Number_init .nil pass0 (pa_cons (pe_op op_mod (pv 1) pe_int) pa_nil)))
      (pss_cons (ps_for PassesOwn.never rfl (pi_range1 rfl T.z_range (pa_cons (pe_callB call_len_seq (by rfl) T.z_len PySem.boot_len (pa_cons (pv 0) pa_nil)) pa_nil)) (pg_name (i := 3) sc_l_term_of.nd rfl (Or.inl rfl) (Or.inl rfl))
        (pss_cons (ps_asg (pe_ix ix_list (pv 0) (pv 3) (fun _ _ => rfl)) (pg_tup (n := 3) rfl (pgs_cons (pg_name (i := 4) sc_l_term_of.nd rfl (Or.inl rfl) (Or.inl rfl)) (pgs_cons (pg_name (i := 5) sc_l_term_of.nd rfl (Or.inl rfl) (Or.inl rfl)) (pgs_cons (pg_name (i := 6) sc_l_term_of.nd rfl (Or.inl rfl) (Or.inl rfl)) pgs_nil)))))
        (pss_cons (ps_set (i := 7) sc_l_term_of.nd rfl (Or.inl rfl) (pe_make T.mk_Read G_Read_init (hr.mono (by omega)) rfl T.m_Read T.b_Read_init .nil pass0 (pa_cons (pv 4) (pa_cons (pe_callTy call_list_of (by rfl) T.z_list PyProof.Rows.boot_list (pa_cons (pv 5) pa_nil)) pa_nil))))
        (pss_cons (ps_for PassesOwn.never rfl (pi_list (pv 6)) (pg_tup (n := 3) rfl (pgs_cons (pg_name (i := 8) sc_l_term_of.nd rfl (Or.inl rfl) (Or.inl rfl)) (pgs_cons (pg_name (i := 9) sc_l_term_of.nd rfl (Or.inl rfl) (Or.inl rfl)) (pgs_cons (pg_name (i := 10) sc_l_term_of.nd rfl (Or.inl rfl) (Or.inl rfl)) pgs_nil))))
          (pss_one (ps_set (i := 7) sc_l_term_of.nd rfl (Or.inl rfl) (pe_make T.mk_Guard G_Guard_init (hr.mono (by omega)) rfl T.m_Guard T.b_Guard_init .nil pass0 (pa_cons (pv 8) (pa_cons (pv 9) (pa_cons (pv 10) (pa_cons (pv 7) (pa_cons (pe_make T.mk_Number G_Number_init (hr.mono (by omega)) rfl T.m_Number T.b_Number_init .nil pass0 (pa_cons (pv 3) pa_nil)) pa_nil)))))))))
        (pss_one (ps_if (pt_cmpR op_eq (pv 3) pe_int (nomark _))
          (pss_one (ps_set (i := 2) sc_l_term_of.nd rfl (Or.inl rfl) (pv 7)))
          (pss_one (ps_if (pt_cmpR op_eq (pe_op op_mod (pe_op op_add (pv 1) (pv 3)) pe_int) pe_int (nomark _))
            (pss_one (ps_set (i := 2) sc_l_term_of.nd rfl (Or.inl rfl) (pe_make T.mk_Plus G_Pair_init (hr.mono (by omega)) rfl T.m_Plus T.b_Pair_init .nil pass0 (pa_cons (pv 2) (pa_cons (pv 7) pa_nil)))))
            (pss_one (ps_if (pt_cmpR op_eq (pe_op op_mod (pe_op op_add (pv 1) (pv 3)) pe_int) pe_int (nomark _))
              (pss_one (ps_set (i := 2) sc_l_term_of.nd rfl (Or.inl rfl) (pe_make T.mk_Minus G_Pair_init (hr.mono (by omega)) rfl T.m_Minus T.b_Pair_init .nil pass0 (pa_cons (pv 2) (pa_cons (pv 7) pa_nil)))))
              (pss_one (ps_set (i := 2) sc_l_term_of.nd rfl (Or.inl rfl) (pe_make T.mk_Times G_Pair_init (hr.mono (by omega)) rfl T.m_Times T.b_Pair_init .nil pass0 (pa_cons (pv 2) (pa_cons (pv 7) pa_nil)))))))))))))))
      (pss_one (ps_ret (pv 2))))), ?_⟩
    refine ⟨_, rfl, _, _, rfl, rfl, (by show (0 : Int) < 1000; decide), fun nx ndx hnx hndx hne1 => ⟨nx, _, ndx, _, rfl, upd_same, T.cl_Number, T.na_Number_number, rfl, ?_⟩⟩
    have u0 : Same H (upd (upd (upd H ndx (.own nx)) nx (.ins t.C_Number ndx [])) nx (.ins t.C_Number ndx [("number", .int (c % 1000))])) := same_made hnx hndx
    have h0 : upd (upd (upd H ndx (.own nx)) nx (.ins t.C_Number ndx [])) nx (.ins t.C_Number ndx [("number", .int (c % 1000))]) nx = some (.ins t.C_Number ndx [("number", .int (c % 1000))]) := upd_same
    generalize upd (upd (upd H ndx (.own nx)) nx (.ins t.C_Number ndx [])) nx (.ins t.C_Number ndx [("number", .int (c % 1000))]) = H1 at u0 h0 ⊢
    refine ⟨_, rfl, Pl, _, rfl, .inl (SqL.of (u0 _ _ hP)), _, rfl, by omega, by omega, ?_⟩
    refine for_range (n := pvs.length) (fun i σ G => ∃ (o3 o4 o5 o6 o7 o8 o9 o10 : Option V) (v : V) (Tt : Tm), σ = [some (.ref Pl), some (.int c), some v, o3, o4, o5, o6, o7, o8, o9, o10] ∧ Same H G ∧ Ob t (restr (fun b => H b = none) G) v Tt ∧ TmR BD Tt (5 + i) (ps.take i))
      ⟨none, none, none, none, none, none, none, none, .ref nx, .num (c % 1000), rfl, u0, .num (restr_mk hnx h0), ⟨TmOk.num BD _ (by omega), fun len f => by rw [List.take_zero]; rfl⟩⟩ ?_ ?_
    · rintro i σ G hi ⟨o3, o4, o5, o6, o7, o8, o9, o10, v, Tt, rfl, sg, ob, tr⟩
      have hxi : pvs[i]? = some pvs[i] := List.getElem?_eq_getElem hi
      obtain ⟨p, hp, pq, il, gl, iv, gv, epq, hpq, _, hil, _, hgl, ri, rg⟩ := pget pcs hxi
      have pi := pin p (List.mem_of_getElem? hp)
      have lgv := rg.len
      have liv := ri.len
      rw [List.length_map] at lgv liv
      have lg4 := pi.lg
      have lx8 := pi.lx
      have ei : atI pvs (0 + (i : Int)) = some (.ref pq) := by rw [Int.zero_add]; exact atI_nat (by rw [hxi, epq])
      refine ⟨_, rfl, _, rfl, Pl, _, _, _, rfl, rfl, SqL.of (sg _ _ hP), ei, pq, _, rfl, SqT.of (sg _ _ hpq), rfl, _, _, rfl, _, _, rfl, _, _, rfl, rfl, ?_⟩
      -- the read
      refine ⟨_, rfl, _, rfl, il, _, rfl, .inl (SqL.of (sg _ _ hil)), fun l2 hl2 x dx hx hdx hne => ?_⟩
      have v1 : Same G (upd G l2 (.lst iv)) := same_new hl2
      have hl21 : upd G l2 (.lst iv) l2 = some (.lst iv) := upd_same
      generalize upd G l2 (.lst iv) = G1 at v1 hl21 hx hdx ⊢
      have v2 : Same G1 (upd (upd G1 dx (.own x)) x (.ins t.C_Read dx [])) := same_fresh (same_new hdx) hx
      have hx2 : upd (upd G1 dx (.own x)) x (.ins t.C_Read dx []) x = some (.ins t.C_Read dx []) := upd_same
      generalize upd (upd G1 dx (.own x)) x (.ins t.C_Read dx []) = G2 at v2 hx2 ⊢
      have s2 := sg.trans (v1.trans v2)
      refine ⟨x, dx, l2, p.arr, p.ix, rfl, hx2, .lst (v2 _ _ hl21) ((ri.same (th_sm s2)).same (th_same _)), by omega, fun l' G3 hx3 rp3 kb3 => ⟨rfl, ?_⟩⟩
      have v3 : Same G1 G3 := fun b o e => kb3 b o (ne_of_none e hx) (v2 _ _ e)
      have s3 := sg.trans (v1.trans v3)
      have ob3 := ob.imp (restr_same (S := fun b => H b = none) (v1.trans v3))
      have xH : H x = none := (sg.trans v1).free hx
      -- its guards
      refine ⟨_, rfl, gl, rfl, ⟨_, SqL.of (s3 _ _ hgl)⟩, ?_⟩
      refine for_list (K := K) (a := gl) (xs := gv) (fun j σ X => ∃ (o8 o9 o10 : Option V) (v7 : V) (T7 : Tm), σ = [some (.ref Pl), some (.int c), some v, some (.int (0 + (i : Int))), some (.str p.arr), some (.ref il), some (.ref gl), some v7, o8, o9, o10] ∧ Same G3 X ∧ Ob t (restr (fun b => H b = none) X) v7 T7 ∧ TmG BD T7 p j)
        ⟨_, _, _, .ref x, .read p.arr p.ix, rfl, Same.refl _, .read (restr_mk xH hx3) (rp3.same (restr_imp (Same.refl _) fun a o _ h => s2.free h)), TmG.start pi⟩ (fun j σ X _ ⟨_, _, _, _, _, _, sx, _⟩ => SqL.of (sx _ _ (s3 _ _ hgl))) ?_ ?_
      · rintro j y σ X hy ⟨o8', o9', o10', v7, T7, rfl, sx, ob7, tg⟩
        obtain ⟨gg, hgg, ry⟩ := reps_of rg hy
        obtain ⟨gb, rfl, hgb⟩ := rep_G (ry.same (th_same H))
        refine ⟨gb, _, rfl, SqT.of ((s3.trans sx) _ _ hgb), rfl, _, _, rfl, _, _, rfl, _, _, rfl, rfl, ?_⟩
        refine ⟨_, rfl, _, rfl, _, rfl, _, rfl, _, rfl, fun n2 n2d hn2 hn2d hne2 => ⟨n2, _, n2d, _, rfl, upd_same, T.cl_Number, T.na_Number_number, rfl, ?_⟩⟩
        have y1 : Same X (upd (upd (upd X n2d (.own n2)) n2 (.ins t.C_Number n2d [])) n2 (.ins t.C_Number n2d [("number", .int (0 + (i : Int)))])) := same_made hn2 hn2d
        have hn21 : upd (upd (upd X n2d (.own n2)) n2 (.ins t.C_Number n2d [])) n2 (.ins t.C_Number n2d [("number", .int (0 + (i : Int)))]) n2 = some (.ins t.C_Number n2d [("number", .int (0 + (i : Int)))]) := upd_same
        generalize upd (upd (upd X n2d (.own n2)) n2 (.ins t.C_Number n2d [])) n2 (.ins t.C_Number n2d [("number", .int (0 + (i : Int)))]) = X1 at y1 hn21 ⊢
        refine fun gx gdx hgx hgdx hne3 => ⟨gx, gdx, _, _, _, _, _, rfl, upd_same, rfl, ?_⟩
        have y2 := same_made (u := .ins t.C_Guard gdx []) (o := .own gx) (v := .ins t.C_Guard gdx [("axis", .str gg.1), ("low", .int gg.2.1), ("high", .int gg.2.2), ("inner", v7), ("outer", .ref n2)]) hgx hgdx
        exact ⟨_, _, _, .ref gx, _, rfl, sx.trans (y1.trans y2), .guard (restr_mk ((s3.trans (sx.trans y1)).free hgx) upd_same) ((ob7.imp (restr_same y1)).imp (restr_same y2)) (.num (restr_mk ((s3.trans sx).free hn2) (y2 _ _ hn21))), tg.step pi hgg _⟩
      rintro σ X ⟨o8', o9', o10', v7, T7, rfl, sx, ob7, tg⟩
      rw [lgv] at tg
      have sX := s3.trans sx
      have obX := ob3.imp (restr_same (S := fun b => H b = none) sx)
      have full := tg.full
      have t5 : TmOk BD T7 (5 + i) := tg.toTmOk.le (by omega)
      have tk : ps.take (i + 1) = ps.take i ++ [p] := by rw [List.take_add_one, hp, Option.toList_some]
      have joined : ∀ (o : Op3), TmR BD (.pair o Tt T7) (5 + (i + 1)) (ps.take (i + 1)) := fun o => ⟨tr.toTmOk.pair o t5, fun len f => by
        show rd len Tt f ++ rd len T7 f = _
        rw [tr.rds, full, tk, List.flatMap_append, List.flatMap_singleton]⟩
      have mk : ∀ (o : Op3) (C : Addr), clsOf t o = C → ∀ (z zd : Addr), X z = none → X zd = none → ∃ (o3 o4 o5 o6 o7 o8 o9 o10 : Option V) (v' : V) (Tt : Tm), [some (V.ref Pl), some (.int c), some (.ref z), some (.int (0 + (i : Int))), some (.str p.arr), some (.ref il), some (.ref gl), some v7, o8', o9', o10'] = [some (.ref Pl), some (.int c), some v', o3, o4, o5, o6, o7, o8, o9, o10] ∧ Same H (upd (upd (upd X zd (.own z)) z (.ins C zd [])) z (.ins C zd [("left", v), ("right", v7)])) ∧ Ob t (restr (fun b => H b = none) (upd (upd (upd X zd (.own z)) z (.ins C zd [])) z (.ins C zd [("left", v), ("right", v7)]))) v' Tt ∧ TmR BD Tt (5 + (i + 1)) (ps.take (i + 1)) := fun o C hC z zd hz hzd => by
        have y3 := same_made (u := .ins C zd []) (o := .own z) (v := .ins C zd [("left", v), ("right", v7)]) hz hzd
        subst hC
        exact ⟨_, _, _, _, _, _, _, _, .ref z, .pair o Tt T7, rfl, sX.trans y3, .pair (restr_mk (sX.free hz) upd_same) (obX.imp (restr_same y3)) (ob7.imp (restr_same y3)), joined o⟩
      refine ⟨_, rfl, rfl, _, rfl, iteD (fun h0 => ?_) (fun _ => ?_)⟩
      · have i0 : i = 0 := by
          have h0 : V.int (0 + (i : Int)) = V.int 0 := h0
          injection h0
          omega
        subst i0
        refine ⟨_, rfl, _, _, _, _, _, _, _, _, v7, T7, rfl, sX, ob7, t5.le (by omega), fun len f => ?_⟩
        rw [full, tk]
        simp
      refine ⟨_, rfl, _, rfl, _, _, rfl, rfl, _, _, rfl, rfl, (by show (0 : Int) < 3; decide), rfl, _, rfl, iteD (fun _ => ?_) (fun _ => ?_)⟩
      · exact ⟨_, rfl, _, rfl, fun z zd hz hzd hne4 => ⟨z, _, zd, _, _, rfl, upd_same, T.cl_Plus, T.na_Plus_left, T.na_Plus_right, rfl, mk .plus _ rfl z zd hz hzd⟩⟩
      refine ⟨_, rfl, _, rfl, _, _, rfl, rfl, _, _, rfl, rfl, (by show (0 : Int) < 3; decide), rfl, _, rfl, iteD (fun _ => ?_) (fun _ => ?_)⟩
      · exact ⟨_, rfl, _, rfl, fun z zd hz hzd hne4 => ⟨z, _, zd, _, _, rfl, upd_same, T.cl_Minus, T.na_Minus_left, T.na_Minus_right, rfl, mk .minus _ rfl z zd hz hzd⟩⟩
      · exact ⟨_, rfl, _, rfl, fun z zd hz hzd hne4 => ⟨z, _, zd, _, _, rfl, upd_same, T.cl_Times, T.na_Times_left, T.na_Times_right, rfl, mk .times _ rfl z zd hz hzd⟩⟩
    · rintro σ G ⟨o3, o4, o5, o6, o7, o8, o9, o10, v, Tt, rfl, sg, ob, tr⟩
      rw [lpv] at tr
      rw [List.take_length] at tr
      exact ⟨_, rfl, k v Tt G sg ob ⟨tr.toTmOk.le (by omega), tr.rds⟩⟩
end
end My

set_option Elab.async false
set_option linter.all false
set_option maxRecDepth 100000
set_option maxHeartbeats 4000000
namespace My
open PySem L2
local macro_rules | `(tactic| walk_at "lk") => `(tactic| first | with_reducible exact lk0 | (refine lk1 (by decide +kernel) ?_; walk_at "lk") | rfl)
abbrev SzL (lk : List (Key × V)) (ys : List Str) (ls : List Int) : Prop := Paired (fun (y : Str) (n : Int) => valV lk (Sum.inr y) = some (.int n)) ys ls
def StsAt (H : Hp) (kk : Nat) (e : Lw) (xs : List V) : Prop := ∀ x ∈ xs, ∃ s, StAt H x s ∧ StOk kk e s
theorem StAt.kt {H H' : Hp} {v : V} {s : StM} (h : StAt H v s) (k : KT H H') : StAt H' v s := by
  obtain ⟨b, c, u, rfl, h1, h2, h3⟩ := h
  exact ⟨b, c, u, rfl, k _ _ h1, k _ _ h2, k _ _ h3⟩
theorem StsAt.kt {H H' : Hp} {kk : Nat} {e : Lw} {xs : List V} (h : StsAt H kk e xs) (k : KT H H') : StsAt H' kk e xs := fun x hx => by
  obtain ⟨s, a, b⟩ := h x hx
  exact ⟨s, a.kt k, b⟩
theorem StsAt.app {H : Hp} {kk : Nat} {e : Lw} {xs ys : List V} (h : StsAt H kk e xs) (g : StsAt H kk e ys) : StsAt H kk e (xs ++ ys) := fun x hx => (List.mem_append.mp hx).elim (h x) (g x)
theorem StsAt.one {H : Hp} {kk : Nat} {e : Lw} {x : V} {s : StM} (h : StAt H x s) (o : StOk kk e s) : StsAt H kk e [x] := fun y hy => by rw [List.mem_singleton.mp hy]; exact ⟨s, h, o⟩
def sp_l_steps_by : Sp := fun vs H Q _ => ∃ (kk : Nat) (v : V) (ld : Addr) (e : Lw) (lk : List (Key × V)) (so ss : List Int) (M : List Addr), vs = [.int (kk : Nat), v, .ref ld] ∧ LwAt M H v e ∧ H ld = some (.dK lk) ∧ SzL lk e.own so ∧ SzL lk e.sums ss ∧ (∀ n ∈ so, 1 ≤ n ∧ n ≤ 60) ∧ (∀ n ∈ ss, 1 ≤ n ∧ n ≤ 60) ∧ prN so ≤ 200 ∧ prN ss ≤ 200 ∧ e.own.length ≤ 8 ∧ e.sums.length ≤ 8 ∧ OkS e.sums ∧
  ∀ (D : Addr) (xs : List V) (H' : Hp), H D = none → Same H H' → H' D = some (.lst xs) → StsAt H' kk e xs → xs.length ≤ 100000 → Q (.ref D) H'
section
variable {P : Program} {w : World} {K : PySem.W.Frag} {mg : Str → Option Value} {base : Heap} {t : Adr}
theorem ok_l_steps_by (T : Txt K mg t) : FnOk P w K mg base CX0 2 t.f_l_steps_by t.d_l_steps_by ["_law_k", "_law_line", "_law_lengths"] sp_l_steps_by := by
  have G_l_cells := ok_l_cells (P := P) (w := w) (base := base) T
  refine T.F_l_steps_by.ok sc_l_steps_by (fun vs H Q E h => ?_) (fun cdv A outer s H vs Q E hr h => ?_)
  · obtain ⟨kk, v, ld, e, lk, so, ss, M, rfl, _⟩ := h
    rfl
  · obtain ⟨kk, v, ld, e, lk, so, ss, M, rfl, ⟨q, O, S, Pl, pvs, rfl, hq, _, hO, _, hS, _, hP, _⟩, hld, szo, szs, po, ps, pro, prs', lo, ls, oks, k⟩ := h
    refine ⟨_, (pss_cons (ps_set (i := 3) sc_l_steps_by.nd rfl (Or.inl rfl) (pe_lst pa_nil))
      (pss_cons (ps_for PassesOwn.never rfl (pi_list (pe_call G_l_cells (hr.mono (by omega)) rfl T.m_l_cells T.F_l_cells.kp T.b_l_cells .nil pass0 (pa_cons (pe_ix ix_tup (pv 1) pe_int (fun _ _ => rfl)) (pa_cons (pv 2) pa_nil)))) (pg_name (i := 4) sc_l_steps_by.nd rfl (Or.inr rfl) (Or.inl rfl))
        (pss_one (ps_if (pt_cmpR (op_eqD hr.units) (pe_ix ix_tup (pv 1) pe_int (fun _ _ => rfl)) (pe_lst pa_nil) (nomark _))
          (pss_one (ps_expr (pe_bm PySem.F.plainAttrs_list PySem.F.slot_list_append PySem.F.type_list_append mt_append (pv 3) (pa_cons (pe_tup (pa_cons (pv 0) (pa_cons pe_str (pa_cons (pv 4) (pa_cons (pe_tup pa_nil) pa_nil))))) pa_nil))))
          (pss_cons (ps_expr (pe_bm PySem.F.plainAttrs_list PySem.F.slot_list_append PySem.F.type_list_append mt_append (pv 3) (pa_cons (pe_tup (pa_cons (pv 0) (pa_cons pe_str (pa_cons (pv 4) (pa_cons (pe_tup pa_nil) pa_nil))))) pa_nil)))
          (pss_one (ps_expr (pe_bm PySem.F.plainAttrs_list PySem.F.slot_list_extend PySem.F.type_list_extend mt_extend (pv 3) (pa_cons (pe_comp (N' := ["_law_turn", "_law_cell", "_law_k"]) (ix := (List.replicate 1 none ++ [some 4, some 0])) rfl (clok_many (cl := [("_law_k", _), ("_law_cell", _)]) (xs := ["_law_k", "_law_cell"]) rfl ⟨rfl, rfl, trivial⟩ rfl rfl (by decide +kernel) (by decide +kernel)) (ixok_many (N0 := ["_law_turn"]) (xs := ["_law_cell", "_law_k"]) (js := [4, 0]) ⟨⟨rfl, Or.inl rfl, (by first | exact Or.inl rfl | exact Or.inr rfl | (simp [relabel]; rfl) | (with_unfolding_all exact Or.inl rfl) | (with_unfolding_all exact Or.inr rfl) | (with_unfolding_all decide))⟩, ⟨rfl, Or.inl rfl, (by first | exact Or.inl rfl | exact Or.inr rfl | (simp [relabel]; rfl) | (with_unfolding_all exact Or.inl rfl) | (with_unfolding_all exact Or.inr rfl) | (with_unfolding_all decide))⟩, trivial⟩) (pi_list (pe_call G_l_cells (hr.mono (by omega)) rfl T.m_l_cells T.F_l_cells.kp T.b_l_cells .nil pass0 (pa_cons (pe_ix ix_tup (pv 1) pe_int (fun _ _ => rfl)) (pa_cons (pv 2) pa_nil)))) (fun _ _ _ _ => (pg_name (i := 0) nd_comp_5 rfl (Or.inl rfl) (Or.inr rfl))) (fun _ _ _ _ => (pe_tup (pa_cons (pv 2) (pa_cons pe_str (pa_cons (pv 1) (pa_cons (pv 0) pa_nil))))))) pa_nil))))))))
      (pss_one (ps_ret (pv 3))))), ?_⟩
    refine ⟨line_le (by simp), fun L hL => ?_⟩
    have s1 : Same H (upd H L (.lst [])) := same_new hL
    have hL1 : upd H L (.lst []) L = some (.lst []) := upd_same
    generalize upd H L (.lst []) = H1 at s1 hL1 ⊢
    refine ⟨_, rfl, q, _, _, _, rfl, rfl, SqT.of (s1 _ _ hq), atI_nat (j := 1) rfl, _, rfl, O, ld, e.own, lk, so, rfl, s1 _ _ hO, s1 _ _ hld, szo, po, pro, lo, fun cq cv H2 hcq s2 hcv cs lcv => ?_⟩
    have s02 := s1.trans s2
    have hL2 := s2 _ _ hL1
    have cL : cq ≠ L := fun z => by rw [z, hL1] at hcq; cases hcq
    refine ⟨cq, rfl, ⟨_, SqL.of hcv⟩, ?_⟩
    refine for_list (K := K) (a := cq) (xs := cv) (fun j σ G => ∃ (o4 : Option V) (zs : List V), σ = [some (.int (kk : Nat)), some (.ref q), some (.ref ld), some (.ref L), o4] ∧ KB L H2 G ∧ G L = some (.lst zs) ∧ StsAt G kk e zs ∧ zs.length ≤ j * 201)
      ⟨none, [], rfl, KB.refl, hL2, (by intro x hx; cases hx), by simp⟩ (fun j σ G _ ⟨_, _, _, kb, _⟩ => SqL.of (kb _ _ cL hcv)) ?_ ?_
    · rintro j x σ G hx ⟨o4, zs, rfl, kb, hLg, sts, lz⟩
      obtain ⟨pc, c, rfl, hpc, lc⟩ := cs x (List.mem_of_getElem? hx)
      have hj : j < cv.length := (List.getElem?_eq_some_iff.mp hx).1
      have hpcg : G pc = some (.tup (c.map V.int)) := kb _ _ (ne_of hpc hL2 (by intro z; cases z)) hpc
      have sg : Same H G := KB.same s02 kb hL
      refine ⟨_, rfl, q, _, _, _, rfl, rfl, SqT.of (sg _ _ hq), atI_nat (j := 2) rfl, line_le (by simp), fun n0 hn0 => ?_⟩
      have t0 : Same G (upd G n0 (.lst [])) := same_new hn0
      have hn1 : upd G n0 (.lst []) n0 = some (.lst (([] : List Str).map V.str)) := upd_same
      generalize upd G n0 (.lst []) = G1 at t0 hn1 ⊢
      refine ⟨encS e.sums, encS [], S_rep ((sg.trans t0) _ _ hS), S_rep hn1, shaped_of (encS_lay oks) (by have := (encS_ok e.sums).1; omega), rfl, _, rfl, ?_⟩
      rw [eqv_nil]
      refine iteD (fun hz => ?_) (fun hz => ?_)
      · refine ⟨_, rfl, .inl ⟨rfl, _, SqL.of (t0 _ _ hLg)⟩, _, rfl, _, rfl, line_le (by simp), fun e0 he0 => ⟨line_le (by simp), fun b hb => ?_⟩⟩
        have t1 : Same G1 (upd G1 e0 (.tup [])) := same_new he0
        have h01 : upd G1 e0 (.tup []) e0 = some (.tup (([] : List Int).map V.int)) := upd_same
        generalize upd G1 e0 (.tup []) = G2 at t1 h01 hb ⊢
        have t2 : Same G2 (upd G2 b (.tup [.int (kk : Nat), .str "set", .ref pc, .ref e0])) := same_new hb
        have hb2 : upd G2 b (.tup [.int (kk : Nat), .str "set", .ref pc, .ref e0]) b = some (.tup [.int (kk : Nat), .str "set", .ref pc, .ref e0]) := upd_same
        generalize upd G2 b (.tup [.int (kk : Nat), .str "set", .ref pc, .ref e0]) = G3 at t2 hb2 ⊢
        have t02 := t0.trans (t1.trans t2)
        refine ⟨L, _, _, rfl, rfl, t02 _ _ hLg, line_lt (by omega), ?_⟩
        have kt : KT G3 (upd G3 L (.lst (zs ++ [.ref b]))) := KT.at (t02 _ _ hLg) (by intro xs z; cases z)
        refine ⟨_, zs ++ [.ref b], rfl, (kb.trans (KB.of t02)).upd, upd_same, ?_, by rw [List.length_append, List.length_singleton]; omega⟩
        exact (sts.kt ((KT.same t02).trans kt)).app (StsAt.one (s := ⟨kk, "set", c, []⟩) ⟨b, pc, e0, rfl, kt _ _ hb2, kt _ _ (t02 _ _ hpcg), kt _ _ (t2 _ _ h01)⟩ ⟨rfl, lc, fun _ => by rw [hz]; rfl⟩)
      · refine ⟨_, rfl, .inl ⟨rfl, _, SqL.of (t0 _ _ hLg)⟩, _, rfl, _, rfl, line_le (by simp), fun e0 he0 => ⟨line_le (by simp), fun b hb => ?_⟩⟩
        have t1 : Same G1 (upd G1 e0 (.tup [])) := same_new he0
        have h01 : upd G1 e0 (.tup []) e0 = some (.tup (([] : List Int).map V.int)) := upd_same
        generalize upd G1 e0 (.tup []) = G2 at t1 h01 hb ⊢
        have t2 : Same G2 (upd G2 b (.tup [.int (kk : Nat), .str "start", .ref pc, .ref e0])) := same_new hb
        have hb2 : upd G2 b (.tup [.int (kk : Nat), .str "start", .ref pc, .ref e0]) b = some (.tup [.int (kk : Nat), .str "start", .ref pc, .ref e0]) := upd_same
        generalize upd G2 b (.tup [.int (kk : Nat), .str "start", .ref pc, .ref e0]) = G3 at t2 hb2 ⊢
        have t02 := t0.trans (t1.trans t2)
        refine ⟨L, _, _, rfl, rfl, t02 _ _ hLg, line_lt (by omega), ?_⟩
        have kt : KT G3 (upd G3 L (.lst (zs ++ [.ref b]))) := KT.at (t02 _ _ hLg) (by intro xs z; cases z)
        have kb4 : KB L H2 (upd G3 L (.lst (zs ++ [.ref b]))) := (kb.trans (KB.of t02)).upd
        have hL4 : upd G3 L (.lst (zs ++ [.ref b])) L = some (.lst (zs ++ [.ref b])) := upd_same
        have sts4 : StsAt (upd G3 L (.lst (zs ++ [.ref b]))) kk e (zs ++ [.ref b]) := (sts.kt ((KT.same t02).trans kt)).app (StsAt.one (s := ⟨kk, "start", c, []⟩) ⟨b, pc, e0, rfl, kt _ _ hb2, kt _ _ (t02 _ _ hpcg), kt _ _ (t2 _ _ h01)⟩ ⟨rfl, lc, fun z => absurd rfl z⟩)
        have hpc4 := kt _ _ (t02 _ _ hpcg)
        generalize upd G3 L (.lst (zs ++ [.ref b])) = G4 at kb4 hL4 sts4 hpc4 ⊢
        have s4 : Same H G4 := KB.same s02 kb4 hL
        refine ⟨_, rfl, .inl ⟨rfl, _, SqL.of hL4⟩, _, rfl, q, _, _, _, rfl, rfl, SqT.of (s4 _ _ hq), atI_nat (j := 2) rfl, _, rfl, S, ld, e.sums, lk, ss, rfl, s4 _ _ hS, s4 _ _ hld, szs, ps, prs', ls, fun tq tv H5 htq s5 htv ts ltv => ⟨tq, rfl, ⟨_, SqL.of htv⟩, fun D hD => ?_⟩⟩
        refine comp_listQ (K := K) (a := tq) (D := D) (xs := tv) (fun m ys H6 => Same H5 H6 ∧ H6 D = some (.lst ys) ∧ StsAt H6 kk e ys ∧ ys.length = m) ⟨same_new hD, upd_same, (by intro x hx; cases hx), rfl⟩ (fun m ys H6 ⟨s6, _⟩ => SqL.of (s6 _ _ htv)) ?_ ?_
        · rintro m y ys H6 hy ⟨s6, hD6, st6, l6⟩
          obtain ⟨pt, u, rfl, hpt, lu⟩ := ts y (List.mem_of_getElem? hy)
          have hm : m < tv.length := (List.getElem?_eq_some_iff.mp hy).1
          refine ⟨⟨rfl, rfl, True.intro⟩, _, rfl, _, rfl, _, rfl, line_le (by simp), fun b2 hb2' => ?_⟩
          have w1 : Same H6 (upd H6 b2 (.tup [.int (kk : Nat), .str "add", .ref pc, .ref pt])) := same_new hb2'
          have hb3 : upd H6 b2 (.tup [.int (kk : Nat), .str "add", .ref pc, .ref pt]) b2 = some (.tup [.int (kk : Nat), .str "add", .ref pc, .ref pt]) := upd_same
          generalize upd H6 b2 (.tup [.int (kk : Nat), .str "add", .ref pc, .ref pt]) = H7 at w1 hb3 ⊢
          refine ⟨w1 _ _ hD6, line_lt (by omega), same_fresh (s6.trans w1) hD, upd_same, ?_, by simp [l6]⟩
          have kt7 : KT H7 (upd H7 D (.lst (ys ++ [.ref b2]))) := KT.at (w1 _ _ hD6) (by intro xs z; cases z)
          exact (st6.kt ((KT.same w1).trans kt7)).app (StsAt.one (s := ⟨kk, "add", c, u⟩) ⟨b2, pc, pt, rfl, kt7 _ _ hb3, kt7 _ _ ((s5.trans (s6.trans w1)) _ _ hpc4), kt7 _ _ ((s6.trans w1) _ _ hpt)⟩ ⟨rfl, lc, fun _ => lu⟩)
        · rintro ys H6 ⟨s6, hD6, st6, l6⟩
          have s46 := s5.trans s6
          have bj : j * 201 ≤ 200 * 201 := Nat.mul_le_mul_right _ (by omega)
          refine ⟨L, D, _, _, rfl, rfl, s46 _ _ hL4, hD6, line_le (by rw [List.length_append, List.length_singleton]; omega), ?_⟩
          have kt8 : KT H6 (upd H6 L (.lst (zs ++ [.ref b] ++ ys))) := KT.at (s46 _ _ hL4) (by intro xs z; cases z)
          refine ⟨_, zs ++ [.ref b] ++ ys, rfl, (kb4.trans (KB.of s46)).upd, upd_same, (sts4.kt ((KT.same s46).trans kt8)).app (st6.kt kt8), by rw [List.length_append, List.length_append, List.length_singleton]; omega⟩
    · rintro σ G ⟨o4, zs, rfl, kb, hLg, sts, lz⟩
      have bj : cv.length * 201 ≤ 200 * 201 := Nat.mul_le_mul_right _ lcv
      exact ⟨_, rfl, k L zs G hL (KB.same s02 kb hL) hLg sts (by omega)⟩
end
end My

set_option Elab.async false
set_option linter.all false
set_option maxRecDepth 100000
set_option maxHeartbeats 4000000
namespace My
open PySem L2
local macro_rules | `(tactic| walk_at "lk") => `(tactic| first | with_reducible exact lk0 | (refine lk1 (by decide +kernel) ?_; walk_at "lk") | rfl)
theorem valV_some {kvs : List (Key × V)} {k : Key} {p : Key × V} (hp : p ∈ kvs) (hk : p.1 = k) : (valV kvs k).isSome = true := by
  unfold valV
  rw [Option.isSome_map, List.find?_isSome]
  exact ⟨p, hp, by simp [hk]⟩
/-- the list of an array's axes is where its name leads -/
theorem ar_val {S : Addr → Prop} {H : Hp} {kvs : List (Key × V)} {es : List (Str × List Str)} (h : AR S H kvs es) {e : Str × List Str} (he : e ∈ es) : ∃ (l : Addr) (e' : Str × List Str), valV kvs (Sum.inr e.1) = some (.ref l) ∧ e' ∈ es ∧ e'.1 = e.1 ∧ H l = some (.lst (e'.2.map V.str)) := by
  obtain ⟨i, hi⟩ := List.getElem?_of_mem he
  have hlt : i < kvs.length := by rw [Paired.length h]; exact (List.getElem?_eq_some_iff.mp hi).1
  have hx : kvs[i]? = some kvs[i] := List.getElem?_eq_getElem hlt
  obtain ⟨e2, he2, k2, _⟩ := pget h hx
  rw [hi] at he2
  cases he2
  obtain ⟨v, hv⟩ := Option.isSome_iff_exists.mp (valV_some (List.mem_of_getElem? hx) k2)
  obtain ⟨p, hp, pk, rfl⟩ := valV_mem hv
  obtain ⟨j, hj⟩ := List.getElem?_of_mem hp
  obtain ⟨e', he', k', l, el, _, hl⟩ := pget h hj
  rw [pk] at k'
  refine ⟨l, e', by rw [hv, el], List.mem_of_getElem? he', ?_, hl⟩
  injection k' with k'
  exact k'.symm
/-- all of these axes have a length -/
def DkOk (lk : List (Key × V)) (ys : List Str) : Prop := ∀ y ∈ ys, ∃ n : Int, valV lk (Sum.inr y) = some (.int n) ∧ 1 ≤ n ∧ n ≤ 60
structure ArOk (lk : List (Key × V)) (es : List (Str × List Str)) : Prop where
  ne : es ≠ []
  dk : ∀ e ∈ es, DkOk lk e.2
  l4 : ∀ e ∈ es, e.2.length ≤ 4
  ok : ∀ e ∈ es, PyData.strOk e.1 = true
  few : es.length ≤ 900
theorem okn_oks {xs : List Str} (h : OkN xs) : OkS xs := fun x hx => (h x hx).1
def sp_l_piece_by : Sp := fun vs H Q _ => ∃ (c : Int) (ad ld q O S : Addr) (ak lk : List (Key × V)) (es : List (Str × List Str)) (nm : Str) (own sums : List Str) (rest : List V) (Z : Addr → Prop), vs = [.int c, .ref ad, .ref ld, .ref q] ∧ H ad = some (.dK ak) ∧ AR Z H ak es ∧ H ld = some (.dK lk) ∧ ArOk lk es ∧
  H q = some (.tup (.str nm :: .ref O :: .ref S :: rest)) ∧ H O = some (.lst (own.map V.str)) ∧ H S = some (.lst (sums.map V.str)) ∧ DkOk lk (own ++ sums) ∧ OkN (own ++ sums) ∧ own.length ≤ 4 ∧ sums.length ≤ 4 ∧ PyData.strOk nm = true ∧
  ∀ (z : Addr) (p : Pc) (H' : Hp), Same H H' → (∀ M : List Addr, (∀ b ∈ M, H b ≠ none) → PcAt M H' (.ref z) p) → PcIn (own ++ sums) p → Q (.ref z) H'
/-- the piece so far -/
structure PB (H G : Hp) (I D : Addr) (iv gv : List V) (BD : List Str) (ix : List (Str × Int)) (gs : List (Str × Int × Int)) (n : Nat) : Prop where
  sm : Same H G
  hI : G I = some (.lst iv)
  hD : G D = some (.lst gv)
  ri : Reps (TH G) iv (ix.map encI)
  rg : Reps (TH G) gv (gs.map encG)
  li : ix.length = n
  lg : gs.length ≤ n
  bi : ∀ e ∈ ix, e.1 = "" ∨ e.1 ∈ BD
  bg : ∀ g ∈ gs, g.1 ∈ BD
section
variable {P : Program} {w : World} {K : PySem.W.Frag} {mg : Str → Option Value} {base : Heap} {t : Adr}
theorem ok_l_piece_by (T : Txt K mg t) : FnOk P w K mg base CX0 2 t.f_l_piece_by t.d_l_piece_by ["_law_cell", "_law_arrays", "_law_lengths", "_law_line"] sp_l_piece_by := by
  have G_l_index_by := ok_l_index_by (P := P) (w := w) (base := base) T
  have G_l_mix := ok_l_mix (P := P) (w := w) (base := base) T
  refine T.F_l_piece_by.ok sc_l_piece_by (fun vs H Q E h => ?_) (fun cdv A outer s H vs Q E hr h => ?_)
  · obtain ⟨c, ad, ld, q, O, S, ak, lk, es, nm, own, sums, rest, Z, rfl, _⟩ := h
    rfl
  · obtain ⟨c, ad, ld, q, O, S, ak, lk, es, nm, own, sums, rest, Z, rfl, had, ar, hld, aok, hq, hO, hS, dk, okn, lo, ls, oknm, k⟩ := h
    have hu := hu_of hr
    have lak := Paired.length ar
    have few := aok.few
    have ne0 : 0 < es.length := by
      have := aok.ne
      rcases es with _ | _
      · exact absurd rfl this
      · simp
    refine ⟨_, (pss_cons (ps_set (i := 4) sc_l_piece_by.nd rfl (Or.inl rfl) (pe_call G_l_mix (hr.mono (by omega)) rfl T.m_l_mix T.F_l_mix.kp T.b_l_mix .nil pass0 (pa_cons (pv 0) (pa_cons pe_int pa_nil))))
      (pss_cons (ps_set (i := 5) sc_l_piece_by.nd rfl (Or.inl rfl) (pe_ix ix_list (pe_thawV (pe_comp (N' := ["_law_name"]) (ix := (List.replicate 1 none)) rfl (clok_none rfl (by decide +kernel) (by decide +kernel)) (ixok_none rfl) (pi_dict (pv 1)) (fun _ _ _ _ => (pg_name (i := 0) nd_comp_2 rfl (Or.inl rfl) (Or.inr rfl))) (fun _ _ _ _ => (pv 0)))) (pe_op op_mod (pv 4) (pe_callB call_lenD (by rfl) T.z_len PySem.boot_len (pa_cons (pv 1) pa_nil))) (fun _ _ => rfl)))
      (pss_cons (ps_set (i := 6) sc_l_piece_by.nd rfl (Or.inl rfl) (pe_dget hu (pv 1) (pv 5) (fun _ _ => rfl)))
      (pss_cons (ps_set (i := 7) sc_l_piece_by.nd rfl (Or.inl rfl) (pe_un un_neg pe_int))
      (pss_cut (ps_if (PW.pt (pw_and (pt_cmpR (op_neD hr.units) (pe_ix ix_tup (pv 3) pe_int (fun _ _ => rfl)) (pe_lst pa_nil) (nomark _)) (pw_and1 (pt_cmpR op_eq (pe_op op_mod (pe_op op_fdiv (pv 4) pe_int) pe_int) pe_int (nomark _)))))
        (pss_cons (ps_set (i := 5) sc_l_piece_by.nd rfl (Or.inl rfl) (pe_ix ix_tup (pv 3) pe_int (fun _ _ => rfl)))
        (pss_cons (ps_set (i := 6) sc_l_piece_by.nd rfl (Or.inl rfl) (pe_ix ix_tup (pv 3) pe_int (fun _ _ => rfl)))
        (pss_one (ps_set (i := 7) sc_l_piece_by.nd rfl (Or.inl rfl) (pe_op op_mod (pe_op op_fdiv (pv 4) pe_int) (pe_callB call_len_seq (by rfl) T.z_len PySem.boot_len (pa_cons (pv 6) pa_nil)))))))
        pss_nil)
      (pss_cons (ps_set (i := 8) sc_l_piece_by.nd rfl (Or.inl rfl) (pe_lst pa_nil))
      (pss_cons (ps_set (i := 9) sc_l_piece_by.nd rfl (Or.inl rfl) (pe_lst pa_nil))
      (pss_cons (ps_for PassesOwn.never rfl (pi_range1 rfl T.z_range (pa_cons (pe_callB call_len_seq (by rfl) T.z_len PySem.boot_len (pa_cons (pv 6) pa_nil)) pa_nil)) (pg_name (i := 10) sc_l_piece_by.nd rfl (Or.inl rfl) (Or.inl rfl))
        (pss_cons (ps_set (i := 11) sc_l_piece_by.nd rfl (Or.inl rfl) (pe_call G_l_mix (hr.mono (by omega)) rfl T.m_l_mix T.F_l_mix.kp T.b_l_mix .nil pass0 (pa_cons (pv 0) (pa_cons (pe_op op_add pe_int (pv 10)) pa_nil))))
        (pss_cons (ps_set (i := 12) sc_l_piece_by.nd rfl (Or.inl rfl) (pe_dget hu (pv 2) (pe_ix ix_list (pv 6) (pv 10) (fun _ _ => rfl)) (fun _ _ => rfl)))
        (pss_cons (ps_asg (pe_call G_l_index_by (hr.mono (by omega)) rfl T.m_l_index_by T.F_l_index_by.kp T.b_l_index_by .nil pass0 (pa_cons (pv 11) (pa_cons (pe_op op_cat (pe_ix ix_tup (pv 3) pe_int (fun _ _ => rfl)) (pe_ix ix_tup (pv 3) pe_int (fun _ _ => rfl))) (pa_cons (pv 12) (pa_cons (pv 2) pa_nil))))) (pg_tup (n := 2) rfl (pgs_cons (pg_name (i := 13) sc_l_piece_by.nd rfl (Or.inl rfl) (Or.inl rfl)) (pgs_cons (pg_name (i := 14) sc_l_piece_by.nd rfl (Or.inl rfl) (Or.inl rfl)) pgs_nil))))
        (pss_cut (ps_if (pt_cmpR op_le (pv 10) (pv 7) (nomark _))
          (pss_cons (ps_set (i := 13) sc_l_piece_by.nd rfl (Or.inl rfl) (pe_ix ix_list (pv 6) (pv 10) (fun _ _ => rfl)))
          (pss_one (ps_set (i := 14) sc_l_piece_by.nd rfl (Or.inl rfl) (pe_op op_sub pe_int (pe_op op_mul (pe_callTy call_int1 (by rfl) T.z_int PyProof.Rows.boot_int (pa_cons (pe_cmpR op_eq (pv 10) (pv 7) (nomark _)) pa_nil)) (pe_op op_add pe_int (pe_op op_mod (pe_op op_fdiv (pv 11) pe_int) pe_int)))))))
          pss_nil)
        (pss_cut (ps_if (PW.pt (pw_and (pt_cmpR op_ne (pv 13) pe_str (nomark _)) (pw_and1 (PW.pt (pw_or (pt_cmpR op_lt (pv 14) pe_int (nomark _)) (pw_or1 (pt_cmpR op_gt (pe_op op_add (pe_dget hu (pv 2) (pv 13) (fun _ _ => rfl)) (pv 14)) (pv 12) (nomark _))))))))
          (pss_one (ps_expr (pe_bm PySem.F.plainAttrs_list PySem.F.slot_list_append PySem.F.type_list_append mt_append (pv 9) (pa_cons (pe_tup (pa_cons (pv 13) (pa_cons (pe_op op_sub pe_int (pv 14)) (pa_cons (pe_op op_sub (pv 12) (pv 14)) pa_nil)))) pa_nil))))
          pss_nil)
        (pss_one (ps_expr (pe_bm PySem.F.plainAttrs_list PySem.F.slot_list_append PySem.F.type_list_append mt_append (pv 8) (pa_cons (pe_tup (pa_cons (pv 13) (pa_cons (pv 14) pa_nil))) pa_nil))))))))))
      (pss_one (ps_ret (pe_tup (pa_cons (pv 5) (pa_cons (pv 8) (pa_cons (pv 9) pa_nil)))))))))))))), ?_⟩
    refine ⟨_, rfl, c, 1, rfl, by decide, by decide, fun one o0 o1 => ?_⟩
    -- the names
    refine ⟨_, rfl, ad, ak, rfl, had, fun o D hD => ?_⟩
    have Da : D ≠ ad := fun z => by subst z; rw [upd_same] at hD; cases hD
    refine comp_genQ (J := Itd ad o ak) (D := D) ak.length (fun i ys Hx => Same (upd H ad (.frz o (.dK ak))) Hx ∧ Hx D = some (.lst ys) ∧ ys = ((es.take i).map (·.1)).map V.str) ⟨same_new hD, upd_same, rfl⟩ (fun i ys Hx hi ⟨s2, _⟩ => ⟨s2 _ _ upd_same, hi⟩) (fun ys Hx ⟨s2, _⟩ => ⟨s2 _ _ upd_same, rfl⟩) ?_ ?_
    · rintro i ys Hx hi ⟨sx, hDx, rfl⟩ x Hy ⟨rfl, k', v, hkv, rfl⟩
      obtain ⟨e, he, ek, _⟩ := pget ar hkv
      have ek : k' = Sum.inr e.1 := ek
      subst ek
      refine ⟨True.intro, _, rfl, hDx, line_lt (by simp; omega), same_fresh sx hD, upd_same, ?_⟩
      rw [List.take_add_one, he, Option.toList_some, List.map_append, List.map_append]
      rfl
    rintro ys Hx ⟨sx, hDx, rfl⟩
    rw [lak, List.take_length] at hDx
    refine ⟨ad, o, _, sx _ _ upd_same, (fun o' u' z => by have z : H ad = some (.frz o' u') := z; rw [had] at z; cases z), ?_⟩
    have st : Same H (upd Hx ad (.dK ak)) := same_thaw had sx
    have hDt : upd Hx ad (.dK ak) D = some (.lst ((es.map (·.1)).map V.str)) := by rw [upd_ne Da]; exact hDx
    generalize upd Hx ad (.dK ak) = Gt at st hDt ⊢
    have hix0 : 0 ≤ one % (ak.length : Int) := Int.emod_nonneg _ (by omega)
    have hix1 : one % (ak.length : Int) < ((es.map (·.1)).map V.str).length := by rw [List.length_map, List.length_map, ← lak]; exact Int.emod_lt_of_pos _ (by omega)
    obtain ⟨x0, hx0, ex0⟩ := at_mapV (f := V.str) (xs := es.map (·.1)) hix0 (by simpa using hix1)
    obtain ⟨e0, me0, ee0⟩ := List.mem_map.mp (List.mem_of_getElem? hx0)
    obtain ⟨l1, e1, vl1, me1, en1, hl1⟩ := ar_val ar me0
    rw [ee0] at vl1
    refine ⟨_, rfl, _, rfl, ad, ak, rfl, st _ _ had, _, _, rfl, rfl, (by show (0 : Int) < (ak.length : Int); omega), D, _, _, _, rfl, rfl, SqL.of hDt, ex0, ?_⟩
    have gd := DGet.k (H := Gt) (a := ad) (k := Sum.inr x0) (st _ _ had)
    rw [vl1] at gd
    refine ⟨_, rfl, _, rfl, ad, _, rfl, gd, ?_⟩
    refine ⟨_, rfl, ?_⟩
    -- the array
    refine ⟨fun σ G => ∃ (arr : Str) (L : Addr) (axs : List Str) (fx : Int), σ = [some (.int c), some (.ref ad), some (.ref ld), some (.ref q), some (.int one), some (.str arr), some (.ref L), some (.int fx), none, none, none, none, none, none, none] ∧ Same H G ∧ G L = some (.lst (axs.map V.str)) ∧ DkOk lk axs ∧ axs.length ≤ 4 ∧ PyData.strOk arr = true ∧ (fx = -1 ∨ axs = own), ?_, ?_⟩
    · have base1 : ∀ G, Same H G → ∃ (arr : Str) (L : Addr) (axs : List Str) (fx : Int), [some (V.int c), some (.ref ad), some (.ref ld), some (.ref q), some (.int one), some (.str x0), some (.ref l1), some (.int (-1)), none, none, none, none, none, none, none] = [some (.int c), some (.ref ad), some (.ref ld), some (.ref q), some (.int one), some (.str arr), some (.ref L), some (.int fx), none, none, none, none, none, none, none] ∧ Same H G ∧ G L = some (.lst (axs.map V.str)) ∧ DkOk lk axs ∧ axs.length ≤ 4 ∧ PyData.strOk arr = true ∧ (fx = -1 ∨ axs = own) := fun G sG =>
        ⟨x0, l1, e1.2, -1, rfl, sG, sG _ _ hl1, aok.dk e1 me1, aok.l4 e1 me1, (by rw [← ee0]; exact aok.ok e0 me0), .inl rfl⟩
      refine ⟨_, rfl, q, _, _, _, rfl, rfl, SqT.of (st _ _ hq), atI_nat (j := 1) rfl, line_le (by simp), fun z hz => ?_⟩
      have t1 : Same Gt (upd Gt z (.lst [])) := same_new hz
      have hz1 : upd Gt z (.lst []) z = some (.lst (([] : List Str).map V.str)) := upd_same
      generalize upd Gt z (.lst []) = G1 at t1 hz1 ⊢
      have s1 := st.trans t1
      refine ⟨encS own, encS [], S_rep (s1 _ _ hO), S_rep hz1, shaped_of (encS_lay fun x hx => (okn x (List.mem_append_left _ hx)).1) (by have := (encS_ok own).1; omega), rfl, _, rfl, ?_⟩
      rw [eqv_nil]
      refine iteND (fun hne => ?_) (fun _ => iteF (base1 G1 s1))
      have hpos : 0 < own.length := by
        rcases own with _ | _
        · exact absurd rfl hne
        · simp
      refine ⟨_, rfl, _, _, rfl, rfl, ⟨by decide, by decide⟩, _, _, rfl, rfl, (by show (0 : Int) < 3; decide), rfl, _, rfl, iteD (fun _ => ?_) (fun _ => base1 G1 s1)⟩
      refine ⟨_, rfl, q, _, _, _, rfl, rfl, SqT.of (s1 _ _ hq), atI_nat (j := 0) rfl, ?_⟩
      refine ⟨_, rfl, q, _, _, _, rfl, rfl, SqT.of (s1 _ _ hq), atI_nat (j := 1) rfl, ?_⟩
      refine ⟨_, rfl, _, _, rfl, rfl, ⟨by decide, by decide⟩, _, rfl, O, _, rfl, .inl (SqL.of (s1 _ _ hO)), _, _, rfl, rfl, (by show (0 : Int) < ((own.map V.str).length : Int); rw [List.length_map]; omega), ?_⟩
      exact ⟨nm, O, own, _, rfl, s1, s1 _ _ hO, fun y hy => dk y (List.mem_append_left _ hy), lo, oknm, .inr rfl⟩
    rintro σ G ⟨arr, L, axs, fx, rfl, sG, hL, dka, l4, oka, hfx⟩
    -- the lists
    refine ⟨line_le (by simp), fun I hI => ?_⟩
    have t1 : Same G (upd G I (.lst [])) := same_new hI
    have hI1 : upd G I (.lst []) I = some (.lst []) := upd_same
    have I0 : H I = none := sG.free hI
    generalize upd G I (.lst []) = G1 at t1 hI1 ⊢
    refine ⟨line_le (by simp), fun D2 hD2 => ?_⟩
    have t2 : Same G1 (upd G1 D2 (.lst [])) := same_new hD2
    have hD21 : upd G1 D2 (.lst []) D2 = some (.lst []) := upd_same
    have D20 : H D2 = none := (sG.trans t1).free hD2
    have ID : I ≠ D2 := ne_of_none hI1 hD2
    generalize upd G1 D2 (.lst []) = G2 at t2 hD21 ⊢
    have s2 := sG.trans (t1.trans t2)
    have hL2 := (t1.trans t2) _ _ hL
    have LI : L ≠ I := ne_of_none hL hI
    have LD : L ≠ D2 := ne_of_none (t1 _ _ hL) hD2
    refine ⟨_, rfl, L, _, rfl, .inl (SqL.of hL2), _, rfl, by omega, by rw [List.length_map]; omega, ?_⟩
    refine for_range (n := (axs.map V.str).length) (fun i σ X => ∃ (o10 o11 o12 o13 o14 : Option V) (iv gv : List V) (ix : List (Str × Int)) (gs : List (Str × Int × Int)), σ = [some (.int c), some (.ref ad), some (.ref ld), some (.ref q), some (.int one), some (.str arr), some (.ref L), some (.int fx), some (.ref I), some (.ref D2), o10, o11, o12, o13, o14] ∧ PB H X I D2 iv gv (own ++ sums) ix gs i ∧ X L = some (.lst (axs.map V.str)))
      ⟨none, none, none, none, none, [], [], [], [], rfl, ⟨s2, t2 _ _ hI1, hD21, .nil, .nil, rfl, Nat.le_refl _, (by intro e he; cases he), (by intro e he; cases he)⟩, hL2⟩ ?_ ?_
    · rintro i σ X hi ⟨o10, o11, o12, o13, o14, iv, gv, ix, gs, rfl, pb, hLX⟩
      rw [List.length_map] at hi
      have hyi : axs[i]? = some axs[i] := List.getElem?_eq_getElem hi
      have ey : atI (axs.map V.str) (0 + (i : Int)) = some (.str axs[i]) := by rw [Int.zero_add]; exact atI_nat (by rw [List.getElem?_map, hyi]; rfl)
      obtain ⟨ln, vln, ln1, ln60⟩ := dka _ (List.mem_of_getElem? hyi)
      have sX := pb.sm
      refine ⟨_, rfl, _, rfl, _, _, rfl, rfl, c, _, rfl, by omega, by omega, fun two w0 w1 => ?_⟩
      have g1 := DGet.k (H := X) (a := ld) (k := Sum.inr axs[i]) (sX _ _ hld)
      rw [vln] at g1
      refine ⟨_, rfl, _, rfl, _, rfl, L, _, _, _, rfl, rfl, SqL.of hLX, ey, ld, _, rfl, g1, ?_⟩
      -- the index
      refine ⟨_, rfl, _, rfl, q, _, _, _, rfl, rfl, SqT.of (sX _ _ hq), atI_nat (j := 1) rfl, _, rfl, q, _, _, _, rfl, rfl, SqT.of (sX _ _ hq), atI_nat (j := 2) rfl, O, S, _, _, rfl, rfl, sX _ _ hO, sX _ _ hS, line_le (by rw [List.length_map, List.length_map]; omega), fun bl hbl => ?_⟩
      have u1 : Same X (upd X bl (.lst (own.map V.str ++ sums.map V.str))) := same_new hbl
      have hbl1 : upd X bl (.lst (own.map V.str ++ sums.map V.str)) bl = some (.lst ((own ++ sums).map V.str)) := by rw [upd_same, List.map_append]
      generalize upd X bl (.lst (own.map V.str ++ sums.map V.str)) = X1 at u1 hbl1 ⊢
      refine ⟨_, rfl, _, rfl, two, ln, bl, ld, own ++ sums, rfl, hbl1, ln1, ln60, okn_oks okn, by rw [List.length_append]; omega, fun tq ax sh X2 v2 htq hax => ?_⟩
      refine ⟨tq, _, rfl, SqT.of htq, rfl, _, _, rfl, _, _, rfl, rfl, ?_⟩
      have u2 := u1.trans v2
      refine ⟨fun σ Y => ∃ (ax : Str) (sh : Int), σ = [some (.int c), some (.ref ad), some (.ref ld), some (.ref q), some (.int one), some (.str arr), some (.ref L), some (.int fx), some (.ref I), some (.ref D2), some (.int (0 + (i : Int))), some (.int two), some (.int ln), some (.str ax), some (.int sh)] ∧ X2 = Y ∧ (ax = "" ∨ ax ∈ own ++ sums), ?_, ?_⟩
      · refine ⟨_, rfl, _, rfl, _, _, rfl, rfl, _, rfl, iteD (fun hle => ?_) (fun _ => ⟨ax, sh, rfl, rfl, hax⟩)⟩
        have hle : 0 + (i : Int) ≤ fx := hle
        have eo : axs = own := hfx.resolve_left (by omega)
        refine ⟨_, rfl, _, rfl, L, _, _, _, rfl, rfl, SqL.of (u2 _ _ hLX), ey, ?_⟩
        refine ⟨_, rfl, _, rfl, rfl, .inr ⟨_, rfl, _, rfl, _, _, rfl, rfl, ⟨by decide, by decide⟩, _, _, rfl, rfl, (by show (0 : Int) < 2; decide), _, _, rfl, rfl, _, _, rfl, rfl, .inr ⟨by omega, by omega⟩, _, _, rfl, rfl, ?_⟩⟩
        exact ⟨axs[i], _, rfl, rfl, .inr (List.mem_append_left _ (by rw [← eo]; exact List.mem_of_getElem? hyi))⟩
      rintro σ Y ⟨ax, sh, rfl, rfl, hax⟩
      have pb2 : PB H X2 I D2 iv gv (own ++ sums) ix gs i := ⟨sX.trans u2, u2 _ _ pb.hI, u2 _ _ pb.hD, pb.ri.same (th_sm u2), pb.rg.same (th_sm u2), pb.li, pb.lg, pb.bi, pb.bg⟩
      have hL2' := u2 _ _ hLX
      have hgl : gv.length ≤ 4 := by
        have h1 := pb.rg.len
        have h2 := pb.lg
        rw [List.length_map] at h1
        omega
      have hil : iv.length ≤ 4 := by
        have h1 := pb.ri.len
        have h2 := pb.li
        rw [List.length_map] at h1
        omega
      refine ⟨fun σ Y => ∃ (gv : List V) (gs : List (Str × Int × Int)), σ = [some (.int c), some (.ref ad), some (.ref ld), some (.ref q), some (.int one), some (.str arr), some (.ref L), some (.int fx), some (.ref I), some (.ref D2), some (.int (0 + (i : Int))), some (.int two), some (.int ln), some (.str ax), some (.int sh)] ∧ Same H Y ∧ Y I = some (.lst iv) ∧ Y D2 = some (.lst gv) ∧ Reps (TH Y) iv (ix.map encI) ∧ Reps (TH Y) gv (gs.map encG) ∧ gs.length ≤ i + 1 ∧ (∀ g ∈ gs, g.1 ∈ own ++ sums) ∧ Y L = some (.lst (axs.map V.str)), ?_, ?_⟩
      · have no : ∃ (gv' : List V) (gs' : List (Str × Int × Int)), [some (V.int c), some (.ref ad), some (.ref ld), some (.ref q), some (.int one), some (.str arr), some (.ref L), some (.int fx), some (.ref I), some (.ref D2), some (.int (0 + (i : Int))), some (.int two), some (.int ln), some (.str ax), some (.int sh)] = [some (.int c), some (.ref ad), some (.ref ld), some (.ref q), some (.int one), some (.str arr), some (.ref L), some (.int fx), some (.ref I), some (.ref D2), some (.int (0 + (i : Int))), some (.int two), some (.int ln), some (.str ax), some (.int sh)] ∧ Same H X2 ∧ X2 I = some (.lst iv) ∧ X2 D2 = some (.lst gv') ∧ Reps (TH X2) iv (ix.map encI) ∧ Reps (TH X2) gv' (gs'.map encG) ∧ gs'.length ≤ i + 1 ∧ (∀ g ∈ gs', g.1 ∈ own ++ sums) ∧ X2 L = some (.lst (axs.map V.str)) :=
          ⟨gv, gs, rfl, pb2.sm, pb2.hI, pb2.hD, pb2.ri, pb2.rg, by have := pb.lg; omega, pb.bg, hL2'⟩
        refine ⟨_, rfl, rfl, _, rfl, iteND (fun hne => ?_) (fun _ => iteF no)⟩
        have hne : ax ≠ "" := fun z => hne (by rw [z])
        have hbd : ax ∈ own ++ sums := hax.resolve_left hne
        obtain ⟨na, vna, _, _⟩ := dk ax hbd
        have g2 := DGet.k (H := X2) (a := ld) (k := Sum.inr ax) (pb2.sm _ _ hld)
        rw [vna] at g2
        have yes : ∀ z, X2 z = none → ∃ (gv' : List V) (gs' : List (Str × Int × Int)), [some (V.int c), some (.ref ad), some (.ref ld), some (.ref q), some (.int one), some (.str arr), some (.ref L), some (.int fx), some (.ref I), some (.ref D2), some (.int (0 + (i : Int))), some (.int two), some (.int ln), some (.str ax), some (.int sh)] = [some (.int c), some (.ref ad), some (.ref ld), some (.ref q), some (.int one), some (.str arr), some (.ref L), some (.int fx), some (.ref I), some (.ref D2), some (.int (0 + (i : Int))), some (.int two), some (.int ln), some (.str ax), some (.int sh)] ∧ Same H (upd (upd X2 z (.tup [.str ax, .int (0 - sh), .int (ln - sh)])) D2 (.lst (gv ++ [.ref z]))) ∧ upd (upd X2 z (.tup [.str ax, .int (0 - sh), .int (ln - sh)])) D2 (.lst (gv ++ [.ref z])) I = some (.lst iv) ∧ upd (upd X2 z (.tup [.str ax, .int (0 - sh), .int (ln - sh)])) D2 (.lst (gv ++ [.ref z])) D2 = some (.lst gv') ∧ Reps (TH (upd (upd X2 z (.tup [.str ax, .int (0 - sh), .int (ln - sh)])) D2 (.lst (gv ++ [.ref z])))) iv (ix.map encI) ∧ Reps (TH (upd (upd X2 z (.tup [.str ax, .int (0 - sh), .int (ln - sh)])) D2 (.lst (gv ++ [.ref z])))) gv' (gs'.map encG) ∧ gs'.length ≤ i + 1 ∧ (∀ g ∈ gs', g.1 ∈ own ++ sums) ∧ upd (upd X2 z (.tup [.str ax, .int (0 - sh), .int (ln - sh)])) D2 (.lst (gv ++ [.ref z])) L = some (.lst (axs.map V.str)) := fun z hz => by
          have y1 : Same X2 (upd X2 z (.tup [.str ax, .int (0 - sh), .int (ln - sh)])) := same_new hz
          have hz1 : upd X2 z (.tup [.str ax, .int (0 - sh), .int (ln - sh)]) z = some (.tup [.str ax, .int (0 - sh), .int (ln - sh)]) := upd_same
          generalize upd X2 z (.tup [.str ax, .int (0 - sh), .int (ln - sh)]) = X3 at y1 hz1 ⊢
          have kt : KT X3 (upd X3 D2 (.lst (gv ++ [.ref z]))) := KT.at (y1 _ _ pb2.hD) (by intro xs z; cases z)
          refine ⟨gv ++ [.ref z], gs ++ [(ax, 0 - sh, ln - sh)], rfl, same_fresh (pb2.sm.trans y1) D20, by rw [upd_ne ID]; exact y1 _ _ pb2.hI, upd_same, pb2.ri.same ((th_sm y1).trans (th_kt kt)), ?_, by have := pb.lg; rw [List.length_append, List.length_singleton]; omega, fun g hg => ?_, by rw [upd_ne LD]; exact y1 _ _ hL2'⟩
          · rw [List.map_append]
            exact (pb2.rg.same ((th_sm y1).trans (th_kt kt))).snoc (.tup (th_of (kt _ _ hz1)) (.cons (.str _) (.cons (.int _) (.cons (.int _) .nil))))
          · rcases List.mem_append.mp hg with hg | hg
            · exact pb.bg g hg
            · rw [List.mem_singleton.mp hg]; exact hbd
        refine ⟨_, rfl, _, _, rfl, rfl, _, rfl, iteD (fun _ => iteT ?_) (fun _ => ?_)⟩
        · refine ⟨_, rfl, .inl ⟨rfl, _, SqL.of pb2.hD⟩, _, rfl, _, rfl, _, _, rfl, rfl, _, rfl, _, rfl, _, _, rfl, rfl, line_le (by simp), fun z hz => ?_⟩
          exact ⟨D2, _, _, rfl, rfl, (same_new hz) _ _ pb2.hD, line_lt (by omega), yes z hz⟩
        · refine ⟨_, rfl, _, rfl, ld, _, rfl, g2, _, rfl, _, _, rfl, rfl, _, rfl, _, _, rfl, rfl, _, rfl, iteD (fun _ => ?_) (fun _ => no)⟩
          refine ⟨_, rfl, .inl ⟨rfl, _, SqL.of pb2.hD⟩, _, rfl, _, rfl, _, _, rfl, rfl, _, rfl, _, rfl, _, _, rfl, rfl, line_le (by simp), fun z hz => ?_⟩
          exact ⟨D2, _, _, rfl, rfl, (same_new hz) _ _ pb2.hD, line_lt (by omega), yes z hz⟩
      rintro σ Y ⟨gv', gs', rfl, sY, hIY, hDY, riY, rgY, lgY, bgY, hLY⟩
      refine ⟨_, rfl, .inl ⟨rfl, _, SqL.of hIY⟩, _, rfl, _, rfl, line_le (by simp), fun z hz => ?_⟩
      have y1 : Same Y (upd Y z (.tup [.str ax, .int sh])) := same_new hz
      have hz1 : upd Y z (.tup [.str ax, .int sh]) z = some (.tup [.str ax, .int sh]) := upd_same
      generalize upd Y z (.tup [.str ax, .int sh]) = Y1 at y1 hz1 ⊢
      have hI1' := y1 _ _ hIY
      have kt : KT Y1 (upd Y1 I (.lst (iv ++ [.ref z]))) := KT.at hI1' (by intro xs z; cases z)
      refine ⟨I, _, _, rfl, rfl, hI1', line_lt (by omega), ?_⟩
      refine ⟨_, _, _, _, _, iv ++ [.ref z], gv', ix ++ [(ax, sh)], gs', rfl, ⟨same_fresh (sY.trans y1) I0, upd_same, by rw [upd_ne ID.symm]; exact y1 _ _ hDY, ?_, rgY.same ((th_sm y1).trans (th_kt kt)), by rw [List.length_append, pb.li]; rfl, lgY, fun e he => ?_, bgY⟩, by rw [upd_ne LI]; exact y1 _ _ hLY⟩
      · rw [List.map_append]
        exact (riY.same ((th_sm y1).trans (th_kt kt))).snoc (.tup (th_of (kt _ _ hz1)) (.cons (.str _) (.cons (.int _) .nil)))
      · rcases List.mem_append.mp he with he | he
        · exact pb.bi e he
        · rw [List.mem_singleton.mp he]; exact hax
    · rintro σ X ⟨o10, o11, o12, o13, o14, iv, gv, ix, gs, rfl, pb, hLX⟩
      have li := pb.li
      have lg := pb.lg
      rw [List.length_map] at li lg
      refine ⟨_, rfl, _, rfl, _, rfl, line_le (by simp), fun z hz => ?_⟩
      have y1 : Same X (upd X z (.tup [.str arr, .ref I, .ref D2])) := same_new hz
      refine k z ⟨arr, ix, gs⟩ _ (pb.sm.trans y1) (fun M hM => ⟨z, I, D2, iv, gv, rfl, upd_same, fun m => hM _ m I0, y1 _ _ pb.hI, fun m => hM _ m D20, y1 _ _ pb.hD, pb.ri.same (th_sm y1), pb.rg.same (th_sm y1)⟩) ⟨pb.bi, pb.bg, by show ix.length ≤ 8; omega, by show gs.length ≤ 4; omega, oka⟩
end
end My

set_option Elab.async false
set_option linter.all false
set_option maxRecDepth 100000
set_option maxHeartbeats 4000000
namespace My
open PySem L2
local macro_rules | `(tactic| walk_at "lk") => `(tactic| first | with_reducible exact lk0 | (refine lk1 (by decide +kernel) ?_; walk_at "lk") | rfl)
/-- a line of the law is as its axes and lengths ask -/
structure LwOk (lk : List (Key × V)) (axs : List Str) (e : Lw) : Prop where
  sub : ∀ y ∈ e.own ++ e.sums, y ∈ axs
  l4 : e.own.length + e.sums.length ≤ 4
  sz : ∃ so ss : List Int, SzL lk e.own so ∧ SzL lk e.sums ss ∧ (∀ n ∈ so, 1 ≤ n ∧ n ≤ 60) ∧ (∀ n ∈ ss, 1 ≤ n ∧ n ≤ 60) ∧ e.wo = ((prN so * prN ss : Nat) : Int)
  ps : ∀ p ∈ e.ps, PcIn (e.own ++ e.sums) p
  lp : e.ps.length ≤ 3
def sp_l_line_by : Sp := fun vs H Q _ => ∃ (c : Int) (nm : Str) (axl ld ad : Addr) (axs : List Str) (ak lk : List (Key × V)) (es : List (Str × List Str)) (Z : Addr → Prop), vs = [.int c, .str nm, .ref axl, .ref ld, .ref ad] ∧ H axl = some (.lst (axs.map V.str)) ∧ axs.length ≤ 4 ∧ OkN axs ∧ DkOk lk axs ∧ H ld = some (.dK lk) ∧ H ad = some (.dK ak) ∧ AR Z H ak es ∧ ArOk lk es ∧ PyData.strOk nm = true ∧
  ∀ (q : Addr) (e : Lw) (H' : Hp), Same H H' → (∀ M : List Addr, (∀ b ∈ M, H b ≠ none) → LwAt M H' (.ref q) e) → e.nm = nm → LwOk lk axs e → Q (.ref q) H'
/-- the sides so far -/
structure SD (H X : Hp) (sd A0 A1 TL : Addr) (lk : List (Key × V)) (axs ts own sums : List Str) (so ss : List Int) (wo : Int) (n : Nat) : Prop where
  sm : Same H X
  hs : X sd = some (.lst [.ref A0, .ref A1])
  h0 : X A0 = some (.lst (own.map V.str))
  h1 : X A1 = some (.lst (sums.map V.str))
  ht : X TL = some (.lst (ts.map V.str))
  sub : ∀ y ∈ own ++ sums, y ∈ axs
  ln : own.length + sums.length ≤ n
  zo : SzL lk own so
  zs : SzL lk sums ss
  po : ∀ n ∈ so, 1 ≤ n ∧ n ≤ 60
  ps : ∀ n ∈ ss, 1 ≤ n ∧ n ≤ 60
  hw : wo = ((prN so * prN ss : Nat) : Int)
theorem prN_snoc (ls : List Int) (n : Int) : prN (ls ++ [n]) = prN ls * n.toNat := by
  rw [prN_app]
  simp [prN]
section
variable {P : Program} {w : World} {K : PySem.W.Frag} {mg : Str → Option Value} {base : Heap} {t : Adr}
theorem ok_l_line_by (T : Txt K mg t) : FnOk P w K mg base CX0 3 t.f_l_line_by t.d_l_line_by ["_law_cell", "_law_name", "_law_axes", "_law_lengths", "_law_arrays"] sp_l_line_by := by
  have G_l_mix := ok_l_mix (P := P) (w := w) (base := base) T
  have G_l_piece_by := ok_l_piece_by (P := P) (w := w) (base := base) T
  refine T.F_l_line_by.ok sc_l_line_by (fun vs H Q E h => ?_) (fun cdv A outer s H vs Q E hr h => ?_)
  · obtain ⟨c, nm, axl, ld, ad, axs, ak, lk, es, Z, rfl, _⟩ := h
    rfl
  · obtain ⟨c, nm, axl, ld, ad, axs, ak, lk, es, Z, rfl, hax, l4, okn, dk, hld, had, ar, aok, oknm, k⟩ := h
    have hu := hu_of hr
    have lak := Paired.length ar
    have ne0 : 0 < es.length := by
      have := aok.ne
      rcases es with _ | _
      · exact absurd rfl this
      · simp
    refine ⟨_, (pss_cons (ps_set (i := 5) sc_l_line_by.nd rfl (Or.inl rfl) (pe_call G_l_mix (hr.mono (by omega)) rfl T.m_l_mix T.F_l_mix.kp T.b_l_mix .nil pass0 (pa_cons (pv 0) (pa_cons pe_int pa_nil))))
      (pss_cons (ps_set (i := 6) sc_l_line_by.nd rfl (Or.inl rfl) (pe_lst (pa_cons (pe_lst pa_nil) (pa_cons (pe_lst pa_nil) pa_nil))))
      (pss_cons (ps_set (i := 7) sc_l_line_by.nd rfl (Or.inl rfl) pe_int)
      (pss_cons (ps_set (i := 8) sc_l_line_by.nd rfl (Or.inl rfl) (pv 2))
      (pss_cut (ps_if (pt_cmpR op_eq (pe_op op_mod (pv 5) pe_int) pe_int (nomark _))
        (pss_one (ps_setC (i₀ := 8) (N' := ["_law_axis"]) (ix := (List.replicate 1 none)) sc_l_line_by.nd rfl (Or.inl rfl) rfl (clok_none rfl (by decide +kernel) (by decide +kernel)) (ixok_none rfl) (pi_rev rfl T.z_reversed (pa_cons (pv 2) pa_nil)) (fun _ _ _ _ => (pg_name (i := 0) nd_comp_3 rfl (Or.inl rfl) (Or.inr rfl))) (fun _ _ _ _ => (pv 0))))
        pss_nil)
      (pss_cons (ps_for PassesOwn.never rfl (pi_range1 rfl T.z_range (pa_cons (pe_callB call_len_seq (by rfl) T.z_len PySem.boot_len (pa_cons (pv 8) pa_nil)) pa_nil)) (pg_name (i := 9) sc_l_line_by.nd rfl (Or.inl rfl) (Or.inl rfl))
        (pss_cons (ps_set (i := 10) sc_l_line_by.nd rfl (Or.inl rfl) (pe_op op_mod (pe_op op_fdiv (pv 5) (pe_ix ix_list (pe_lst (pa_cons pe_int (pa_cons pe_int (pa_cons pe_int (pa_cons pe_int pa_nil))))) (pv 9) (fun _ _ => rfl))) pe_int))
        (pss_one (ps_if (pt_cmpR op_ne (pv 10) pe_int (nomark _))
          (pss_cons (ps_expr (pe_bm PySem.F.plainAttrs_list PySem.F.slot_list_append PySem.F.type_list_append mt_append (pe_ix ix_list (pv 6) (pv 10) (fun _ _ => rfl)) (pa_cons (pe_ix ix_list (pv 8) (pv 9) (fun _ _ => rfl)) pa_nil)))
          (pss_one (ps_set (i := 7) sc_l_line_by.nd rfl (Or.inl rfl) (pe_op op_mul (pv 7) (pe_dget hu (pv 3) (pe_ix ix_list (pv 8) (pv 9) (fun _ _ => rfl)) (fun _ _ => rfl))))))
          pss_nil))))
      (pss_cons (ps_set (i := 11) sc_l_line_by.nd rfl (Or.inl rfl) (pe_tup (pa_cons (pv 1) (pa_cons (pe_ix ix_list (pv 6) pe_int (fun _ _ => rfl)) (pa_cons (pe_ix ix_list (pv 6) pe_int (fun _ _ => rfl)) (pa_cons (pe_lst pa_nil) (pa_cons (pv 7) pa_nil)))))))
      (pss_cons (ps_for PassesOwn.never rfl (pi_range1 rfl T.z_range (pa_cons (pe_op op_mod (pe_call G_l_mix (hr.mono (by omega)) rfl T.m_l_mix T.F_l_mix.kp T.b_l_mix .nil pass0 (pa_cons (pv 0) (pa_cons pe_int pa_nil))) pe_int) pa_nil)) (pg_name (i := 9) sc_l_line_by.nd rfl (Or.inl rfl) (Or.inl rfl))
        (pss_one (ps_if (pt_cmpR op_gt (pe_callB call_lenD (by rfl) T.z_len PySem.boot_len (pa_cons (pv 4) pa_nil)) pe_int (nomark _))
          (pss_one (ps_expr (pe_bm PySem.F.plainAttrs_list PySem.F.slot_list_append PySem.F.type_list_append mt_append (pe_ix ix_tup (pv 11) pe_int (fun _ _ => rfl)) (pa_cons (pe_call G_l_piece_by (hr.mono (by omega)) rfl T.m_l_piece_by T.F_l_piece_by.kp T.b_l_piece_by .nil pass0 (pa_cons (pe_op op_add (pe_op op_add (pv 0) (pe_op op_mul pe_int (pv 9))) (pv 9)) (pa_cons (pv 4) (pa_cons (pv 3) (pa_cons (pv 11) pa_nil))))) pa_nil))))
          pss_nil)))
      (pss_one (ps_ret (pv 11))))))))))), ?_⟩
    refine ⟨_, rfl, c, 9, rfl, by decide, by decide, fun rest r0 r1 => ?_⟩
    -- the sides
    refine ⟨line_le (by simp), fun A0 hA0 => ⟨line_le (by simp), fun A1 hA1 => ⟨line_le (by simp), fun sd hsd => ?_⟩⟩⟩
    have t0 : Same H (upd H A0 (.lst [])) := same_new hA0
    have g0 : upd H A0 (.lst []) A0 = some (.lst []) := upd_same
    generalize upd H A0 (.lst []) = H0 at t0 g0 hA1 hsd ⊢
    have t1 : Same H0 (upd H0 A1 (.lst [])) := same_new hA1
    have g1 : upd H0 A1 (.lst []) A1 = some (.lst []) := upd_same
    have n01 : A0 ≠ A1 := ne_of_none g0 hA1
    have A1H : H A1 = none := t0.free hA1
    generalize upd H0 A1 (.lst []) = H1 at t1 g1 hsd ⊢
    have t2 : Same H1 (upd H1 sd (.lst [.ref A0, .ref A1])) := same_new hsd
    have g2 : upd H1 sd (.lst [.ref A0, .ref A1]) sd = some (.lst [.ref A0, .ref A1]) := upd_same
    have n0s : A0 ≠ sd := ne_of_none (t1 _ _ g0) hsd
    have n1s : A1 ≠ sd := ne_of_none g1 hsd
    have g02 := (t1.trans t2) _ _ g0
    have g12 := t2 _ _ g1
    have s2 := t0.trans (t1.trans t2)
    generalize upd H1 sd (.lst [.ref A0, .ref A1]) = H2 at t2 g2 g02 g12 s2 ⊢
    refine ⟨_, rfl, ?_⟩
    -- turned
    refine ⟨fun σ X => ∃ (TL : Addr) (ts : List Str), σ = [some (.int c), some (.str nm), some (.ref axl), some (.ref ld), some (.ref ad), some (.int rest), some (.ref sd), some (.int 1), some (.ref TL), none, none, none] ∧ Same H2 X ∧ X TL = some (.lst (ts.map V.str)) ∧ (∀ y ∈ ts, y ∈ axs) ∧ ts.length ≤ 4 ∧ TL ≠ A0 ∧ TL ≠ A1, ?_, ?_⟩
    · refine ⟨_, rfl, _, _, rfl, rfl, (by show (0 : Int) < 2; decide), rfl, _, rfl, iteD (fun _ => ?_) (fun _ => ⟨axl, axs, rfl, Same.refl _, s2 _ _ hax, fun y hy => hy, l4, ne_of_none hax hA0, ne_of_none hax A1H⟩)⟩
      refine ⟨_, rfl, axl, _, rfl, SqL.of (s2 _ _ hax), fun D hD => ?_⟩
      have DA0 : D ≠ A0 := fun z => by rw [z, g02] at hD; cases hD
      have DA1 : D ≠ A1 := fun z => by rw [z, g12] at hD; cases hD
      refine comp_genQ (J := Itv K axl (axs.map V.str).length) (D := D) (axs.map V.str).length (fun i ys X => Same H2 X ∧ X D = some (.lst ys) ∧ ys.length = i ∧ ∃ ts : List Str, ys = ts.map V.str ∧ ∀ y ∈ ts, y ∈ axs) ⟨same_new hD, upd_same, rfl, [], rfl, by intro y hy; cases hy⟩ (fun i ys X hi ⟨sx, _⟩ => ?_) (fun ys X _ => rfl) ?_ ?_
      · have hlt : (axs.map V.str).length - 1 - i < (axs.map V.str).length := by omega
        exact ⟨axs.map V.str, _, SqL.of (sx _ _ (s2 _ _ hax)), rfl, hi, List.getElem?_eq_getElem hlt⟩
      · rintro i ys X hi ⟨sx, hDx, ly, ts, rfl, hts⟩ x Y ⟨rfl, hx⟩
        obtain ⟨y, hy, rfl⟩ := get_map (hx _ (SqL.of (sx _ _ (s2 _ _ hax))))
        rw [List.length_map] at ly hi
        refine ⟨True.intro, _, rfl, hDx, line_lt (by rw [List.length_map]; omega), same_fresh sx hD, upd_same, by rw [List.length_append, List.length_map, ly]; rfl, ts ++ [y], by rw [List.map_append]; rfl, fun z hz => ?_⟩
        rcases List.mem_append.mp hz with hz | hz
        · exact hts z hz
        · rw [List.mem_singleton.mp hz]; exact List.mem_of_getElem? hy
      · rintro ys X ⟨sx, hDx, ly, ts, rfl, hts⟩
        rw [List.length_map, List.length_map] at ly
        exact ⟨D, ts, rfl, sx, hDx, hts, by omega, DA0, DA1⟩
    rintro σ H3 ⟨TL, ts, rfl, s3, hTL, sub, lt4, nT0, nT1⟩
    have s03 := s2.trans s3
    -- each axis to its side
    refine ⟨_, rfl, TL, _, rfl, .inl (SqL.of hTL), _, rfl, by omega, by rw [List.length_map]; omega, ?_⟩
    refine for_range (n := (ts.map V.str).length) (fun i σ X => ∃ (o9 o10 : Option V) (own sums : List Str) (so ss : List Int) (wo : Int), σ = [some (.int c), some (.str nm), some (.ref axl), some (.ref ld), some (.ref ad), some (.int rest), some (.ref sd), some (.int wo), some (.ref TL), o9, o10, none] ∧ SD H X sd A0 A1 TL lk axs ts own sums so ss wo i)
      ⟨none, none, [], [], [], [], 1, rfl, ⟨s03, s3 _ _ g2, s3 _ _ g02, s3 _ _ g12, hTL, (by intro y hy; cases hy), Nat.le_refl _, .nil, .nil, (by intro y hy; cases hy), (by intro y hy; cases hy), rfl⟩⟩ ?_ ?_
    · rintro i σ X hi ⟨o9, o10, own, sums, so, ss, wo, rfl, I⟩
      rw [List.length_map] at hi
      have hyi : ts[i]? = some ts[i] := List.getElem?_eq_getElem hi
      have hym : ts[i] ∈ axs := sub _ (List.mem_of_getElem? hyi)
      have ey : atI (ts.map V.str) (0 + (i : Int)) = some (.str ts[i]) := by rw [Int.zero_add]; exact atI_nat (by rw [List.getElem?_map, hyi]; rfl)
      obtain ⟨n, vn, n1, n60⟩ := dk _ hym
      obtain ⟨d, ed, d1, d2⟩ : ∃ d : Int, atI [V.int 2, .int 6, .int 18, .int 54] (0 + (i : Int)) = some (.int d) ∧ 0 < d ∧ d < 1073741824 := by
        rw [Int.zero_add]
        match i, (show i < 4 by omega) with
        | 0, _ => exact ⟨2, rfl, by decide, by decide⟩
        | 1, _ => exact ⟨6, rfl, by decide, by decide⟩
        | 2, _ => exact ⟨18, rfl, by decide, by decide⟩
        | 3, _ => exact ⟨54, rfl, by decide, by decide⟩
      refine ⟨_, rfl, line_le (by simp), fun z hz => ⟨_, rfl, z, _, _, _, rfl, rfl, SqL.of upd_same, ed, _, _, rfl, rfl, ⟨d1, d2⟩, _, _, rfl, rfl, (by show (0 : Int) < 3; decide), ?_⟩⟩
      have u1 : Same X (upd X z (.lst [.int 2, .int 6, .int 18, .int 54])) := same_new hz
      generalize upd X z (.lst [.int 2, .int 6, .int 18, .int 54]) = X1 at u1 ⊢
      have sX1 := I.sm.trans u1
      have b0 : 0 ≤ rest / d % 3 := Int.emod_nonneg _ (by decide)
      have b1 : rest / d % 3 < 3 := Int.emod_lt_of_pos _ (by decide)
      refine ⟨_, rfl, rfl, _, rfl, iteND (fun hne => ?_) (fun _ => ⟨_, _, own, sums, so, ss, wo, rfl, ⟨sX1, u1 _ _ I.hs, u1 _ _ I.h0, u1 _ _ I.h1, u1 _ _ I.ht, I.sub, by have := I.ln; omega, I.zo, I.zs, I.po, I.ps, I.hw⟩⟩)⟩
      have hne2 : rest / d % 3 ≠ 2 := fun z => hne (by show V.int (rest / d % 3) = V.int 2; rw [z])
      have hln := I.ln
      have nsz : ((n.toNat : Nat) : Int) = n := Int.toNat_of_nonneg (by omega)
      rcases (show rest / d % 3 = 0 ∨ rest / d % 3 = 1 by omega) with hz0 | hz1
      · have es0 : atI [V.ref A0, .ref A1] (rest / d % 3) = some (.ref A0) := by rw [hz0]; rfl
        refine ⟨_, rfl, _, rfl, sd, _, _, _, rfl, rfl, SqL.of (u1 _ _ I.hs), es0, .inl ⟨rfl, _, SqL.of (u1 _ _ I.h0)⟩, _, rfl, _, rfl, TL, _, _, _, rfl, rfl, SqL.of (u1 _ _ I.ht), ey, A0, _, _, rfl, rfl, u1 _ _ I.h0, line_lt (by rw [List.length_map]; omega), ?_⟩
        have v2 : Same H (upd X1 A0 (.lst (own.map V.str ++ [.str ts[i]]))) := same_fresh sX1 hA0
        have w0 : upd X1 A0 (.lst (own.map V.str ++ [.str ts[i]])) A0 = some (.lst ((own ++ [ts[i]]).map V.str)) := by rw [upd_same, List.map_append]; rfl
        have w1 : upd X1 A0 (.lst (own.map V.str ++ [.str ts[i]])) A1 = some (.lst (sums.map V.str)) := by rw [upd_ne n01.symm]; exact u1 _ _ I.h1
        have wt : upd X1 A0 (.lst (own.map V.str ++ [.str ts[i]])) TL = some (.lst (ts.map V.str)) := by rw [upd_ne nT0]; exact u1 _ _ I.ht
        have ws : upd X1 A0 (.lst (own.map V.str ++ [.str ts[i]])) sd = some (.lst [.ref A0, .ref A1]) := by rw [upd_ne n0s.symm]; exact u1 _ _ I.hs
        generalize upd X1 A0 (.lst (own.map V.str ++ [.str ts[i]])) = X2 at v2 w0 w1 wt ws ⊢
        have g := DGet.k (H := X2) (a := ld) (k := Sum.inr ts[i]) (v2 _ _ hld)
        rw [vn] at g
        refine ⟨_, rfl, _, rfl, _, rfl, _, rfl, TL, _, _, _, rfl, rfl, SqL.of wt, ey, ld, _, rfl, g, _, _, rfl, rfl, .inr ⟨by omega, by omega⟩, ?_⟩
        refine ⟨_, _, own ++ [ts[i]], sums, so ++ [n], ss, wo * n, rfl, ⟨v2, ws, w0, w1, wt, fun y hy => ?_, by rw [List.length_append, List.length_singleton]; omega, papp I.zo (.cons vn .nil), I.zs, fun m hm => ?_, I.ps, ?_⟩⟩
        · rcases List.mem_append.mp hy with hy | hy
          · rcases List.mem_append.mp hy with hy | hy
            · exact I.sub y (List.mem_append_left _ hy)
            · rw [List.mem_singleton.mp hy]; exact hym
          · exact I.sub y (List.mem_append_right _ hy)
        · rcases List.mem_append.mp hm with hm | hm
          · exact I.po m hm
          · rw [List.mem_singleton.mp hm]; exact ⟨n1, n60⟩
        · rw [prN_snoc, I.hw, Nat.mul_right_comm, Int.natCast_mul (prN so * prN ss), nsz]
      · have es1 : atI [V.ref A0, .ref A1] (rest / d % 3) = some (.ref A1) := by rw [hz1]; rfl
        refine ⟨_, rfl, _, rfl, sd, _, _, _, rfl, rfl, SqL.of (u1 _ _ I.hs), es1, .inl ⟨rfl, _, SqL.of (u1 _ _ I.h1)⟩, _, rfl, _, rfl, TL, _, _, _, rfl, rfl, SqL.of (u1 _ _ I.ht), ey, A1, _, _, rfl, rfl, u1 _ _ I.h1, line_lt (by rw [List.length_map]; omega), ?_⟩
        have v2 : Same H (upd X1 A1 (.lst (sums.map V.str ++ [.str ts[i]]))) := same_fresh sX1 A1H
        have w1 : upd X1 A1 (.lst (sums.map V.str ++ [.str ts[i]])) A1 = some (.lst ((sums ++ [ts[i]]).map V.str)) := by rw [upd_same, List.map_append]; rfl
        have w0 : upd X1 A1 (.lst (sums.map V.str ++ [.str ts[i]])) A0 = some (.lst (own.map V.str)) := by rw [upd_ne n01]; exact u1 _ _ I.h0
        have wt : upd X1 A1 (.lst (sums.map V.str ++ [.str ts[i]])) TL = some (.lst (ts.map V.str)) := by rw [upd_ne nT1]; exact u1 _ _ I.ht
        have ws : upd X1 A1 (.lst (sums.map V.str ++ [.str ts[i]])) sd = some (.lst [.ref A0, .ref A1]) := by rw [upd_ne n1s.symm]; exact u1 _ _ I.hs
        generalize upd X1 A1 (.lst (sums.map V.str ++ [.str ts[i]])) = X2 at v2 w0 w1 wt ws ⊢
        have g := DGet.k (H := X2) (a := ld) (k := Sum.inr ts[i]) (v2 _ _ hld)
        rw [vn] at g
        refine ⟨_, rfl, _, rfl, _, rfl, _, rfl, TL, _, _, _, rfl, rfl, SqL.of wt, ey, ld, _, rfl, g, _, _, rfl, rfl, .inr ⟨by omega, by omega⟩, ?_⟩
        refine ⟨_, _, own, sums ++ [ts[i]], so, ss ++ [n], wo * n, rfl, ⟨v2, ws, w0, w1, wt, fun y hy => ?_, by rw [List.length_append, List.length_singleton]; omega, I.zo, papp I.zs (.cons vn .nil), I.po, fun m hm => ?_, ?_⟩⟩
        · rw [← List.append_assoc] at hy
          rcases List.mem_append.mp hy with hy | hy
          · exact I.sub y hy
          · rw [List.mem_singleton.mp hy]; exact hym
        · rcases List.mem_append.mp hm with hm | hm
          · exact I.ps m hm
          · rw [List.mem_singleton.mp hm]; exact ⟨n1, n60⟩
        · rw [prN_snoc, I.hw, ← Nat.mul_assoc, Int.natCast_mul (prN so * prN ss), nsz]
    rintro σ X ⟨o9, o10, own, sums, so, ss, wo, rfl, I⟩
    have iln := I.ln
    rw [List.length_map] at iln
    -- the line
    refine ⟨_, rfl, _, rfl, sd, _, _, _, rfl, rfl, SqL.of I.hs, atI_nat (j := 0) rfl, _, rfl, sd, _, _, _, rfl, rfl, SqL.of I.hs, atI_nat (j := 1) rfl, line_le (by simp), fun PL hPL => ⟨_, rfl, line_le (by simp), fun q hq => ?_⟩⟩
    have u1 : Same X (upd X PL (.lst [])) := same_new hPL
    have p1 : upd X PL (.lst []) PL = some (.lst []) := upd_same
    have PLH : H PL = none := I.sm.free hPL
    have nP0 : A0 ≠ PL := ne_of_none I.h0 hPL
    have nP1 : A1 ≠ PL := ne_of_none I.h1 hPL
    generalize upd X PL (.lst []) = X1 at u1 p1 hq ⊢
    have u2 : Same X1 (upd X1 q (.tup [.str nm, .ref A0, .ref A1, .ref PL, .int wo])) := same_new hq
    have q2 : upd X1 q (.tup [.str nm, .ref A0, .ref A1, .ref PL, .int wo]) q = some (.tup [.str nm, .ref A0, .ref A1, .ref PL, .int wo]) := upd_same
    have nPq : q ≠ PL := (ne_of_none p1 hq).symm
    generalize upd X1 q (.tup [.str nm, .ref A0, .ref A1, .ref PL, .int wo]) = X2 at u2 q2 ⊢
    have p2 := u2 _ _ p1
    have u12 := u1.trans u2
    have sX2 := I.sm.trans u12
    have bdk : DkOk lk (own ++ sums) := fun y hy => dk y (I.sub y hy)
    have bok : OkN (own ++ sums) := fun y hy => okn y (I.sub y hy)
    -- the pieces
    refine ⟨_, rfl, c, 8, rfl, by decide, by decide, fun m m0 m1 => ?_⟩
    have b0 : 0 ≤ m % 4 := Int.emod_nonneg _ (by decide)
    have b1 : m % 4 < 4 := Int.emod_lt_of_pos _ (by decide)
    refine ⟨_, _, rfl, rfl, (by show (0 : Int) < 4; decide), _, rfl, by omega, by omega, ?_⟩
    refine for_range (n := (m % 4).toNat) (fun i σ Y => ∃ (o9 o10 : Option V) (pvs : List V) (ps : List Pc), σ = [some (.int c), some (.str nm), some (.ref axl), some (.ref ld), some (.ref ad), some (.int rest), some (.ref sd), some (.int wo), some (.ref TL), o9, o10, some (.ref q)] ∧ KB PL X2 Y ∧ Y PL = some (.lst pvs) ∧ ps.length = i ∧ (∀ p ∈ ps, PcIn (own ++ sums) p) ∧ ∀ M : List Addr, (∀ b ∈ M, H b ≠ none) → Paired (PcAt (PL :: M) Y) pvs ps)
      ⟨_, _, [], [], rfl, KB.refl, p2, rfl, (by intro p hp; cases hp), fun _ _ => .nil⟩ ?_ ?_
    · rintro i σ Y hi ⟨o9', o10', pvs, ps, rfl, kb, hPY, lps, pin, pcs⟩
      have sY : Same H Y := KB.same sX2 kb PLH
      have lpv : pvs.length = i := by
        have := Paired.length (pcs [] (by intro b hb; cases hb))
        omega
      refine ⟨_, rfl, ad, ak, rfl, sY _ _ had, _, _, rfl, rfl, _, rfl, iteD (fun _ => ?_) (fun hn => absurd (show (0 : Int) < (ak.length : Int) by omega) hn)⟩
      have q2Y := kb _ _ nPq q2
      refine ⟨_, rfl, q, _, _, _, rfl, rfl, SqT.of q2Y, atI_nat (j := 3) rfl, .inl ⟨rfl, _, SqL.of hPY⟩, _, rfl, _, rfl, _, _, rfl, rfl, .inl ⟨by decide, by decide⟩, _, _, rfl, rfl, _, rfl, _, _, rfl, rfl, _, rfl, _, rfl, _, rfl, _, ad, ld, q, A0, A1, ak, lk, es, nm, own, sums, _, Z, rfl, sY _ _ had, ar.same sY, sY _ _ hld, aok, q2Y, kb _ _ nP0 (u12 _ _ I.h0), kb _ _ nP1 (u12 _ _ I.h1), bdk, bok, by omega, by omega, oknm, fun z p Y2 v2 hpc pi => ?_⟩
      have hPY2 := v2 _ _ hPY
      refine ⟨PL, _, _, rfl, rfl, hPY2, line_lt (by omega), ?_⟩
      have kt : KT Y2 (upd Y2 PL (.lst (pvs ++ [.ref z]))) := KT.at hPY2 (by intro xs z; cases z)
      refine ⟨_, _, pvs ++ [.ref z], ps ++ [p], rfl, (kb.trans (KB.of v2)).upd, upd_same, by rw [List.length_append, lps]; rfl, fun p' hp' => ?_, fun M hM => ?_⟩
      · rcases List.mem_append.mp hp' with hp' | hp'
        · exact pin p' hp'
        · rw [List.mem_singleton.mp hp']; exact pi
      · have up : ∀ {v : V} {p : Pc}, PcAt (PL :: M) Y2 v p → PcAt (PL :: M) (upd Y2 PL (.lst (pvs ++ [.ref z]))) v p := fun h => h.imp kt fun b xs nb e => ⟨nb, by rw [upd_ne (fun z => nb (by rw [z]; exact .head _))]; exact e⟩
        refine papp (Paired.mapP (pcs M hM) fun _ _ h => up (h.same v2)) (.cons (up (hpc (PL :: M) fun b hb => ?_)) .nil)
        rcases List.mem_cons.mp hb with rfl | hb
        · rw [hPY]; intro z; cases z
        · intro z
          exact hM b hb (sY.free z)
    · rintro σ Y ⟨o9', o10', pvs, ps, rfl, kb, hPY, lps, pin, pcs⟩
      have sY : Same H Y := KB.same sX2 kb PLH
      refine ⟨_, rfl, k q ⟨nm, own, sums, ps, wo⟩ Y sY (fun M hM => ?_) rfl ⟨I.sub, by show own.length + sums.length ≤ 4; omega, ⟨so, ss, I.zo, I.zs, I.po, I.ps, I.hw⟩, pin, by show ps.length ≤ 3; omega⟩⟩
      exact ⟨q, A0, A1, PL, pvs, rfl, kb _ _ nPq q2, fun mm => hM _ mm hA0, kb _ _ nP0 (u12 _ _ I.h0), fun mm => hM _ mm A1H, kb _ _ nP1 (u12 _ _ I.h1), fun mm => hM _ mm PLH, hPY, Paired.mapP (pcs M hM) fun _ _ h => h.imp (KT.same (Same.refl _)) fun b xs nb e => ⟨fun mm => nb (.tail _ mm), e⟩⟩
end
end My

set_option Elab.async false
set_option linter.all false
set_option maxRecDepth 100000
set_option maxHeartbeats 4000000
namespace My
open PySem L2
local macro_rules | `(tactic| walk_at "lk") => `(tactic| first | with_reducible exact lk0 | (refine lk1 (by decide +kernel) ?_; walk_at "lk") | rfl)
theorem cut_map {α : Type} (f : α → V) (nm : List α) (lo hi : Option Int) : ∃ zs : List α, cutV (nm.map f) lo hi = zs.map f ∧ zs.length ≤ nm.length ∧ ∀ x ∈ zs, x ∈ nm := by
  refine ⟨(nm.drop (HT.sIx nm.length 0 lo)).take (HT.sIx nm.length nm.length hi - HT.sIx nm.length 0 lo), ?_, ?_, fun x hx => ?_⟩
  · unfold cutV
    rw [List.length_map, ← List.map_drop, ← List.map_take]
  · rw [List.length_take, List.length_drop]; omega
  · exact List.mem_of_mem_drop (List.mem_of_mem_take hx)
/-- a line of the program is that of the law -/
def LnOf (l : LnM) (e : Lw) : Prop := l.nm = e.nm ∧ l.own = e.own ∧ l.sums = e.sums ∧ TmR (e.own ++ e.sums) l.tm 10 e.ps
theorem LineAt.kb {A : Adr} {lv : Addr} {H H' : Hp} {ls : List V} {v : V} {e : LnM} (h : LineAt A [lv] H v e) (k : KB lv H H') (hl : H lv = some (.lst ls)) : LineAt A [lv] H' v e := by
  have nin : ∀ {b : Addr}, b ∉ [lv] → b ≠ lv := fun m z => m (by rw [z]; exact .head _)
  obtain ⟨a, dx, c, u, n, rfl, e1, m1, e2, m2, e3, ob⟩ := h
  exact ⟨a, dx, c, u, n, rfl, k _ _ (ne_of e1 hl (by intro z; cases z)) e1, m1, k _ _ (nin m1) e2, m2, k _ _ (nin m2) e3, ob.imp fun b o e => restr_mk (restr_some e).1 (k _ _ (nin (restr_some e).1) (restr_some e).2)⟩
def sp_l_cloth_of (K : PySem.W.Frag) (A : Adr) : Sp := fun vs H Q _ => ∃ (sc rl ad ld tl : Addr) (ns : List Int) (xr : List V) (rows : List Lw) (ak lk : List (Key × V)) (is : List Int) (es : List (Str × List Str)) (tb axs : List Str) (M : List Addr) (S : Addr → Prop), vs = [.ref sc, .ref rl, .ref ad, .ref ld, .ref tl] ∧ SqL K H sc (ns.map V.int) ∧ H rl = some (.lst xr) ∧ Paired (LwAt M H) xr rows ∧ (∀ e ∈ rows, LwOk lk axs e) ∧ rows.length ≤ 100 ∧ H ad = some (.dK ak) ∧ AR S H ak es ∧ ArOk lk es ∧ H ld = some (.dK lk) ∧ Ints' lk is ∧ lk.length ≤ 1000 ∧ H tl = some (.lst (tb.map V.str)) ∧ tb.length ≤ 1000 ∧
  ∀ (p dx l' a' t' v' o' : Addr) (wh : Int) (xs : List V) (lns : List LnM) (M' : List Addr) (H' : Hp), Same H H' → H' p = some (clo A dx wh l' a' t' v' o') → H' l' = some (.dK lk) → H' v' = some (.lst xs) → LinesAt A M' H' xs lns → Paired LnOf lns rows → Q (.ref p) H'
section
variable {P : Program} {w : World} {K : PySem.W.Frag} {mg : Str → Option Value} {base : Heap} {t : Adr}
theorem ok_l_cloth_of (T : Txt K mg t) : FnOk P w K mg base CX0 8 t.f_l_cloth_of t.d_l_cloth_of ["_law_script", "_law_rows", "_law_arrays", "_law_lengths", "_law_tables"] (sp_l_cloth_of K t) := by
  have G_Cloth_init := ok_Cloth_init (P := P) (w := w) (base := base) T
  have G_Line_init := ok_Line_init (P := P) (w := w) (base := base) T
  have G_l_cell_at := ok_l_cell_at (P := P) (w := w) (base := base) T
  have G_l_term_of := ok_l_term_of (P := P) (w := w) (base := base) T
  refine T.F_l_cloth_of.ok sc_l_cloth_of (fun vs H Q E h => ?_) (fun cdv A outer s H vs Q E hr h => ?_)
  · obtain ⟨sc, rl, ad, ld, tl, ns, xr, rows, ak, lk, is, es, tb, axs, M, S, rfl, _⟩ := h
    rfl
  · obtain ⟨sc, rl, ad, ld, tl, ns, xr, rows, ak, lk, is, es, tb, axs, M, S, rfl, hS, hrl, rws, lok, few, had, ar, aok, hld, il, llk, htl, ltb, k⟩ := h
    have hu := hu_of hr
    have lxr := Paired.length rws
    have lak := Paired.length ar
    have lfe := aok.few
    refine ⟨_, (pss_cons (ps_set (i := 5) sc_l_cloth_of.nd rfl (Or.inl rfl) (pe_lst pa_nil))
      (pss_cons (ps_for PassesOwn.never rfl (pi_range1 rfl T.z_range (pa_cons (pe_callB call_len_seq (by rfl) T.z_len PySem.boot_len (pa_cons (pv 1) pa_nil)) pa_nil)) (pg_name (i := 6) sc_l_cloth_of.nd rfl (Or.inl rfl) (Or.inl rfl))
        (pss_cons (ps_set (i := 7) sc_l_cloth_of.nd rfl (Or.inl rfl) (pe_call G_l_term_of (hr.mono (by omega)) rfl T.m_l_term_of T.F_l_term_of.kp T.b_l_term_of .nil pass0 (pa_cons (pe_ix ix_tup (pe_ix ix_list (pv 1) (pv 6) (fun _ _ => rfl)) pe_int (fun _ _ => rfl)) (pa_cons (pe_call G_l_cell_at (hr.mono (by omega)) rfl T.m_l_cell_at T.F_l_cell_at.kp T.b_l_cell_at .nil pass0 (pa_cons (pv 0) (pa_cons (pe_op op_add pe_int (pv 6)) pa_nil))) pa_nil))))
        (pss_one (ps_expr (pe_bm PySem.F.plainAttrs_list PySem.F.slot_list_append PySem.F.type_list_append mt_append (pv 5) (pa_cons (pe_make T.mk_Line G_Line_init (hr.mono (by omega)) rfl T.m_Line T.b_Line_init .nil pass0 (pa_cons (pe_ix ix_tup (pe_ix ix_list (pv 1) (pv 6) (fun _ _ => rfl)) pe_int (fun _ _ => rfl)) (pa_cons (pe_callTy call_list_of (by rfl) T.z_list PyProof.Rows.boot_list (pa_cons (pe_ix ix_tup (pe_ix ix_list (pv 1) (pv 6) (fun _ _ => rfl)) pe_int (fun _ _ => rfl)) pa_nil)) (pa_cons (pe_callTy call_list_of (by rfl) T.z_list PyProof.Rows.boot_list (pa_cons (pe_ix ix_tup (pe_ix ix_list (pv 1) (pv 6) (fun _ _ => rfl)) pe_int (fun _ _ => rfl)) pa_nil)) (pa_cons (pv 7) pa_nil))))) pa_nil))))))
      (pss_one (ps_ret (pe_make T.mk_Cloth G_Cloth_init (hr.mono (by omega)) rfl T.m_Cloth T.b_Cloth_init .nil pass0 (pa_cons (pe_op op_add pe_int (pe_op op_mod (pe_call G_l_cell_at (hr.mono (by omega)) rfl T.m_l_cell_at T.F_l_cell_at.kp T.b_l_cell_at .nil pass0 (pa_cons (pv 0) (pa_cons pe_int pa_nil))) (pe_op op_pow pe_int pe_int))) (pa_cons (pv 3) (pa_cons (pv 2) (pa_cons (pv 4) (pa_cons (pv 5) (pa_cons (pe_slice sl_list (pe_thawV (pe_comp (N' := ["_law_name"]) (ix := (List.replicate 1 none)) rfl (clok_none rfl (by decide +kernel) (by decide +kernel)) (ixok_none rfl) (pi_dict (pv 2)) (fun _ _ _ _ => (pg_name (i := 0) nd_comp_7 rfl (Or.inl rfl) (Or.inr rfl))) (fun _ _ _ _ => (pv 0)))) (po_some (pe_un un_neg pe_int)) po_none) pa_nil))))))))))), ?_⟩
    refine ⟨line_le (by simp), fun lv hlv0 => ?_⟩
    have t1 : Same H (upd H lv (.lst [])) := same_new hlv0
    have hlv1 : upd H lv (.lst []) lv = some (.lst []) := upd_same
    generalize upd H lv (.lst []) = G1 at t1 hlv1 ⊢
    refine ⟨_, rfl, rl, _, rfl, .inl (SqL.of (t1 _ _ hrl)), _, rfl, by omega, by omega, ?_⟩
    refine for_range (n := xr.length) (fun i σ G => ∃ (o6 o7 : Option V) (xs : List V) (lns : List LnM), σ = [some (.ref sc), some (.ref rl), some (.ref ad), some (.ref ld), some (.ref tl), some (.ref lv), o6, o7] ∧ Same H G ∧ G lv = some (.lst xs) ∧ LinesAt t [lv] G xs lns ∧ Paired LnOf lns (rows.take i))
      ⟨none, none, [], [], rfl, t1, hlv1, .nil, .nil⟩ ?_ ?_
    · rintro i σ G hi ⟨o6, o7, xs, lns, rfl, sg, hlvg, lis, lof⟩
      have hxi : xr[i]? = some xr[i] := List.getElem?_eq_getElem hi
      obtain ⟨e, he, q, O, Sm, Pl, pvs, eq, hq, _, hO, _, hSm, _, hPl, pcs⟩ := pget rws hxi
      have lo := lok e (List.mem_of_getElem? he)
      have l4 := lo.l4
      have ei : atI xr (0 + (i : Int)) = some (.ref q) := by rw [Int.zero_add]; exact atI_nat (by rw [hxi, eq])
      -- the term
      refine ⟨_, rfl, _, rfl, rl, _, _, _, rfl, rfl, SqL.of (sg _ _ hrl), ei, q, _, _, _, rfl, rfl, SqT.of (sg _ _ hq), atI_nat (j := 3) rfl, _, rfl, _, rfl, _, _, rfl, rfl, sc, ns, _, rfl, sg.seq hS, by omega, fun z => ?_⟩
      refine ⟨Pl, pvs, e.ps, z, M, e.own ++ e.sums, rfl, sg _ _ hPl, Paired.mapP pcs (fun _ _ z => z.same sg), lo.lp, lo.ps, fun v Tt X sx ob tr => ?_⟩
      have sX := sg.trans sx
      have hlvX := sx _ _ hlvg
      have obX : Ob t (restr (fun b => b ∉ [lv]) X) v Tt := ob.imp (restr_imp (Same.refl _) fun a o _ h m => by
        have h : G a = none := h
        rw [List.mem_singleton.mp m, hlvg] at h
        cases h)
      -- the line
      refine ⟨_, rfl, .inl ⟨rfl, _, SqL.of hlvX⟩, _, rfl, _, rfl, rl, _, _, _, rfl, rfl, SqL.of (sX _ _ hrl), ei, q, _, _, _, rfl, rfl, SqT.of (sX _ _ hq), atI_nat (j := 0) rfl, _, rfl, _, rfl, rl, _, _, _, rfl, rfl, SqL.of (sX _ _ hrl), ei, q, _, _, _, rfl, rfl, SqT.of (sX _ _ hq), atI_nat (j := 1) rfl, O, _, rfl, .inl (SqL.of (sX _ _ hO)), fun O1 hO1 => ?_⟩
      have u1 : Same X (upd X O1 (.lst (e.own.map V.str))) := same_new hO1
      have hO1' : upd X O1 (.lst (e.own.map V.str)) O1 = some (.lst (e.own.map V.str)) := upd_same
      generalize upd X O1 (.lst (e.own.map V.str)) = X6 at u1 hO1' ⊢
      have sm6 := sX.trans u1
      refine ⟨_, rfl, _, rfl, rl, _, _, _, rfl, rfl, SqL.of (sm6 _ _ hrl), ei, q, _, _, _, rfl, rfl, SqT.of (sm6 _ _ hq), atI_nat (j := 2) rfl, Sm, _, rfl, .inl (SqL.of (sm6 _ _ hSm)), fun S1 hS1 => ?_⟩
      have u2 : Same X6 (upd X6 S1 (.lst (e.sums.map V.str))) := same_new hS1
      have hS1' : upd X6 S1 (.lst (e.sums.map V.str)) S1 = some (.lst (e.sums.map V.str)) := upd_same
      generalize upd X6 S1 (.lst (e.sums.map V.str)) = X7 at u2 hS1' ⊢
      refine ⟨_, rfl, fun x dx hx hdx hne2 => ?_⟩
      have u4 : Same X7 (upd (upd X7 dx (.own x)) x (.ins t.C_Line dx [])) := same_fresh (same_new hdx) hx
      have g9x : upd (upd X7 dx (.own x)) x (.ins t.C_Line dx []) x = some (.ins t.C_Line dx []) := upd_same
      generalize upd (upd X7 dx (.own x)) x (.ins t.C_Line dx []) = X9 at u4 g9x ⊢
      refine ⟨x, dx, O1, S1, v, e.nm, e.own, e.sums, rfl, g9x, (u2.trans u4) _ _ hO1', u4 _ _ hS1', by omega, by omega, fun cc cu Ga hc0 hu0 hx' hcc hcu kba => ⟨rfl, ?_⟩⟩
      have u59 := u1.trans (u2.trans u4)
      have u5a : Same X Ga := (u1.trans u2).trans (KB.same u4 kba hx)
      have hlva := u5a _ _ hlvX
      have lxs := Paired.length lis
      have lxl := Paired.length lof
      rw [List.length_take] at lxl
      refine ⟨lv, _, _, rfl, rfl, hlva, line_lt (by omega), ?_⟩
      have k9 : KB lv Ga (upd Ga lv (.lst (xs ++ [.ref x]))) := KB.refl.upd
      have hlvb : upd Ga lv (.lst (xs ++ [.ref x])) lv = some (.lst (xs ++ [.ref x])) := upd_same
      have smb : Same H (upd Ga lv (.lst (xs ++ [.ref x]))) := same_fresh (sX.trans u5a) hlv0
      generalize upd Ga lv (.lst (xs ++ [.ref x])) = Gb at k9 hlvb smb ⊢
      have nlv : ∀ {b : Addr}, X9 b = none → b ∉ [lv] := fun e m => by rw [List.mem_singleton.mp m, u59 _ _ hlvX] at e; cases e
      have nin : ∀ {b : Addr}, b ∉ [lv] → b ≠ lv := fun m z => m (by rw [z]; exact .head _)
      refine ⟨_, _, xs ++ [.ref x], lns ++ [⟨e.nm, e.own, e.sums, Tt⟩], rfl, smb, hlvb, ?_, ?_⟩
      · refine papp (Paired.mapP lis fun _ _ z => (z.same (sx.trans u5a)).kb k9 hlva) (.cons ⟨x, dx, cc, cu, v, rfl, k9 _ _ (ne_of hx' hlva (by intro z; cases z)) hx', nlv hc0, k9 _ _ (nin (nlv hc0)) hcc, nlv hu0, k9 _ _ (nin (nlv hu0)) hcu, ?_⟩ .nil)
        exact (obX.imp (restr_same u5a)).imp fun b o e => restr_mk (restr_some e).1 (k9 _ _ (nin (restr_some e).1) (restr_some e).2)
      · rw [List.take_add_one, he, Option.toList_some]
        exact papp lof (.cons ⟨rfl, rfl, rfl, tr⟩ .nil)
    rintro σ G ⟨o6, o7, xs, lns, rfl, sg, hlvg, lis, lof⟩
    rw [lxr, List.take_length] at lof
    have lxs := Paired.length lis
    have lxl := Paired.length lof
    have hadg := sg _ _ had
    have arg := ar.same sg
    -- the cloth
    refine ⟨_, rfl, sc, ns, 1, rfl, sg.seq hS, by decide, fun z => ?_⟩
    refine ⟨_, _, rfl, rfl, ⟨by decide, by decide, by decide⟩, _, _, rfl, rfl, (by show (0 : Int) < 10 ^ (20 : Int).toNat; decide), _, _, rfl, rfl, _, rfl, _, rfl, _, rfl, _, rfl, ?_⟩
    refine ⟨_, rfl, ad, ak, rfl, hadg, fun o D hD => ?_⟩
    have Da : D ≠ ad := fun z => by subst z; rw [upd_same] at hD; cases hD
    refine comp_genQ (J := Itd ad o ak) (D := D) ak.length (fun i ys Hx => Same (upd G ad (.frz o (.dK ak))) Hx ∧ Hx D = some (.lst ys) ∧ ys = ((es.take i).map (·.1)).map V.str) ⟨same_new hD, upd_same, rfl⟩ (fun i ys Hx hi ⟨s2, _⟩ => ⟨s2 _ _ upd_same, hi⟩) (fun ys Hx ⟨s2, _⟩ => ⟨s2 _ _ upd_same, rfl⟩) ?_ ?_
    · rintro i ys Hx hi ⟨sx, hDx, rfl⟩ x Hy ⟨rfl, k', v, hkv, rfl⟩
      obtain ⟨e, he, ek, _⟩ := pget arg hkv
      have ek : k' = Sum.inr e.1 := ek
      subst ek
      refine ⟨True.intro, _, rfl, hDx, line_lt (by simp; omega), same_fresh sx hD, upd_same, ?_⟩
      rw [List.take_add_one, he, Option.toList_some, List.map_append, List.map_append]
      rfl
    rintro ys Hx ⟨sx, hDx, rfl⟩
    rw [lak, List.take_length] at hDx
    refine ⟨ad, o, _, sx _ _ upd_same, (fun o' u' z => by have z : H ad = some (.frz o' u') := z; rw [had] at z; cases z), ?_⟩
    have st : Same G (upd Hx ad (.dK ak)) := same_thaw hadg sx
    have hDt : upd Hx ad (.dK ak) D = some (.lst ((es.map (·.1)).map V.str)) := by rw [upd_ne Da]; exact hDx
    generalize upd Hx ad (.dK ak) = Gt at st hDt ⊢
    refine ⟨_, rfl, _, rfl, D, _, rfl, SqL.of hDt, fun ol hol => ?_⟩
    obtain ⟨os, eo, lo, mo⟩ := cut_map V.str (es.map (·.1)) (some (-1)) none
    rw [List.length_map] at lo
    have eo : cutV ((es.map (·.1)).map V.str) (some (-1)) none = os.map V.str := eo
    rw [eo]
    have sGa : Same G (upd Gt ol (.lst (os.map V.str))) := st.trans (same_new hol)
    have holA : upd Gt ol (.lst (os.map V.str)) ol = some (.lst (os.map V.str)) := upd_same
    generalize upd Gt ol (.lst (os.map V.str)) = Ga at sGa holA ⊢
    refine fun p dx hp hdx hne => ?_
    have v2 : Same Ga (upd (upd Ga dx (.own p)) p (.ins t.C_Cloth dx [])) := same_fresh (same_new hdx) hp
    have hcp : upd (upd Ga dx (.own p)) p (.ins t.C_Cloth dx []) p = some (.ins t.C_Cloth dx []) := upd_same
    generalize upd (upd Ga dx (.own p)) p (.ins t.C_Cloth dx []) = Gb at v2 hcp ⊢
    have v12 := sGa.trans v2
    have s7b := sg.trans v12
    refine ⟨p, dx, ld, ad, tl, lv, ol, _, lk, ak, is, es, tb, os, xs, _, rfl, hcp, s7b _ _ hld, il, by omega, v12 _ _ hadg, arg.same v12, by omega, (fun e he => by have := aok.l4 e he; omega), s7b _ _ htl, by omega, v12 _ _ hlvg, by omega, fun x hx => ?_, v2 _ _ holA, by omega, fun l' a' t' v' o' ak' Gc hp9 nl' hl9 na' ha9 ar9 nt' ht9 nv' hv9 no' ho9 kb9 => ⟨rfl, ?_⟩⟩
    · obtain ⟨j, hj⟩ := List.getElem?_of_mem hx
      obtain ⟨e, _, x0, d0, _, _, _, rfl, e0, _⟩ := pget lis hj
      exact ⟨x0, d0, _, rfl, (fun z => by rw [z] at e0; rw [sGa _ _ e0] at hp; cases hp), v12 _ _ e0⟩
    have v3 : Same Ga Gc := KB.same v2 kb9 hp
    have v0c := sGa.trans v3
    exact k p dx l' a' t' v' o' _ xs lns [lv] Gc (sg.trans v0c) hp9 hl9 hv9 (Paired.mapP lis fun _ _ z => z.same v0c) lof
end
end My

set_option Elab.async false
set_option linter.all false
set_option maxRecDepth 100000
set_option maxHeartbeats 4000000
namespace My
open PySem L2
local macro_rules | `(tactic| walk_at "lk") => `(tactic| first | with_reducible exact lk0 | (refine lk1 (by decide +kernel) ?_; walk_at "lk") | rfl)
def spLaw (K : PySem.W.Frag) : Sp := fun vs H Q _ => ∃ (a : Addr) (ns : List Int), vs = [.ref a] ∧ SqL K H a (ns.map V.int) ∧ ns.length ≤ 63 ∧ ∀ H', Q (.bl true) H'
/-- the names of lines -/
def sName (k : Nat) : Str := "s" ++ (toString (k : Int) : Str)
theorem sName_ok : ∀ k : Fin 100, PyData.strOk (sName k.1) = true ∧ (sName k.1).length ≤ 20 ∧ (((k.1 : Nat) : Int)).natAbs.log2 < 1920 ∧ ("s" : Str).length + (toString ((k.1 : Nat) : Int) : Str).length ≤ 100 := by decide +kernel
theorem cut_le {xs : List V} {m : Nat} : (cutV xs none (some (m : Int))).length ≤ m := by
  unfold cutV
  rw [HT.sIx_none, HT.sIx_nat, List.length_take]
  omega
theorem ints_ex {lk : List (Key × V)} (h : ∀ p ∈ lk, ∃ n : Int, p.2 = .int n) : ∃ is, Ints' lk is := by
  induction lk with
  | nil => exact ⟨[], .nil⟩
  | cons p r ih =>
    obtain ⟨n, hn⟩ := h p (.head _)
    obtain ⟨is, hi⟩ := ih fun q hq => h q (.tail _ hq)
    exact ⟨n :: is, .cons hn hi⟩
theorem ar_map {S : Addr → Prop} {H : Hp} {x : Str} {l : Addr} {ys : List Str} (hs : S l) (hl : H l = some (.lst (ys.map V.str))) : ∀ {kvs : List (Key × V)} {es : List (Str × List Str)}, AR S H kvs es →
    ∃ es', AR S H (kvs.map fun kv => if kv.1 = Sum.inr x then (kv.1, V.ref l) else kv) es' ∧ (∀ e ∈ es', e ∈ es ∨ e = (x, ys)) ∧ es'.length = es.length
  | _, _, .nil => ⟨[], .nil, by simp, rfl⟩
  | _, _, @Paired.cons _ _ _ p e _ _ r t => by
    obtain ⟨es', h1, h2, h3⟩ := ar_map hs hl t
    by_cases hk : p.1 = Sum.inr x
    · refine ⟨(x, ys) :: es', ?_, fun f hf => ?_, by simp [h3]⟩
      · rw [List.map_cons, if_pos hk]
        exact .cons ⟨hk, l, rfl, hs, hl⟩ h1
      · rcases List.mem_cons.mp hf with rfl | hf
        · exact .inr rfl
        · exact (h2 f hf).imp (fun h => .tail _ h) id
    · refine ⟨e :: es', ?_, fun f hf => ?_, by simp [h3]⟩
      · rw [List.map_cons, if_neg hk]
        exact .cons r h1
      · rcases List.mem_cons.mp hf with rfl | hf
        · exact .inl (.head _)
        · exact (h2 f hf).imp (fun h => .tail _ h) id
theorem ar_put {S : Addr → Prop} {H : Hp} {x : Str} {l : Addr} {ys : List Str} {kvs : List (Key × V)} {es : List (Str × List Str)} (hs : S l) (hl : H l = some (.lst (ys.map V.str))) (h : AR S H kvs es) :
    ∃ es', AR S H (putK kvs (Sum.inr x) (.ref l)) es' ∧ (∀ e ∈ es', e ∈ es ∨ e = (x, ys)) ∧ es'.length ≤ es.length + 1 ∧ es' ≠ [] := by
  unfold putK
  split
  · rename_i ha
    obtain ⟨es', h1, h2, h3⟩ := ar_map (x := x) hs hl h
    refine ⟨es', h1, h2, by omega, fun z => ?_⟩
    subst z
    have hl0 := Paired.length h
    have : kvs = [] := List.length_eq_zero_iff.mp (by rw [hl0, ← h3]; rfl)
    subst this
    simp at ha
  · refine ⟨es ++ [(x, ys)], Paired.snoc ⟨rfl, l, rfl, hs, hl⟩ h, fun e he => ?_, by simp, by simp⟩
    rcases List.mem_append.mp he with he | he
    · exact .inl he
    · exact .inr (List.mem_singleton.mp he)
/-- among texts there are texts alone -/
theorem strs_of {ys : List Str} : ∀ {zs : List V}, (∀ z ∈ zs, z ∈ ys.map V.str) → ∃ ws : List Str, zs = ws.map V.str ∧ ∀ x ∈ ws, x ∈ ys
  | [], _ => ⟨[], rfl, by simp⟩
  | z :: r, h => by
    obtain ⟨ws, e, m⟩ := strs_of (zs := r) fun y hy => h y (.tail _ hy)
    obtain ⟨x, hx, ex⟩ := List.mem_map.mp (h z (.head _))
    refine ⟨x :: ws, by rw [List.map_cons, e, ex], fun y hy => ?_⟩
    rcases List.mem_cons.mp hy with rfl | hy
    · exact hx
    · exact m y hy
theorem ArOk.put {lk : List (Key × V)} {es es' : List (Str × List Str)} {x : Str} {ys : List Str} (h : ∀ e ∈ es, DkOk lk e.2 ∧ e.2.length ≤ 4 ∧ PyData.strOk e.1 = true) (m : ∀ e ∈ es', e ∈ es ∨ e = (x, ys)) (ne : es' ≠ []) (few : es'.length ≤ 900) (dk : DkOk lk ys) (l4 : ys.length ≤ 4) (ok : PyData.strOk x = true) : ArOk lk es' := by
  have all : ∀ e ∈ es', DkOk lk e.2 ∧ e.2.length ≤ 4 ∧ PyData.strOk e.1 = true := fun e he => by
    rcases m e he with he | he
    · exact h e he
    · rw [he]; exact ⟨dk, l4, ok⟩
  exact ⟨ne, fun e he => (all e he).1, fun e he => (all e he).2.1, fun e he => (all e he).2.2, few⟩
theorem ArOk.each {lk : List (Key × V)} {es : List (Str × List Str)} (h : ArOk lk es) : ∀ e ∈ es, DkOk lk e.2 ∧ e.2.length ≤ 4 ∧ PyData.strOk e.1 = true := fun e he => ⟨h.dk e he, h.l4 e he, h.ok e he⟩
/-- rows and arrays so far -/
structure RI (H4 X : Hp) (ad rl tl cl : Addr) (tb : List Str) (cs : List V) (lk : List (Key × V)) (axs : List Str) (ak : List (Key × V)) (es : List (Str × List Str)) (xr : List V) (rows : List Lw) (n : Nat) : Prop where
  sm : Same H4 X
  had : X ad = some (.dK ak)
  hrl : X rl = some (.lst xr)
  htl : X tl = some (.lst (tb.map V.str))
  hcl : X cl = some (.lst cs)
  ar : AR (fun b => b ≠ rl) X ak es
  aok : ArOk lk es
  le : es.length ≤ 2 + n
  rws : Paired (LwAt [rl] X) xr rows
  lok : ∀ e ∈ rows, LwOk lk axs e ∧ e.wo ≤ 60 ∧ PyData.strOk e.nm = true
  lr : rows.length ≤ n
theorem rdP_congr {BD : List Str} {f g : Str → Int} {p : Pc} (h : PcIn BD p) (e : ∀ x ∈ BD, f x = g x) : rdP f p = rdP g p := by
  have h1 : allG f p.gs = allG g p.gs := by
    unfold allG
    rw [Bool.eq_iff_iff, List.all_eq_true, List.all_eq_true]
    refine ⟨fun a x hx => ?_, fun a x hx => ?_⟩
    · have := of_decide_eq_true (a x hx)
      refine decide_eq_true ?_
      show x.2.1 ≤ g x.1 ∧ g x.1 < x.2.2
      rw [← e _ (h.gs x hx)]
      exact this
    · have := of_decide_eq_true (a x hx)
      refine decide_eq_true ?_
      show x.2.1 ≤ f x.1 ∧ f x.1 < x.2.2
      rw [e _ (h.gs x hx)]
      exact this
  have h2 : cellM f p.ix = cellM g p.ix := by
    unfold cellM
    refine List.map_congr_left fun x hx => ?_
    by_cases hz : x.1 = ("" : Str)
    · rw [if_pos hz, if_pos hz]
    · rw [if_neg hz, if_neg hz, e _ ((h.ix x hx).resolve_left hz)]
  unfold rdP
  rw [h1, h2]
theorem flat_congr {α β : Type} {f g : α → List β} : ∀ {l : List α}, (∀ x ∈ l, f x = g x) → l.flatMap f = l.flatMap g
  | [], _ => rfl
  | x :: r, h => by
    rw [List.flatMap_cons, List.flatMap_cons, h x (.head _), flat_congr fun y hy => h y (.tail _ hy)]
theorem due_ok {BD : List Str} {e : Lw} {s : StM} (h : ∀ p ∈ e.ps, PcIn BD p) : ∀ r ∈ dueL e s, PyData.strOk r.1 = true := fun r hr => by
  unfold dueL at hr
  split at hr
  · cases hr
  · obtain ⟨p, hp, hr⟩ := List.mem_flatMap.mp hr
    unfold rdP at hr
    split at hr
    · rw [List.mem_singleton.mp hr]; exact (h p hp).ok
    · cases hr
theorem due_len {e : Lw} {s : StM} : (dueL e s).length ≤ e.ps.length := by
  unfold dueL
  split
  · exact Nat.zero_le _
  · exact flat_len1 _ _
/-- what the program reads is what is due -/
theorem read_due {A : Adr} {lk : List (Key × V)} {axs : List Str} {e : Lw} {l : LnM} {s : StM} {kk : Nat} (lo : LwOk lk axs e) (ln : LnOf l e) (so : StOk kk e s) (dk : DkOk lk axs) (hw : s.wd ≠ "start") : RdAsk lk l s ∧ rd (ai lk) l.tm (ai (atM l s)) = dueL e s := by
  obtain ⟨_, e1, e2, tr⟩ := ln
  obtain ⟨_, lc, lt⟩ := so
  have lt := lt hw
  have at1 : ∀ x ∈ e.own ++ e.sums, ai (atM l s) x = ai (atW e.own e.sums s) x ∧ valV (atM l s) (Sum.inr x) = some (.int (ai (atM l s) x)) := fun x hx => by
    have := atW_atM (s := s) lc lt hx
    unfold atM
    rw [e1, e2]
    exact this
  have er : rd (ai lk) l.tm (ai (atM l s)) = dueL e s := by
    rw [tr.rds]
    unfold dueL
    rw [if_neg hw]
    exact flat_congr fun p hp => rdP_congr (lo.ps p hp) fun x hx => (at1 x hx).1
  have l4 := lo.l4
  refine ⟨⟨by rw [e1]; exact lc, by rw [e2]; exact lt, by rw [e1, e2]; omega, tr.gd, tr.dp, fun x hx => (at1 x (tr.fv x hx)).2, ⟨e.own ++ e.sums, tr.ax, fun x hx => ?_⟩, ?_⟩, er⟩
  · obtain ⟨n, vn, n1, n60⟩ := dk x (lo.sub x hx)
    have := ai_of vn
    rw [this]
    exact ⟨vn, n1, n60⟩
  · rw [er]
    have := due_len (e := e) (s := s)
    have := lo.lp
    omega
section
variable {P : Program} {w : World} {K : PySem.W.Frag} {mg : Str → Option Value} {base : Heap} {t : Adr}
theorem ok_law (T : Txt K mg t) : FnOk P w K mg base CX0 16 t.f_law t.d_law ["_law_script"] (spLaw K) := by
  have G_l_all_told := ok_l_all_told (P := P) (w := w) (base := base) T
  have G_l_cell_at := ok_l_cell_at (P := P) (w := w) (base := base) T
  have G_l_cloth_of := ok_l_cloth_of (P := P) (w := w) (base := base) T
  have G_l_due_of := ok_l_due_of (P := P) (w := w) (base := base) T
  have G_l_is_spot := ok_l_is_spot (P := P) (w := w) (base := base) T
  have G_l_line_by := ok_l_line_by (P := P) (w := w) (base := base) T
  have G_l_names_by := ok_l_names_by (P := P) (w := w) (base := base) T
  have G_l_steps_by := ok_l_steps_by (P := P) (w := w) (base := base) T
  have G_read_by := ok_read_by (P := P) (w := w) (base := base) T
  have G_written_by := ok_written_by (P := P) (w := w) (base := base) T
  refine T.F_law.ok sc_law (fun vs H Q E h => ?_) (fun cdv A outer s H vs Q E hr h => ?_)
  · obtain ⟨a, ns, rfl, _⟩ := h
    rfl
  · obtain ⟨a, ns, rfl, hS, l63, k⟩ := h
    have hu := hu_of hr
    refine ⟨_, (pss_cons (ps_set (i := 1) sc_law.nd rfl (Or.inl rfl) (pe_call G_l_cell_at (hr.mono (by omega)) rfl T.m_l_cell_at T.F_l_cell_at.kp T.b_l_cell_at .nil pass0 (pa_cons (pv 0) (pa_cons pe_int pa_nil))))
      (pss_cons (ps_set (i := 2) sc_law.nd rfl (Or.inl rfl) (pe_call G_l_names_by (hr.mono (by omega)) rfl T.m_l_names_by T.F_l_names_by.kp T.b_l_names_by .nil pass0 (pa_cons (pe_op op_fdiv (pv 1) pe_int) (pa_cons pe_int pa_nil))))
      (pss_cons (ps_set (i := 3) sc_law.nd rfl (Or.inl rfl) (pe_slice sl_list (pv 2) po_none (po_some (pe_op op_mod (pv 1) pe_int))))
      (pss_cons (ps_set (i := 4) sc_law.nd rfl (Or.inl rfl) pe_dnewK)
      (pss_cons (ps_for PassesOwn.never rfl (pi_range1 rfl T.z_range (pa_cons (pe_callB call_len_seq (by rfl) T.z_len PySem.boot_len (pa_cons (pv 3) pa_nil)) pa_nil)) (pg_name (i := 5) sc_law.nd rfl (Or.inl rfl) (Or.inl rfl))
        (pss_cons (ps_dput hu (pv 4) (pe_ix ix_list (pv 3) (pv 5) (fun _ _ => rfl)) (pe_op op_add pe_int (pe_op op_mod (pe_call G_l_cell_at (hr.mono (by omega)) rfl T.m_l_cell_at T.F_l_cell_at.kp T.b_l_cell_at .nil pass0 (pa_cons (pv 0) (pa_cons (pe_op op_add pe_int (pv 5)) pa_nil))) pe_int)) rfl)
        (pss_one (ps_if (PW.pt (pw_and (pt_cmpR op_eq (pv 5) pe_int (nomark _)) (pw_and1 (pt_cmpR op_eq (pe_op op_mod (pe_op op_fdiv (pv 1) pe_int) pe_int) pe_int (nomark _)))))
          (pss_one (ps_dput hu (pv 4) (pe_ix ix_list (pv 3) (pv 5) (fun _ _ => rfl)) (pe_op op_add pe_int (pe_op op_mod (pe_call G_l_cell_at (hr.mono (by omega)) rfl T.m_l_cell_at T.F_l_cell_at.kp T.b_l_cell_at .nil pass0 (pa_cons (pv 0) (pa_cons pe_int pa_nil))) pe_int)) rfl))
          pss_nil))))
      (pss_cons (ps_set (i := 6) sc_law.nd rfl (Or.inl rfl) (pe_disp (pps_cons (pe_ix ix_list (pv 2) pe_int (fun _ _ => rfl)) (pe_slice sl_list (pv 3) po_none (po_some pe_int)) pps_nil) rfl rfl (by simp) (by decide)))
      (pss_cut (ps_if (pt_cmpR op_eq (pe_op op_mod (pe_op op_fdiv (pv 1) pe_int) pe_int) pe_int (nomark _))
        (pss_one (ps_dput hu (pv 6) (pe_ix ix_list (pv 2) pe_int (fun _ _ => rfl)) (pe_sliceR (pe_slice sl_list (pv 3) (po_some pe_int) po_none) po_none po_none (pe_un un_neg pe_int)) rfl))
        pss_nil)
      (pss_cons (ps_setC (i₀ := 7) (N' := ["_law_name"]) (ix := (List.replicate 1 none)) sc_law.nd rfl (Or.inl rfl) rfl (clok_none rfl (by decide +kernel) (by decide +kernel)) (ixok_none rfl) (pi_dict (pv 6)) (fun _ _ _ _ => (pg_name (i := 0) nd_comp_8 rfl (Or.inl rfl) (Or.inr rfl))) (fun _ _ _ _ => (pv 0)))
      (pss_thaw (pss_cons (ps_set (i := 8) sc_law.nd rfl (Or.inl rfl) (pe_lst pa_nil))
      (pss_cons (ps_set (i := 9) sc_law.nd rfl (Or.inl rfl) pe_int)
      (pss_cons (ps_for PassesOwn.never rfl (pi_list (pe_slice sl_list (pv 0) (po_some pe_int) (po_some pe_int))) (pg_name (i := 10) sc_law.nd rfl (Or.inl rfl) (Or.inl rfl))
        (pss_cons (ps_set (i := 11) sc_law.nd rfl (Or.inl rfl) (pe_call G_l_line_by (hr.mono (by omega)) rfl T.m_l_line_by T.F_l_line_by.kp T.b_l_line_by .nil pass0 (pa_cons (pv 10) (pa_cons (pe_op op_add_str pe_str (pe_callTy call_str_int (by rfl) T.z_str PyProof.Rows.boot_str (pa_cons (pe_callB call_len_seq (by rfl) T.z_len PySem.boot_len (pa_cons (pv 8) pa_nil)) pa_nil))) (pa_cons (pv 3) (pa_cons (pv 4) (pa_cons (pv 6) pa_nil)))))))
        (pss_one (ps_if (pt_cmpR op_le (pe_ix ix_tup (pv 11) pe_int (fun _ _ => rfl)) (pe_callB (call_min2 rfl) (by rfl) T.z_min PyProof.Rows.boot_min (pa_cons (pv 9) (pa_cons pe_int pa_nil))) (nomark _))
          (pss_cons (ps_set (i := 9) sc_law.nd rfl (Or.inl rfl) (pe_op op_sub (pv 9) (pe_ix ix_tup (pv 11) pe_int (fun _ _ => rfl))))
          (pss_cons (ps_expr (pe_bm PySem.F.plainAttrs_list PySem.F.slot_list_append PySem.F.type_list_append mt_append (pv 8) (pa_cons (pv 11) pa_nil)))
          (pss_one (ps_dput hu (pv 6) (pe_ix ix_tup (pv 11) pe_int (fun _ _ => rfl)) (pe_callTy call_list_of (by rfl) T.z_list PyProof.Rows.boot_list (pa_cons (pe_ix ix_tup (pv 11) pe_int (fun _ _ => rfl)) pa_nil)) rfl))))
          pss_nil))))
      (pss_cons (ps_set (i := 12) sc_law.nd rfl (Or.inl rfl) (pe_call G_l_cloth_of (hr.mono (by omega)) rfl T.m_l_cloth_of T.F_l_cloth_of.kp T.b_l_cloth_of .nil pass0 (pa_cons (pv 0) (pa_cons (pv 8) (pa_cons (pv 6) (pa_cons (pv 4) (pa_cons (pv 7) pa_nil)))))))
      (pss_cons (ps_for PassesOwn.never rfl (pi_range1 rfl T.z_range (pa_cons (pe_callB call_len_seq (by rfl) T.z_len PySem.boot_len (pa_cons (pv 8) pa_nil)) pa_nil)) (pg_name (i := 5) sc_law.nd rfl (Or.inl rfl) (Or.inl rfl))
        (pss_one (ps_for PassesOwn.never rfl (pi_list (pe_call G_l_steps_by (hr.mono (by omega)) rfl T.m_l_steps_by T.F_l_steps_by.kp T.b_l_steps_by .nil pass0 (pa_cons (pv 5) (pa_cons (pe_ix ix_list (pv 8) (pv 5) (fun _ _ => rfl)) (pa_cons (pv 4) pa_nil))))) (pg_name (i := 13) sc_law.nd rfl (Or.inl rfl) (Or.inl rfl))
          (pss_cons (ps_set (i := 14) sc_law.nd rfl (Or.inl rfl) (pe_call G_l_due_of (hr.mono (by omega)) rfl T.m_l_due_of T.F_l_due_of.kp T.b_l_due_of .nil pass0 (pa_cons (pv 13) (pa_cons (pe_ix ix_list (pv 8) (pv 5) (fun _ _ => rfl)) pa_nil))))
          (pss_cons (ps_set (i := 15) sc_law.nd rfl (Or.inl rfl) (pe_call G_read_by (hr.mono (by omega)) rfl T.m_read_by T.F_read_by.kp T.b_read_by .nil pass0 (pa_cons (pv 12) (pa_cons (pv 13) pa_nil))))
          (pss_cons (ps_if (pt_not (pt_val (pe_call G_l_all_told (hr.mono (by omega)) rfl T.m_l_all_told T.F_l_all_told.kp T.b_l_all_told .nil pass0 (pa_cons (pv 15) (pa_cons (pv 14) pa_nil)))))
            (pss_one (ps_ret pe_bl))
            pss_nil)
          (pss_cons (ps_expr (pe_bm PySem.F.plainAttrs_list PySem.F.slot_list_append PySem.F.type_list_append mt_append (pv 15) (pa_cons (pe_tup (pa_cons pe_str (pa_cons (pe_tup (pa_cons pe_int pa_nil)) pa_nil))) pa_nil)))
          (pss_cons (ps_if (pt_not (pt_val (pe_call G_l_is_spot (hr.mono (by omega)) rfl T.m_l_is_spot T.F_l_is_spot.kp T.b_l_is_spot .nil pass0 (pa_cons (pe_call G_written_by (hr.mono (by omega)) rfl T.m_written_by T.F_written_by.kp T.b_written_by .nil pass0 (pa_cons (pv 12) (pa_cons (pv 13) pa_nil))) (pa_cons (pe_tup (pa_cons (pe_ix ix_tup (pe_ix ix_list (pv 8) (pv 5) (fun _ _ => rfl)) pe_int (fun _ _ => rfl)) (pa_cons (pe_ix ix_tup (pv 13) pe_int (fun _ _ => rfl)) pa_nil))) pa_nil)))))
            (pss_one (ps_ret pe_bl))
            pss_nil)
          (pss_one (ps_if (PW.pt (pw_and (pt_cmpR op_eq (pe_op op_mod (pv 5) pe_int) pe_int (nomark _)) (pw_and1 (pt_not (pt_val (pe_call G_l_all_told (hr.mono (by omega)) rfl T.m_l_all_told T.F_l_all_told.kp T.b_l_all_told .nil pass0 (pa_cons (pe_call G_read_by (hr.mono (by omega)) rfl T.m_read_by T.F_read_by.kp T.b_read_by .nil pass0 (pa_cons (pv 12) (pa_cons (pv 13) pa_nil))) (pa_cons (pv 14) pa_nil))))))))
            (pss_one (ps_ret pe_bl))
            pss_nil))))))))))
      (pss_one (ps_ret pe_bl)))))))))))))))), ?_⟩
    refine ⟨_, rfl, a, ns, 0, rfl, hS, by decide, fun hh => ?_⟩
    refine ⟨_, rfl, _, _, rfl, rfl, ⟨by decide, by decide⟩, _, rfl, fun nl nm H1 hnl0 s1 hnl l20 okn => ?_⟩
    obtain ⟨n8, hn8⟩ : ∃ x, nm[8]? = some x := ⟨nm[8], List.getElem?_eq_getElem (by omega)⟩
    obtain ⟨n9, hn9⟩ : ∃ x, nm[9]? = some x := ⟨nm[9], List.getElem?_eq_getElem (by omega)⟩
    have e8 : atI (nm.map V.str) ((8 : Nat) : Int) = some (.str n8) := atI_nat (by rw [List.getElem?_map, hn8]; rfl)
    have e9 : atI (nm.map V.str) ((9 : Nat) : Int) = some (.str n9) := atI_nat (by rw [List.getElem?_map, hn9]; rfl)
    have ok8 := (okn n8 (List.mem_of_getElem? hn8)).1
    have ok9 := (okn n9 (List.mem_of_getElem? hn9)).1
    -- the axes
    refine ⟨_, rfl, _, rfl, _, _, rfl, rfl, (by show (0 : Int) < 5; decide), _, rfl, nl, _, rfl, SqL.of hnl, fun ax hax => ?_⟩
    have m5 : 0 ≤ hh % 5 ∧ hh % 5 < 5 := by omega
    obtain ⟨ya, ea, _, mya⟩ := cut_map V.str nm none (some (hh % 5))
    have l4 : ya.length ≤ 4 := by
      have h1 : (cutV (nm.map V.str) none (some ((hh % 5).toNat : Int))).length ≤ (hh % 5).toNat := cut_le
      rw [Int.toNat_of_nonneg m5.1, ea, List.length_map] at h1
      omega
    rw [ea]
    have oka : OkN ya := fun y hy => okn y (mya y hy)
    have s2 : Same H1 (upd H1 ax (.lst (ya.map V.str))) := same_new hax
    have hax2 : upd H1 ax (.lst (ya.map V.str)) ax = some (.lst (ya.map V.str)) := upd_same
    generalize upd H1 ax (.lst (ya.map V.str)) = H2 at s2 hax2 ⊢
    have s02 := s1.trans s2
    -- the lengths
    refine fun ld hld => ?_
    have s3 : Same H2 (upd H2 ld (.dK [])) := same_new hld
    have hld3 : upd H2 ld (.dK []) ld = some (.dK []) := upd_same
    generalize upd H2 ld (.dK []) = H3 at s3 hld3 ⊢
    refine ⟨_, rfl, ax, _, rfl, .inl (SqL.of (s3 _ _ hax2)), _, rfl, by omega, by rw [List.length_map]; omega, ?_⟩
    refine for_range (n := (ya.map V.str).length) (fun i σ X => ∃ (o5 : Option V) (lk : List (Key × V)), σ = [some (.ref a), some (.int hh), some (.ref nl), some (.ref ax), some (.ref ld), o5, none, none, none, none, none, none, none, none, none, none] ∧ Same H2 X ∧ X ld = some (.dK lk) ∧ lk.length ≤ 2 * i ∧ (∀ p ∈ lk, ∃ n : Int, p.2 = .int n ∧ 1 ≤ n ∧ n ≤ 60) ∧ ∀ y ∈ ya.take i, (valV lk (Sum.inr y)).isSome = true)
      ⟨none, [], rfl, s3, hld3, Nat.le_refl _, (by intro p hp; cases hp), by simp⟩ ?_ ?_
    · rintro i σ X hi ⟨o5, lk, rfl, sx, h3, llk, vlk, klk⟩
      rw [List.length_map] at hi
      have hyi : ya[i]? = some ya[i] := List.getElem?_eq_getElem hi
      have ey : atI (ya.map V.str) (0 + (i : Int)) = some (.str ya[i]) := by rw [Int.zero_add]; exact atI_nat (by rw [List.getElem?_map, hyi]; rfl)
      have vput : ∀ (l : List (Key × V)) (n : Int), (∀ p ∈ l, ∃ n : Int, p.2 = .int n ∧ 1 ≤ n ∧ n ≤ 60) → 1 ≤ n → n ≤ 60 → ∀ p ∈ putK l (Sum.inr ya[i]) (V.int n), ∃ n : Int, p.2 = .int n ∧ 1 ≤ n ∧ n ≤ 60 := fun l n hl n1 n2 p hp => by
        rcases putK_mem hp with hp | hp
        · exact hl p hp
        · rw [hp]; exact ⟨n, rfl, n1, n2⟩
      have kput : ∀ (l : List (Key × V)) (n : Int), (∀ y ∈ ya.take i, (valV l (Sum.inr y)).isSome = true) → ∀ y ∈ ya.take (i + 1), (valV (putK l (Sum.inr ya[i]) (V.int n)) (Sum.inr y)).isSome = true := fun l n hl y hy => by
        rw [valV_put]
        split
        · rfl
        · rename_i hne
          rw [List.take_add_one, hyi] at hy
          rcases List.mem_append.mp hy with hy | hy
          · exact hl y hy
          · exact absurd (by rw [show y = ya[i] by simpa using hy]) hne
      refine ⟨_, rfl, _, rfl, _, _, rfl, rfl, a, ns, _, rfl, (s02.trans sx).seq hS, by omega, fun z => ?_⟩
      have b4 : 0 ≤ z % 4 ∧ z % 4 < 4 := by omega
      have lput := length_putK lk (Sum.inr ya[i]) (V.int (1 + z % 4))
      refine ⟨_, _, rfl, rfl, (by show (0 : Int) < 4; decide), _, _, rfl, rfl, _, rfl, _, rfl, _, rfl, ax, _, _, _, rfl, rfl, SqL.of (sx _ _ hax2), ey, ld, _, rfl, DPut.k (k := Sum.inr ya[i]) h3 (line_lt (by omega)), ?_⟩
      have s4 : Same H2 (upd X ld (.dK (putK lk (Sum.inr ya[i]) (V.int (1 + z % 4))))) := same_fresh sx hld
      have h4 : upd X ld (.dK (putK lk (Sum.inr ya[i]) (V.int (1 + z % 4)))) ld = some (.dK (putK lk (Sum.inr ya[i]) (V.int (1 + z % 4)))) := upd_same
      have v4 := vput lk (1 + z % 4) vlk (by omega) (by omega)
      have k4 := kput lk (1 + z % 4) klk
      have done : ∃ (o5 : Option V) (lk' : List (Key × V)), [some (V.ref a), some (.int hh), some (.ref nl), some (.ref ax), some (.ref ld), some (.int (0 + (i : Int))), none, none, none, none, none, none, none, none, none, none] = [some (.ref a), some (.int hh), some (.ref nl), some (.ref ax), some (.ref ld), o5, none, none, none, none, none, none, none, none, none, none] ∧ Same H2 (upd X ld (.dK (putK lk (Sum.inr ya[i]) (V.int (1 + z % 4))))) ∧ upd X ld (.dK (putK lk (Sum.inr ya[i]) (V.int (1 + z % 4)))) ld = some (.dK lk') ∧ lk'.length ≤ 2 * (i + 1) ∧ (∀ p ∈ lk', ∃ n : Int, p.2 = .int n ∧ 1 ≤ n ∧ n ≤ 60) ∧ ∀ y ∈ ya.take (i + 1), (valV lk' (Sum.inr y)).isSome = true :=
        ⟨_, _, rfl, s4, h4, Nat.le_trans lput (by omega), v4, k4⟩
      refine ⟨_, rfl, rfl, _, rfl, iteD (fun _ => ?_) (fun _ => iteF done)⟩
      refine ⟨_, rfl, _, _, rfl, rfl, ⟨by decide, by decide⟩, _, _, rfl, rfl, (by show (0 : Int) < 6; decide), rfl, _, rfl, iteD (fun _ => ?_) (fun _ => done)⟩
      refine ⟨_, rfl, a, ns, 2, rfl, (s02.trans s4).seq hS, by decide, fun z2 => ?_⟩
      have b24 : 0 ≤ z2 % 24 ∧ z2 % 24 < 24 := by omega
      have lput2 := length_putK (putK lk (Sum.inr ya[i]) (V.int (1 + z % 4))) (Sum.inr ya[i]) (V.int (1 + z2 % 24))
      refine ⟨_, _, rfl, rfl, (by show (0 : Int) < 24; decide), _, _, rfl, rfl, _, rfl, _, rfl, _, rfl, ax, _, _, _, rfl, rfl, SqL.of (s4 _ _ hax2), ey, ld, _, rfl, DPut.k (k := Sum.inr ya[i]) h4 (line_lt (Nat.le_trans lput (by omega))), ?_⟩
      exact ⟨_, _, rfl, same_fresh s4 hld, upd_same, Nat.le_trans lput2 (Nat.le_trans (Nat.add_le_add_right lput 1) (by omega)), vput _ _ v4 (by omega) (by omega), fun y hy => by
        rw [valV_put]
        split
        · rfl
        · exact k4 y hy⟩
    rintro σ H4 ⟨o5, lk, rfl, s24, hld4, llk, vlk, klk⟩
    rw [List.length_map] at llk klk
    rw [List.take_length] at klk
    obtain ⟨is, il⟩ := ints_ex fun p hp => let ⟨n, e, _⟩ := vlk p hp; ⟨n, e⟩
    have dk : DkOk lk ya := fun y hy => by
      obtain ⟨v, hv⟩ := Option.isSome_iff_exists.mp (klk y hy)
      obtain ⟨p, hp, _, e⟩ := valV_mem hv
      obtain ⟨n, en, n1, n60⟩ := vlk p hp
      exact ⟨n, by rw [hv, ← e, en], n1, n60⟩
    have s04 := s02.trans s24
    have hnl4 := (s2.trans s24) _ _ hnl
    have hax4 := s24 _ _ hax2
    -- the arrays
    refine fun ad had => ?_
    refine ⟨_, rfl, nl, _, _, _, rfl, rfl, SqL.of ((same_new had) _ _ hnl4), e8, _, rfl, _, rfl, ax, _, rfl, SqL.of ((same_new had) _ _ hax4), fun l3 hl3 => ?_⟩
    obtain ⟨y3, ey3, ly3, my3⟩ := cut_map V.str ya none (some 3)
    rw [ey3]
    have adl3 : ad ≠ l3 := fun z => by rw [← z, upd_same] at hl3; cases hl3
    refine ⟨by rw [upd_ne adl3]; exact upd_same, [(Sum.inr n8, .ref l3)], rfl, by simp, ?_⟩
    have sm0 : Same H4 (upd (upd (upd H4 ad (.dK [])) l3 (.lst (y3.map V.str))) ad (.dK (mergeK [] [(Sum.inr n8, .ref l3)]))) := same_fresh ((same_new had).trans (same_new hl3)) had
    have had0 : upd (upd (upd H4 ad (.dK [])) l3 (.lst (y3.map V.str))) ad (.dK (mergeK [] [(Sum.inr n8, .ref l3)])) ad = some (.dK [(Sum.inr n8, .ref l3)]) := upd_same
    have ar0 : AR (fun _ => True) (upd (upd (upd H4 ad (.dK [])) l3 (.lst (y3.map V.str))) ad (.dK (mergeK [] [(Sum.inr n8, .ref l3)]))) [(Sum.inr n8, .ref l3)] [(n8, y3)] := .cons ⟨rfl, l3, rfl, True.intro, by rw [upd_ne adl3.symm]; exact upd_same⟩ .nil
    generalize upd (upd (upd H4 ad (.dK [])) l3 (.lst (y3.map V.str))) ad (.dK (mergeK [] [(Sum.inr n8, .ref l3)])) = G0 at sm0 had0 ar0 ⊢
    have aok0 : ArOk lk [(n8, y3)] := by
      refine ⟨by simp, fun e he => ?_, fun e he => ?_, fun e he => ?_, by simp⟩ <;> rw [List.mem_singleton.mp he]
      · exact fun y hy => dk y (my3 y hy)
      · show y3.length ≤ 4; omega
      · exact ok8
    refine ⟨fun σ G => ∃ (ak : List (Key × V)) (es : List (Str × List Str)), σ = [some (.ref a), some (.int hh), some (.ref nl), some (.ref ax), some (.ref ld), o5, some (.ref ad), none, none, none, none, none, none, none, none, none] ∧ Same H4 G ∧ G ad = some (.dK ak) ∧ AR (fun _ => True) G ak es ∧ ArOk lk es ∧ es.length ≤ 2, ?_, ?_⟩
    · refine ⟨_, rfl, _, _, rfl, rfl, ⟨by decide, by decide⟩, _, _, rfl, rfl, (by show (0 : Int) < 2; decide), rfl, _, rfl, iteD (fun _ => ?_) (fun _ => ⟨_, _, rfl, sm0, had0, ar0, aok0, by simp⟩)⟩
      refine ⟨_, rfl, _, rfl, ax, _, rfl, SqL.of (sm0 _ _ hax4), fun l5 hl5 => ?_⟩
      obtain ⟨y5, ey5, ly5, my5⟩ := cut_map V.str ya (some 2) none
      rw [ey5]
      have u5 : Same G0 (upd G0 l5 (.lst (y5.map V.str))) := same_new hl5
      have hl51 : upd G0 l5 (.lst (y5.map V.str)) l5 = some (.lst (y5.map V.str)) := upd_same
      generalize upd G0 l5 (.lst (y5.map V.str)) = G1 at u5 hl51 ⊢
      refine ⟨_, rfl, l5, _, rfl, rfl, rfl, rfl, SqL.of hl51, fun l6 zs hl6 lz mz => ?_⟩
      obtain ⟨y6, rfl, my6⟩ := strs_of mz
      rw [List.length_map, List.length_map] at lz
      have u6 : Same G1 (upd G1 l6 (.lst (y6.map V.str))) := same_new hl6
      have hl61 : upd G1 l6 (.lst (y6.map V.str)) l6 = some (.lst (y6.map V.str)) := upd_same
      generalize upd G1 l6 (.lst (y6.map V.str)) = G2 at u6 hl61 ⊢
      have sm2 := sm0.trans (u5.trans u6)
      have had2 := (u5.trans u6) _ _ had0
      refine ⟨_, rfl, _, rfl, nl, _, _, _, rfl, rfl, SqL.of (sm2 _ _ hnl4), e9, ad, _, rfl, DPut.k (k := Sum.inr n9) had2 (line_lt (by simp)), ?_⟩
      obtain ⟨es', ar', m', le', ne'⟩ := ar_put (x := n9) (l := l6) (ys := y6) True.intro hl61 (ar0.same (u5.trans u6))
      exact ⟨_, es', rfl, same_fresh sm2 had, upd_same, ar'.imp fun b xs _ e => ⟨True.intro, by rw [upd_ne (ne_of e had2 (by intro z; cases z))]; exact e⟩, ArOk.put aok0.each m' ne' (by simp at le'; omega) (fun y hy => dk y (my5 y (my6 y hy))) (by omega) ok9, by simpa using le'⟩
    rintro σ G ⟨ak0, es0, rfl, sg0, hadg, ar0', aok0', le0⟩
    have lak0 := Paired.length ar0'
    -- the tables
    refine ⟨_, rfl, ad, ak0, rfl, hadg, fun o D hD => ?_⟩
    have Da : D ≠ ad := fun z => by subst z; rw [upd_same] at hD; cases hD
    refine comp_genQ (J := Itd ad o ak0) (D := D) ak0.length (fun i ys Hx => Same (upd G ad (.frz o (.dK ak0))) Hx ∧ Hx D = some (.lst ys) ∧ ys = ((es0.take i).map (·.1)).map V.str) ⟨same_new hD, upd_same, rfl⟩ (fun i ys Hx hi ⟨s2, _⟩ => ⟨s2 _ _ upd_same, hi⟩) (fun ys Hx ⟨s2, _⟩ => ⟨s2 _ _ upd_same, rfl⟩) ?_ ?_
    · rintro i ys Hx hi ⟨sx, hDx, rfl⟩ x Hy ⟨rfl, k', v, hkv, rfl⟩
      obtain ⟨e, he, ek, _⟩ := pget ar0' hkv
      have ek : k' = Sum.inr e.1 := ek
      subst ek
      refine ⟨True.intro, _, rfl, hDx, line_lt (by simp; omega), same_fresh sx hD, upd_same, ?_⟩
      rw [List.take_add_one, he, Option.toList_some, List.map_append, List.map_append]
      rfl
    rintro ys Hx ⟨sx, hDx, rfl⟩
    rw [lak0, List.take_length] at hDx
    refine ⟨ad, o, _, sx _ _ upd_same, (fun o' u' z => by have z : H ad = some (.frz o' u') := z; rw [s04.free had] at z; cases z), ?_⟩
    have st : Same G (upd Hx ad (.dK ak0)) := same_thaw hadg sx
    have hDt : upd Hx ad (.dK ak0) D = some (.lst ((es0.map (·.1)).map V.str)) := by rw [upd_ne Da]; exact hDx
    generalize upd Hx ad (.dK ak0) = Gt at st hDt ⊢
    -- the rows
    refine ⟨line_le (by simp), fun rl hrl => ?_⟩
    have rl4 : H4 rl = none := (sg0.trans st).free hrl
    have nDr : D ≠ rl := ne_of_none hDt hrl
    have t1 : Same Gt (upd Gt rl (.lst [])) := same_new hrl
    have hrl1 : upd Gt rl (.lst []) rl = some (.lst []) := upd_same
    have ar1 : AR (fun b => b ≠ rl) (upd Gt rl (.lst [])) ak0 es0 := (ar0'.same st).imp fun b xs _ e => ⟨ne_of_none e hrl, t1 _ _ e⟩
    generalize upd Gt rl (.lst []) = G1 at t1 hrl1 ar1 ⊢
    have s41 := sg0.trans (st.trans t1)
    refine ⟨_, rfl, _, rfl, _, rfl, a, _, rfl, (s04.trans s41).seq hS, fun cl hcl => ?_⟩
    obtain ⟨cs, ecs, lcs, _⟩ := cut_map V.int ns (some 8) (some 45)
    rw [ecs]
    have ncr : cl ≠ rl := fun z => by rw [z, hrl1] at hcl; cases hcl
    have t2 : Same G1 (upd G1 cl (.lst (cs.map V.int))) := same_new hcl
    have hcl2 : upd G1 cl (.lst (cs.map V.int)) cl = some (.lst (cs.map V.int)) := upd_same
    generalize upd G1 cl (.lst (cs.map V.int)) = G2 at t2 hcl2 ⊢
    refine ⟨cl, rfl, ⟨_, SqL.of hcl2⟩, ?_⟩
    refine for_list (K := K) (a := cl) (xs := cs.map V.int) (fun i σ X => ∃ (lf : Int) (o10 o11 : Option V) (ak : List (Key × V)) (es : List (Str × List Str)) (xr : List V) (rows : List Lw), σ = [some (.ref a), some (.int hh), some (.ref nl), some (.ref ax), some (.ref ld), o5, some (.ref ad), some (.ref D), some (.ref rl), some (.int lf), o10, o11, none, none, none, none] ∧ RI H4 X ad rl D cl (es0.map (·.1)) (cs.map V.int) lk ya ak es xr rows i)
      ⟨200, none, none, ak0, es0, [], [], rfl, ⟨s41.trans t2, (st.trans (t1.trans t2)) _ _ hadg, t2 _ _ hrl1, (t1.trans t2) _ _ hDt, hcl2, ar1.same t2, aok0', by omega, .nil, (by intro e he; cases he), Nat.le_refl _⟩⟩ (fun i σ X _ ⟨_, _, _, _, _, _, _, _, I⟩ => SqL.of I.hcl) ?_ ?_
    · rintro i x σ X hx ⟨lf, o10, o11, ak, es, xr, rows, rfl, I⟩
      obtain ⟨z, hz, rfl⟩ := get_map hx
      have hi : i < cs.length := (List.getElem?_eq_some_iff.mp hz).1
      have lr := I.lr
      have lxr := Paired.length I.rws
      have lak := Paired.length I.ar
      have lle := I.le
      have snk := sName_ok ⟨xr.length, by omega⟩
      dsimp only at snk
      obtain ⟨okn', _, lg, ls'⟩ := snk
      refine ⟨_, rfl, _, rfl, rl, _, rfl, .inl (SqL.of I.hrl), _, rfl, lg, _, _, rfl, rfl, line_le (by omega), _, rfl, _, rfl, _, rfl, z, sName xr.length, ax, ld, ad, ya, ak, lk, es, _, rfl, I.sm _ _ hax4, l4, oka, dk, I.sm _ _ hld4, I.had, I.ar, I.aok, okn', fun q e Y sY hlw enm elo => ?_⟩
      have lw0 := hlw [rl] fun b hb => by rw [List.mem_singleton.mp hb, I.hrl]; intro z; cases z
      obtain ⟨q', O, S, Pl, pvs, eq, hq, mO, hO, mS, hS', mP, hP, pcs⟩ := id lw0
      cases eq
      have IY : RI H4 Y ad rl D cl (es0.map (·.1)) (cs.map V.int) lk ya ak es xr rows i := ⟨I.sm.trans sY, sY _ _ I.had, sY _ _ I.hrl, sY _ _ I.htl, sY _ _ I.hcl, I.ar.same sY, I.aok, I.le, Paired.mapP I.rws fun _ _ z => z.same sY, I.lok, I.lr⟩
      refine ⟨_, rfl, q, _, _, _, rfl, rfl, SqT.of hq, atI_nat (j := 4) rfl, _, rfl, _, _, rfl, _, _, rfl, rfl, _, rfl, iteD (fun hle => ?_) (fun _ => ⟨lf, _, _, ak, es, xr, rows, rfl, ⟨IY.sm, IY.had, IY.hrl, IY.htl, IY.hcl, IY.ar, IY.aok, by omega, IY.rws, IY.lok, by omega⟩⟩)⟩
      have hw60 : e.wo ≤ 60 := by
        have hle : e.wo ≤ (if (60 : Int) < lf then 60 else lf) := hle
        split at hle <;> omega
      refine ⟨_, rfl, _, rfl, q, _, _, _, rfl, rfl, SqT.of hq, atI_nat (j := 4) rfl, _, _, rfl, rfl, ?_⟩
      refine ⟨_, rfl, .inl ⟨rfl, _, SqL.of IY.hrl⟩, _, rfl, rl, _, _, rfl, rfl, IY.hrl, line_lt (by omega), ?_⟩
      have nin : ∀ {b : Addr}, b ∉ [rl] → b ≠ rl := fun m z => m (by rw [z]; exact .head _)
      have kb1 : KB rl Y (upd Y rl (.lst (xr ++ [.ref q]))) := KB.refl.upd
      have kt1 : KT Y (upd Y rl (.lst (xr ++ [.ref q]))) := KT.at IY.hrl (by intro xs z; cases z)
      have hrlA : upd Y rl (.lst (xr ++ [.ref q])) rl = some (.lst (xr ++ [.ref q])) := upd_same
      have smA : Same H4 (upd Y rl (.lst (xr ++ [.ref q]))) := same_fresh IY.sm rl4
      generalize upd Y rl (.lst (xr ++ [.ref q])) = Y1 at kb1 kt1 hrlA smA ⊢
      have hqA := kt1 _ _ hq
      have hOA := kb1 _ _ (nin mO) hO
      have nar : ad ≠ rl := ne_of IY.had IY.hrl (by intro z; cases z)
      have hadA := kb1 _ _ nar IY.had
      refine ⟨_, rfl, q, _, _, _, rfl, rfl, SqT.of hqA, atI_nat (j := 1) rfl, O, _, rfl, .inl (SqL.of hOA), fun a3 ha3 => ?_⟩
      have a3r : a3 ≠ rl := fun z => by rw [z, hrlA] at ha3; cases ha3
      have u3 : Same Y1 (upd Y1 a3 (.lst (e.own.map V.str))) := same_new ha3
      have ha31 : upd Y1 a3 (.lst (e.own.map V.str)) a3 = some (.lst (e.own.map V.str)) := upd_same
      generalize upd Y1 a3 (.lst (e.own.map V.str)) = Y2 at u3 ha31 ⊢
      have hadB := u3 _ _ hadA
      refine ⟨_, rfl, _, rfl, q, _, _, _, rfl, rfl, SqT.of (u3 _ _ hqA), atI_nat (j := 0) rfl, ad, _, rfl, DPut.k (k := Sum.inr e.nm) hadB (line_lt (by omega)), ?_⟩
      have arB : AR (fun b => b ≠ rl) Y2 ak es := (IY.ar.imp fun b xs n e => ⟨n, kb1 _ _ n e⟩).same u3
      obtain ⟨es', ar', m', le', ne'⟩ := ar_put (x := e.nm) (l := a3) (ys := e.own) a3r ha31 arB
      have kb3 : KB ad Y2 (upd Y2 ad (.dK (putK ak (Sum.inr e.nm) (.ref a3)))) := KB.refl.upd
      have had3 : upd Y2 ad (.dK (putK ak (Sum.inr e.nm) (.ref a3))) ad = some (.dK (putK ak (Sum.inr e.nm) (.ref a3))) := upd_same
      have sm3 : Same H4 (upd Y2 ad (.dK (putK ak (Sum.inr e.nm) (.ref a3)))) := same_fresh (smA.trans u3) had
      have kt3 : KT Y2 (upd Y2 ad (.dK (putK ak (Sum.inr e.nm) (.ref a3)))) := KT.at hadB (by intro xs z; cases z)
      generalize upd Y2 ad (.dK (putK ak (Sum.inr e.nm) (.ref a3))) = Y3 at kb3 had3 sm3 kt3 ⊢
      have lst3 : ∀ {b : Addr} {xs : List V}, Y2 b = some (.lst xs) → Y3 b = some (.lst xs) := fun e => kb3 _ _ (ne_of e hadB (by intro z; cases z)) e
      have lstY : ∀ {b : Addr} {xs : List V}, b ≠ rl → Y b = some (.lst xs) → Y3 b = some (.lst xs) := fun n e => lst3 (u3 _ _ (kb1 _ _ n e))
      have ktY : KT Y Y3 := (kt1.trans (KT.same u3)).trans kt3
      refine ⟨_, _, _, _, es', xr ++ [.ref q], rows ++ [e], rfl, ⟨sm3, had3, lst3 (u3 _ _ hrlA), lstY nDr IY.htl, lstY ncr IY.hcl, ar'.imp fun b xs n e => ⟨n, lst3 e⟩, ?_, by omega, ?_, fun e' he' => ?_, by rw [List.length_append, List.length_singleton]; omega⟩⟩
      · have := elo.l4
        exact ArOk.put I.aok.each m' ne' (by omega) (fun y hy => dk y (elo.sub y (List.mem_append_left _ hy))) (by omega) (by rw [enm]; exact okn')
      · exact papp (Paired.mapP IY.rws fun _ _ z => z.imp ktY fun c xs n ee => ⟨n, lstY (nin n) ee⟩) (.cons (lw0.imp ktY fun c xs n ee => ⟨n, lstY (nin n) ee⟩) .nil)
      · rcases List.mem_append.mp he' with he' | he'
        · exact I.lok e' he'
        · rw [List.mem_singleton.mp he']; exact ⟨elo, hw60, by rw [enm]; exact okn'⟩
    rintro σ X ⟨lf, o10, o11, ak, es, xr, rows, rfl, I⟩
    have lr := I.lr
    have lxr := Paired.length I.rws
    rw [List.length_map] at lr
    have le0' : (es0.map (·.1)).length ≤ 1000 := by rw [List.length_map]; omega
    -- the cloth
    refine ⟨_, rfl, _, rfl, _, rfl, _, rfl, _, rfl, a, rl, ad, ld, D, ns, xr, rows, ak, lk, is, es, es0.map (·.1), ya, [rl], _, rfl, (s04.trans I.sm).seq hS, I.hrl, I.rws, (fun e he => (I.lok e he).1), by omega, I.had, I.ar, I.aok, I.sm _ _ hld4, il, by omega, I.htl, le0', fun p dx l' a' t' v' o' wh xs lns M' Gc sc hp hl' hv' lis lof => ?_⟩
    have lxl := Paired.length lof
    have hrlc := sc _ _ I.hrl
    have hldc := (I.sm.trans sc) _ _ hld4
    have rwc : Paired (LwAt [rl] Gc) xr rows := Paired.mapP I.rws fun _ _ z => z.same sc
    -- the steps
    refine ⟨_, rfl, rl, _, rfl, .inl (SqL.of hrlc), _, rfl, by omega, by omega, ?_⟩
    refine for_range (n := xr.length) (fun i σ Y => ∃ (o5 o13 o14 o15 : Option V), σ = [some (.ref a), some (.int hh), some (.ref nl), some (.ref ax), some (.ref ld), o5, some (.ref ad), some (.ref D), some (.ref rl), some (.int lf), o10, o11, some (.ref p), o13, o14, o15] ∧ Same Gc Y)
      ⟨_, none, none, none, rfl, Same.refl _⟩ ?_ ?_
    · rintro i σ Y hi ⟨o5', o13, o14, o15, rfl, sY⟩
      have hxi : xr[i]? = some xr[i] := List.getElem?_eq_getElem hi
      obtain ⟨e, he, lwe⟩ := pget rwc hxi
      obtain ⟨elo, ew, enm⟩ := I.lok e (List.mem_of_getElem? he)
      have hli : lns[i]? = some (lns[i]'(by omega)) := List.getElem?_eq_getElem _
      obtain ⟨e', he', ln⟩ := pget lof hli
      rw [he] at he'
      cases he'
      obtain ⟨so, ss, zo, zs, po, ps, hwo⟩ := elo.sz
      have pr1 := prN_pos (ls := so) fun n hn => (po n hn).1
      have pr2 := prN_pos (ls := ss) fun n hn => (ps n hn).1
      have pm : prN so * prN ss ≤ 60 := by omega
      have pa : prN so ≤ prN so * prN ss := Nat.le_mul_of_pos_right _ pr2
      have pb : prN ss ≤ prN so * prN ss := Nat.le_mul_of_pos_left _ pr1
      have l4e := elo.l4
      have okb : OkN (e.own ++ e.sums) := fun y hy => oka y (elo.sub y hy)
      have ei : atI xr (0 + (i : Int)) = some xr[i] := by rw [Int.zero_add]; exact atI_nat hxi
      refine ⟨_, rfl, _, rfl, _, rfl, rl, _, _, _, rfl, rfl, SqL.of (sY _ _ hrlc), ei, _, rfl, i, xr[i], ld, e, lk, so, ss, [rl], by rw [Int.zero_add]; rfl, lwe.same sY, sY _ _ hldc, zo, zs, po, ps, by omega, by omega, by omega, by omega, fun x hx => (okb x (List.mem_append_right _ hx)).1, fun SL sts Y1 hSL sY1 hSL1 stok lsts => ?_⟩
      have s1 := sY.trans sY1
      refine ⟨SL, rfl, ⟨_, SqL.of hSL1⟩, ?_⟩
      refine for_list (K := K) (a := SL) (xs := sts) (fun j σ Z => ∃ (o13 o14 o15 : Option V), σ = [some (.ref a), some (.int hh), some (.ref nl), some (.ref ax), some (.ref ld), some (.int (0 + (i : Int))), some (.ref ad), some (.ref D), some (.ref rl), some (.int lf), o10, o11, some (.ref p), o13, o14, o15] ∧ Same Y1 Z)
        ⟨_, _, _, rfl, Same.refl _⟩ (fun j σ Z _ ⟨_, _, _, _, sz⟩ => SqL.of (sz _ _ hSL1)) ?_ ?_
      · rintro j x σ Z hx ⟨o13', o14', o15', rfl, sZ⟩
        obtain ⟨st', hst, sto⟩ := stok x (List.mem_of_getElem? hx)
        obtain ⟨b, cA, uA, rfl, hb, hcA, huA⟩ := id hst
        have sz := s1.trans sZ
        have hstZ : StAt Z (.ref b) st' := hst.same sZ
        -- what is due
        refine ⟨_, rfl, _, rfl, _, rfl, rl, _, _, _, rfl, rfl, SqL.of (sz _ _ hrlc), ei, _, _, e, st', [rl], rfl, hstZ, lwe.same sz, (fun hw => ⟨sto.2.1, sto.2.2 hw⟩), by omega, okb, elo.ps, elo.lp, fun du ys Z1 hdu sz1 hdu1 rdu => ?_⟩
        -- reading
        have reads : ∀ (Z1 : Hp) (Qr : VK), Same Gc Z1 → StAt Z1 (.ref b) st' → RdQ Z1 (dueL e st') Qr → sp_read_by t [.ref p, .ref b] Z1 Qr E0 := fun Z1 Qr sz1 h1 hq => by
          refine ⟨p, dx, l', a', t', v', o', b, wh, lk, xs, M', lns, lns[i]'(by omega), st', rfl, sz1 _ _ hp, sz1 _ _ hl', sz1 _ _ hv', Paired.mapP lis (fun _ _ z => z.same sz1), h1, (by rw [sto.1]; exact hli), fun hw => ?_, fun hw => ?_⟩
          · unfold dueL at hq
            rw [if_pos hw] at hq
            exact hq
          · obtain ⟨ask, er⟩ := read_due (A := t) elo ln sto dk hw
            rw [er]
            exact ⟨ask, hq⟩
        have dok := due_ok (s := st') elo.ps
        have dle := due_len (e := e) (s := st')
        have lp := elo.lp
        have szc := sz.trans sz1
        refine ⟨_, rfl, _, rfl, reads Z1 _ szc (hstZ.same sz1) fun f xf Z2 hf sz2 hf2 rf => ?_⟩
        have lxf := Paired.length rf
        refine ⟨_, rfl, _, rfl, f, du, xf, ys, dueL e st', rfl, hf2, sz2 _ _ hdu1, rf, rdu.same sz2, dok, by omega, true, rfl, iteF ?_⟩
        -- a change
        refine ⟨_, rfl, .inl ⟨rfl, _, SqL.of hf2⟩, line_le (by simp), fun c0 hc0 => ⟨line_le (by simp), fun c1 hc1 => ?_⟩⟩
        have w1 : Same Z2 (upd Z2 c0 (.tup [.int 0])) := same_new hc0
        generalize upd Z2 c0 (.tup [.int 0]) = Z3 at w1 hc1 ⊢
        have w2 : Same Z3 (upd Z3 c1 (.tup [.str "a", .ref c0])) := same_new hc1
        generalize upd Z3 c1 (.tup [.str "a", .ref c0]) = Z4 at w2 ⊢
        refine ⟨f, _, _, rfl, rfl, (w1.trans w2) _ _ hf2, line_lt (by omega), ?_⟩
        have sz5 : Same Z1 (upd Z4 f (.lst (xf ++ [.ref c1]))) := same_fresh (sz2.trans (w1.trans w2)) hf
        generalize upd Z4 f (.lst (xf ++ [.ref c1])) = Z5 at sz5 ⊢
        have sc5 := szc.trans sz5
        have hst5 := (hstZ.same sz1).same sz5
        obtain ⟨q, O, S, Pl, pvs, eq, hq, _⟩ := id (lwe.same sc5)
        -- what it writes
        refine ⟨_, rfl, _, rfl, p, dx, l', a', t', v', o', b, wh, xs, M', lns, lns[i]'(by omega), st', rfl, sc5 _ _ hp, sc5 _ _ hv', Paired.mapP lis (fun _ _ z => z.same sc5), hst5, (by rw [sto.1]; exact hli), fun wq Z6 sz6 tw => ?_⟩
        have sc6 := sc5.trans sz6
        have ei6 : atI xr (0 + (i : Int)) = some (.ref q) := by rw [ei, eq]
        obtain ⟨b', cB, uB, eb, hb6, hc6, hu6⟩ := id (hst5.same sz6)
        cases eb
        refine ⟨_, rfl, _, rfl, rl, _, _, _, rfl, rfl, SqL.of (sc6 _ _ hrlc), ei6, q, _, _, _, rfl, rfl, SqT.of (sz6 _ _ hq), atI_nat (j := 0) rfl, _, rfl, b, _, _, _, rfl, rfl, SqT.of hb6, atI_nat (j := 2) rfl, line_le (by simp), fun wp hwp => ?_⟩
        have w7 : Same Z6 (upd Z6 wp (.tup [.str e.nm, .ref cB])) := same_new hwp
        have hwp7 : upd Z6 wp (.tup [.str e.nm, .ref cB]) wp = some (.tup [.str e.nm, .ref cB]) := upd_same
        generalize upd Z6 wp (.tup [.str e.nm, .ref cB]) = Z7 at w7 hwp7 ⊢
        have tw7 : TupR Z7 (.ref wq) (e.nm, st'.ce) := by
          obtain ⟨p1, q1, e1, h1, h2⟩ := tw
          have h1 : Z6 p1 = some (.tup [.str (lns[i]'(by omega)).nm, .ref q1]) := h1
          rw [ln.1] at h1
          exact ⟨p1, q1, e1, w7 _ _ h1, w7 _ _ h2⟩
        refine ⟨.ref wq, .ref wp, (e.nm, st'.ce), rfl, tw7, ⟨wp, cB, rfl, hwp7, w7 _ _ hc6⟩, enm, true, rfl, iteF ?_⟩
        have sc7 := sc6.trans w7
        have fin : Same Y1 Z7 := sZ.trans (sz1.trans (sz5.trans (sz6.trans w7)))
        -- again
        refine ⟨_, rfl, _, _, rfl, rfl, (by show (0 : Int) < 4; decide), rfl, _, rfl, iteD (fun _ => ?_) (fun _ => iteF ⟨_, _, _, rfl, fin⟩)⟩
        refine ⟨_, rfl, _, rfl, reads Z7 _ sc7 (hst5.same (sz6.trans w7)) fun f2 xf2 Z8 hf2' sz8 hf8 rf8 => ?_⟩
        have lx8 := Paired.length rf8
        exact ⟨_, rfl, f2, du, xf2, ys, dueL e st', rfl, hf8, (sz5.trans (sz6.trans (w7.trans sz8))) _ _ hdu1, rf8, rdu.same (sz5.trans (sz6.trans (w7.trans sz8))), dok, by omega, true, rfl, iteF ⟨_, _, _, rfl, fin.trans sz8⟩⟩
      · rintro σ Z ⟨o13', o14', o15', rfl, sZ⟩
        exact ⟨_, _, _, _, rfl, s1.trans sZ⟩
    · rintro σ Y ⟨o5', o13, o14, o15, rfl, sY⟩
      exact k _
end
end My

set_option Elab.async false
set_option linter.all false
set_option maxRecDepth 100000
set_option maxHeartbeats 4000000
/-! The head lays a twin of each constant that it meets, and of the largest ones its equation is quadratic in the constants within (some 30 MB). A constant that bears the twin's name already keeps it from laying that one. -/
def PySem.W.Fast.tw5030276986264813644 : Unit := ()
def PySem.W.Fast.tw805703845156733813 : Unit := ()
def PySem.W.Fast.tw2938439824081667489 : Unit := ()
def PySem.W.Fast.tw17398691941994948628 : Unit := ()
def PySem.W.Fast.tw18322275333715132265 : Unit := ()
def PySem.W.Fast.tw4349394048945136303 : Unit := ()
def PySem.W.Fast.tw10721378988708126608 : Unit := ()
def PySem.W.Fast.tw10950320754668038938 : Unit := ()
def PySem.W.Fast.tw5769829705779144171 : Unit := ()
def PySem.W.Fast.tw17783603896954021431 : Unit := ()
def PySem.W.Fast.tw12836383628103704700 : Unit := ()
def PySem.W.Fast.tw2769689941566162646 : Unit := ()
def PySem.W.Fast.tw16194880268383875963 : Unit := ()
def PySem.W.Fast.tw3472936045673140463 : Unit := ()
def PySem.W.Fast.tw14483072707773706310 : Unit := ()
def PySem.W.Fast.tw13725919353152172704 : Unit := ()
def PySem.W.Fast.tw4300991430644728116 : Unit := ()
def PySem.W.Fast.tw803170760858957950 : Unit := ()
def PySem.W.Fast.tw17500186567825805695 : Unit := ()
def PySem.W.Fast.tw339805821525600631 : Unit := ()
def PySem.W.Fast.tw5210499805620325489 : Unit := ()
def PySem.W.Fast.tw10787185584358715189 : Unit := ()
def PySem.W.Fast.tw7317499632967210368 : Unit := ()
def PySem.W.Fast.tw17833563414341566765 : Unit := ()
def PySem.W.Fast.tw3725744111237707681 : Unit := ()
def PySem.W.Fast.tw16497007271469050902 : Unit := ()
def PySem.W.Fast.tw78375388129503428 : Unit := ()
def PySem.W.Fast.tw16716676860558357099 : Unit := ()
def PySem.W.Fast.tw17875516524768288638 : Unit := ()
def PySem.W.Fast.tw16647011255665165869 : Unit := ()
def PySem.W.Fast.tw9466854380899560767 : Unit := ()
def PySem.W.Fast.tw16499119225741652277 : Unit := ()
namespace My
open PySem L2
theorem all_mk {l : PySem.W.OpenLaw} {w : World} {K : PySem.W.Frag} {h : Heap} {mg : Str → Option Value} {fa : Addr} (X : K.In h) (G : h.Ns mainGlobals mg) (hfa : mg "law" = some (.ref fa))
    {C_Line C_Cloth C_Term C_Number C_Read C_Pair C_Plus C_Minus C_Times C_Guard : Addr}
    (aC_Line : PySem.W.nsIn K mainGlobals "Line" = some (some (.ref C_Line)))
    (aC_Cloth : PySem.W.nsIn K mainGlobals "Cloth" = some (some (.ref C_Cloth)))
    (aC_Term : PySem.W.nsIn K mainGlobals "Term" = some (some (.ref C_Term)))
    (aC_Number : PySem.W.nsIn K mainGlobals "Number" = some (some (.ref C_Number)))
    (aC_Read : PySem.W.nsIn K mainGlobals "Read" = some (some (.ref C_Read)))
    (aC_Pair : PySem.W.nsIn K mainGlobals "Pair" = some (some (.ref C_Pair)))
    (aC_Plus : PySem.W.nsIn K mainGlobals "Plus" = some (some (.ref C_Plus)))
    (aC_Minus : PySem.W.nsIn K mainGlobals "Minus" = some (some (.ref C_Minus)))
    (aC_Times : PySem.W.nsIn K mainGlobals "Times" = some (some (.ref C_Times)))
    (aC_Guard : PySem.W.nsIn K mainGlobals "Guard" = some (some (.ref C_Guard)))
    {f0 : Addr} {od0 an0 : Option Addr} {sl0 : Array (Option Value)} {oc0 kV0 dc0 pm0 cd0 ct0 : Value}
    (a0 : PySem.W.nsIn K mainGlobals "copied" = some (some (.ref f0)))
    (l0 : K.lookup f0 = some ⟨oc0, od0, .func (PySem.W.fnOf "copied" "copied" (defArgs s_copied) (defBody s_copied) (defScope s_copied) .none kV0 dc0 pm0 an0 cd0 ct0), sl0⟩)
    (c0 : PySem.W.codeIn K cd0 "copied" = true)
    (k0 : PySem.W.keepIn K (.ref f0) = true)
    {f1 : Addr} {od1 an1 : Option Addr} {sl1 : Array (Option Value)} {oc1 kV1 dc1 pm1 cd1 ct1 : Value}
    (a1 : PySem.W.nsIn K mainGlobals "copied_dict" = some (some (.ref f1)))
    (l1 : K.lookup f1 = some ⟨oc1, od1, .func (PySem.W.fnOf "copied_dict" "copied_dict" (defArgs s_copied_dict) (defBody s_copied_dict) (defScope s_copied_dict) .none kV1 dc1 pm1 an1 cd1 ct1), sl1⟩)
    (c1 : PySem.W.codeIn K cd1 "copied_dict" = true)
    (k1 : PySem.W.keepIn K (.ref f1) = true)
    {f2 : Addr} {od2 an2 : Option Addr} {sl2 : Array (Option Value)} {oc2 kV2 dc2 pm2 cd2 ct2 : Value}
    (a2 : PySem.W.nsIn K mainGlobals "read_by" = some (some (.ref f2)))
    (l2 : K.lookup f2 = some ⟨oc2, od2, .func (PySem.W.fnOf "read_by" "read_by" (defArgs s_read_by) (defBody s_read_by) (defScope s_read_by) .none kV2 dc2 pm2 an2 cd2 ct2), sl2⟩)
    (c2 : PySem.W.codeIn K cd2 "read_by" = true)
    (k2 : PySem.W.keepIn K (.ref f2) = true)
    {f3 : Addr} {od3 an3 : Option Addr} {sl3 : Array (Option Value)} {oc3 kV3 dc3 pm3 cd3 ct3 : Value}
    (a3 : PySem.W.nsIn K mainGlobals "written_by" = some (some (.ref f3)))
    (l3 : K.lookup f3 = some ⟨oc3, od3, .func (PySem.W.fnOf "written_by" "written_by" (defArgs s_written_by) (defBody s_written_by) (defScope s_written_by) .none kV3 dc3 pm3 an3 cd3 ct3), sl3⟩)
    (c3 : PySem.W.codeIn K cd3 "written_by" = true)
    (k3 : PySem.W.keepIn K (.ref f3) = true)
    {f4 : Addr} {od4 an4 : Option Addr} {sl4 : Array (Option Value)} {oc4 kV4 dc4 pm4 cd4 ct4 : Value}
    (a4 : PySem.W.findIn K (.ref C_Line) "__init__" = some (some (.ref f4)))
    (l4 : K.lookup f4 = some ⟨oc4, od4, .func (PySem.W.fnOf "__init__" "Line.__init__" (defArgs s_Line_init) (defBody s_Line_init) (defScope s_Line_init) .none kV4 dc4 pm4 an4 cd4 ct4), sl4⟩)
    (c4 : PySem.W.codeIn K cd4 "Line.__init__" = true)
    (k4 : PySem.W.keepIn K (.ref f4) = true)
    (i4 : PySem.W.isFn K (.ref f4) = true)
    {f5 : Addr} {od5 an5 : Option Addr} {sl5 : Array (Option Value)} {oc5 kV5 dc5 pm5 cd5 ct5 : Value}
    (a5 : PySem.W.findIn K (.ref C_Cloth) "__init__" = some (some (.ref f5)))
    (l5 : K.lookup f5 = some ⟨oc5, od5, .func (PySem.W.fnOf "__init__" "Cloth.__init__" (defArgs s_Cloth_init) (defBody s_Cloth_init) (defScope s_Cloth_init) .none kV5 dc5 pm5 an5 cd5 ct5), sl5⟩)
    (c5 : PySem.W.codeIn K cd5 "Cloth.__init__" = true)
    (k5 : PySem.W.keepIn K (.ref f5) = true)
    (i5 : PySem.W.isFn K (.ref f5) = true)
    {f6 : Addr} {od6 an6 : Option Addr} {sl6 : Array (Option Value)} {oc6 kV6 dc6 pm6 cd6 ct6 : Value}
    (a6 : PySem.W.findIn K (.ref C_Number) "__init__" = some (some (.ref f6)))
    (l6 : K.lookup f6 = some ⟨oc6, od6, .func (PySem.W.fnOf "__init__" "Number.__init__" (defArgs s_Number_init) (defBody s_Number_init) (defScope s_Number_init) .none kV6 dc6 pm6 an6 cd6 ct6), sl6⟩)
    (c6 : PySem.W.codeIn K cd6 "Number.__init__" = true)
    (k6 : PySem.W.keepIn K (.ref f6) = true)
    (i6 : PySem.W.isFn K (.ref f6) = true)
    {f7 : Addr} {od7 an7 : Option Addr} {sl7 : Array (Option Value)} {oc7 kV7 dc7 pm7 cd7 ct7 : Value}
    (a7 : PySem.W.findIn K (.ref C_Number) "reads" = some (some (.ref f7)))
    (l7 : K.lookup f7 = some ⟨oc7, od7, .func (PySem.W.fnOf "reads" "Number.reads" (defArgs s_Number_reads) (defBody s_Number_reads) (defScope s_Number_reads) .none kV7 dc7 pm7 an7 cd7 ct7), sl7⟩)
    (c7 : PySem.W.codeIn K cd7 "Number.reads" = true)
    (k7 : PySem.W.keepIn K (.ref f7) = true)
    (i7 : PySem.W.isFn K (.ref f7) = true)
    {f8 : Addr} {od8 an8 : Option Addr} {sl8 : Array (Option Value)} {oc8 kV8 dc8 pm8 cd8 ct8 : Value}
    (a8 : PySem.W.findIn K (.ref C_Read) "__init__" = some (some (.ref f8)))
    (l8 : K.lookup f8 = some ⟨oc8, od8, .func (PySem.W.fnOf "__init__" "Read.__init__" (defArgs s_Read_init) (defBody s_Read_init) (defScope s_Read_init) .none kV8 dc8 pm8 an8 cd8 ct8), sl8⟩)
    (c8 : PySem.W.codeIn K cd8 "Read.__init__" = true)
    (k8 : PySem.W.keepIn K (.ref f8) = true)
    (i8 : PySem.W.isFn K (.ref f8) = true)
    {f9 : Addr} {od9 an9 : Option Addr} {sl9 : Array (Option Value)} {oc9 kV9 dc9 pm9 cd9 ct9 : Value}
    (a9 : PySem.W.findIn K (.ref C_Read) "cell_at" = some (some (.ref f9)))
    (l9 : K.lookup f9 = some ⟨oc9, od9, .func (PySem.W.fnOf "cell_at" "Read.cell_at" (defArgs s_Read_cell_at) (defBody s_Read_cell_at) (defScope s_Read_cell_at) .none kV9 dc9 pm9 an9 cd9 ct9), sl9⟩)
    (c9 : PySem.W.codeIn K cd9 "Read.cell_at" = true)
    (k9 : PySem.W.keepIn K (.ref f9) = true)
    (i9 : PySem.W.isFn K (.ref f9) = true)
    {f10 : Addr} {od10 an10 : Option Addr} {sl10 : Array (Option Value)} {oc10 kV10 dc10 pm10 cd10 ct10 : Value}
    (a10 : PySem.W.findIn K (.ref C_Read) "reads" = some (some (.ref f10)))
    (l10 : K.lookup f10 = some ⟨oc10, od10, .func (PySem.W.fnOf "reads" "Read.reads" (defArgs s_Read_reads) (defBody s_Read_reads) (defScope s_Read_reads) .none kV10 dc10 pm10 an10 cd10 ct10), sl10⟩)
    (c10 : PySem.W.codeIn K cd10 "Read.reads" = true)
    (k10 : PySem.W.keepIn K (.ref f10) = true)
    (i10 : PySem.W.isFn K (.ref f10) = true)
    {f11 : Addr} {od11 an11 : Option Addr} {sl11 : Array (Option Value)} {oc11 kV11 dc11 pm11 cd11 ct11 : Value}
    (a11 : PySem.W.nsIn K mainGlobals "index_at" = some (some (.ref f11)))
    (l11 : K.lookup f11 = some ⟨oc11, od11, .func (PySem.W.fnOf "index_at" "index_at" (defArgs s_index_at) (defBody s_index_at) (defScope s_index_at) .none kV11 dc11 pm11 an11 cd11 ct11), sl11⟩)
    (c11 : PySem.W.codeIn K cd11 "index_at" = true)
    (k11 : PySem.W.keepIn K (.ref f11) = true)
    {f12 : Addr} {od12 an12 : Option Addr} {sl12 : Array (Option Value)} {oc12 kV12 dc12 pm12 cd12 ct12 : Value}
    (a12 : PySem.W.findIn K (.ref C_Pair) "__init__" = some (some (.ref f12)))
    (l12 : K.lookup f12 = some ⟨oc12, od12, .func (PySem.W.fnOf "__init__" "Pair.__init__" (defArgs s_Pair_init) (defBody s_Pair_init) (defScope s_Pair_init) .none kV12 dc12 pm12 an12 cd12 ct12), sl12⟩)
    (c12 : PySem.W.codeIn K cd12 "Pair.__init__" = true)
    (k12 : PySem.W.keepIn K (.ref f12) = true)
    (i12 : PySem.W.isFn K (.ref f12) = true)
    {f13 : Addr} {od13 an13 : Option Addr} {sl13 : Array (Option Value)} {oc13 kV13 dc13 pm13 cd13 ct13 : Value}
    (a13 : PySem.W.findIn K (.ref C_Pair) "reads" = some (some (.ref f13)))
    (l13 : K.lookup f13 = some ⟨oc13, od13, .func (PySem.W.fnOf "reads" "Pair.reads" (defArgs s_Pair_reads) (defBody s_Pair_reads) (defScope s_Pair_reads) .none kV13 dc13 pm13 an13 cd13 ct13), sl13⟩)
    (c13 : PySem.W.codeIn K cd13 "Pair.reads" = true)
    (k13 : PySem.W.keepIn K (.ref f13) = true)
    (i13 : PySem.W.isFn K (.ref f13) = true)
    {f14 : Addr} {od14 an14 : Option Addr} {sl14 : Array (Option Value)} {oc14 kV14 dc14 pm14 cd14 ct14 : Value}
    (a14 : PySem.W.findIn K (.ref C_Guard) "__init__" = some (some (.ref f14)))
    (l14 : K.lookup f14 = some ⟨oc14, od14, .func (PySem.W.fnOf "__init__" "Guard.__init__" (defArgs s_Guard_init) (defBody s_Guard_init) (defScope s_Guard_init) .none kV14 dc14 pm14 an14 cd14 ct14), sl14⟩)
    (c14 : PySem.W.codeIn K cd14 "Guard.__init__" = true)
    (k14 : PySem.W.keepIn K (.ref f14) = true)
    (i14 : PySem.W.isFn K (.ref f14) = true)
    {f15 : Addr} {od15 an15 : Option Addr} {sl15 : Array (Option Value)} {oc15 kV15 dc15 pm15 cd15 ct15 : Value}
    (a15 : PySem.W.findIn K (.ref C_Guard) "lets_in" = some (some (.ref f15)))
    (l15 : K.lookup f15 = some ⟨oc15, od15, .func (PySem.W.fnOf "lets_in" "Guard.lets_in" (defArgs s_Guard_lets_in) (defBody s_Guard_lets_in) (defScope s_Guard_lets_in) .none kV15 dc15 pm15 an15 cd15 ct15), sl15⟩)
    (c15 : PySem.W.codeIn K cd15 "Guard.lets_in" = true)
    (k15 : PySem.W.keepIn K (.ref f15) = true)
    (i15 : PySem.W.isFn K (.ref f15) = true)
    {f16 : Addr} {od16 an16 : Option Addr} {sl16 : Array (Option Value)} {oc16 kV16 dc16 pm16 cd16 ct16 : Value}
    (a16 : PySem.W.findIn K (.ref C_Guard) "looked_at" = some (some (.ref f16)))
    (l16 : K.lookup f16 = some ⟨oc16, od16, .func (PySem.W.fnOf "looked_at" "Guard.looked_at" (defArgs s_Guard_looked_at) (defBody s_Guard_looked_at) (defScope s_Guard_looked_at) .none kV16 dc16 pm16 an16 cd16 ct16), sl16⟩)
    (c16 : PySem.W.codeIn K cd16 "Guard.looked_at" = true)
    (k16 : PySem.W.keepIn K (.ref f16) = true)
    (i16 : PySem.W.isFn K (.ref f16) = true)
    {f17 : Addr} {od17 an17 : Option Addr} {sl17 : Array (Option Value)} {oc17 kV17 dc17 pm17 cd17 ct17 : Value}
    (a17 : PySem.W.findIn K (.ref C_Guard) "reads" = some (some (.ref f17)))
    (l17 : K.lookup f17 = some ⟨oc17, od17, .func (PySem.W.fnOf "reads" "Guard.reads" (defArgs s_Guard_reads) (defBody s_Guard_reads) (defScope s_Guard_reads) .none kV17 dc17 pm17 an17 cd17 ct17), sl17⟩)
    (c17 : PySem.W.codeIn K cd17 "Guard.reads" = true)
    (k17 : PySem.W.keepIn K (.ref f17) = true)
    (i17 : PySem.W.isFn K (.ref f17) = true)
    {f18 : Addr} {od18 an18 : Option Addr} {sl18 : Array (Option Value)} {oc18 kV18 dc18 pm18 cd18 ct18 : Value}
    (a18 : PySem.W.nsIn K mainGlobals "_law_cell_at" = some (some (.ref f18)))
    (l18 : K.lookup f18 = some ⟨oc18, od18, .func (PySem.W.fnOf "_law_cell_at" "_law_cell_at" (defArgs s_l_cell_at) (defBody s_l_cell_at) (defScope s_l_cell_at) .none kV18 dc18 pm18 an18 cd18 ct18), sl18⟩)
    (c18 : PySem.W.codeIn K cd18 "_law_cell_at" = true)
    (k18 : PySem.W.keepIn K (.ref f18) = true)
    {f19 : Addr} {od19 an19 : Option Addr} {sl19 : Array (Option Value)} {oc19 kV19 dc19 pm19 cd19 ct19 : Value}
    (a19 : PySem.W.nsIn K mainGlobals "_law_whole" = some (some (.ref f19)))
    (l19 : K.lookup f19 = some ⟨oc19, od19, .func (PySem.W.fnOf "_law_whole" "_law_whole" (defArgs s_l_whole) (defBody s_l_whole) (defScope s_l_whole) .none kV19 dc19 pm19 an19 cd19 ct19), sl19⟩)
    (c19 : PySem.W.codeIn K cd19 "_law_whole" = true)
    (k19 : PySem.W.keepIn K (.ref f19) = true)
    {f20 : Addr} {od20 an20 : Option Addr} {sl20 : Array (Option Value)} {oc20 kV20 dc20 pm20 cd20 ct20 : Value}
    (a20 : PySem.W.nsIn K mainGlobals "_law_mix" = some (some (.ref f20)))
    (l20 : K.lookup f20 = some ⟨oc20, od20, .func (PySem.W.fnOf "_law_mix" "_law_mix" (defArgs s_l_mix) (defBody s_l_mix) (defScope s_l_mix) .none kV20 dc20 pm20 an20 cd20 ct20), sl20⟩)
    (c20 : PySem.W.codeIn K cd20 "_law_mix" = true)
    (k20 : PySem.W.keepIn K (.ref f20) = true)
    {f21 : Addr} {od21 an21 : Option Addr} {sl21 : Array (Option Value)} {oc21 kV21 dc21 pm21 cd21 ct21 : Value}
    (a21 : PySem.W.nsIn K mainGlobals "_law_index_by" = some (some (.ref f21)))
    (l21 : K.lookup f21 = some ⟨oc21, od21, .func (PySem.W.fnOf "_law_index_by" "_law_index_by" (defArgs s_l_index_by) (defBody s_l_index_by) (defScope s_l_index_by) .none kV21 dc21 pm21 an21 cd21 ct21), sl21⟩)
    (c21 : PySem.W.codeIn K cd21 "_law_index_by" = true)
    (k21 : PySem.W.keepIn K (.ref f21) = true)
    {f22 : Addr} {od22 an22 : Option Addr} {sl22 : Array (Option Value)} {oc22 kV22 dc22 pm22 cd22 ct22 : Value}
    (a22 : PySem.W.nsIn K mainGlobals "_law_piece_by" = some (some (.ref f22)))
    (l22 : K.lookup f22 = some ⟨oc22, od22, .func (PySem.W.fnOf "_law_piece_by" "_law_piece_by" (defArgs s_l_piece_by) (defBody s_l_piece_by) (defScope s_l_piece_by) .none kV22 dc22 pm22 an22 cd22 ct22), sl22⟩)
    (c22 : PySem.W.codeIn K cd22 "_law_piece_by" = true)
    (k22 : PySem.W.keepIn K (.ref f22) = true)
    {f23 : Addr} {od23 an23 : Option Addr} {sl23 : Array (Option Value)} {oc23 kV23 dc23 pm23 cd23 ct23 : Value}
    (a23 : PySem.W.nsIn K mainGlobals "_law_term_of" = some (some (.ref f23)))
    (l23 : K.lookup f23 = some ⟨oc23, od23, .func (PySem.W.fnOf "_law_term_of" "_law_term_of" (defArgs s_l_term_of) (defBody s_l_term_of) (defScope s_l_term_of) .none kV23 dc23 pm23 an23 cd23 ct23), sl23⟩)
    (c23 : PySem.W.codeIn K cd23 "_law_term_of" = true)
    (k23 : PySem.W.keepIn K (.ref f23) = true)
    {f24 : Addr} {od24 an24 : Option Addr} {sl24 : Array (Option Value)} {oc24 kV24 dc24 pm24 cd24 ct24 : Value}
    (a24 : PySem.W.nsIn K mainGlobals "_law_line_by" = some (some (.ref f24)))
    (l24 : K.lookup f24 = some ⟨oc24, od24, .func (PySem.W.fnOf "_law_line_by" "_law_line_by" (defArgs s_l_line_by) (defBody s_l_line_by) (defScope s_l_line_by) .none kV24 dc24 pm24 an24 cd24 ct24), sl24⟩)
    (c24 : PySem.W.codeIn K cd24 "_law_line_by" = true)
    (k24 : PySem.W.keepIn K (.ref f24) = true)
    {f25 : Addr} {od25 an25 : Option Addr} {sl25 : Array (Option Value)} {oc25 kV25 dc25 pm25 cd25 ct25 : Value}
    (a25 : PySem.W.nsIn K mainGlobals "_law_names_by" = some (some (.ref f25)))
    (l25 : K.lookup f25 = some ⟨oc25, od25, .func (PySem.W.fnOf "_law_names_by" "_law_names_by" (defArgs s_l_names_by) (defBody s_l_names_by) (defScope s_l_names_by) .none kV25 dc25 pm25 an25 cd25 ct25), sl25⟩)
    (c25 : PySem.W.codeIn K cd25 "_law_names_by" = true)
    (k25 : PySem.W.keepIn K (.ref f25) = true)
    {f26 : Addr} {od26 an26 : Option Addr} {sl26 : Array (Option Value)} {oc26 kV26 dc26 pm26 cd26 ct26 : Value}
    (a26 : PySem.W.nsIn K mainGlobals "_law_cells" = some (some (.ref f26)))
    (l26 : K.lookup f26 = some ⟨oc26, od26, .func (PySem.W.fnOf "_law_cells" "_law_cells" (defArgs s_l_cells) (defBody s_l_cells) (defScope s_l_cells) .none kV26 dc26 pm26 an26 cd26 ct26), sl26⟩)
    (c26 : PySem.W.codeIn K cd26 "_law_cells" = true)
    (k26 : PySem.W.keepIn K (.ref f26) = true)
    {f27 : Addr} {od27 an27 : Option Addr} {sl27 : Array (Option Value)} {oc27 kV27 dc27 pm27 cd27 ct27 : Value}
    (a27 : PySem.W.nsIn K mainGlobals "_law_steps_by" = some (some (.ref f27)))
    (l27 : K.lookup f27 = some ⟨oc27, od27, .func (PySem.W.fnOf "_law_steps_by" "_law_steps_by" (defArgs s_l_steps_by) (defBody s_l_steps_by) (defScope s_l_steps_by) .none kV27 dc27 pm27 an27 cd27 ct27), sl27⟩)
    (c27 : PySem.W.codeIn K cd27 "_law_steps_by" = true)
    (k27 : PySem.W.keepIn K (.ref f27) = true)
    {f28 : Addr} {od28 an28 : Option Addr} {sl28 : Array (Option Value)} {oc28 kV28 dc28 pm28 cd28 ct28 : Value}
    (a28 : PySem.W.nsIn K mainGlobals "_law_due_of" = some (some (.ref f28)))
    (l28 : K.lookup f28 = some ⟨oc28, od28, .func (PySem.W.fnOf "_law_due_of" "_law_due_of" (defArgs s_l_due_of) (defBody s_l_due_of) (defScope s_l_due_of) .none kV28 dc28 pm28 an28 cd28 ct28), sl28⟩)
    (c28 : PySem.W.codeIn K cd28 "_law_due_of" = true)
    (k28 : PySem.W.keepIn K (.ref f28) = true)
    {f29 : Addr} {od29 an29 : Option Addr} {sl29 : Array (Option Value)} {oc29 kV29 dc29 pm29 cd29 ct29 : Value}
    (a29 : PySem.W.nsIn K mainGlobals "_law_is_spot" = some (some (.ref f29)))
    (l29 : K.lookup f29 = some ⟨oc29, od29, .func (PySem.W.fnOf "_law_is_spot" "_law_is_spot" (defArgs s_l_is_spot) (defBody s_l_is_spot) (defScope s_l_is_spot) .none kV29 dc29 pm29 an29 cd29 ct29), sl29⟩)
    (c29 : PySem.W.codeIn K cd29 "_law_is_spot" = true)
    (k29 : PySem.W.keepIn K (.ref f29) = true)
    {f30 : Addr} {od30 an30 : Option Addr} {sl30 : Array (Option Value)} {oc30 kV30 dc30 pm30 cd30 ct30 : Value}
    (a30 : PySem.W.nsIn K mainGlobals "_law_all_told" = some (some (.ref f30)))
    (l30 : K.lookup f30 = some ⟨oc30, od30, .func (PySem.W.fnOf "_law_all_told" "_law_all_told" (defArgs s_l_all_told) (defBody s_l_all_told) (defScope s_l_all_told) .none kV30 dc30 pm30 an30 cd30 ct30), sl30⟩)
    (c30 : PySem.W.codeIn K cd30 "_law_all_told" = true)
    (k30 : PySem.W.keepIn K (.ref f30) = true)
    {f31 : Addr} {od31 an31 : Option Addr} {sl31 : Array (Option Value)} {oc31 kV31 dc31 pm31 cd31 ct31 : Value}
    (a31 : PySem.W.nsIn K mainGlobals "_law_cloth_of" = some (some (.ref f31)))
    (l31 : K.lookup f31 = some ⟨oc31, od31, .func (PySem.W.fnOf "_law_cloth_of" "_law_cloth_of" (defArgs s_l_cloth_of) (defBody s_l_cloth_of) (defScope s_l_cloth_of) .none kV31 dc31 pm31 an31 cd31 ct31), sl31⟩)
    (c31 : PySem.W.codeIn K cd31 "_law_cloth_of" = true)
    (k31 : PySem.W.keepIn K (.ref f31) = true)
    {f32 : Addr} {od32 an32 : Option Addr} {sl32 : Array (Option Value)} {oc32 kV32 dc32 pm32 cd32 ct32 : Value}
    (a32 : PySem.W.nsIn K mainGlobals "law" = some (some (.ref f32)))
    (l32 : K.lookup f32 = some ⟨oc32, od32, .func (PySem.W.fnOf "law" "law" (defArgs s_law) (defBody s_law) (defScope s_law) .none kV32 dc32 pm32 an32 cd32 ct32), sl32⟩)
    (c32 : PySem.W.codeIn K cd32 "law" = true)
    (k32 : PySem.W.keepIn K (.ref f32) = true)
    (pg_Cloth : PySem.W.plainGet K C_Cloth Str.empty = true)
    (hd_Cloth : PySem.W.hasDictIn K C_Cloth = true)
    (po_Cloth : PySem.W.plainOver K C_Cloth = true)
    (sa_Cloth : PySem.W.findIn K (.ref C_Cloth) "__setattr__" = some (some (.builtin "object.__setattr__")))
    (mk_Cloth : PySem.W.makesIn K C_Cloth = true)
    (kc_Cloth : PySem.W.keepIn K (.ref C_Cloth) = true)
    (in_Cloth : PySem.W.findIn K (.ref C_Cloth) "__init__" = some (some (.ref f5)))
    (na_Cloth_wheel : PySem.W.findIn K (.ref C_Cloth) "wheel" = some none)
    (na_Cloth_lengths : PySem.W.findIn K (.ref C_Cloth) "lengths" = some none)
    (na_Cloth_arrays : PySem.W.findIn K (.ref C_Cloth) "arrays" = some none)
    (na_Cloth_tables : PySem.W.findIn K (.ref C_Cloth) "tables" = some none)
    (na_Cloth_lines : PySem.W.findIn K (.ref C_Cloth) "lines" = some none)
    (na_Cloth_outs : PySem.W.findIn K (.ref C_Cloth) "outs" = some none)
    (t1_Cloth : PySem.W.findIn K (.ref C_Cloth) "__class__" = some (some (.builtin "object.__class__")))
    (t2_Cloth : PySem.W.specialIn K (.builtin "object.__class__") "__get__" = some (some (.builtin "getset_descriptor.__get__")))
    (t3_Cloth : PySem.W.takesIn K (.builtin "object.__class__") = some true)
    (t4_Cloth : PySem.W.mroIn K C_Cloth (.type "object") = some true)
    (pg_Guard : PySem.W.plainGet K C_Guard Str.empty = true)
    (hd_Guard : PySem.W.hasDictIn K C_Guard = true)
    (po_Guard : PySem.W.plainOver K C_Guard = true)
    (sa_Guard : PySem.W.findIn K (.ref C_Guard) "__setattr__" = some (some (.builtin "object.__setattr__")))
    (mk_Guard : PySem.W.makesIn K C_Guard = true)
    (kc_Guard : PySem.W.keepIn K (.ref C_Guard) = true)
    (in_Guard : PySem.W.findIn K (.ref C_Guard) "__init__" = some (some (.ref f14)))
    (na_Guard_axis : PySem.W.findIn K (.ref C_Guard) "axis" = some none)
    (na_Guard_low : PySem.W.findIn K (.ref C_Guard) "low" = some none)
    (na_Guard_high : PySem.W.findIn K (.ref C_Guard) "high" = some none)
    (na_Guard_inner : PySem.W.findIn K (.ref C_Guard) "inner" = some none)
    (na_Guard_outer : PySem.W.findIn K (.ref C_Guard) "outer" = some none)
    (me_Guard_lets_in : PySem.W.findIn K (.ref C_Guard) "lets_in" = some (some (.ref f15)))
    (me_Guard_looked_at : PySem.W.findIn K (.ref C_Guard) "looked_at" = some (some (.ref f16)))
    (me_Guard_reads : PySem.W.findIn K (.ref C_Guard) "reads" = some (some (.ref f17)))
    (t1_Guard : PySem.W.findIn K (.ref C_Guard) "__class__" = some (some (.builtin "object.__class__")))
    (t2_Guard : PySem.W.specialIn K (.builtin "object.__class__") "__get__" = some (some (.builtin "getset_descriptor.__get__")))
    (t3_Guard : PySem.W.takesIn K (.builtin "object.__class__") = some true)
    (t4_Guard : PySem.W.mroIn K C_Guard (.type "object") = some true)
    (pg_Line : PySem.W.plainGet K C_Line Str.empty = true)
    (hd_Line : PySem.W.hasDictIn K C_Line = true)
    (po_Line : PySem.W.plainOver K C_Line = true)
    (sa_Line : PySem.W.findIn K (.ref C_Line) "__setattr__" = some (some (.builtin "object.__setattr__")))
    (mk_Line : PySem.W.makesIn K C_Line = true)
    (kc_Line : PySem.W.keepIn K (.ref C_Line) = true)
    (in_Line : PySem.W.findIn K (.ref C_Line) "__init__" = some (some (.ref f4)))
    (na_Line_name : PySem.W.findIn K (.ref C_Line) "name" = some none)
    (na_Line_axes : PySem.W.findIn K (.ref C_Line) "axes" = some none)
    (na_Line_sums : PySem.W.findIn K (.ref C_Line) "sums" = some none)
    (na_Line_term : PySem.W.findIn K (.ref C_Line) "term" = some none)
    (t1_Line : PySem.W.findIn K (.ref C_Line) "__class__" = some (some (.builtin "object.__class__")))
    (t2_Line : PySem.W.specialIn K (.builtin "object.__class__") "__get__" = some (some (.builtin "getset_descriptor.__get__")))
    (t3_Line : PySem.W.takesIn K (.builtin "object.__class__") = some true)
    (t4_Line : PySem.W.mroIn K C_Line (.type "object") = some true)
    (mb_Line_list : PySem.W.mroIn K C_Line (.type "list") = some false)
    (mb_Line_tuple : PySem.W.mroIn K C_Line (.type "tuple") = some false)
    (mb_Line_dict : PySem.W.mroIn K C_Line (.type "dict") = some false)
    (pg_Minus : PySem.W.plainGet K C_Minus Str.empty = true)
    (hd_Minus : PySem.W.hasDictIn K C_Minus = true)
    (po_Minus : PySem.W.plainOver K C_Minus = true)
    (sa_Minus : PySem.W.findIn K (.ref C_Minus) "__setattr__" = some (some (.builtin "object.__setattr__")))
    (mk_Minus : PySem.W.makesIn K C_Minus = true)
    (kc_Minus : PySem.W.keepIn K (.ref C_Minus) = true)
    (in_Minus : PySem.W.findIn K (.ref C_Minus) "__init__" = some (some (.ref f12)))
    (na_Minus_left : PySem.W.findIn K (.ref C_Minus) "left" = some none)
    (na_Minus_right : PySem.W.findIn K (.ref C_Minus) "right" = some none)
    (me_Minus_reads : PySem.W.findIn K (.ref C_Minus) "reads" = some (some (.ref f13)))
    (t1_Minus : PySem.W.findIn K (.ref C_Minus) "__class__" = some (some (.builtin "object.__class__")))
    (t2_Minus : PySem.W.specialIn K (.builtin "object.__class__") "__get__" = some (some (.builtin "getset_descriptor.__get__")))
    (t3_Minus : PySem.W.takesIn K (.builtin "object.__class__") = some true)
    (t4_Minus : PySem.W.mroIn K C_Minus (.type "object") = some true)
    (pg_Number : PySem.W.plainGet K C_Number Str.empty = true)
    (hd_Number : PySem.W.hasDictIn K C_Number = true)
    (po_Number : PySem.W.plainOver K C_Number = true)
    (sa_Number : PySem.W.findIn K (.ref C_Number) "__setattr__" = some (some (.builtin "object.__setattr__")))
    (mk_Number : PySem.W.makesIn K C_Number = true)
    (kc_Number : PySem.W.keepIn K (.ref C_Number) = true)
    (in_Number : PySem.W.findIn K (.ref C_Number) "__init__" = some (some (.ref f6)))
    (na_Number_number : PySem.W.findIn K (.ref C_Number) "number" = some none)
    (me_Number_reads : PySem.W.findIn K (.ref C_Number) "reads" = some (some (.ref f7)))
    (t1_Number : PySem.W.findIn K (.ref C_Number) "__class__" = some (some (.builtin "object.__class__")))
    (t2_Number : PySem.W.specialIn K (.builtin "object.__class__") "__get__" = some (some (.builtin "getset_descriptor.__get__")))
    (t3_Number : PySem.W.takesIn K (.builtin "object.__class__") = some true)
    (t4_Number : PySem.W.mroIn K C_Number (.type "object") = some true)
    (pg_Plus : PySem.W.plainGet K C_Plus Str.empty = true)
    (hd_Plus : PySem.W.hasDictIn K C_Plus = true)
    (po_Plus : PySem.W.plainOver K C_Plus = true)
    (sa_Plus : PySem.W.findIn K (.ref C_Plus) "__setattr__" = some (some (.builtin "object.__setattr__")))
    (mk_Plus : PySem.W.makesIn K C_Plus = true)
    (kc_Plus : PySem.W.keepIn K (.ref C_Plus) = true)
    (in_Plus : PySem.W.findIn K (.ref C_Plus) "__init__" = some (some (.ref f12)))
    (na_Plus_left : PySem.W.findIn K (.ref C_Plus) "left" = some none)
    (na_Plus_right : PySem.W.findIn K (.ref C_Plus) "right" = some none)
    (me_Plus_reads : PySem.W.findIn K (.ref C_Plus) "reads" = some (some (.ref f13)))
    (t1_Plus : PySem.W.findIn K (.ref C_Plus) "__class__" = some (some (.builtin "object.__class__")))
    (t2_Plus : PySem.W.specialIn K (.builtin "object.__class__") "__get__" = some (some (.builtin "getset_descriptor.__get__")))
    (t3_Plus : PySem.W.takesIn K (.builtin "object.__class__") = some true)
    (t4_Plus : PySem.W.mroIn K C_Plus (.type "object") = some true)
    (pg_Read : PySem.W.plainGet K C_Read Str.empty = true)
    (hd_Read : PySem.W.hasDictIn K C_Read = true)
    (po_Read : PySem.W.plainOver K C_Read = true)
    (sa_Read : PySem.W.findIn K (.ref C_Read) "__setattr__" = some (some (.builtin "object.__setattr__")))
    (mk_Read : PySem.W.makesIn K C_Read = true)
    (kc_Read : PySem.W.keepIn K (.ref C_Read) = true)
    (in_Read : PySem.W.findIn K (.ref C_Read) "__init__" = some (some (.ref f8)))
    (na_Read_array : PySem.W.findIn K (.ref C_Read) "array" = some none)
    (na_Read_indexes : PySem.W.findIn K (.ref C_Read) "indexes" = some none)
    (me_Read_cell_at : PySem.W.findIn K (.ref C_Read) "cell_at" = some (some (.ref f9)))
    (me_Read_reads : PySem.W.findIn K (.ref C_Read) "reads" = some (some (.ref f10)))
    (t1_Read : PySem.W.findIn K (.ref C_Read) "__class__" = some (some (.builtin "object.__class__")))
    (t2_Read : PySem.W.specialIn K (.builtin "object.__class__") "__get__" = some (some (.builtin "getset_descriptor.__get__")))
    (t3_Read : PySem.W.takesIn K (.builtin "object.__class__") = some true)
    (t4_Read : PySem.W.mroIn K C_Read (.type "object") = some true)
    (pg_Times : PySem.W.plainGet K C_Times Str.empty = true)
    (hd_Times : PySem.W.hasDictIn K C_Times = true)
    (po_Times : PySem.W.plainOver K C_Times = true)
    (sa_Times : PySem.W.findIn K (.ref C_Times) "__setattr__" = some (some (.builtin "object.__setattr__")))
    (mk_Times : PySem.W.makesIn K C_Times = true)
    (kc_Times : PySem.W.keepIn K (.ref C_Times) = true)
    (in_Times : PySem.W.findIn K (.ref C_Times) "__init__" = some (some (.ref f12)))
    (na_Times_left : PySem.W.findIn K (.ref C_Times) "left" = some none)
    (na_Times_right : PySem.W.findIn K (.ref C_Times) "right" = some none)
    (me_Times_reads : PySem.W.findIn K (.ref C_Times) "reads" = some (some (.ref f13)))
    (t1_Times : PySem.W.findIn K (.ref C_Times) "__class__" = some (some (.builtin "object.__class__")))
    (t2_Times : PySem.W.specialIn K (.builtin "object.__class__") "__get__" = some (some (.builtin "getset_descriptor.__get__")))
    (t3_Times : PySem.W.takesIn K (.builtin "object.__class__") = some true)
    (t4_Times : PySem.W.mroIn K C_Times (.type "object") = some true)
    (z_isinstance : PySem.W.nsIn K mainGlobals "isinstance" = some none)
    (z_list : PySem.W.nsIn K mainGlobals "list" = some none)
    (z_tuple : PySem.W.nsIn K mainGlobals "tuple" = some none)
    (z_dict : PySem.W.nsIn K mainGlobals "dict" = some none)
    (z_zip : PySem.W.nsIn K mainGlobals "zip" = some none)
    (z_len : PySem.W.nsIn K mainGlobals "len" = some none)
    (z_bool : PySem.W.nsIn K mainGlobals "bool" = some none)
    (z_int : PySem.W.nsIn K mainGlobals "int" = some none)
    (z_range : PySem.W.nsIn K mainGlobals "range" = some none)
    (z_reversed : PySem.W.nsIn K mainGlobals "reversed" = some none)
    (z_str : PySem.W.nsIn K mainGlobals "str" = some none)
    (z_min : PySem.W.nsIn K mainGlobals "min" = some none)
    : ∃ fd : FuncData, (∀ (s : Shared) (v : Value), BindsTo s fd ⟨[v], []⟩ [("_law_script", v)]) ∧ ∀ base : Heap, K.In base → base.Ns mainGlobals mg → FnOk l.prog w K mg base CX0 16 fa fd ["_law_script"] (spLaw K) := by
  have e := hfa.symm.trans (PySem.W.mg_of X G a32)
  cases e
  have F0 := fun_mk (st := s_copied) l0 c0 k0
  have b0 := F0.binds (ps := ["value"]) fun _ _ _ _ _ _ us hl => match us, hl with | [_], _ => rfl
  have F1 := fun_mk (st := s_copied_dict) l1 c1 k1
  have b1 := F1.binds (ps := ["value"]) fun _ _ _ _ _ _ us hl => match us, hl with | [_], _ => rfl
  have F2 := fun_mk (st := s_read_by) l2 c2 k2
  have b2 := F2.binds (ps := ["cloth", "step"]) fun _ _ _ _ _ _ us hl => match us, hl with | [_, _], _ => rfl
  have F3 := fun_mk (st := s_written_by) l3 c3 k3
  have b3 := F3.binds (ps := ["cloth", "step"]) fun _ _ _ _ _ _ us hl => match us, hl with | [_, _], _ => rfl
  have F4 := fun_mk (st := s_Line_init) l4 c4 k4
  have b4 := F4.binds (ps := ["self", "name", "axes", "sums", "term"]) fun _ _ _ _ _ _ us hl => match us, hl with | [_, _, _, _, _], _ => rfl
  have F5 := fun_mk (st := s_Cloth_init) l5 c5 k5
  have b5 := F5.binds (ps := ["self", "wheel", "lengths", "arrays", "tables", "lines", "outs"]) fun _ _ _ _ _ _ us hl => match us, hl with | [_, _, _, _, _, _, _], _ => rfl
  have F6 := fun_mk (st := s_Number_init) l6 c6 k6
  have b6 := F6.binds (ps := ["self", "number"]) fun _ _ _ _ _ _ us hl => match us, hl with | [_, _], _ => rfl
  have F7 := fun_mk (st := s_Number_reads) l7 c7 k7
  have b7 := F7.binds (ps := ["self", "at", "lengths"]) fun _ _ _ _ _ _ us hl => match us, hl with | [_, _, _], _ => rfl
  have F8 := fun_mk (st := s_Read_init) l8 c8 k8
  have b8 := F8.binds (ps := ["self", "array", "indexes"]) fun _ _ _ _ _ _ us hl => match us, hl with | [_, _, _], _ => rfl
  have F9 := fun_mk (st := s_Read_cell_at) l9 c9 k9
  have b9 := F9.binds (ps := ["self", "at"]) fun _ _ _ _ _ _ us hl => match us, hl with | [_, _], _ => rfl
  have F10 := fun_mk (st := s_Read_reads) l10 c10 k10
  have b10 := F10.binds (ps := ["self", "at", "lengths"]) fun _ _ _ _ _ _ us hl => match us, hl with | [_, _, _], _ => rfl
  have F11 := fun_mk (st := s_index_at) l11 c11 k11
  have b11 := F11.binds (ps := ["axis", "shift", "at"]) fun _ _ _ _ _ _ us hl => match us, hl with | [_, _, _], _ => rfl
  have F12 := fun_mk (st := s_Pair_init) l12 c12 k12
  have b12 := F12.binds (ps := ["self", "left", "right"]) fun _ _ _ _ _ _ us hl => match us, hl with | [_, _, _], _ => rfl
  have F13 := fun_mk (st := s_Pair_reads) l13 c13 k13
  have b13 := F13.binds (ps := ["self", "at", "lengths"]) fun _ _ _ _ _ _ us hl => match us, hl with | [_, _, _], _ => rfl
  have F14 := fun_mk (st := s_Guard_init) l14 c14 k14
  have b14 := F14.binds (ps := ["self", "axis", "low", "high", "inner", "outer"]) fun _ _ _ _ _ _ us hl => match us, hl with | [_, _, _, _, _, _], _ => rfl
  have F15 := fun_mk (st := s_Guard_lets_in) l15 c15 k15
  have b15 := F15.binds (ps := ["self", "at"]) fun _ _ _ _ _ _ us hl => match us, hl with | [_, _], _ => rfl
  have F16 := fun_mk (st := s_Guard_looked_at) l16 c16 k16
  have b16 := F16.binds (ps := ["self", "at"]) fun _ _ _ _ _ _ us hl => match us, hl with | [_, _], _ => rfl
  have F17 := fun_mk (st := s_Guard_reads) l17 c17 k17
  have b17 := F17.binds (ps := ["self", "at", "lengths"]) fun _ _ _ _ _ _ us hl => match us, hl with | [_, _, _], _ => rfl
  have F18 := fun_mk (st := s_l_cell_at) l18 c18 k18
  have b18 := F18.binds (ps := ["_law_script", "_law_k"]) fun _ _ _ _ _ _ us hl => match us, hl with | [_, _], _ => rfl
  have F19 := fun_mk (st := s_l_whole) l19 c19 k19
  have b19 := F19.binds (ps := ["_law_found"]) fun _ _ _ _ _ _ us hl => match us, hl with | [_], _ => rfl
  have F20 := fun_mk (st := s_l_mix) l20 c20 k20
  have b20 := F20.binds (ps := ["_law_cell", "_law_k"]) fun _ _ _ _ _ _ us hl => match us, hl with | [_, _], _ => rfl
  have F21 := fun_mk (st := s_l_index_by) l21 c21 k21
  have b21 := F21.binds (ps := ["_law_two", "_law_bound", "_law_length", "_law_lengths"]) fun _ _ _ _ _ _ us hl => match us, hl with | [_, _, _, _], _ => rfl
  have F22 := fun_mk (st := s_l_piece_by) l22 c22 k22
  have b22 := F22.binds (ps := ["_law_cell", "_law_arrays", "_law_lengths", "_law_line"]) fun _ _ _ _ _ _ us hl => match us, hl with | [_, _, _, _], _ => rfl
  have F23 := fun_mk (st := s_l_term_of) l23 c23 k23
  have b23 := F23.binds (ps := ["_law_pieces", "_law_cell"]) fun _ _ _ _ _ _ us hl => match us, hl with | [_, _], _ => rfl
  have F24 := fun_mk (st := s_l_line_by) l24 c24 k24
  have b24 := F24.binds (ps := ["_law_cell", "_law_name", "_law_axes", "_law_lengths", "_law_arrays"]) fun _ _ _ _ _ _ us hl => match us, hl with | [_, _, _, _, _], _ => rfl
  have F25 := fun_mk (st := s_l_names_by) l25 c25 k25
  have b25 := F25.binds (ps := ["_law_cell", "_law_many"]) fun _ _ _ _ _ _ us hl => match us, hl with | [_, _], _ => rfl
  have F26 := fun_mk (st := s_l_cells) l26 c26 k26
  have b26 := F26.binds (ps := ["_law_axes", "_law_lengths"]) fun _ _ _ _ _ _ us hl => match us, hl with | [_, _], _ => rfl
  have F27 := fun_mk (st := s_l_steps_by) l27 c27 k27
  have b27 := F27.binds (ps := ["_law_k", "_law_line", "_law_lengths"]) fun _ _ _ _ _ _ us hl => match us, hl with | [_, _, _], _ => rfl
  have F28 := fun_mk (st := s_l_due_of) l28 c28 k28
  have b28 := F28.binds (ps := ["_law_step", "_law_line"]) fun _ _ _ _ _ _ us hl => match us, hl with | [_, _], _ => rfl
  have F29 := fun_mk (st := s_l_is_spot) l29 c29 k29
  have b29 := F29.binds (ps := ["_law_found", "_law_due"]) fun _ _ _ _ _ _ us hl => match us, hl with | [_, _], _ => rfl
  have F30 := fun_mk (st := s_l_all_told) l30 c30 k30
  have b30 := F30.binds (ps := ["_law_found", "_law_due"]) fun _ _ _ _ _ _ us hl => match us, hl with | [_, _], _ => rfl
  have F31 := fun_mk (st := s_l_cloth_of) l31 c31 k31
  have b31 := F31.binds (ps := ["_law_script", "_law_rows", "_law_arrays", "_law_lengths", "_law_tables"]) fun _ _ _ _ _ _ us hl => match us, hl with | [_, _, _, _, _], _ => rfl
  have F32 := fun_mk (st := s_law) l32 c32 k32
  have b32 := F32.binds (ps := ["_law_script"]) fun _ _ _ _ _ _ us hl => match us, hl with | [_], _ => rfl
  exact ⟨_, fun s v => .of_eq rfl, fun base _ _ => ok_law (t := ⟨C_Line, C_Cloth, C_Term, C_Number, C_Read, C_Pair, C_Plus, C_Minus, C_Times, C_Guard, f0, _, f1, _, f2, _, f3, _, f4, _, f5, _, f6, _, f7, _, f8, _, f9, _, f10, _, f11, _, f12, _, f13, _, f14, _, f15, _, f16, _, f17, _, f18, _, f19, _, f20, _, f21, _, f22, _, f23, _, f24, _, f25, _, f26, _, f27, _, f28, _, f29, _, f30, _, f31, _, fa, _⟩) ⟨F0, PySem.W.mg_of X G a0, b0, F1, PySem.W.mg_of X G a1, b1, F2, PySem.W.mg_of X G a2, b2, F3, PySem.W.mg_of X G a3, b3, F4, b4, F5, b5, F6, b6, F7, b7, F8, b8, F9, b9, F10, b10, F11, PySem.W.mg_of X G a11, b11, F12, b12, F13, b13, F14, b14, F15, b15, F16, b16, F17, b17, F18, PySem.W.mg_of X G a18, b18, F19, PySem.W.mg_of X G a19, b19, F20, PySem.W.mg_of X G a20, b20, F21, PySem.W.mg_of X G a21, b21, F22, PySem.W.mg_of X G a22, b22, F23, PySem.W.mg_of X G a23, b23, F24, PySem.W.mg_of X G a24, b24, F25, PySem.W.mg_of X G a25, b25, F26, PySem.W.mg_of X G a26, b26, F27, PySem.W.mg_of X G a27, b27, F28, PySem.W.mg_of X G a28, b28, F29, PySem.W.mg_of X G a29, b29, F30, PySem.W.mg_of X G a30, b30, F31, PySem.W.mg_of X G a31, b31, F32, PySem.W.mg_of X G a32, b32, PySem.W.mg_of X G aC_Line, PySem.W.mg_of X G aC_Cloth, PySem.W.mg_of X G aC_Number, PySem.W.mg_of X G aC_Read, PySem.W.mg_of X G aC_Plus, PySem.W.mg_of X G aC_Minus, PySem.W.mg_of X G aC_Times, PySem.W.mg_of X G aC_Guard, ⟨pg_Cloth, hd_Cloth, po_Cloth, sa_Cloth⟩, ⟨mk_Cloth, in_Cloth, i5, kc_Cloth⟩, na_Cloth_wheel, na_Cloth_lengths, na_Cloth_arrays, na_Cloth_tables, na_Cloth_lines, na_Cloth_outs, ⟨t1_Cloth, t2_Cloth, t3_Cloth, t4_Cloth⟩, ⟨pg_Guard, hd_Guard, po_Guard, sa_Guard⟩, ⟨mk_Guard, in_Guard, i14, kc_Guard⟩, na_Guard_axis, na_Guard_low, na_Guard_high, na_Guard_inner, na_Guard_outer, ⟨me_Guard_lets_in, i15, k15⟩, ⟨me_Guard_looked_at, i16, k16⟩, ⟨me_Guard_reads, i17, k17⟩, ⟨t1_Guard, t2_Guard, t3_Guard, t4_Guard⟩, ⟨pg_Line, hd_Line, po_Line, sa_Line⟩, ⟨mk_Line, in_Line, i4, kc_Line⟩, na_Line_name, na_Line_axes, na_Line_sums, na_Line_term, ⟨t1_Line, t2_Line, t3_Line, t4_Line⟩, mb_Line_list, mb_Line_tuple, mb_Line_dict, ⟨pg_Minus, hd_Minus, po_Minus, sa_Minus⟩, ⟨mk_Minus, in_Minus, i12, kc_Minus⟩, na_Minus_left, na_Minus_right, ⟨me_Minus_reads, i13, k13⟩, ⟨t1_Minus, t2_Minus, t3_Minus, t4_Minus⟩, ⟨pg_Number, hd_Number, po_Number, sa_Number⟩, ⟨mk_Number, in_Number, i6, kc_Number⟩, na_Number_number, ⟨me_Number_reads, i7, k7⟩, ⟨t1_Number, t2_Number, t3_Number, t4_Number⟩, ⟨pg_Plus, hd_Plus, po_Plus, sa_Plus⟩, ⟨mk_Plus, in_Plus, i12, kc_Plus⟩, na_Plus_left, na_Plus_right, ⟨me_Plus_reads, i13, k13⟩, ⟨t1_Plus, t2_Plus, t3_Plus, t4_Plus⟩, ⟨pg_Read, hd_Read, po_Read, sa_Read⟩, ⟨mk_Read, in_Read, i8, kc_Read⟩, na_Read_array, na_Read_indexes, ⟨me_Read_cell_at, i9, k9⟩, ⟨me_Read_reads, i10, k10⟩, ⟨t1_Read, t2_Read, t3_Read, t4_Read⟩, ⟨pg_Times, hd_Times, po_Times, sa_Times⟩, ⟨mk_Times, in_Times, i12, kc_Times⟩, na_Times_left, na_Times_right, ⟨me_Times_reads, i13, k13⟩, ⟨t1_Times, t2_Times, t3_Times, t4_Times⟩, PySem.W.mg_none_of X G z_isinstance, PySem.W.mg_none_of X G z_list, PySem.W.mg_none_of X G z_tuple, PySem.W.mg_none_of X G z_dict, PySem.W.mg_none_of X G z_zip, PySem.W.mg_none_of X G z_len, PySem.W.mg_none_of X G z_bool, PySem.W.mg_none_of X G z_int, PySem.W.mg_none_of X G z_range, PySem.W.mg_none_of X G z_reversed, PySem.W.mg_none_of X G z_str, PySem.W.mg_none_of X G z_min⟩⟩
theorem walk {l : PySem.W.OpenLaw} {q : Program} {loose : List Str} {XP : (Str → Option Value) → Heap → Prop} {YP : World → Heap → Prop} {d : DefRec} {K : Params → PySem.W.Frag} (hn : l.most = some 63) (hdf : d.params.defaults = [])
    (hY : ∀ (w : World) (h : Heap), YP w h → (K w.params).In h)
    (F : ∀ (w : World) (mg : Str → Option Value) (fa : Addr) (h : Heap), (K w.params).In h → h.Ns mainGlobals mg → mg d.name = some (.ref fa) →
      ∃ fd : FuncData, (∀ (s : Shared) (u : Value), BindsTo s fd ⟨[u], []⟩ [("_law_script", u)]) ∧ ∀ base : Heap, (K w.params).In base → base.Ns mainGlobals mg → FnOk l.prog w (K w.params) mg base CX0 16 fa fd ["_law_script"] (spLaw (K w.params))) :
    PySem.W.WalkO q loose XP YP l.row.toRowW d [] (fun f vs => PySem.call f vs) :=
  L2.walk_of (n := 63) (k := 16) (x := "_law_script") (CX := fun _ => CX0) (sp := fun w => spLaw (K w.params)) hn (by decide) hdf ⟨rfl, by decide, by decide⟩ hY F (fun _ _ a ns hl _ hS => ⟨a, ns, rfl, hS, hl, fun _ => rfl⟩) fun _ _ _ _ _ z => z
end My
open PySem PySem.W PyProof.Rows
set_option maxRecDepth 100000 in
set_option maxHeartbeats 0 in
theorem PySem.Challenge.cw_arrayloom_k56_reads_of_steps_holds : PySem.Challenge.rw_arrayloom_k56_reads_of_steps.Holds := by
  w_on; o_law; k_head; (case hw => w_witness2)
  k_fill
  refine My.walk (l := PySem.Challenge.rw_arrayloom_k56_reads_of_steps) rfl rfl (fun w h Y => PySem.W.kIn_of Y) ?F
  case F =>
    intro w mg fa h KX G hmg
    refine' My.all_mk KX G hmg ?aC_Line ?aC_Cloth ?aC_Term ?aC_Number ?aC_Read ?aC_Pair ?aC_Plus ?aC_Minus ?aC_Times ?aC_Guard ?a0 ?l0 ?c0 ?k0 ?a1 ?l1 ?c1 ?k1 ?a2 ?l2 ?c2 ?k2 ?a3 ?l3 ?c3 ?k3 ?a4 ?l4 ?c4 ?k4 ?i4 ?a5 ?l5 ?c5 ?k5 ?i5 ?a6 ?l6 ?c6 ?k6 ?i6 ?a7 ?l7 ?c7 ?k7 ?i7 ?a8 ?l8 ?c8 ?k8 ?i8 ?a9 ?l9 ?c9 ?k9 ?i9 ?a10 ?l10 ?c10 ?k10 ?i10 ?a11 ?l11 ?c11 ?k11 ?a12 ?l12 ?c12 ?k12 ?i12 ?a13 ?l13 ?c13 ?k13 ?i13 ?a14 ?l14 ?c14 ?k14 ?i14 ?a15 ?l15 ?c15 ?k15 ?i15 ?a16 ?l16 ?c16 ?k16 ?i16 ?a17 ?l17 ?c17 ?k17 ?i17 ?a18 ?l18 ?c18 ?k18 ?a19 ?l19 ?c19 ?k19 ?a20 ?l20 ?c20 ?k20 ?a21 ?l21 ?c21 ?k21 ?a22 ?l22 ?c22 ?k22 ?a23 ?l23 ?c23 ?k23 ?a24 ?l24 ?c24 ?k24 ?a25 ?l25 ?c25 ?k25 ?a26 ?l26 ?c26 ?k26 ?a27 ?l27 ?c27 ?k27 ?a28 ?l28 ?c28 ?k28 ?a29 ?l29 ?c29 ?k29 ?a30 ?l30 ?c30 ?k30 ?a31 ?l31 ?c31 ?k31 ?a32 ?l32 ?c32 ?k32 ?pg_Cloth ?hd_Cloth ?po_Cloth ?sa_Cloth ?mk_Cloth ?kc_Cloth ?in_Cloth ?na_Cloth_wheel ?na_Cloth_lengths ?na_Cloth_arrays ?na_Cloth_tables ?na_Cloth_lines ?na_Cloth_outs ?t1_Cloth ?t2_Cloth ?t3_Cloth ?t4_Cloth ?pg_Guard ?hd_Guard ?po_Guard ?sa_Guard ?mk_Guard ?kc_Guard ?in_Guard ?na_Guard_axis ?na_Guard_low ?na_Guard_high ?na_Guard_inner ?na_Guard_outer ?me_Guard_lets_in ?me_Guard_looked_at ?me_Guard_reads ?t1_Guard ?t2_Guard ?t3_Guard ?t4_Guard ?pg_Line ?hd_Line ?po_Line ?sa_Line ?mk_Line ?kc_Line ?in_Line ?na_Line_name ?na_Line_axes ?na_Line_sums ?na_Line_term ?t1_Line ?t2_Line ?t3_Line ?t4_Line ?mb_Line_list ?mb_Line_tuple ?mb_Line_dict ?pg_Minus ?hd_Minus ?po_Minus ?sa_Minus ?mk_Minus ?kc_Minus ?in_Minus ?na_Minus_left ?na_Minus_right ?me_Minus_reads ?t1_Minus ?t2_Minus ?t3_Minus ?t4_Minus ?pg_Number ?hd_Number ?po_Number ?sa_Number ?mk_Number ?kc_Number ?in_Number ?na_Number_number ?me_Number_reads ?t1_Number ?t2_Number ?t3_Number ?t4_Number ?pg_Plus ?hd_Plus ?po_Plus ?sa_Plus ?mk_Plus ?kc_Plus ?in_Plus ?na_Plus_left ?na_Plus_right ?me_Plus_reads ?t1_Plus ?t2_Plus ?t3_Plus ?t4_Plus ?pg_Read ?hd_Read ?po_Read ?sa_Read ?mk_Read ?kc_Read ?in_Read ?na_Read_array ?na_Read_indexes ?me_Read_cell_at ?me_Read_reads ?t1_Read ?t2_Read ?t3_Read ?t4_Read ?pg_Times ?hd_Times ?po_Times ?sa_Times ?mk_Times ?kc_Times ?in_Times ?na_Times_left ?na_Times_right ?me_Times_reads ?t1_Times ?t2_Times ?t3_Times ?t4_Times ?z_isinstance ?z_list ?z_tuple ?z_dict ?z_zip ?z_len ?z_bool ?z_int ?z_range ?z_reversed ?z_str ?z_min
    (case aC_Line => k_is)
    (case aC_Cloth => k_is)
    (case aC_Term => k_is)
    (case aC_Number => k_is)
    (case aC_Read => k_is)
    (case aC_Pair => k_is)
    (case aC_Plus => k_is)
    (case aC_Minus => k_is)
    (case aC_Times => k_is)
    (case aC_Guard => k_is)
    (case a0 => k_is)
    (case l0 => k_is)
    (case c0 => k_is)
    (case k0 => k_is)
    (case a1 => k_is)
    (case l1 => k_is)
    (case c1 => k_is)
    (case k1 => k_is)
    (case a2 => k_is)
    (case l2 => k_is)
    (case c2 => k_is)
    (case k2 => k_is)
    (case a3 => k_is)
    (case l3 => k_is)
    (case c3 => k_is)
    (case k3 => k_is)
    (case a4 => k_is)
    (case l4 => k_is)
    (case c4 => k_is)
    (case k4 => k_is)
    (case i4 => k_is)
    (case a5 => k_is)
    (case l5 => k_is)
    (case c5 => k_is)
    (case k5 => k_is)
    (case i5 => k_is)
    (case a6 => k_is)
    (case l6 => k_is)
    (case c6 => k_is)
    (case k6 => k_is)
    (case i6 => k_is)
    (case a7 => k_is)
    (case l7 => k_is)
    (case c7 => k_is)
    (case k7 => k_is)
    (case i7 => k_is)
    (case a8 => k_is)
    (case l8 => k_is)
    (case c8 => k_is)
    (case k8 => k_is)
    (case i8 => k_is)
    (case a9 => k_is)
    (case l9 => k_is)
    (case c9 => k_is)
    (case k9 => k_is)
    (case i9 => k_is)
    (case a10 => k_is)
    (case l10 => k_is)
    (case c10 => k_is)
    (case k10 => k_is)
    (case i10 => k_is)
    (case a11 => k_is)
    (case l11 => k_is)
    (case c11 => k_is)
    (case k11 => k_is)
    (case a12 => k_is)
    (case l12 => k_is)
    (case c12 => k_is)
    (case k12 => k_is)
    (case i12 => k_is)
    (case a13 => k_is)
    (case l13 => k_is)
    (case c13 => k_is)
    (case k13 => k_is)
    (case i13 => k_is)
    (case a14 => k_is)
    (case l14 => k_is)
    (case c14 => k_is)
    (case k14 => k_is)
    (case i14 => k_is)
    (case a15 => k_is)
    (case l15 => k_is)
    (case c15 => k_is)
    (case k15 => k_is)
    (case i15 => k_is)
    (case a16 => k_is)
    (case l16 => k_is)
    (case c16 => k_is)
    (case k16 => k_is)
    (case i16 => k_is)
    (case a17 => k_is)
    (case l17 => k_is)
    (case c17 => k_is)
    (case k17 => k_is)
    (case i17 => k_is)
    (case a18 => k_is)
    (case l18 => k_is)
    (case c18 => k_is)
    (case k18 => k_is)
    (case a19 => k_is)
    (case l19 => k_is)
    (case c19 => k_is)
    (case k19 => k_is)
    (case a20 => k_is)
    (case l20 => k_is)
    (case c20 => k_is)
    (case k20 => k_is)
    (case a21 => k_is)
    (case l21 => k_is)
    (case c21 => k_is)
    (case k21 => k_is)
    (case a22 => k_is)
    (case l22 => k_is)
    (case c22 => k_is)
    (case k22 => k_is)
    (case a23 => k_is)
    (case l23 => k_is)
    (case c23 => k_is)
    (case k23 => k_is)
    (case a24 => k_is)
    (case l24 => k_is)
    (case c24 => k_is)
    (case k24 => k_is)
    (case a25 => k_is)
    (case l25 => k_is)
    (case c25 => k_is)
    (case k25 => k_is)
    (case a26 => k_is)
    (case l26 => k_is)
    (case c26 => k_is)
    (case k26 => k_is)
    (case a27 => k_is)
    (case l27 => k_is)
    (case c27 => k_is)
    (case k27 => k_is)
    (case a28 => k_is)
    (case l28 => k_is)
    (case c28 => k_is)
    (case k28 => k_is)
    (case a29 => k_is)
    (case l29 => k_is)
    (case c29 => k_is)
    (case k29 => k_is)
    (case a30 => k_is)
    (case l30 => k_is)
    (case c30 => k_is)
    (case k30 => k_is)
    (case a31 => k_is)
    (case l31 => k_is)
    (case c31 => k_is)
    (case k31 => k_is)
    (case a32 => k_is)
    (case l32 => k_is)
    (case c32 => k_is)
    (case k32 => k_is)
    (case pg_Cloth => k_is)
    (case hd_Cloth => k_is)
    (case po_Cloth => k_is)
    (case sa_Cloth => k_is)
    (case mk_Cloth => k_is)
    (case kc_Cloth => k_is)
    (case in_Cloth => k_is)
    (case na_Cloth_wheel => k_is)
    (case na_Cloth_lengths => k_is)
    (case na_Cloth_arrays => k_is)
    (case na_Cloth_tables => k_is)
    (case na_Cloth_lines => k_is)
    (case na_Cloth_outs => k_is)
    (case t1_Cloth => k_is)
    (case t2_Cloth => k_is)
    (case t3_Cloth => k_is)
    (case t4_Cloth => k_is)
    (case pg_Guard => k_is)
    (case hd_Guard => k_is)
    (case po_Guard => k_is)
    (case sa_Guard => k_is)
    (case mk_Guard => k_is)
    (case kc_Guard => k_is)
    (case in_Guard => k_is)
    (case na_Guard_axis => k_is)
    (case na_Guard_low => k_is)
    (case na_Guard_high => k_is)
    (case na_Guard_inner => k_is)
    (case na_Guard_outer => k_is)
    (case me_Guard_lets_in => k_is)
    (case me_Guard_looked_at => k_is)
    (case me_Guard_reads => k_is)
    (case t1_Guard => k_is)
    (case t2_Guard => k_is)
    (case t3_Guard => k_is)
    (case t4_Guard => k_is)
    (case pg_Line => k_is)
    (case hd_Line => k_is)
    (case po_Line => k_is)
    (case sa_Line => k_is)
    (case mk_Line => k_is)
    (case kc_Line => k_is)
    (case in_Line => k_is)
    (case na_Line_name => k_is)
    (case na_Line_axes => k_is)
    (case na_Line_sums => k_is)
    (case na_Line_term => k_is)
    (case t1_Line => k_is)
    (case t2_Line => k_is)
    (case t3_Line => k_is)
    (case t4_Line => k_is)
    (case mb_Line_list => k_is)
    (case mb_Line_tuple => k_is)
    (case mb_Line_dict => k_is)
    (case pg_Minus => k_is)
    (case hd_Minus => k_is)
    (case po_Minus => k_is)
    (case sa_Minus => k_is)
    (case mk_Minus => k_is)
    (case kc_Minus => k_is)
    (case in_Minus => k_is)
    (case na_Minus_left => k_is)
    (case na_Minus_right => k_is)
    (case me_Minus_reads => k_is)
    (case t1_Minus => k_is)
    (case t2_Minus => k_is)
    (case t3_Minus => k_is)
    (case t4_Minus => k_is)
    (case pg_Number => k_is)
    (case hd_Number => k_is)
    (case po_Number => k_is)
    (case sa_Number => k_is)
    (case mk_Number => k_is)
    (case kc_Number => k_is)
    (case in_Number => k_is)
    (case na_Number_number => k_is)
    (case me_Number_reads => k_is)
    (case t1_Number => k_is)
    (case t2_Number => k_is)
    (case t3_Number => k_is)
    (case t4_Number => k_is)
    (case pg_Plus => k_is)
    (case hd_Plus => k_is)
    (case po_Plus => k_is)
    (case sa_Plus => k_is)
    (case mk_Plus => k_is)
    (case kc_Plus => k_is)
    (case in_Plus => k_is)
    (case na_Plus_left => k_is)
    (case na_Plus_right => k_is)
    (case me_Plus_reads => k_is)
    (case t1_Plus => k_is)
    (case t2_Plus => k_is)
    (case t3_Plus => k_is)
    (case t4_Plus => k_is)
    (case pg_Read => k_is)
    (case hd_Read => k_is)
    (case po_Read => k_is)
    (case sa_Read => k_is)
    (case mk_Read => k_is)
    (case kc_Read => k_is)
    (case in_Read => k_is)
    (case na_Read_array => k_is)
    (case na_Read_indexes => k_is)
    (case me_Read_cell_at => k_is)
    (case me_Read_reads => k_is)
    (case t1_Read => k_is)
    (case t2_Read => k_is)
    (case t3_Read => k_is)
    (case t4_Read => k_is)
    (case pg_Times => k_is)
    (case hd_Times => k_is)
    (case po_Times => k_is)
    (case sa_Times => k_is)
    (case mk_Times => k_is)
    (case kc_Times => k_is)
    (case in_Times => k_is)
    (case na_Times_left => k_is)
    (case na_Times_right => k_is)
    (case me_Times_reads => k_is)
    (case t1_Times => k_is)
    (case t2_Times => k_is)
    (case t3_Times => k_is)
    (case t4_Times => k_is)
    (case z_isinstance => k_is)
    (case z_list => k_is)
    (case z_tuple => k_is)
    (case z_dict => k_is)
    (case z_zip => k_is)
    (case z_len => k_is)
    (case z_bool => k_is)
    (case z_int => k_is)
    (case z_range => k_is)
    (case z_reversed => k_is)
    (case z_str => k_is)
    (case z_min => k_is)
